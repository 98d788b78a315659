import Derived.Test.YtmnlcbeggagabaaGreatDoorCards
import Derived.Test.YtmnlcbeggagabaaGreatDoorTie
import Derived.Test.YtmnlcbeggagabaaGreatDoorC37
open _root_ renaming Option.some→H,Array.size→z,Go.World.heap→G,Bool.false→bj,Bool.true→ci,Nat→M,Int→U,List→cS,Go.Proofs.Tryz.prog→aZ
namespace Go.Proofs.YtmnlcbeggagabaaGreatDoor
open ChangeShapes WideShapes RowKit Proofs.Tryz
set_option maxHeartbeats 16000000
set_option linter.all false
set_option maxRecDepth 100000
section
open ChangeAt WideMaps WideElems
section
variable{c:Type}{enc:TypeId×ab->c}{P:Program}{w:Z}{baseqq:M}{a:M->Bool}{b:Bool}
theorem GU{V x i A B:TypeId}{d:Array ab}{u:cS (DataW c)}{v:cS MemPlace}(W:DataW.TrodAll enc P w baseqq a b [V,x,i,A,B] d.toList u v):∃E p g r s C j e k l D m f n o,d=#[E,p,g,r,s]/\u=[C,j,e,k,l]/\v=D++(m++f++n++o)/\DataW.Trod enc P w baseqq a b V E C D/\DataW.Trod enc P w baseqq a b x p j m/\DataW.Trod enc P w baseqq a b i g e f/\DataW.Trod enc P w baseqq a b A r k n/\DataW.Trod enc P w baseqq a b B s l o:=by
 obtain⟨E,T,C,F,D,q,t,rfl,rfl,S,h⟩:=trodAll_cons W;obtain⟨p,g,r,s,j,e,k,l,m,f,n,o,K,rfl,rfl,L,N,O,Q⟩:=trodAll_four (args:=⟨T⟩) h;cases K;exact⟨E,p,g,r,s,C,j,e,k,l,D,m,f,n,o,by cases d;simp_all,rfl,rfl,S,L,N,O,Q⟩
end
theorem WZ(Q:Os)(h:Q.Started)(c:Type)(enc:TypeId×ab->c):ReturnsInHanded {} checked Q 3 .any (λw f=>(Rows.flipsSpec.pre enc aZ f3 [] bj w f/\laidMetH aZ Aa w)/\sizedMet enc aZ f3 (OpenSpec.ofChange Rows.flipsSpec) bj w f) (Rows.flipsSpec.post enc aZ f3 bj ci bj bj):=by
 refine returnsInHanded_of_change_and (C:=checked) (X:=λw _=>laidMetH aZ Aa w) (λ_ _ _ hh av=>av.of_heap hh) own h (by kernel_rfl) func3 (Sb Q c enc) ?_;intro W baseqq f ds gs r l hW _ L hL _;have d:∀(j:M)t v,f3.params[j]?=H t->f[j]?=H v->Value.okWide aZ W .any baseqq t v:=l;have n:=hW;obtain⟨aU,q,hA0,hV,rfl,ax,aD⟩:=hW;have hA:DataW.TrodAll enc aZ W 0 (λ_=>ci) ci f3.params.toList f.toList ds aU:=hA0;rw[Hn]at hA d;obtain⟨v0,v1,v2,v3,v4,B,d1,d2,d3,d4,S,p1,p2,p3,p4,rfl,rfl,rfl,h0,h1,h2,h3,h4⟩:=GU hA;obtain⟨rfl,rfl⟩:=trodVars_none hV;obtain⟨g,rfl,rfl,rfl,F⟩:=open_int Mj (d 1 3 v1 rfl rfl) h1;obtain⟨ac,rfl,rfl,rfl,K⟩:=open_int Mj (d 2 3 v2 rfl rfl) h2;obtain⟨aa,rfl,rfl,rfl,E⟩:=open_int Mj (d 3 3 v3 rfl rfl) h3;obtain⟨al,rfl,rfl,rfl,p⟩:=open_int Wb (d 4 23 v4 rfl rfl) h4;obtain⟨e,rfl,N⟩:∃e:M,al=(e:U)/\e<18446744073709551616:=by(have h2:0<=al/\al<18446744073709551616:=by simp[Lit.wf,IntKind.min,IntKind.max,IntKind.signed,IntKind.bits]at p;omega);exact⟨al.toNat,by omega,by omega⟩
 obtain⟨x,u,s⟩:=Vn hL;obtain⟨V,l0,A,rfl⟩:=okWide_slice Wz (d 0 22 v0 rfl rfl);have D:∀ao∈S,ao.block<z (G W):=λao d=>n.lt ao (by simp[d]);have hB:∀au∈B.weights aZ 22,au<=140737488351232:=by intro au T;have m:(DataW.weightsEach aZ (f3.params.toList++Rows.flipsSpec.plain.varTypes aZ) ([B,.lit (.int .i64 g),.lit (.int .i64 ac),.lit (.int .i64 aa),.lit (.int .u64 e)]++[])).all (·<=reachBytes)=ci:=L;rw[Hn]at m;have:=qm.1 m au (jR _ T);exact tr this
 have fin:∀i,I az W i->Rows.flipsSpec.post enc aZ f3 bj ci bj bj W #[.slice V l0 A,.int .i64 g,.int .i64 ac,.int .i64 aa,.int .u64 e] (.bool ci) i:=λi k=>by have m:Below (z (G W)) W i:=k.below (ai _) (λe d=>d.elim);refine⟨[B,.lit (.int .i64 g),.lit (.int .i64 ac),.lit (.int .i64 aa),.lit (.int .u64 e)],[],_,[],S++([]++([]++([]++[]))),[],n,?_,?_,?_,m.frame _,λav=>by cases av⟩;exact trodAll_mk1 (shut_bool Wc ci);exact⟨S,_,Below.trod KG XM (by rw[Sf];decide) h0 m D,trodAll_mk4 (shut_int Mj F) (shut_int Mj K) (shut_int Mj E) (shut_int Wb p),rfl⟩;rfl
 obtain⟨ad,hf⟩:=h0;have j:=Qu x u s;rcases Kc (v:=.slice V l0 A) hf hB with⟨ao,aV,an⟩|⟨O,hs⟩;cases an;exact(El V [] A g ac aa e N (.inl rfl) x u s j).mono λan i⟨o,k⟩=>⟨_,o,fin i k⟩;rcases hs.row with⟨q1,⟨T,q0⟩|⟨aF,m,au,T,_⟩⟩;cases T;exact(El none [] 0 g ac aa e N (.inl rfl) x u s j).mono λan i⟨o,k⟩=>⟨_,o,fin i k⟩;cases T;exact(El _ O _ g ac aa e N (.inr ⟨aF,m,rfl,hs⟩) x u s j).mono λan i⟨o,k⟩=>⟨_,o,fin i k⟩
end
section
open Go
theorem jA:(Rows.flipsRow.inPlace==prog.inPlace 3)=ci:=by kernel_rfl
theorem jB:(Rows.flipsRow.unfollowed==prog.unfollowed 3)=ci:=by kernel_rfl
theorem jC:(Rows.flipsRow.recurses==prog.recurses 3)=ci:=by kernel_rfl
theorem jD:(Rows.flipsRow.named==prog.varsNamed 3)=ci:=by kernel_rfl
theorem jE:mapsRowed aZ=ci:=by kernel_rfl
theorem jG:joinedFacts aZ 3 f3 Rows.flipsSpec Rows.flipsRow=ci:=by
 unfold joinedFacts;rw[jA,jB,jC,jD,jE,KG];kernel_rfl
theorem jH:f3.isInstance aZ Rows.flipsRow.origin Rows.flipsRow.targs:=tr (by kernel_rfl)
theorem jI:f3.isWrapper aZ Rows.flipsRow.wrapper Rows.flipsRow.mainSum:=by unfold Func.isWrapper;first|(rw[dV (by decide+kernel)];kernel_rfl)|(rw[eI (by decide+kernel)];exact⟨rfl,rfl⟩)
theorem jK:prog.funcNamed "levels/levelslaw.Flips" =H 3:=by kernel_rfl
theorem QW:Rows.FlipsSaid:=OpenClaim.holds_of_wide 3 f3 rfl rfl rfl rfl rfl rfl rfl ⟨rfl,rfl,rfl,rfl,rfl⟩ rfl rfl rfl rfl rfl jK func3 jG jH jI (λd a b c _=>WZ d a b c)
theorem flips_holds:Rows.FlipsCardSaid:=Claim7.holds_tied_plain_at .later [] [.data,.data,.data,.data,.handle,.sentinel,.sentinel] ci (ci,"ee07f88474c8bae0b1154489f94c22b2a13cca5aaccc902024522e0d8cd34b12") ci QW (λ_ h=>by cases h) (by kernel_rfl) (λ_ h=>by cases h) flips_row_tie rfl ⟨rfl,rfl⟩ (by kernel_rfl) rfl (λf c d a=>by
 obtain rfl:f=3:=gT (jK.symm.trans d)|>.symm;obtain rfl:c=f3:=(gT (func3.symm.trans a)).symm;exact⟨by kernel_rfl,λj t e=>by
  rw[Hn]at e;have g:t∈[22,3,3,3,23]:=by grind
  have b:([22,3,3,3,23].all λu=>!prog.wantsStandIn u)=ci:=by kernel_rfl
  exact(show prog.wantsStandIn t=bj by grind)⟩)
 (by kernel_rfl)
#print axioms flips_holds
end
