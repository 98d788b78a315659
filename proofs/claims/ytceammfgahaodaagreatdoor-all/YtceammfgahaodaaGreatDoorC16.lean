import Derived.Test.YtceammfgahaodaaGreatDoorCards
import Derived.Test.YtceammfgahaodaaGreatDoorTie
import Derived.Test.YtceammfgahaodaaGreatDoorC15
open _root_ renaming Option.some→M,Array.size→G,Go.World.heap→H,Bool.false→bF,Bool.true→bX,Nat→R,Go.Proofs.Tryz.prog→bG
namespace Go.Proofs.YtceammfgahaodaaGreatDoor
open ChangeShapes WideShapes RowKit Proofs.Tryz
set_option maxHeartbeats 16000000
set_option linter.all false
set_option maxRecDepth 100000
section
open Go.ChangeAt Go.WideMaps Go.WideElems
theorem XZ(y:Os)(e:y.Started)(i:Type)(c:TypeId×aa->i):ReturnsInHanded {} checked y 3 .any (λQ a=>(Rows.allSpec.pre c bG f3 [] bF Q a/\laidMetH bG AE Q)/\sizedMet c bG f3 (OpenSpec.ofChange Rows.allSpec) bF Q a) (Rows.allSpec.post c bG f3 bF bX bF bF):=by
 refine returnsInHanded_of_change_and (C:=checked) (X:=λQ _=>laidMetH bG AE Q) (λ_ _ _ hh ad=>ad.of_heap hh) own e (by kernel_rfl) func3 (Tp y i c) ?_;intro W f a V gs m h N _ w hL _;have b:∀(j:R)t v,f3.params[j]?=M t->a[j]?=M v->Value.okWide bG W .any f t v:=h;have j:=N;obtain⟨au,q,hA0,hV,rfl,al,an⟩:=N;have E:DataW.TrodAll c bG W 0 (λ_=>bX) bX f3.params.toList a.toList V au:=hA0;rw[IY]at E b;obtain⟨v0,v1,v2,o,d1,d2,P,p1,p2,rfl,rfl,rfl,D,h1,h2⟩:=trodAll_three E;obtain⟨rfl,rfl⟩:=trodVars_none hV;obtain⟨d,rfl,rfl,rfl,s⟩:=open_int No (b 1 3 v1 rfl rfl) h1;obtain⟨T,rfl,rfl,rfl,u⟩:=open_int No (b 2 3 v2 rfl rfl) h2;obtain⟨L,K,F⟩:=WE hL;obtain⟨A,O,n,rfl⟩:=okWide_slice XE (b 0 22 v0 rfl rfl);have r:∀S∈P,S.block<G (H W):=λS a=>j.lt S (by simp[a]);have hB:∀ao∈o.weights bG 22,ao<=140737488351232:=by intro ao hn;have l:(DataW.weightsEach bG (f3.params.toList++Rows.allSpec.plain.varTypes bG) ([o,.lit (.int .i64 d),.lit (.int .i64 T)]++[])).all (·<=reachBytes)=bX:=w;rw[IY]at l;have:=og.1 l ao (iz _ hn);exact pW this
 have fin:∀g,J az W g->Rows.allSpec.post c bG f3 bF bX bF bF W #[.slice A O n,.int .i64 d,.int .i64 T] (.bool bX) g:=λg k=>by have l:Below (G (H W)) W g:=k.below (ai _) (λb a=>a.elim);refine⟨[o,.lit (.int .i64 d),.lit (.int .i64 T)],[],_,[],P++([]++[]),[],j,?_,?_,?_,l.frame _,λad=>by cases ad⟩;exact trodAll_mk1 (shut_bool Xu bX);exact trodAll_mk3 (Below.trod LY Yz (by rw[Tu];decide) D l r) (shut_int No s) (shut_int No u);rfl
 obtain⟨B,hf⟩:=D;rcases Lr (v:=.slice A O n) hf hB with⟨S,av,ac⟩|⟨x,hs⟩;cases ac;exact(VQ A n d T L K F).mono λac g⟨p,k⟩=>⟨_,p,fin g k⟩;exact(VT x d T hs L K F).mono λac g⟨p,k⟩=>⟨_,p,fin g k⟩
end
section
open Go
theorem jA:(Rows.allRow.inPlace==prog.inPlace 3)=bX:=by kernel_rfl
theorem jB:(Rows.allRow.unfollowed==prog.unfollowed 3)=bX:=by kernel_rfl
theorem jC:(Rows.allRow.recurses==prog.recurses 3)=bX:=by kernel_rfl
theorem jD:(Rows.allRow.named==prog.varsNamed 3)=bX:=by kernel_rfl
theorem jE:mapsRowed bG=bX:=by kernel_rfl
theorem jG:joinedFacts bG 3 f3 Rows.allSpec Rows.allRow=bX:=by
 unfold joinedFacts;rw[jA,jB,jC,jD,jE,LY];kernel_rfl
theorem jH:f3.isInstance bG Rows.allRow.origin Rows.allRow.targs:=pW (by kernel_rfl)
theorem jI:f3.isWrapper bG Rows.allRow.wrapper Rows.allRow.mainSum:=by unfold Func.isWrapper;first|(rw[dt (by decide+kernel)];kernel_rfl)|(rw[dh (by decide+kernel)];exact⟨rfl,rfl⟩)
theorem jK:prog.funcNamed "levels/levelslaw.All" =M 3:=by kernel_rfl
theorem Xm:Rows.AllSaid:=OpenClaim.holds_of_wide 3 f3 rfl rfl rfl rfl rfl rfl rfl ⟨rfl,rfl,rfl,rfl,rfl⟩ rfl rfl rfl rfl rfl jK func3 jG jH jI (λd a b c _=>XZ d a b c)
theorem all_holds:Rows.AllCardSaid:=Claim7.holds_tied_plain_at .later [] [.data,.data,.data,.data,.handle,.sentinel,.sentinel] bX (bX,"a8120ab37ab702cd56c39b3a6824a8eb0c57d0a28ab0ff75829b607d97722b1e") bX Xm (λ_ h=>by cases h) (by kernel_rfl) (λ_ h=>by cases h) all_row_tie rfl ⟨rfl,rfl⟩ (by kernel_rfl) rfl (λg d e b=>by
 obtain rfl:g=3:=dF (jK.symm.trans e)|>.symm;obtain rfl:d=f3:=(dF (func3.symm.trans b)).symm;exact⟨by kernel_rfl,λj t c=>by
  rw[IY]at c;have f:t∈[22,3,3]:=by simpa using ny c
  have a:([22,3,3].all λu=>!prog.wantsStandIn u)=bX:=by kernel_rfl
  exact(show prog.wantsStandIn t=bF by simpa using og.1 a t f)⟩)
 (by kernel_rfl)
#print axioms all_holds
end
