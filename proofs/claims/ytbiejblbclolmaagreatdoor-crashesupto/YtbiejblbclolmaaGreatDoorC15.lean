import Derived.Test.YtbiejblbclolmaaGreatDoorCards
import Derived.Test.YtbiejblbclolmaaGreatDoorTie
import Derived.Test.YtbiejblbclolmaaGreatDoorC14
open _root_ renaming List.length→y,Option.some→H,Array.size→z,Go.World.heap→G,Bool.false→bw,Bool.true→cf,Nat→M,Int→U,List→ci,Go.Proofs.Tryz.prog→bA
namespace Go.Proofs.YtbiejblbclolmaaGreatDoor
open ChangeShapes WideShapes RowKit Proofs.Tryz
set_option maxHeartbeats 16000000
set_option linter.all false
set_option maxRecDepth 100000
section
open ChangeAt WideMaps WideElems
section
variable{Hqq:Type}{enc:TypeId×ab->Hqq}{P:Program}{w:Y}{baseqq:M}{a:M->Bool}{b:Bool}
theorem JP{T v h x A:TypeId}{c:Array ab}{t:ci (DataW Hqq)}{u:ci MemPlace}(V:DataW.TrodAll enc P w baseqq a b [T,v,h,x,A] c.toList t u):∃D o f p r B i d j k C l e m n,c=#[D,o,f,p,r]/\t=[B,i,d,j,k]/\u=C++(l++e++m++n)/\DataW.Trod enc P w baseqq a b T D B C/\DataW.Trod enc P w baseqq a b v o i l/\DataW.Trod enc P w baseqq a b h f d e/\DataW.Trod enc P w baseqq a b x p j m/\DataW.Trod enc P w baseqq a b A r k n:=by
 obtain⟨D,S,B,E,C,q,s,rfl,rfl,Q,g⟩:=trodAll_cons V;obtain⟨o,f,p,r,i,d,j,k,l,e,m,n,F,rfl,rfl,K,L,N,O⟩:=trodAll_four (args:=⟨S⟩) g;cases F;exact⟨D,o,f,p,r,B,i,d,j,k,C,l,e,m,n,by cases c;simp_all,rfl,rfl,Q,K,L,N,O⟩
end
theorem E5(T:Os)(f:T.Started)(Hqq:Type)(enc:TypeId×ab->Hqq)(F:Stop.Interp):ReturnsInHanded {} checked T 3 .any ((Rows.OpenSpec.upto Rows.crashesSpec).preRow enc bA f3 Rows.crashesUptoRow.domain bw Rows.crashesUptoRow.laid) (((Rows.OpenSpec.upto Rows.crashesSpec).at F).post enc bA f3 bw cf bw bw):=by
 refine returnsInHanded_of_row (C:=checked) (s:=Rows.OpenSpec.upto Rows.crashesSpec) own f (by kernel_rfl) func3 (Vw T Hqq enc) ?_;intro W baseqq h ds gs r l hW _ j Q hL _ _;have c:∀(j:M)t v,f3.params[j]?=H t->h[j]?=H v->Value.okWide bA W .any baseqq t v:=l;have n:=hW;obtain⟨aV,q,hA0,hV,rfl,ax,aF⟩:=hW;have hA:DataW.TrodAll enc bA W 0 (λ_=>cf) cf f3.params.toList h.toList ds aV:=hA0;rw[Ke]at hA c;obtain⟨v0,v1,v2,v3,v4,u,d1,d2,d3,d4,V,p1,p2,p3,p4,rfl,rfl,rfl,h0,h1,h2,h3,h4⟩:=JP hA;obtain⟨rfl,rfl⟩:=trodVars_none hV;obtain⟨e,rfl,rfl,rfl,N⟩:=open_int JO (c 1 3 v1 rfl rfl) h1;obtain⟨aa,rfl,rfl,rfl,O⟩:=open_int JO (c 2 3 v2 rfl rfl) h2;obtain⟨F,rfl,rfl,rfl,L⟩:=open_int JO (c 3 3 v3 rfl rfl) h3;obtain⟨al,rfl,rfl,rfl,p⟩:=open_int Rs (c 4 23 v4 rfl rfl) h4;obtain⟨d,rfl,S⟩:∃d:M,al=(d:U)/\d<18446744073709551616:=by(have h2:0<=al/\al<18446744073709551616:=by simp[Lit.wf,IntKind.min,IntKind.max,IntKind.signed,IntKind.bits]at p;omega);exact⟨al.toNat,by omega,by omega⟩
 obtain⟨D,B,A⟩:=Za hL;obtain⟨x0,l0,x,rfl⟩:=okWide_slice A1 (c 0 22 v0 rfl rfl);have K:∀ao∈V,ao.block<z (G W):=λao c=>n.lt ao (by simp[c]);have i:Rows.uptoBulk u<=1048576:=by have au:=uI (j _ rfl);simp only[dz,Rows.uptoBulkAll]at au;omega
 have hB:∀ad∈u.weights bA 22,ad<=140737488351232:=by intro ad hn;have m:(DataW.weightsEach bA (f3.params.toList++Rows.crashesSpec.plain.varTypes bA) ([u,.lit (.int .i64 e),.lit (.int .i64 aa),.lit (.int .i64 F),.lit (.int .u64 d)]++[])).all (·<=reachBytes)=cf:=Q;rw[Ke]at m;have:=vW.1 m ad (ib _ hn);exact uI this
 have fin:∀g,Z aw W g->Rows.crashesSpec.post enc bA f3 bw cf bw bw W #[.slice x0 l0 x,.int .i64 e,.int .i64 aa,.int .i64 F,.int .u64 d] (.bool cf) g:=λg k=>by have m:Below (z (G W)) W g:=k.below (ag _) (λd c=>c.elim);refine⟨[u,.lit (.int .i64 e),.lit (.int .i64 aa),.lit (.int .i64 F),.lit (.int .u64 d)],[],_,[],V++([]++([]++([]++[]))),[],n,?_,?_,?_,m.frame _,λau=>by cases au⟩;exact trodAll_mk1 (shut_bool VA cf);exact⟨V,_,Below.trod Nz L8 (by rw[VB];decide) h0 m K,trodAll_mk4 (shut_int JO N) (shut_int JO O) (shut_int JO L) (shut_int Rs p),rfl⟩;rfl
 obtain⟨ac,hf⟩:=h0;rcases MR (v:=.slice x0 l0 x) hf hB with⟨ao,ba,an⟩|⟨rs,hs,E⟩;cases an;exact(AH x0 [] x e aa F d S (.inl rfl) (by simp[sW]) (by simp[xX]) D B A).mono λan g⟨o,k⟩=>⟨_,o,fin g k⟩;have av:=GM rs;have ad:(rs.map (λr=>(r.os.map (λc=>4*y c.cs+1)).sum+1)).sum<=1048576:=aB E i;rcases hs.row with⟨q1,⟨q2,q0⟩|⟨aU,m,ap,q2,_⟩⟩;cases q2;exact(AH none [] 0 e aa F d S (.inl rfl) (by simp[sW]) (by simp[xX]) D B A).mono λan g⟨o,k⟩=>⟨_,o,fin g k⟩;cases q2;exact(AH _ rs _ e aa F d S (.inr ⟨aU,m,rfl,hs⟩) (by omega) (by omega) D B A).mono λan g⟨o,k⟩=>⟨_,o,fin g k⟩
end
section
open Go
theorem jA:(Rows.crashesUptoRow.inPlace==prog.inPlace 3)=cf:=by kernel_rfl
theorem jB:(Rows.crashesUptoRow.unfollowed==prog.unfollowed 3)=cf:=by kernel_rfl
theorem jC:(Rows.crashesUptoRow.recurses==prog.recurses 3)=cf:=by kernel_rfl
theorem jD:(Rows.crashesUptoRow.named==prog.varsNamed 3)=cf:=by kernel_rfl
theorem jE:mapsRowed bA=cf:=by kernel_rfl
theorem jG:joinedFacts bA 3 f3 Rows.crashesSpec Rows.crashesUptoRow=cf:=by
 unfold joinedFacts;rw[jA,jB,jC,jD,jE,Nz];kernel_rfl
theorem jH:f3.isInstance bA Rows.crashesUptoRow.origin Rows.crashesUptoRow.targs:=uI (by kernel_rfl)
theorem jI:f3.isWrapper bA Rows.crashesUptoRow.wrapper Rows.crashesUptoRow.mainSum:=by unfold Func.isWrapper;first|(rw[di (by decide+kernel)];kernel_rfl)|(rw[dt (by decide+kernel)];exact⟨rfl,rfl⟩)
theorem jK:prog.funcNamed "levels/levelslaw.Crashes" =H 3:=by kernel_rfl
theorem Om:Rows.CrashesUptoSaid:=OpenClaim.holds_of_cond 3 f3 rfl rfl rfl rfl rfl rfl rfl ⟨rfl,rfl,rfl,rfl,rfl⟩ rfl rfl rfl rfl rfl jK func3 jG jH jI (λd a b c _ F=>by rw[OpenClaim.pre_eq_preRow];exact E5 d a b c F)
theorem crashes_holds:Rows.CrashesUptoCardSaid:=Claim7.holds_tied_plain_at .later [] [.data,.data,.data,.data,.handle,.sentinel,.sentinel] cf (cf,"4730f9bd90cc56965c159b03e6e293092c344888d12b394b118709e846df0ec1") cf Om (λ_ h=>by cases h) (by kernel_rfl) (λ_ h=>by cases h) crashesUpto_row_tie rfl ⟨rfl,rfl⟩ (by kernel_rfl) rfl (λf c d a=>by
 obtain rfl:f=3:=gP (jK.symm.trans d)|>.symm;obtain rfl:c=f3:=(gP (func3.symm.trans a)).symm;exact⟨by kernel_rfl,λj t e=>by
  rw[Ke]at e;have g:t∈[22,3,3,3,23]:=by grind
  have b:([22,3,3,3,23].all λu=>!prog.wantsStandIn u)=cf:=by kernel_rfl
  exact(show prog.wantsStandIn t=bw by grind)⟩)
 (by kernel_rfl)
#print axioms crashes_holds
end
