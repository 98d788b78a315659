import Derived.Test.YtnfehfmncheoiaaGreatDoorCards
import Derived.Test.YtnfehfmncheoiaaGreatDoorTie
import Derived.Test.YtnfehfmncheoiaaGreatDoorC25
open _root_ renaming Option.some→H,Array.size→z,Go.World.heap→G,Bool.false→bE,Bool.true→bU,Nat→M,Int→X,Go.Proofs.Tryz.prog→bF
namespace Go.Proofs.YtnfehfmncheoiaaGreatDoor
open ChangeShapes WideShapes RowKit Proofs.Tryz
set_option maxHeartbeats 16000000
set_option linter.all false
set_option maxRecDepth 100000
section
open Go.ChangeAt Go.WideMaps Go.WideElems
theorem XA(A:Os)(e:A.Started)(i:Type)(c:TypeId×aa->i):ReturnsInHanded {} checked A 3 .any (λS a=>(Rows.snapsSpec.pre c bF f3 [] bE S a/\laidMetH bF Aq S)/\sizedMet c bF f3 (OpenSpec.ofChange Rows.snapsSpec) bE S a) (Rows.snapsSpec.post c bF f3 bE bU bE bE):=by
 refine returnsInHanded_of_change_and (C:=checked) (X:=λS _=>laidMetH bF Aq S) (λ_ _ _ hh ad=>ad.of_heap hh) own e (by kernel_rfl) func3 (SX A i c) ?_;intro W f a ds gs m h O _ w hL _;have b:∀(j:M)t v,f3.params[j]?=H t->a[j]?=H v->Value.okWide bF W .any f t v:=h;have j:=O;obtain⟨au,q,hA0,hV,rfl,al,an⟩:=O;have F:DataW.TrodAll c bF W 0 (λ_=>bU) bU f3.params.toList a.toList ds au:=hA0;rw[IE]at F b;obtain⟨v0,v1,v2,o,d1,d2,Q,p1,p2,rfl,rfl,rfl,E,h1,h2⟩:=trodAll_three F;obtain⟨rfl,rfl⟩:=trodVars_none hV;obtain⟨d,rfl,rfl,rfl,s⟩:=open_int MM (b 1 3 v1 rfl rfl) h1;obtain⟨T,rfl,rfl,rfl,u⟩:=open_int MM (b 2 3 v2 rfl rfl) h2;obtain⟨N,L,K⟩:=Wd hL;obtain⟨B,P,n,rfl⟩:=okWide_slice Xg (b 0 22 v0 rfl rfl);have r:∀V∈Q,V.block<z (G W):=λV a=>j.lt V (by simp[a]);have hB:∀ao∈o.weights bF 22,ao<=140737488351232:=by intro ao hn;have l:(DataW.weightsEach bF (f3.params.toList++Rows.snapsSpec.plain.varTypes bF) ([o,.lit (.int .i64 d),.lit (.int .i64 T)]++[])).all (·<=reachBytes)=bU:=w;rw[IE]at l;have:=nL.1 l ao (im _ hn);exact pF this
 have fin:∀g,Z az W g->Rows.snapsSpec.post c bF f3 bE bU bE bE W #[.slice B P n,.int .i64 d,.int .i64 T] (.bool bU) g:=λg k=>by have l:Below (z (G W)) W g:=k.below (ah _) (λb a=>a.elim);refine⟨[o,.lit (.int .i64 d),.lit (.int .i64 T)],[],_,[],Q++([]++[]),[],j,?_,?_,?_,l.frame _,λad=>by cases ad⟩;exact trodAll_mk1 (shut_bool WX bU);exact trodAll_mk3 (Below.trod Lw XZ (by rw[Tb];decide) E l r) (shut_int MM s) (shut_int MM u);rfl
 obtain⟨D,hf⟩:=E;rcases KS (v:=.slice B P n) hf hB with⟨V,av,ac⟩|⟨x,hs⟩;cases ac;exact(MY B n d T N L K).mono λac g⟨p,k⟩=>⟨_,p,fin g k⟩;exact(Qu x d T hs N L K).mono λac g⟨p,k⟩=>⟨_,p,fin g k⟩
end
section
open Go
theorem jA:(Rows.snapsRow.inPlace==prog.inPlace 3)=bU:=by kernel_rfl
theorem jB:(Rows.snapsRow.unfollowed==prog.unfollowed 3)=bU:=by kernel_rfl
theorem jC:(Rows.snapsRow.recurses==prog.recurses 3)=bU:=by kernel_rfl
theorem jD:(Rows.snapsRow.named==prog.varsNamed 3)=bU:=by kernel_rfl
theorem jE:mapsRowed bF=bU:=by kernel_rfl
theorem jG:joinedFacts bF 3 f3 Rows.snapsSpec Rows.snapsRow=bU:=by
 unfold joinedFacts;rw[jA,jB,jC,jD,jE,Lw];kernel_rfl
theorem jH:f3.isInstance bF Rows.snapsRow.origin Rows.snapsRow.targs:=pF (by kernel_rfl)
theorem jI:f3.isWrapper bF Rows.snapsRow.wrapper Rows.snapsRow.mainSum:=by unfold Func.isWrapper;first|(rw[dw (by decide+kernel)];kernel_rfl)|(rw[cY (by decide+kernel)];exact⟨rfl,rfl⟩)
theorem jK:prog.funcNamed "levels/levelslaw.Snaps" =H 3:=by kernel_rfl
theorem Qt:Rows.SnapsSaid:=OpenClaim.holds_of_wide 3 f3 rfl rfl rfl rfl rfl rfl rfl ⟨rfl,rfl,rfl,rfl,rfl⟩ rfl rfl rfl rfl rfl jK func3 jG jH jI (λd a b c _=>XA d a b c)
theorem snaps_holds:Rows.SnapsCardSaid:=Claim7.holds_tied_plain_at .later [] [.data,.data,.data,.data,.handle,.sentinel,.sentinel] bU (bU,"b99810825286cd7fc2b1587cbb51a12cd82009068727410cc448089f6f6c338e") bU Qt (λ_ h=>by cases h) (by kernel_rfl) (λ_ h=>by cases h) snaps_row_tie rfl ⟨rfl,rfl⟩ (by kernel_rfl) rfl (λg d e b=>by
 obtain rfl:g=3:=dC (jK.symm.trans e)|>.symm;obtain rfl:d=f3:=(dC (func3.symm.trans b)).symm;exact⟨by kernel_rfl,λj t c=>by
  rw[IE]at c;have f:t∈[22,3,3]:=by simpa using mW c
  have a:([22,3,3].all λu=>!prog.wantsStandIn u)=bU:=by kernel_rfl
  exact(show prog.wantsStandIn t=bE by simpa using nL.1 a t f)⟩)
 (by kernel_rfl)
#print axioms snaps_holds
end
