import Derived.Test.YtojeeoclojldpaaGreatDoorCards
import Derived.Test.YtojeeoclojldpaaGreatDoorTie
import Derived.Test.YtojeeoclojldpaaGreatDoorC38
open _root_ renaming Option.some→H,Array.size→z,Go.World.heap→G,Bool.false→bF,Bool.true→bW,Nat→M,Go.Proofs.Tryz.prog→bG
namespace Go.Proofs.YtojeeoclojldpaaGreatDoor
open ChangeShapes WideShapes RowKit Proofs.Tryz
set_option maxHeartbeats 16000000
set_option linter.all false
set_option maxRecDepth 100000
section
open Go.ChangeAt Go.WideMaps Go.WideElems
theorem Xr(A:Os)(e:A.Started)(i:Type)(c:TypeId×aa->i):ReturnsInHanded {} checked A 3 .any (λS a=>(Rows.contentsSpec.pre c bG f3 [] bF S a/\laidMetH bG Ao S)/\sizedMet c bG f3 (OpenSpec.ofChange Rows.contentsSpec) bF S a) (Rows.contentsSpec.post c bG f3 bF bW bF bF):=by
 refine returnsInHanded_of_change_and (C:=checked) (X:=λS _=>laidMetH bG Ao S) (λ_ _ _ hh ad=>ad.of_heap hh) own e (by kernel_rfl) func3 (SK A i c) ?_;intro W f a ds gs m h O _ w hL _;have b:∀(j:M)t v,f3.params[j]?=H t->a[j]?=H v->Value.okWide bG W .any f t v:=h;have j:=O;obtain⟨au,q,hA0,hV,rfl,al,an⟩:=O;have F:DataW.TrodAll c bG W 0 (λ_=>bW) bW f3.params.toList a.toList ds au:=hA0;rw[IE]at F b;obtain⟨v0,v1,v2,o,d1,d2,Q,p1,p2,rfl,rfl,rfl,E,h1,h2⟩:=trodAll_three F;obtain⟨rfl,rfl⟩:=trodVars_none hV;obtain⟨d,rfl,rfl,rfl,s⟩:=open_int MM (b 1 3 v1 rfl rfl) h1;obtain⟨T,rfl,rfl,rfl,u⟩:=open_int MM (b 2 3 v2 rfl rfl) h2;obtain⟨N,L,K⟩:=VP hL;obtain⟨B,P,n,rfl⟩:=okWide_slice WV (b 0 22 v0 rfl rfl);have r:∀V∈Q,V.block<z (G W):=λV a=>j.lt V (by simp[a]);have hB:∀ao∈o.weights bG 22,ao<=140737488351232:=by intro ao hn;have l:(DataW.weightsEach bG (f3.params.toList++Rows.contentsSpec.plain.varTypes bG) ([o,.lit (.int .i64 d),.lit (.int .i64 T)]++[])).all (·<=reachBytes)=bW:=w;rw[IE]at l;have:=nI.1 l ao (ik _ hn);exact pF this
 have fin:∀g,Y aB W g->Rows.contentsSpec.post c bG f3 bF bW bF bF W #[.slice B P n,.int .i64 d,.int .i64 T] (.bool bW) g:=λg k=>by have l:Below (z (G W)) W g:=k.below (ah _) (λb a=>a.elim);refine⟨[o,.lit (.int .i64 d),.lit (.int .i64 T)],[],_,[],Q++([]++[]),[],j,?_,?_,?_,l.frame _,λad=>by cases ad⟩;exact trodAll_mk1 (shut_bool WJ bW);exact trodAll_mk3 (Below.trod Lv XS (by rw[SP];decide) E l r) (shut_int MM s) (shut_int MM u);rfl
 obtain⟨D,hf⟩:=E;rcases KS (v:=.slice B P n) hf hB with⟨V,av,ac⟩|⟨x,hs⟩;cases ac;exact(FV B n d T N L K).mono λac g⟨p,k⟩=>⟨_,p,fin g k⟩;exact(Jp x d T hs N L K).mono λac g⟨p,k⟩=>⟨_,p,fin g k⟩
end
section
open Go
theorem jA:(Rows.contentsRow.inPlace==prog.inPlace 3)=bW:=by kernel_rfl
theorem jB:(Rows.contentsRow.unfollowed==prog.unfollowed 3)=bW:=by kernel_rfl
theorem jC:(Rows.contentsRow.recurses==prog.recurses 3)=bW:=by kernel_rfl
theorem jD:(Rows.contentsRow.named==prog.varsNamed 3)=bW:=by kernel_rfl
theorem jE:mapsRowed bG=bW:=by kernel_rfl
theorem jG:joinedFacts bG 3 f3 Rows.contentsSpec Rows.contentsRow=bW:=by
 unfold joinedFacts;rw[jA,jB,jC,jD,jE,Lv];kernel_rfl
theorem jH:f3.isInstance bG Rows.contentsRow.origin Rows.contentsRow.targs:=pF (by kernel_rfl)
theorem jI:f3.isWrapper bG Rows.contentsRow.wrapper Rows.contentsRow.mainSum:=by unfold Func.isWrapper;first|(rw[dw (by decide+kernel)];kernel_rfl)|(rw[cW (by decide+kernel)];exact⟨rfl,rfl⟩)
theorem jK:prog.funcNamed "levels/levelslaw.Contents" =H 3:=by kernel_rfl
theorem Jo:Rows.ContentsSaid:=OpenClaim.holds_of_wide 3 f3 rfl rfl rfl rfl rfl rfl rfl ⟨rfl,rfl,rfl,rfl,rfl⟩ rfl rfl rfl rfl rfl jK func3 jG jH jI (λd a b c _=>Xr d a b c)
theorem contents_holds:Rows.ContentsCardSaid:=Claim7.holds_tied_plain_at .later [] [.data,.data,.data,.data,.handle,.sentinel,.sentinel] bW (bW,"e4d0ff98a62660fc69f5f35c14f997851a6e7529bd661dd19df0fcbcf59ff90e") bW Jo (λ_ h=>by cases h) (by kernel_rfl) (λ_ h=>by cases h) contents_row_tie rfl ⟨rfl,rfl⟩ (by kernel_rfl) rfl (λg d e b=>by
 obtain rfl:g=3:=dD (jK.symm.trans e)|>.symm;obtain rfl:d=f3:=(dD (func3.symm.trans b)).symm;exact⟨by kernel_rfl,λj t c=>by
  rw[IE]at c;have f:t∈[22,3,3]:=by simpa using mT c
  have a:([22,3,3].all λu=>!prog.wantsStandIn u)=bW:=by kernel_rfl
  exact(show prog.wantsStandIn t=bF by simpa using nI.1 a t f)⟩)
 (by kernel_rfl)
#print axioms contents_holds
end
