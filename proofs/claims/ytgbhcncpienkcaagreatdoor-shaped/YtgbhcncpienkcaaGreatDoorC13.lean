import Derived.Test.YtgbhcncpienkcaaGreatDoorCards
import Derived.Test.YtgbhcncpienkcaaGreatDoorTie
import Derived.Test.YtgbhcncpienkcaaGreatDoorC12
open _root_ renaming Option.some→H,Array.size→z,Go.World.heap→G,Bool.false→aY,Bool.true→bU,Nat→M,Go.Proofs.Tryz.prog→bz
namespace Go.Proofs.YtgbhcncpienkcaaGreatDoor
open ChangeShapes WideShapes RowKit Proofs.Tryz
set_option maxHeartbeats 16000000
set_option linter.all false
set_option maxRecDepth 100000
section
open ChangeAt WideMaps WideElems
theorem ZC(A:Os)(e:A.Started)(i:Type)(c:TypeId×aa->i):ReturnsInHanded {} checked A 3 .any (λS a=>(Rows.shapedSpec.pre c bz f3 [] aY S a/\laidMetH bz AO S)/\sizedMet c bz f3 (OpenSpec.ofChange Rows.shapedSpec) aY S a) (Rows.shapedSpec.post c bz f3 aY bU aY aY):=by
 refine returnsInHanded_of_change_and (C:=checked) (X:=λS _=>laidMetH bz AO S) (λ_ _ _ hh ad=>ad.of_heap hh) own e (by kernel_rfl) func3 (Uz A i c) ?_;intro W f a ds gs m h O _ w hL _;have b:∀(j:M)t v,f3.params[j]?=H t->a[j]?=H v->Value.okWide bz W .any f t v:=h;have j:=O;obtain⟨aq,q,hA0,hV,rfl,al,an⟩:=O;have F:DataW.TrodAll c bz W 0 (λ_=>bU) bU f3.params.toList a.toList ds aq:=hA0;rw[JB]at F b;obtain⟨v0,v1,v2,o,d1,d2,Q,p1,p2,rfl,rfl,rfl,E,h1,h2⟩:=trodAll_three F;obtain⟨rfl,rfl⟩:=trodVars_none hV;obtain⟨d,rfl,rfl,rfl,s⟩:=open_int Oh (b 1 3 v1 rfl rfl) h1;obtain⟨T,rfl,rfl,rfl,u⟩:=open_int Oh (b 2 3 v2 rfl rfl) h2;obtain⟨N,L,K⟩:=Yd hL;obtain⟨B,P,n,rfl⟩:=okWide_slice Zg (b 0 22 v0 rfl rfl);have r:∀V∈Q,V.block<z (G W):=λV a=>j.lt V (by simp[a]);have hB:∀ao∈o.weights bz 22,ao<=140737488351232:=by intro ao hn;have l:(DataW.weightsEach bz (f3.params.toList++Rows.shapedSpec.plain.varTypes bz) ([o,.lit (.int .i64 d),.lit (.int .i64 T)]++[])).all (·<=reachBytes)=bU:=w;rw[JB]at l;have:=qX.1 l ao (iZ _ hn);exact tS this
 have fin:∀g,I az W g->Rows.shapedSpec.post c bz f3 aY bU aY aY W #[.slice B P n,.int .i64 d,.int .i64 T] (.bool bU) g:=λg k=>by have l:Below (z (G W)) W g:=k.below (ai _) (λb a=>a.elim);refine⟨[o,.lit (.int .i64 d),.lit (.int .i64 T)],[],_,[],Q++([]++[]),[],j,?_,?_,?_,l.frame _,λad=>by cases ad⟩;exact trodAll_mk1 (shut_bool YT bU);exact trodAll_mk3 (Below.trod MM n9 (by rw[UE];decide) E l r) (shut_int Oh s) (shut_int Oh u);rfl
 obtain⟨D,hf⟩:=E;rcases Mh (v:=.slice B P n) hf hB with⟨V,au,ac⟩|⟨x,hs⟩;cases ac;exact(Hn B n d T N L K).mono λac g⟨p,k⟩=>⟨_,p,fin g k⟩;exact(UU x d T hs N L K).mono λac g⟨p,k⟩=>⟨_,p,fin g k⟩
end
section
open Go
theorem jA:(Rows.shapedRow.inPlace==prog.inPlace 3)=bU:=by kernel_rfl
theorem jB:(Rows.shapedRow.unfollowed==prog.unfollowed 3)=bU:=by kernel_rfl
theorem jC:(Rows.shapedRow.recurses==prog.recurses 3)=bU:=by kernel_rfl
theorem jD:(Rows.shapedRow.named==prog.varsNamed 3)=bU:=by kernel_rfl
theorem jE:mapsRowed bz=bU:=by kernel_rfl
theorem jG:joinedFacts bz 3 f3 Rows.shapedSpec Rows.shapedRow=bU:=by
 unfold joinedFacts;rw[jA,jB,jC,jD,jE,MM];kernel_rfl
theorem jH:f3.isInstance bz Rows.shapedRow.origin Rows.shapedRow.targs:=tS (by kernel_rfl)
theorem jI:f3.isWrapper bz Rows.shapedRow.wrapper Rows.shapedRow.mainSum:=by unfold Func.isWrapper;first|(rw[dz (by decide+kernel)];kernel_rfl)|(rw[dr (by decide+kernel)];exact⟨rfl,rfl⟩)
theorem jK:prog.funcNamed "levels/levelslaw.Shaped" =H 3:=by kernel_rfl
theorem OD:Rows.ShapedSaid:=OpenClaim.holds_of_wide 3 f3 rfl rfl rfl rfl rfl rfl rfl ⟨rfl,rfl,rfl,rfl,rfl⟩ rfl rfl rfl rfl rfl jK func3 jG jH jI (λd a b c _=>ZC d a b c)
theorem shaped_holds:Rows.ShapedCardSaid:=Claim7.holds_tied_plain_at .later [] [.data,.data,.data,.data,.handle,.sentinel,.sentinel] bU (bU,"7d30387ce0ba34dbb869fb62665fcea7f93eb912c3561ea7cbc0d7f0f3b8d249") bU OD (λ_ h=>by cases h) (by kernel_rfl) (λ_ h=>by cases h) shaped_row_tie rfl ⟨rfl,rfl⟩ (by kernel_rfl) rfl (λf c d a=>by
 obtain rfl:f=3:=gY (jK.symm.trans d)|>.symm;obtain rfl:c=f3:=(gY (func3.symm.trans a)).symm;exact⟨by kernel_rfl,λj t e=>by
  rw[JB]at e;have g:t∈[22,3,3]:=by grind
  have b:([22,3,3].all λu=>!prog.wantsStandIn u)=bU:=by kernel_rfl
  exact(show prog.wantsStandIn t=aY by grind)⟩)
 (by kernel_rfl)
#print axioms shaped_holds
end
