import Derived.Test.YtophdnlmpfmeiaaGreatDoorCards
import Derived.Test.YtophdnlmpfmeiaaGreatDoorTie
import Derived.Test.YtophdnlmpfmeiaaGreatDoorC40
namespace Go.Proofs.YtophdnlmpfmeiaaGreatDoor
open ChangeShapes WideShapes RowKit Proofs.Tryz
set_option maxHeartbeats 16000000
set_option linter.all false
set_option maxRecDepth 100000
section
open Go.ChangeAt Go.WideMaps Go.WideElems
theorem OO(s:Os)(d:s.Started)(an:Type)(c:TypeId×M->an):ReturnsInHanded {} checked s 3 .any (λH a=>(Rows.contentsSpec.pre c prog f3 [] false H a/\laidMetH prog vp H)/\sizedMet c prog f3 (OpenSpec.ofChange Rows.contentsSpec) false H a) (Rows.contentsSpec.post c prog f3 false true false false):=by
 refine returnsInHanded_of_change_and (C:=checked) (X:=λH _=>laidMetH prog vp H) (λ_ _ _ hh O=>O.of_heap hh) own d (by kernel_rfl) func3 (Kp s an c) ?_;intro W base a L gs j f E _ q S _;have b:∀(j:Nat)t v,f3.params[j]?=some t->a[j]?=some v->Value.okWide prog W .any base t v:=f;have g:=E;obtain⟨ao,ba,hA0,U,rfl,ac,ad⟩:=E;have z:DataW.TrodAll c prog W 0 (λ_=>true) true f3.params.toList a.toList L ao:=hA0;rw[BM]at z b;obtain⟨v0,v1,v2,l,d1,d2,G,p1,p2,rfl,rfl,rfl,y,P,Q⟩:=trodAll_three z;obtain⟨rfl,rfl⟩:=trodVars_none U;obtain⟨w,rfl,rfl,rfl,o⟩:=open_int Fe (b 1 3 v1 rfl rfl) P;obtain⟨T,rfl,rfl,rfl,p⟩:=open_int Fe (b 2 3 v2 rfl rfl) Q;obtain⟨D,B,A⟩:=Nq S;obtain⟨u,F,k,rfl⟩:=okWide_slice Ou (b 0 22 v0 rfl rfl);have n:∀K∈G,K.block<W.heap.size:=λK a=>g.lt K (by simp[a]);have R:∀al∈l.weights prog 22,al<=140737488351232:=by
  intro al hn;have i:(DataW.weightsEach prog (f3.params.toList++Rows.contentsSpec.plain.varTypes prog) ([l,.lit (.int .i64 w),.lit (.int .i64 T)]++[])).all (·<=reachBytes)=true:=q;rw[BM]at i;have:=kE.1 i al (cX _ hn);exact of_decide_eq_true this
 have fin:∀e,I (λ_=>False) W e->Rows.contentsSpec.post c prog f3 false true false false W #[.slice u F k,.int .i64 w,.int .i64 T] (.bool true) e:=λe h=>by
  have i:Below W.heap.size W e:=h.below (ai _) (λk a=>a.elim);refine⟨[l,.lit (.int .i64 w),.lit (.int .i64 T)],[],_,[],G++([]++[]),[],g,?_,?_,?_,i.frame _,λO=>by cases O⟩
  ·exact trodAll_mk1 (shut_bool Ob true)
  ·exact trodAll_mk3 (Below.trod LG Pr (by rw[Kt];decide) y i n) (shut_int Fe o) (shut_int Fe p)
  ·rfl
 obtain⟨x,V⟩:=y;rcases DC (v:=.slice u F k) V R with⟨K,ax,N⟩|⟨r,hs⟩
 ·cases N;exact(Am u k w T W D B A).mono λN e⟨m,h⟩=>⟨_,m,fin e h⟩
 ·exact(Cp _ r w T W hs D B A).mono λN e⟨m,h⟩=>⟨_,m,fin e h⟩
end
section
open Go
theorem Co:Rows.ContentsSaid:=OpenClaim.holds_of_wide 3 f3 rfl rfl rfl rfl rfl rfl rfl ⟨rfl,rfl,rfl,rfl,rfl⟩ rfl rfl rfl rfl rfl (by kernel_rfl) func3 (by kernel_rfl) (of_decide_eq_true (by kernel_rfl)) (by unfold Func.isWrapper;first|(rw[dr (by decide+kernel)];kernel_rfl)|(rw[dd (by decide+kernel)];exact⟨rfl,rfl⟩)) (λc a H b _=>OO c a H b)
theorem contents_holds:Rows.ContentsCardSaid:=Claim7.holds_tied_plain_at .later [] [.data,.data,.data,.data,.handle,.sentinel,.sentinel] true (true,"e4d0ff98a62660fc69f5f35c14f997851a6e7529bd661dd19df0fcbcf59ff90e") true Co (λ_ h=>by cases h) (by kernel_rfl) (λ_ h=>by cases h) contents_row_tie rfl ⟨rfl,rfl⟩ (by kernel_rfl) rfl (λg d e b=>by
 obtain rfl:g=3:=dm ((show prog.funcNamed "levels/levelslaw.Contents" =some 3 by kernel_rfl).symm.trans e)|>.symm;obtain rfl:d=f3:=(dm (func3.symm.trans b)).symm;exact⟨by kernel_rfl,λj t c=>by
  rw[BM]at c;have f:t∈[22,3,3]:=by simpa using jT c
  have a:([22,3,3].all λu=>!prog.wantsStandIn u)=true:=by kernel_rfl
  exact(show prog.wantsStandIn t=false by simpa using kE.1 a t f)⟩)
 (by kernel_rfl)
#print axioms contents_holds
end
end Go.Proofs.YtophdnlmpfmeiaaGreatDoor
