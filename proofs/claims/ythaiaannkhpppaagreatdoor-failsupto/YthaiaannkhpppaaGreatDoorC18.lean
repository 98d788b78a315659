import Derived.Deep.DeepHandedRow
import Derived.Deep.DeepWitnessRowRef
import Derived.LaidLaws
import Derived.LaidMore
import Derived.Stop.Joined
import Derived.Test.YthaiaannkhpppaaGreatDoorC17
import Derived.Test.YthaiaannkhpppaaGreatDoorCards
import Derived.Test.YthaiaannkhpppaaGreatDoorTie
open _root_ renaming List.length→y,Option.some→H,Array.size→z,Go.World.heap→G,Bool.false→aX,Bool.true→ci,Nat→M,Go.Proofs.Tryz.prog→aZ
namespace Go.Proofs.YthaiaannkhpppaaGreatDoor
open ChangeShapes WideShapes RowKit Proofs.Tryz ChangeAt WideMaps WideElems
set_option maxHeartbeats 16000000
set_option linter.all false
set_option maxRecDepth 100000
abbrev upS:=Rows.OpenSpec.upto Rows.failsSpec
theorem own:ownKnob prog.godebug=none:=by kernel_rfl
theorem IY:f3.params=#[22,3,3,3]:=by kernel_rfl
theorem LY:laidOutB aZ=ci:=by kernel_rfl
theorem s9:prog.readableRec 22=ci:=by kernel_rfl
theorem Wi(b:Os)(a:Array ab):laidMetH aZ LZ ((World.doorLaid aZ 74 b).forCall (λ_ _=>0) ⟨#[],a,[]⟩).memory:=laidMetH_of_parts3 (fuel:=8) (laidMet_of_run' 8 (by kernel_rfl) (by kernel_rfl)) (by kernel_rfl) (by kernel_rfl)
theorem Zv(d:Os){b:Type}(c:TypeId×ab->b):∃a,DataW.whole c aZ ((World.doorLaid aZ 74 d).forCall (λ_ _=>0) ⟨#[],#[az,.int .i64 0,.int .i64 0,.int .i64 0],[]⟩).memory f3.params.toList Rows.failsSpec.vars aX #[az,Value.int .i64 0,Value.int .i64 0,Value.int .i64 0].toList 8=H ([.nil,.lit (.int .i64 0),.lit (.int .i64 0),.lit (.int .i64 0)],[],a):=⟨[],by kernel_rfl⟩
theorem Uh(c:Os)(e:Type)(b:TypeId×ab->e):∃(w:Y)(a:Tape)(i:Input),w.os=c/\(w.forCall a i).Shaped checked.prog/\i.vars=[]/\Input.okWide checked.prog (w.forCall a i) .any (z (G w)) 3 i/\upS.preRow b checked.prog f3 Rows.failsUptoRow.domain aX Rows.failsUptoRow.laid (w.forCall a i).memory i.args/\({modest:=aX}:Assume).holds checked.prog (lone (Frame.enter checked.prog 3 i.args .normal) [] (w.forCall a i)):=by
 obtain⟨d,f⟩:=Zv c b;exact witness_row_atRef (enc:=b) (C:=checked) (s:=upS) aX (World.doorLaid aZ 74 c) #[az,.int .i64 0,.int .i64 0,.int .i64 0] rfl (by kernel_rfl) (by kernel_rfl) (by kernel_rfl) (OpenSpec.preRow_of_cond 8 f (by kernel_rfl) (λk d=>by cases d;kernel_rfl) (by kernel_rfl) (Wi c _))
theorem ZI(N:Os)(d:N.Started)(m:Type)(c:TypeId×ab->m)(ax:Stop.Interp):ReturnsInHanded {} checked N 3 .any (upS.preRow c aZ f3 Rows.failsUptoRow.domain aX Rows.failsUptoRow.laid) ((upS.at ax).post c aZ f3 aX ci aX aX):=by
 refine returnsInHanded_of_row (C:=checked) (s:=upS) own d (by kernel_rfl) func3 (Uh N m c) ?_;intro W f g ds gs p k hW _ i L hL _ _;have a:∀(j:M)t v,f3.params[j]?=H t->g[j]?=H v->Value.okWide aZ W .any f t v:=k;have n:=hW;obtain⟨aF,q,hA0,hV,rfl,au,av⟩:=hW;have hA:DataW.TrodAll c aZ W 0 (λ_=>ci) ci f3.params.toList g.toList ds aF:=hA0;rw[IY]at hA a;obtain⟨v0,v1,v2,v3,r,d1,d2,d3,O,p1,p2,p3,rfl,rfl,rfl,h0,h1,h2,h3⟩:=trodAll_four hA;obtain⟨rfl,rfl⟩:=trodVars_none hV;obtain⟨b,rfl,rfl,rfl,E⟩:=open_int IE (a 1 3 v1 rfl rfl) h1;obtain⟨T,rfl,rfl,rfl,F⟩:=open_int IE (a 2 3 v2 rfl rfl) h2;obtain⟨V,rfl,rfl,rfl,K⟩:=open_int IE (a 3 3 v3 rfl rfl) h3;obtain⟨A,x,w⟩:=XK hL;obtain⟨S,l0,u,rfl⟩:=okWide_slice Zi (a 0 22 v0 rfl rfl);have D:∀al∈O,al.block<z (G W):=λal a=>n.lt al (by simp[a]);have h:Rows.uptoBulk r<=1048576:=by have ao:=pL (i _ rfl);simp only[dM,Rows.uptoBulkAll]at ao;omega
 have hB:∀ac∈r.weights aZ 22,ac<=140737488351232:=by intro ac P;have l:(DataW.weightsEach aZ (f3.params.toList++Rows.failsSpec.plain.varTypes aZ) ([r,.lit (.int .i64 b),.lit (.int .i64 T),.lit (.int .i64 V)]++[])).all (·<=reachBytes)=ci:=L;rw[IY]at l;have:=qI.1 l ac (jb _ P);exact pL this
 have fin:∀e,Z ay W e->Rows.failsSpec.post c aZ f3 aX ci aX aX W #[.slice S l0 u,.int .i64 b,.int .i64 T,.int .i64 V] (.bool ci) e:=λe j=>by have l:Below (z (G W)) W e:=j.below (ah _) (λk a=>a.elim);refine⟨[r,.lit (.int .i64 b),.lit (.int .i64 T),.lit (.int .i64 V)],[],_,[],O++([]++([]++[])),[],n,?_,?_,?_,l.frame _,λao=>by cases ao⟩;exact trodAll_mk1 (shut_bool Ul ci);exact⟨O,_,Below.trod LY s9 (by rw[Um];decide) h0 l D,trodAll_mk3 (shut_int IE E) (shut_int IE F) (shut_int IE K),rfl⟩;rfl
 obtain⟨aa,hf⟩:=h0;rcases Lr (v:=.slice S l0 u) hf hB with⟨al,aU,ad⟩|⟨Q,hs,B⟩;cases ad;exact(Fj S [] u b T V (.inl rfl) (by simp[sB]) (by simp[xg]) A x w).mono λad e⟨o,j⟩=>⟨_,o,fin e j⟩;have ap:=Fy Q;have ac:(Q.map (λr=>(r.os.map (λa=>4*y a.cs+1)).sum+1)).sum<=1048576:=aC B h;rcases hs.row with⟨q1,⟨P,q0⟩|⟨aD,l,an,P,_⟩⟩;cases P;exact(Fj none [] 0 b T V (.inl rfl) (by simp[sB]) (by simp[xg]) A x w).mono λad e⟨o,j⟩=>⟨_,o,fin e j⟩;cases P;exact(Fj _ Q _ b T V (.inr ⟨aD,l,rfl,hs⟩) (by omega) (by omega) A x w).mono λad e⟨o,j⟩=>⟨_,o,fin e j⟩
theorem jA:(Rows.failsUptoRow.inPlace==prog.inPlace 3)=ci:=by kernel_rfl
theorem jB:(Rows.failsUptoRow.unfollowed==prog.unfollowed 3)=ci:=by kernel_rfl
theorem jC:(Rows.failsUptoRow.recurses==prog.recurses 3)=ci:=by kernel_rfl
theorem jD:(Rows.failsUptoRow.named==prog.varsNamed 3)=ci:=by kernel_rfl
theorem jE:mapsRowed aZ=ci:=by kernel_rfl
theorem jG:joinedFacts aZ 3 f3 Rows.failsSpec Rows.failsUptoRow=ci:=by
 unfold joinedFacts;rw[jA,jB,jC,jD,jE,LY];kernel_rfl
theorem jH:f3.isInstance aZ Rows.failsUptoRow.origin Rows.failsUptoRow.targs:=pL (by kernel_rfl)
theorem jI:f3.isWrapper aZ Rows.failsUptoRow.wrapper Rows.failsUptoRow.mainSum:=by unfold Func.isWrapper;first|(rw[dH (by decide+kernel)];kernel_rfl)|(rw[dF (by decide+kernel)];exact⟨rfl,rfl⟩)
theorem jK:prog.funcNamed "levels/levelslaw.Fails" =H 3:=by kernel_rfl
theorem Tm:Rows.FailsUptoSaid:=OpenClaim.holds_of_cond 3 f3 rfl rfl rfl rfl rfl rfl rfl ⟨rfl,rfl,rfl,rfl,rfl⟩ rfl rfl rfl rfl rfl jK func3 jG jH jI (λd a b c _ F=>by rw[OpenClaim.pre_eq_preRow];exact ZI d a b c F)
theorem fails_holds:Rows.FailsUptoCardSaid:=Claim7.holds_tied_plain_at .later [] [.data,.data,.data,.data,.handle,.sentinel,.sentinel] ci (ci,"221c281c7104487d7805bc80319c946f4d6a25bfc9f9347a1b3e68d38b698eac") ci Tm (λ_ h=>by cases h) (by kernel_rfl) (λ_ h=>by cases h) failsUpto_row_tie rfl ⟨rfl,rfl⟩ (by kernel_rfl) rfl (λf c d a=>by
 obtain rfl:f=3:=gY (jK.symm.trans d)|>.symm;obtain rfl:c=f3:=(gY (func3.symm.trans a)).symm;exact⟨by kernel_rfl,λj t e=>by
  rw[IY]at e;have g:t∈[22,3,3,3]:=by grind
  have b:([22,3,3,3].all λu=>!prog.wantsStandIn u)=ci:=by kernel_rfl
  exact(show prog.wantsStandIn t=aX by grind)⟩)
 (by kernel_rfl)
#print axioms fails_holds
