import Derived.Deep.DeepHandedRow
import Derived.Deep.DeepWitnessRowRef
import Derived.LaidLaws
import Derived.LaidMore
import Derived.Stop.Joined
import Derived.Test.YtbiejblbclolmaaGreatDoorC13
open _root_ renaming Option.some→H,Array.size→z,Go.World.heap→G,Bool.false→bw,Bool.true→cf,Go.Proofs.Tryz.prog→bA
namespace Go.Proofs.YtbiejblbclolmaaGreatDoor
open ChangeShapes WideShapes RowKit Proofs.Tryz
set_option maxHeartbeats 16000000
set_option linter.all false
set_option maxRecDepth 100000
section
open ChangeAt WideMaps WideElems
theorem own:ownKnob prog.godebug=none:=by kernel_rfl
theorem Ke:f3.params=#[22,3,3,3,23]:=by kernel_rfl
theorem Nz:laidOutB bA=cf:=by kernel_rfl
theorem L8:prog.readableRec 22=cf:=by kernel_rfl
theorem Xw(b:Os)(a:Array ab):laidMetH bA NA ((World.doorLaid bA 74 b).forCall (λ_ _=>0) ⟨#[],a,[]⟩).memory:=laidMetH_of_parts3 (fuel:=8) (laidMet_of_run' 8 (by kernel_rfl) (by kernel_rfl)) (by kernel_rfl) (by kernel_rfl)
theorem C9(d:Os){b:Type}(c:TypeId×ab->b):∃a,DataW.whole c bA ((World.doorLaid bA 74 d).forCall (λ_ _=>0) ⟨#[],#[az,.int .i64 0,.int .i64 0,.int .i64 0,.int .u64 0],[]⟩).memory f3.params.toList Rows.crashesSpec.vars bw #[az,Value.int .i64 0,Value.int .i64 0,Value.int .i64 0,Value.int .u64 0].toList 8=H ([.nil,.lit (.int .i64 0),.lit (.int .i64 0),.lit (.int .i64 0),.lit (.int .u64 0)],[],a):=⟨[],by kernel_rfl⟩
theorem Vw(c:Os)(e:Type)(b:TypeId×ab->e):∃(w:Y)(a:Tape)(i:Input),w.os=c/\(w.forCall a i).Shaped checked.prog/\i.vars=[]/\Input.okWide checked.prog (w.forCall a i) .any (z (G w)) 3 i/\(Rows.OpenSpec.upto Rows.crashesSpec).preRow b checked.prog f3 Rows.crashesUptoRow.domain bw Rows.crashesUptoRow.laid (w.forCall a i).memory i.args/\({modest:=bw}:Assume).holds checked.prog (lone (Frame.enter checked.prog 3 i.args .normal) [] (w.forCall a i)):=by
 obtain⟨d,f⟩:=C9 c b;exact witness_row_atRef (enc:=b) (C:=checked) (s:=Rows.OpenSpec.upto Rows.crashesSpec) bw (World.doorLaid bA 74 c) #[az,.int .i64 0,.int .i64 0,.int .i64 0,.int .u64 0] rfl (by kernel_rfl) (by kernel_rfl) (by kernel_rfl) (OpenSpec.preRow_of_cond 8 f (by kernel_rfl) (λk d=>by cases d;kernel_rfl) (by kernel_rfl) (Xw c _))
end
