import Derived.Deep.DeepHandedRow
import Derived.Deep.DeepWitnessRowRef
import Derived.LaidLaws
import Derived.LaidMore
import Derived.Stop.Joined
import Derived.Test.YtbgjhlkoccmfaaaGreatDoorC11
open _root_ renaming Option.some→M,Array.size→G,Go.World.heap→H,Bool.false→bD,Bool.true→cz,Go.Proofs.Tryz.prog→bN,Option.none→dE,rfl→z
namespace Go.Proofs.YtbgjhlkoccmfaaaGreatDoor
open ChangeShapes WideShapes RowKit Proofs.Tryz
set_option maxHeartbeats 16000000
set_option linter.all false
set_option maxRecDepth 100000
section
open ChangeAt WideMaps WideElems
theorem own:ownKnob prog.godebug=dE:=aH
theorem TT:f3.params=#[22,3,3,23,24]:=aH
theorem CP:laidOutB bN=cz:=aH
theorem zbx:prog.readableRec 22=cz:=aH
theorem zbw:prog.readableRec 23=cz:=aH
theorem zbv:prog.readableRec 24=cz:=aH
theorem ZV(b:Os)(a:Array ae):laidMetH bN Hk ((World.doorLaid bN 74 b).forCall (λ_ _=>0) ⟨#[],a,[]⟩).memory:=laidMetH_of_parts3 (fuel:=8) (laidMet_of_run' 8 aH aH) aH aH
theorem X2(c:Os){u7:Type}(b:TypeId×ae->u7):∃a,DataW.whole b bN ((World.doorLaid bN 74 c).forCall (λ_ _=>0) ⟨#[],#[aF,.int .i64 0,.int .i64 0,aF,aF],[]⟩).memory f3.params.toList Rows.garbageSpec.vars bD #[aF,Value.int .i64 0,Value.int .i64 0,aF,aF].toList 8=M ([.nil,.lit (.int .i64 0),.lit (.int .i64 0),.nil,.nil],[],a):=⟨[],aH⟩
theorem Xt(c:Os)(u7:Type)(b:TypeId×ae->u7):∃(w:Z)(a:Tape)(i:Input),w.os=c/\(w.forCall a i).Shaped checked.prog/\i.vars=[]/\Input.okWide checked.prog (w.forCall a i) .any (G (H w)) 3 i/\(Rows.OpenSpec.upto Rows.garbageSpec).preRow b checked.prog f3 Rows.garbageUptoRow.domain bD Rows.garbageUptoRow.laid (w.forCall a i).memory i.args/\({modest:=bD}:Assume).holds checked.prog (lone (Frame.enter checked.prog 3 i.args .normal) [] (w.forCall a i)):=by
 let⟨d,e⟩:=X2 c b;exact witness_row_atRef (enc:=b) (C:=checked) (s:=Rows.OpenSpec.upto Rows.garbageSpec) bD (World.doorLaid bN 74 c) #[aF,.int .i64 0,.int .i64 0,aF,aF] z aH aH aH (OpenSpec.preRow_of_cond 8 e aH (λk d=>by cases d;kernel_rfl) aH (ZV c _))
end
