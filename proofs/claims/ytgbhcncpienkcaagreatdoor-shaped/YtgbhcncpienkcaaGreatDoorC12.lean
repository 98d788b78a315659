import Derived.LaidLaws
import Derived.LaidMore
import Derived.Stop.Joined
import Derived.Test.YtgbhcncpienkcaaGreatDoorC11
open _root_ renaming Array.size→z,Go.World.heap→G,Bool.false→aY,Bool.true→bU,Go.Proofs.Tryz.prog→bz
namespace Go.Proofs.YtgbhcncpienkcaaGreatDoor
open ChangeShapes WideShapes RowKit Proofs.Tryz
set_option maxHeartbeats 16000000
set_option linter.all false
set_option maxRecDepth 100000
section
open ChangeAt WideMaps WideElems
theorem own:ownKnob prog.godebug=none:=by kernel_rfl
theorem JB:f3.params=#[22,3,3]:=by kernel_rfl
theorem MM:laidOutB bz=bU:=by kernel_rfl
theorem n9:prog.readableRec 22=bU:=by kernel_rfl
theorem WO(b:Os)(a:Array aa):laidMetH bz AO ((World.doorLaid bz 74 b).forCall (λ_ _=>0) ⟨#[],a,[]⟩).memory:=laidMetH_of_parts3 (fuel:=8) (laidMet_of_run' 8 (by kernel_rfl) (by kernel_rfl)) (by kernel_rfl) (by kernel_rfl)
theorem Uz(c:Os)(d:Type)(b:TypeId×aa->d):∃(w:Y)(a:Tape)(i:Input),w.os=c/\(w.forCall a i).Shaped checked.prog/\i.vars=[]/\Input.okWide checked.prog (w.forCall a i) .any (z (G w)) 3 i/\((Rows.shapedSpec.pre b checked.prog f3 [] aY (w.forCall a i).memory i.args/\laidMetH bz AO (w.forCall a i).memory)/\sizedMet b checked.prog f3 (OpenSpec.ofChange Rows.shapedSpec) aY (w.forCall a i).memory i.args)/\({modest:=aY}:Assume).holds checked.prog (lone (Frame.enter checked.prog 3 i.args .normal) [] (w.forCall a i)):=ChangeSpec.witness_shaped (enc:=b) (C:=checked) (os:=c) (X:=λw _=>laidMetH bz AO w) aY (World.doorLaid bz 74 c) #[aD,.int .i64 0,.int .i64 0] 8 rfl (World.shaped_of_RefB (by kernel_rfl) (by kernel_rfl)) (by kernel_rfl) (by kernel_rfl) (by kernel_rfl) (WO c _)
end
