import Derived.LaidLaws
import Derived.LaidMore
import Derived.Stop.Joined
import Derived.Test.YtnfehfmncheoiaaGreatDoorC24
open _root_ renaming Array.size→z,Go.World.heap→G,Bool.false→bE,Bool.true→bU,Int→X,Go.Proofs.Tryz.prog→bF
namespace Go.Proofs.YtnfehfmncheoiaaGreatDoor
open ChangeShapes WideShapes RowKit Proofs.Tryz
set_option maxHeartbeats 16000000
set_option linter.all false
set_option maxRecDepth 100000
section
open Go.ChangeAt Go.WideMaps Go.WideElems
theorem own:ownKnob prog.godebug=none:=by kernel_rfl
theorem IE:f3.params=#[22,3,3]:=by kernel_rfl
theorem Lw:laidOutB bF=bU:=by kernel_rfl
theorem XZ:prog.readableRec 22=bU:=by kernel_rfl
theorem UV(b:Os)(a:Array aa):laidMetH bF Aq ((World.doorLaid bF 74 b).forCall (λ_ _=>0) ⟨#[],a,[]⟩).memory:=laidMetH_of_parts3 (fuel:=8) (laidMet_of_run' 8 (by kernel_rfl) (by kernel_rfl)) (by kernel_rfl) (by kernel_rfl)
theorem SX(c:Os)(d:Type)(b:TypeId×aa->d):∃(w:Y)(a:Tape)(i:Input),w.os=c/\(w.forCall a i).Shaped checked.prog/\i.vars=[]/\Input.okWide checked.prog (w.forCall a i) .any (z (G w)) 3 i/\((Rows.snapsSpec.pre b checked.prog f3 [] bE (w.forCall a i).memory i.args/\laidMetH bF Aq (w.forCall a i).memory)/\sizedMet b checked.prog f3 (OpenSpec.ofChange Rows.snapsSpec) bE (w.forCall a i).memory i.args)/\({modest:=bE}:Assume).holds checked.prog (lone (Frame.enter checked.prog 3 i.args .normal) [] (w.forCall a i)):=ChangeSpec.witness_shaped (enc:=b) (C:=checked) (os:=c) (X:=λw _=>laidMetH bF Aq w) bE (World.doorLaid bF 74 c) #[aK,.int .i64 0,.int .i64 0] 8 rfl (World.shaped_of_RefB (by kernel_rfl) (by kernel_rfl)) (by kernel_rfl) (by kernel_rfl) (by kernel_rfl) (UV c _)
end
