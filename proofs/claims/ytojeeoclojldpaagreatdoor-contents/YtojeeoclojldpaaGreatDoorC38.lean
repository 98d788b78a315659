import Derived.LaidLaws
import Derived.LaidMore
import Derived.Stop.Joined
import Derived.Test.YtojeeoclojldpaaGreatDoorC37
open _root_ renaming Array.size→z,Go.World.heap→G,Bool.false→bF,Bool.true→bW,Go.Proofs.Tryz.prog→bG
namespace Go.Proofs.YtojeeoclojldpaaGreatDoor
open ChangeShapes WideShapes RowKit Proofs.Tryz
set_option maxHeartbeats 16000000
set_option linter.all false
set_option maxRecDepth 100000
section
open Go.ChangeAt Go.WideMaps Go.WideElems
theorem own:ownKnob prog.godebug=none:=by kernel_rfl
theorem IE:f3.params=#[22,3,3]:=by kernel_rfl
theorem Lv:laidOutB bG=bW:=by kernel_rfl
theorem XS:prog.readableRec 22=bW:=by kernel_rfl
theorem UK(b:Os)(a:Array aa):laidMetH bG Ao ((World.doorLaid bG 74 b).forCall (λ_ _=>0) ⟨#[],a,[]⟩).memory:=laidMetH_of_parts3 (fuel:=8) (laidMet_of_run' 8 (by kernel_rfl) (by kernel_rfl)) (by kernel_rfl) (by kernel_rfl)
theorem SK(c:Os)(d:Type)(b:TypeId×aa->d):∃(w:I)(a:Tape)(i:Input),w.os=c/\(w.forCall a i).Shaped checked.prog/\i.vars=[]/\Input.okWide checked.prog (w.forCall a i) .any (z (G w)) 3 i/\((Rows.contentsSpec.pre b checked.prog f3 [] bF (w.forCall a i).memory i.args/\laidMetH bG Ao (w.forCall a i).memory)/\sizedMet b checked.prog f3 (OpenSpec.ofChange Rows.contentsSpec) bF (w.forCall a i).memory i.args)/\({modest:=bF}:Assume).holds checked.prog (lone (Frame.enter checked.prog 3 i.args .normal) [] (w.forCall a i)):=ChangeSpec.witness_shaped (enc:=b) (C:=checked) (os:=c) (X:=λw _=>laidMetH bG Ao w) bF (World.doorLaid bG 74 c) #[aK,.int .i64 0,.int .i64 0] 8 rfl (World.shaped_of_RefB (by kernel_rfl) (by kernel_rfl)) (by kernel_rfl) (by kernel_rfl) (by kernel_rfl) (UK c _)
end
