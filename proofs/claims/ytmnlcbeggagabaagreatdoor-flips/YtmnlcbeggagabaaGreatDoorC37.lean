import Derived.LaidLaws
import Derived.LaidMore
import Derived.Stop.Joined
import Derived.Test.YtmnlcbeggagabaaGreatDoorC36
open _root_ renaming Array.size→z,Go.World.heap→G,Bool.false→bj,Bool.true→ci,Go.Proofs.Tryz.prog→aZ
namespace Go.Proofs.YtmnlcbeggagabaaGreatDoor
open ChangeShapes WideShapes RowKit Proofs.Tryz
set_option maxHeartbeats 16000000
set_option linter.all false
set_option maxRecDepth 100000
section
open ChangeAt WideMaps WideElems
theorem own:ownKnob prog.godebug=none:=by kernel_rfl
theorem Hn:f3.params=#[22,3,3,3,23]:=by kernel_rfl
theorem KG:laidOutB aZ=ci:=by kernel_rfl
theorem XM:prog.readableRec 22=ci:=by kernel_rfl
theorem Ug(b:Os)(a:Array ab):laidMetH aZ Aa ((World.doorLaid aZ 74 b).forCall (λ_ _=>0) ⟨#[],a,[]⟩).memory:=laidMetH_of_parts3 (fuel:=8) (laidMet_of_run' 8 (by kernel_rfl) (by kernel_rfl)) (by kernel_rfl) (by kernel_rfl)
theorem Sb(c:Os)(d:Type)(b:TypeId×ab->d):∃(w:Z)(a:Tape)(i:Input),w.os=c/\(w.forCall a i).Shaped checked.prog/\i.vars=[]/\Input.okWide checked.prog (w.forCall a i) .any (z (G w)) 3 i/\((Rows.flipsSpec.pre b checked.prog f3 [] bj (w.forCall a i).memory i.args/\laidMetH aZ Aa (w.forCall a i).memory)/\sizedMet b checked.prog f3 (OpenSpec.ofChange Rows.flipsSpec) bj (w.forCall a i).memory i.args)/\({modest:=bj}:Assume).holds checked.prog (lone (Frame.enter checked.prog 3 i.args .normal) [] (w.forCall a i)):=ChangeSpec.witness_shaped (enc:=b) (C:=checked) (os:=c) (X:=λw _=>laidMetH aZ Aa w) bj (World.doorLaid aZ 74 c) #[aw,.int .i64 0,.int .i64 0,.int .i64 0,.int .u64 0] 8 rfl (World.shaped_of_RefB (by kernel_rfl) (by kernel_rfl)) (by kernel_rfl) (by kernel_rfl) (by kernel_rfl) (Ug c _)
end
