import Derived.LaidLaws
import Derived.LaidMore
import Derived.Stop.Joined
import Derived.Test.YtophdnlmpfmeiaaGreatDoorC39
namespace Go.Proofs.YtophdnlmpfmeiaaGreatDoor
open ChangeShapes WideShapes RowKit Proofs.Tryz
set_option maxHeartbeats 16000000
set_option linter.all false
set_option maxRecDepth 100000
section
open Go.ChangeAt Go.WideMaps Go.WideElems
theorem own:ownKnob prog.godebug=none:=by kernel_rfl
theorem BM:f3.params=#[22,3,3]:=by kernel_rfl
theorem LG:laidOutB prog=true:=by kernel_rfl
theorem Pr:prog.readableRec 22=true:=by kernel_rfl
theorem Mj(os:Os)(a:Array M):laidMetH prog vp ((World.doorLaid prog 74 os).forCall (λ_ _=>0) ⟨#[],a,[]⟩).memory:=laidMetH_of_parts3 (fuel:=8) (laidMet_of_run' 8 (by kernel_rfl) (by kernel_rfl)) (by kernel_rfl) (by kernel_rfl)
theorem Kp(os:Os)(H:Type)(enc:TypeId×M->H):∃(w:J)(a:Tape)(i:Input),w.os=os/\(w.forCall a i).Shaped checked.prog/\i.vars=[]/\Input.okWide checked.prog (w.forCall a i) .any w.heap.size 3 i/\((Rows.contentsSpec.pre enc checked.prog f3 [] false (w.forCall a i).memory i.args/\laidMetH prog vp (w.forCall a i).memory)/\sizedMet enc checked.prog f3 (OpenSpec.ofChange Rows.contentsSpec) false (w.forCall a i).memory i.args)/\({modest:=false}:Assume).holds checked.prog (lone (Frame.enter checked.prog 3 i.args .normal) [] (w.forCall a i)):=ChangeSpec.witness_shaped (enc:=enc) (C:=checked) (os:=os) (X:=λw _=>laidMetH prog vp w) false (World.doorLaid prog 74 os) #[.slice none 0 0,.int .i64 0,.int .i64 0] 8 rfl (World.shaped_of_RefB (by kernel_rfl) (by kernel_rfl)) (by kernel_rfl) (by kernel_rfl) (by kernel_rfl) (Mj os _)
end
end Go.Proofs.YtophdnlmpfmeiaaGreatDoor
