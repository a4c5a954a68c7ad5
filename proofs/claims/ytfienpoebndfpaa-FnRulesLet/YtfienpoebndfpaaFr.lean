/- The contracts of FrameOk, both sides, and of laws.eqFrame at two frames that are one. -/
import Derived.Test.YtfienpoebndfpaaNum
namespace Go.Proofs.Ytfienpoebndfpaa
open Go.ChangeShapes Go.WideShapes Go.ChangeAt Go.RowKit
set_option linter.unusedVariables false

theorem bcell' {W w1 : World} (hb : Below W.heap.size W w1) : (∀ b o, b < W.heap.size → w1.cell? ⟨b, o, none⟩ = W.cell? ⟨b, o, none⟩) ∧ (∀ b o, b < W.heap.size → w1.frozen? ⟨b, o, none⟩ = W.frozen? ⟨b, o, none⟩) :=
  ⟨fun b o h => hb.cell (p := ⟨b, o, none⟩) h, fun b o h => hb.frozen (p := ⟨b, o, none⟩) h⟩
set_option maxHeartbeats 400000 in
theorem upTo_any (n m : Int) (w : World) :
    Calls Try.prog 59 #[.int .i64 n, .int .i64 m] w fun e w' => e = .returned (.bool (inB n 0 m)) ∧ w' = w := by
  by_cases h : 0 ≤ n
  · go_enter Try.func59, Try.ntmps59
    go_wp2
    go_ret
    exact ⟨by simp [inB, h], rfl⟩
  · have hb : inB n 0 m = false := by simp [inB, h]
    go_enter Try.func59, Try.ntmps59
    go_wp2
    go_ret
    exact ⟨by simp, rfl⟩
set_option maxHeartbeats 400000 in
theorem frameDataOk_any (d : ByteArray) (w : World) (hd : d.size ≤ maxLen) :
    Calls Try.prog 88 #[.string d] w fun e w' => e = .returned (.bool (inB d.size 1 53)) ∧ w' = w := by
  unfold maxLen at hd
  by_cases h : 1 ≤ (d.size : Int)
  · go_enter Try.func88, Try.ntmps88
    go_wp2
    go_ret
    exact ⟨by simp [inB, h], rfl⟩
  · have hb : inB d.size 1 53 = false := inB_no (by omega)
    go_enter Try.func88, Try.ntmps88
    go_wp2
    go_ret
    exact ⟨by simp, rfl⟩
def frOk (p g : Bool) (c v q : Int) (d : ByteArray) : Bool := inB c 0 1023 && inB v 0 63 && inB q 0 255 && inB d.size 1 53 && (p || !g)

set_option maxHeartbeats 1000000 in
theorem eqFrame_same (p g : Bool) (c v q : Int) (d : ByteArray) (w : World) :
    Calls Try.prog 94 #[.agg #[.bool p, .bool g, .int .i64 c, .int .i64 v, .int .i64 q, .string d], .agg #[.bool p, .bool g, .int .i64 c, .int .i64 v, .int .i64 q, .string d]] w fun e w' => e = .returned (.bool true) ∧ Below w.heap.size w w' := by
  go_enter Try.func94, Try.ntmps94
  go_wp2
  go_ret
  exact ⟨rfl, ((Below.refl _ _).alloc (Nat.le_refl _) _).alloc (by simp) _⟩
end Go.Proofs.Ytfienpoebndfpaa
