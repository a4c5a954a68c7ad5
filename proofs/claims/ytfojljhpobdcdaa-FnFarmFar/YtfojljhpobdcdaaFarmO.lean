/- The contracts of FarmOpen, both sides. -/
import Derived.Test.YtfojljhpobdcdaaFarmF
namespace Go.Proofs.Ytfojljhpobdcdaa
open Go.ChangeShapes Go.WideShapes Go.ChangeAt Go.RowKit
set_option linter.unusedVariables false

theorem zero_len : (⟨#[0]⟩ : ByteArray).size ≤ maxLen := by unfold maxLen; show 1 ≤ _; omega
set_option maxHeartbeats 1000000 in
theorem implFarmOpen_any (c v : Int) (w : World) :
    Calls Try.prog 17 #[.int .i64 c, .int .i64 v] w fun e w' => e = .returned (govV c v ⟨#[0]⟩) ∧ Below w.heap.size w w' := by
  cases h : govB c v ⟨#[0]⟩
  · have H : Hid (govB c v ⟨#[0]⟩ = false) := h
    rw [govV_no h]
    clear h
    go_enter Try.func17, Try.ntmps17
    go_wp2_with fail
    refine (governFrame_any _ _ _ _ zero_len).mono ?_
    rintro e w1 ⟨rfl, hb1⟩
    rw [govV_no H.out]
    obtain ⟨hc, hf⟩ := bcell' hb1
    have hg0 := (hb1.block w.heap.size (by simp)).trans (heap_alloc_new w _)
    have hz := hb1.size
    have HB : Hid (Below w.heap.size w w1) := ((Below.refl _ _).alloc (Nat.le_refl _) _).trans (hb1.mono (by simp))
    have HG : Hid (w1.heap[w.heap.size]? = some (.cells #[.bool false, .bool false, .int .i64 0, .int .i64 0, .int .i64 0, .string ⟨#[]⟩] 26)) := hg0
    clear hb1 hg0
    go_wp2_with fail
    refine bodyPost_ret (v := .agg #[.bool false, .bool false, .int .i64 0, .int .i64 0, .int .i64 0, .string ⟨#[]⟩]) (results_cell_row Try.results17 _ _ w.heap.size 26 #[.bool false, .bool false, .int .i64 0, .int .i64 0, .int .i64 0, .string ⟨#[]⟩] (0, 0) _ rfl (set6 w1 w.heap.size 26 (.bool false) (.bool false) (.int .i64 0) (.int .i64 0) (.int .i64 0) (.string ⟨#[]⟩) (.bool false) (.bool false) (.int .i64 0) (.int .i64 0) (.int .i64 0) (.string ⟨#[]⟩) HG.out) Try.underlying26 rfl cells26) rfl ⟨rfl, ?_⟩
    exact below6 HB.out w.heap.size (Nat.le_refl _) _ _ _ _ _ _
  · have H : Hid (govB c v ⟨#[0]⟩ = true) := h
    rw [govV_yes h]
    clear h
    go_enter Try.func17, Try.ntmps17
    go_wp2_with fail
    refine (governFrame_any _ _ _ _ zero_len).mono ?_
    rintro e w1 ⟨rfl, hb1⟩
    rw [govV_yes H.out]
    obtain ⟨hc, hf⟩ := bcell' hb1
    have hg0 := (hb1.block w.heap.size (by simp)).trans (heap_alloc_new w _)
    have hz := hb1.size
    have HB : Hid (Below w.heap.size w w1) := ((Below.refl _ _).alloc (Nat.le_refl _) _).trans (hb1.mono (by simp))
    have HG : Hid (w1.heap[w.heap.size]? = some (.cells #[.bool false, .bool false, .int .i64 0, .int .i64 0, .int .i64 0, .string ⟨#[]⟩] 26)) := hg0
    clear hb1 hg0
    go_wp2_with fail
    refine bodyPost_ret (v := .agg #[.bool true, .bool true, .int .i64 c, .int .i64 v, .int .i64 0, .string ⟨#[0]⟩]) (results_cell_row Try.results17 _ _ w.heap.size 26 #[.bool true, .bool true, .int .i64 c, .int .i64 v, .int .i64 0, .string ⟨#[0]⟩] (0, 0) _ rfl (set6 w1 w.heap.size 26 (.bool false) (.bool false) (.int .i64 0) (.int .i64 0) (.int .i64 0) (.string ⟨#[]⟩) (.bool true) (.bool true) (.int .i64 c) (.int .i64 v) (.int .i64 0) (.string ⟨#[0]⟩) HG.out) Try.underlying26 rfl cells26) rfl ⟨rfl, ?_⟩
    exact below6 HB.out w.heap.size (Nat.le_refl _) _ _ _ _ _ _

end Go.Proofs.Ytfojljhpobdcdaa
