/- The contracts of FarmOpen and FarmSet, both sides. -/
import Derived.Test.YtfojljhpobdcdaaFr
import Derived.Test.YtfojljhpobdcdaaNumA
import Derived.Test.YtfojljhpobdcdaaSet6
import Derived.Laws.Rows
namespace Go.Proofs.Ytfojljhpobdcdaa
open Go.ChangeShapes Go.WideShapes Go.ChangeAt Go.RowKit
set_option linter.unusedVariables false

/-- A frame that governs, or nothing. -/
def govB (c v : Int) (d : ByteArray) : Bool := frOk true true c v 0 d
def govP (c v : Int) (d : ByteArray) : Bool := govB c v d
def govV (c v : Int) (d : ByteArray) : Value :=
  .agg #[.bool (govB c v d), .bool (govB c v d), .int .i64 (if govB c v d = true then c else 0), .int .i64 (if govB c v d = true then v else 0), .int .i64 0, .string (if govB c v d = true then d else ⟨#[]⟩)]
theorem govV_yes {c v : Int} {d : ByteArray} (h : govB c v d = true) : govV c v d = .agg #[.bool true, .bool true, .int .i64 c, .int .i64 v, .int .i64 0, .string d] := by simp [govV, h]
theorem govV_no {c v : Int} {d : ByteArray} (h : govB c v d = false) : govV c v d = .agg #[.bool false, .bool false, .int .i64 0, .int .i64 0, .int .i64 0, .string ⟨#[]⟩] := by simp [govV, h]

set_option maxHeartbeats 1000000 in
theorem governFrame_any (c v : Int) (d : ByteArray) (w : World) (hd : d.size ≤ maxLen) :
    Calls Try.prog 33 #[.int .i64 c, .int .i64 v, .string d] w fun e w' => e = .returned (govV c v d) ∧ Below w.heap.size w w' := by
  cases h : govB c v d
  · have hk : frOk true true c v 0 d = false := h
    rw [govV_no h]
    clear h
    go_enter Try.func33, Try.ntmps33
    go_wp2_with fail
    refine (implFrameOk_any _ _ _ _ _ _ _ hd).mono ?_
    rintro e w1 ⟨rfl, hb1⟩
    obtain ⟨hc, hf⟩ := bcell' hb1
    have hg0 := (hb1.block w.heap.size (by simp; omega)).trans (heap_alloc2_old w _ _)
    have hz := hb1.size
    have HB : Hid (Below w.heap.size w w1) := (((Below.refl _ _).alloc (Nat.le_refl _) _).alloc (by simp) _).trans (hb1.mono (by simp; omega))
    have HG : Hid (w1.heap[w.heap.size]? = some (.cells #[.bool false, .bool false, .int .i64 0, .int .i64 0, .int .i64 0, .string ⟨#[]⟩] 26)) := hg0
    clear hb1 hg0
    go_wp2_with fail
    refine bodyPost_ret (v := .agg #[.bool false, .bool false, .int .i64 0, .int .i64 0, .int .i64 0, .string ⟨#[]⟩]) (results_cell_row Try.results33 _ _ w.heap.size 26 #[.bool false, .bool false, .int .i64 0, .int .i64 0, .int .i64 0, .string ⟨#[]⟩] (0, 0) _ rfl (set6 w1 w.heap.size 26 (.bool false) (.bool false) (.int .i64 0) (.int .i64 0) (.int .i64 0) (.string ⟨#[]⟩) (.bool false) (.bool false) (.int .i64 0) (.int .i64 0) (.int .i64 0) (.string ⟨#[]⟩) HG.out) Try.underlying26 rfl cells26) rfl ⟨rfl, ?_⟩
    exact below6 HB.out w.heap.size (Nat.le_refl _) _ _ _ _ _ _
  · have hk : frOk true true c v 0 d = true := h
    rw [govV_yes h]
    clear h
    go_enter Try.func33, Try.ntmps33
    go_wp2_with fail
    refine (implFrameOk_any _ _ _ _ _ _ _ hd).mono ?_
    rintro e w1 ⟨rfl, hb1⟩
    obtain ⟨hc, hf⟩ := bcell' hb1
    have hg0 := (hb1.block w.heap.size (by simp; omega)).trans (heap_alloc2_old w _ _)
    have hz := hb1.size
    have HB : Hid (Below w.heap.size w w1) := (((Below.refl _ _).alloc (Nat.le_refl _) _).alloc (by simp) _).trans (hb1.mono (by simp; omega))
    have HG : Hid (w1.heap[w.heap.size]? = some (.cells #[.bool false, .bool false, .int .i64 0, .int .i64 0, .int .i64 0, .string ⟨#[]⟩] 26)) := hg0
    clear hb1 hg0
    go_wp2_with fail
    refine bodyPost_ret (v := .agg #[.bool true, .bool true, .int .i64 c, .int .i64 v, .int .i64 0, .string d]) (results_cell_row Try.results33 _ _ w.heap.size 26 #[.bool true, .bool true, .int .i64 c, .int .i64 v, .int .i64 0, .string d] (0, 0) _ rfl (set6 w1 w.heap.size 26 (.bool false) (.bool false) (.int .i64 0) (.int .i64 0) (.int .i64 0) (.string ⟨#[]⟩) (.bool true) (.bool true) (.int .i64 c) (.int .i64 v) (.int .i64 0) (.string d) HG.out) Try.underlying26 rfl cells26) rfl ⟨rfl, ?_⟩
    exact below6 HB.out w.heap.size (Nat.le_refl _) _ _ _ _ _ _
end Go.Proofs.Ytfojljhpobdcdaa
