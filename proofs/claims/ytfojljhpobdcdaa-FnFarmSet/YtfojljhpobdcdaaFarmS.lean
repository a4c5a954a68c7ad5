/- The contracts of FarmSet, both sides. -/
import Derived.Test.YtfojljhpobdcdaaFarmF
namespace Go.Proofs.Ytfojljhpobdcdaa
open Go.ChangeShapes Go.WideShapes Go.ChangeAt Go.RowKit
set_option linter.unusedVariables false

def setD (n : Int) : ByteArray := (⟨#[130, 0]⟩ : ByteArray) ++ ⟨(pt n.toNat 1).toArray⟩
theorem setD_size (n : Int) : (setD n).size = 3 := by
  unfold setD; rw [ByteArray.size_append]; rfl
theorem setD_len (n : Int) : (setD n).size ≤ maxLen := by rw [setD_size]; unfold maxLen; omega
theorem put_one {n : Int} (h0 : 0 ≤ n) (h1 : n ≤ 255) : putL n 1 = pt n.toNat 1 := putL_yes (by omega) (by omega) h0 (by show n < (256 : Int); omega)
def setV (c v n : Int) : Value := if inB n 0 255 = true then govV c v (setD n) else .agg #[.bool false, .bool false, .int .i64 0, .int .i64 0, .int .i64 0, .string ⟨#[]⟩]
theorem setV_in {c v n : Int} (h : inB n 0 255 = true) : setV c v n = govV c v (setD n) := by simp [setV, h]
theorem setV_out {c v n : Int} (h : inB n 0 255 = false) : setV c v n = .agg #[.bool false, .bool false, .int .i64 0, .int .i64 0, .int .i64 0, .string ⟨#[]⟩] := by simp [setV, h]
theorem inB_bounds {n lo hi : Int} (h : inB n lo hi = true) : lo ≤ n ∧ n ≤ hi := by simpa [inB] using h
theorem block_new (w : World) (o : Obj) : (w.alloc o).heap[w.heap.size]? = some o := heap_alloc_new w o

set_option maxHeartbeats 1000000 in
theorem implFarmSet_out (c v n : Int) (w : World) (h : inB n 0 255 = false) :
    Calls Try.prog 14 #[.int .i64 c, .int .i64 v, .int .i64 n] w fun e w' => e = .returned (.agg #[.bool false, .bool false, .int .i64 0, .int .i64 0, .int .i64 0, .string ⟨#[]⟩]) ∧ Below w.heap.size w w' := by
  go_enter Try.func14, Try.ntmps14
  go_wp2_with fail
  refine (upTo_any _ _ _).mono ?_
  rintro e w1 ⟨rfl, rfl⟩
  go_wp2_with fail
  refine bodyPost_ret (v := .agg #[.bool false, .bool false, .int .i64 0, .int .i64 0, .int .i64 0, .string ⟨#[]⟩]) (results_cell_row Try.results14 _ _ w.heap.size 26 #[.bool false, .bool false, .int .i64 0, .int .i64 0, .int .i64 0, .string ⟨#[]⟩] (0, 0) _ rfl (heap_alloc_new w _) Try.underlying26 rfl cells26) rfl ⟨rfl, ?_⟩
  exact (Below.refl _ _).alloc (Nat.le_refl _) _
set_option maxHeartbeats 1000000 in
theorem specFarmSet_out (c v n : Int) (w : World) (h : inB n 0 255 = false) :
    Calls Try.prog 15 #[.int .i64 c, .int .i64 v, .int .i64 n] w fun e w' => e = .returned (.agg #[.bool false, .bool false, .int .i64 0, .int .i64 0, .int .i64 0, .string ⟨#[]⟩]) ∧ Below w.heap.size w w' := by
  go_enter Try.func15, Try.ntmps15
  go_wp2_with fail
  refine (l1In_any _ _ _ _).mono ?_
  rintro e w1 ⟨rfl, rfl⟩
  go_wp2_with fail
  refine bodyPost_ret (v := .agg #[.bool false, .bool false, .int .i64 0, .int .i64 0, .int .i64 0, .string ⟨#[]⟩]) (results_cell_row Try.results15 _ _ w.heap.size 26 #[.bool false, .bool false, .int .i64 0, .int .i64 0, .int .i64 0, .string ⟨#[]⟩] (0, 0) _ rfl (heap_alloc_new w _) Try.underlying26 rfl cells26) rfl ⟨rfl, ?_⟩
  exact (Below.refl _ _).alloc (Nat.le_refl _) _
set_option maxHeartbeats 1000000 in
theorem implFarmSet_no (c v n : Int) (w : World) (h : inB n 0 255 = true) (hg : govB c v (setD n) = false) :
    Calls Try.prog 14 #[.int .i64 c, .int .i64 v, .int .i64 n] w fun e w' => e = .returned (.agg #[.bool false, .bool false, .int .i64 0, .int .i64 0, .int .i64 0, .string ⟨#[]⟩]) ∧ Below w.heap.size w w' := by
  · have H : Hid (govB c v (setD n) = false) := hg
    obtain ⟨h0, h255⟩ := inB_bounds h
    have HP : Hid (putL n 1 = pt n.toNat 1) := put_one h0 h255
    have HD : Hid ((⟨#[130, 0]⟩ : ByteArray) ++ ⟨(pt n.toNat 1).toArray⟩ = setD n) := rfl
    have hl1 := pt_length n.toNat 1
    clear hg
    go_enter Try.func14, Try.ntmps14
    go_wp2_with fail
    refine (upTo_any _ _ _).mono ?_
    rintro e w0 ⟨rfl, rfl⟩
    go_wp2_with fail
    refine (implNumPut_any _ _ _).mono ?_
    rintro e w0 ⟨rfl, hb0⟩
    rw [HP.out]
    generalize pt n.toNat 1 = t at *
    go_wp2_with fail
    rw [HD.out]
    refine (governFrame_any _ _ _ _ (setD_len n)).mono ?_
    rintro e w1 ⟨rfl, hb1⟩
    rw [govV_no H.out]
    have hb2 := hb0.trans (hb1.mono hb0.size)
    obtain ⟨hc, hf⟩ := bcell' hb2
    have hg0 := (hb2.block w.heap.size (by simp)).trans (heap_alloc_new w _)
    have hz : w.heap.size < w1.heap.size := by have := hb2.size; simp at this; omega
    have HB : Hid (Below w.heap.size w w1) := ((Below.refl _ _).alloc (Nat.le_refl _) _).trans (hb2.mono (by simp))
    have HG : Hid (w1.heap[w.heap.size]? = some (.cells #[.bool false, .bool false, .int .i64 0, .int .i64 0, .int .i64 0, .string ⟨#[]⟩] 26)) := hg0
    clear hb0 hb1 hb2 hg0
    go_wp2_with fail
    refine bodyPost_ret (v := .agg #[.bool false, .bool false, .int .i64 0, .int .i64 0, .int .i64 0, .string ⟨#[]⟩]) (results_cell_row Try.results14 _ _ w.heap.size 26 #[.bool false, .bool false, .int .i64 0, .int .i64 0, .int .i64 0, .string ⟨#[]⟩] (0, 0) _ rfl (set6 w1 w.heap.size 26 (.bool false) (.bool false) (.int .i64 0) (.int .i64 0) (.int .i64 0) (.string ⟨#[]⟩) (.bool false) (.bool false) (.int .i64 0) (.int .i64 0) (.int .i64 0) (.string ⟨#[]⟩) HG.out) Try.underlying26 rfl cells26) rfl ⟨rfl, ?_⟩
    exact below6 HB.out w.heap.size (Nat.le_refl _) _ _ _ _ _ _
set_option maxHeartbeats 1000000 in
theorem implFarmSet_yes (c v n : Int) (w : World) (h : inB n 0 255 = true) (hg : govB c v (setD n) = true) :
    Calls Try.prog 14 #[.int .i64 c, .int .i64 v, .int .i64 n] w fun e w' => e = .returned (.agg #[.bool true, .bool true, .int .i64 c, .int .i64 v, .int .i64 0, .string (setD n)]) ∧ Below w.heap.size w w' := by
  · have H : Hid (govB c v (setD n) = true) := hg
    obtain ⟨h0, h255⟩ := inB_bounds h
    have HP : Hid (putL n 1 = pt n.toNat 1) := put_one h0 h255
    have HD : Hid ((⟨#[130, 0]⟩ : ByteArray) ++ ⟨(pt n.toNat 1).toArray⟩ = setD n) := rfl
    have hl1 := pt_length n.toNat 1
    clear hg
    go_enter Try.func14, Try.ntmps14
    go_wp2_with fail
    refine (upTo_any _ _ _).mono ?_
    rintro e w0 ⟨rfl, rfl⟩
    go_wp2_with fail
    refine (implNumPut_any _ _ _).mono ?_
    rintro e w0 ⟨rfl, hb0⟩
    rw [HP.out]
    generalize pt n.toNat 1 = t at *
    go_wp2_with fail
    rw [HD.out]
    refine (governFrame_any _ _ _ _ (setD_len n)).mono ?_
    rintro e w1 ⟨rfl, hb1⟩
    rw [govV_yes H.out]
    have hb2 := hb0.trans (hb1.mono hb0.size)
    obtain ⟨hc, hf⟩ := bcell' hb2
    have hg0 := (hb2.block w.heap.size (by simp)).trans (heap_alloc_new w _)
    have hz : w.heap.size < w1.heap.size := by have := hb2.size; simp at this; omega
    have HB : Hid (Below w.heap.size w w1) := ((Below.refl _ _).alloc (Nat.le_refl _) _).trans (hb2.mono (by simp))
    have HG : Hid (w1.heap[w.heap.size]? = some (.cells #[.bool false, .bool false, .int .i64 0, .int .i64 0, .int .i64 0, .string ⟨#[]⟩] 26)) := hg0
    clear hb0 hb1 hb2 hg0
    go_wp2_with fail
    refine bodyPost_ret (v := .agg #[.bool true, .bool true, .int .i64 c, .int .i64 v, .int .i64 0, .string (setD n)]) (results_cell_row Try.results14 _ _ w.heap.size 26 #[.bool true, .bool true, .int .i64 c, .int .i64 v, .int .i64 0, .string (setD n)] (0, 0) _ rfl (set6 w1 w.heap.size 26 (.bool false) (.bool false) (.int .i64 0) (.int .i64 0) (.int .i64 0) (.string ⟨#[]⟩) (.bool true) (.bool true) (.int .i64 c) (.int .i64 v) (.int .i64 0) (.string (setD n)) HG.out) Try.underlying26 rfl cells26) rfl ⟨rfl, ?_⟩
    exact below6 HB.out w.heap.size (Nat.le_refl _) _ _ _ _ _ _
set_option maxHeartbeats 1000000 in
theorem specFarmSet_no (c v n : Int) (w : World) (h : inB n 0 255 = true) (hg : govB c v (setD n) = false) :
    Calls Try.prog 15 #[.int .i64 c, .int .i64 v, .int .i64 n] w fun e w' => e = .returned (.agg #[.bool false, .bool false, .int .i64 0, .int .i64 0, .int .i64 0, .string ⟨#[]⟩]) ∧ Below w.heap.size w w' := by
  · have hk : frOk true true c v 0 (setD n) = false := hg
    obtain ⟨h0, h255⟩ := inB_bounds h
    have HD : Hid ((⟨#[130, 0]⟩ : ByteArray) ++ ⟨(pt n.toNat 1).toArray⟩ = setD n) := rfl
    have hl1 := pt_length n.toNat 1
    clear hg
    go_enter Try.func15, Try.ntmps15
    go_wp2_with fail
    refine (l1In_any _ _ _ _).mono ?_
    rintro e w0 ⟨rfl, rfl⟩
    go_wp2_with fail
    refine (l1Put_any _ _ _ (by omega) (by omega) (by omega) (by omega)).mono ?_
    rintro e w0 ⟨rfl, hb0⟩
    rw [show (1 : Int).toNat = 1 from rfl]
    generalize pt n.toNat 1 = t at *
    have hz0 : w.heap.size < w0.heap.size := by have := hb0.size; simp at this; omega
    go_wp2_with fail
    rw [HD.out]
    refine (specFrameOk_any _ _ _ _ _ _ _ (setD_len n)).mono ?_
    rintro e w1 ⟨rfl, hb1⟩
    have hb1' : Below w0.heap.size w0 w1 := ((Below.refl _ _).alloc (Nat.le_refl _) _).trans (hb1.mono (by simp))
    have hb2 := hb0.trans (hb1'.mono hb0.size)
    obtain ⟨hc1, hf1⟩ := bcell' hb1
    obtain ⟨hc, hf⟩ := bcell' hb0
    have hg0 := (hb2.block w.heap.size (by simp)).trans (heap_alloc_new w _)
    have hz : w0.heap.size < w1.heap.size := by have := hb1.size; simp at this; omega
    have HB : Hid (Below w.heap.size w w1) := ((Below.refl _ _).alloc (Nat.le_refl _) _).trans (hb2.mono (by simp))
    have HG : Hid (w1.heap[w.heap.size]? = some (.cells #[.bool false, .bool false, .int .i64 0, .int .i64 0, .int .i64 0, .string ⟨#[]⟩] 26)) := hg0
    clear hb0 hb1 hb1' hb2 hg0
    go_wp2_with fail
    refine bodyPost_ret (v := .agg #[.bool false, .bool false, .int .i64 0, .int .i64 0, .int .i64 0, .string ⟨#[]⟩]) (results_cell_row Try.results15 _ _ w.heap.size 26 #[.bool false, .bool false, .int .i64 0, .int .i64 0, .int .i64 0, .string ⟨#[]⟩] (0, 0) _ rfl (set6 w1 w.heap.size 26 (.bool false) (.bool false) (.int .i64 0) (.int .i64 0) (.int .i64 0) (.string ⟨#[]⟩) (.bool false) (.bool false) (.int .i64 0) (.int .i64 0) (.int .i64 0) (.string ⟨#[]⟩) HG.out) Try.underlying26 rfl cells26) rfl ⟨rfl, ?_⟩
    exact below6 HB.out w.heap.size (Nat.le_refl _) _ _ _ _ _ _
set_option maxHeartbeats 1000000 in
theorem specFarmSet_yes (c v n : Int) (w : World) (h : inB n 0 255 = true) (hg : govB c v (setD n) = true) :
    Calls Try.prog 15 #[.int .i64 c, .int .i64 v, .int .i64 n] w fun e w' => e = .returned (.agg #[.bool true, .bool true, .int .i64 c, .int .i64 v, .int .i64 0, .string (setD n)]) ∧ Below w.heap.size w w' := by
  · have hk : frOk true true c v 0 (setD n) = true := hg
    obtain ⟨h0, h255⟩ := inB_bounds h
    have HD : Hid ((⟨#[130, 0]⟩ : ByteArray) ++ ⟨(pt n.toNat 1).toArray⟩ = setD n) := rfl
    have hl1 := pt_length n.toNat 1
    clear hg
    go_enter Try.func15, Try.ntmps15
    go_wp2_with fail
    refine (l1In_any _ _ _ _).mono ?_
    rintro e w0 ⟨rfl, rfl⟩
    go_wp2_with fail
    refine (l1Put_any _ _ _ (by omega) (by omega) (by omega) (by omega)).mono ?_
    rintro e w0 ⟨rfl, hb0⟩
    rw [show (1 : Int).toNat = 1 from rfl]
    generalize pt n.toNat 1 = t at *
    have hz0 : w.heap.size < w0.heap.size := by have := hb0.size; simp at this; omega
    go_wp2_with fail
    rw [HD.out]
    refine (specFrameOk_any _ _ _ _ _ _ _ (setD_len n)).mono ?_
    rintro e w1 ⟨rfl, hb1⟩
    have hb1' : Below w0.heap.size w0 w1 := ((Below.refl _ _).alloc (Nat.le_refl _) _).trans (hb1.mono (by simp))
    have hb2 := hb0.trans (hb1'.mono hb0.size)
    obtain ⟨hc1, hf1⟩ := bcell' hb1
    obtain ⟨hc, hf⟩ := bcell' hb0
    have hg0 := (hb2.block w.heap.size (by simp)).trans (heap_alloc_new w _)
    have hz : w0.heap.size < w1.heap.size := by have := hb1.size; simp at this; omega
    have HB : Hid (Below w.heap.size w w1) := ((Below.refl _ _).alloc (Nat.le_refl _) _).trans (hb2.mono (by simp))
    have HG : Hid (w1.heap[w.heap.size]? = some (.cells #[.bool false, .bool false, .int .i64 0, .int .i64 0, .int .i64 0, .string ⟨#[]⟩] 26)) := hg0
    clear hb0 hb1 hb1' hb2 hg0
    go_wp2_with fail
    refine bodyPost_ret (v := .agg #[.bool true, .bool true, .int .i64 c, .int .i64 v, .int .i64 0, .string (setD n)]) (results_cell_row Try.results15 _ _ w.heap.size 26 #[.bool true, .bool true, .int .i64 c, .int .i64 v, .int .i64 0, .string (setD n)] (0, 0) _ rfl (set6 w1 w.heap.size 26 (.bool false) (.bool false) (.int .i64 0) (.int .i64 0) (.int .i64 0) (.string ⟨#[]⟩) (.bool true) (.bool true) (.int .i64 c) (.int .i64 v) (.int .i64 0) (.string (setD n)) HG.out) Try.underlying26 rfl cells26) rfl ⟨rfl, ?_⟩
    exact below6 HB.out w.heap.size (Nat.le_refl _) _ _ _ _ _ _
end Go.Proofs.Ytfojljhpobdcdaa
