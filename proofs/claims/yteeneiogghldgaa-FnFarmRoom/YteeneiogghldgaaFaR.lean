/- The contracts of FarmRoom, both sides, and of laws.eqFarm at two that are one. -/
import Derived.Test.YteeneiogghldgaaFa
namespace Go.Proofs.Yteeneiogghldgaa
open Go.ChangeShapes Go.WideShapes Go.ChangeAt Go.RowKit
set_option linter.unusedVariables false

theorem set5 (w1 : World) (g : Nat) (t : TypeId) (o0 o1 o2 o3 o4 c0 c1 c2 c3 c4 : Value) (h : w1.heap[g]? = some (.cells #[o0, o1, o2, o3, o4] t)) :
    (((((w1.setCell ⟨g, 0, none⟩ c0).setCell ⟨g, 1, none⟩ c1).setCell ⟨g, 2, none⟩ c2).setCell ⟨g, 3, none⟩ c3).setCell ⟨g, 4, none⟩ c4).heap[g]? = some (.cells #[c0, c1, c2, c3, c4] t) := by
  exact set1 _ g 4 t _ c4 (set1 _ g 3 t _ c3 (set1 _ g 2 t _ c2 (set1 _ g 1 t _ c1 (set1 w1 g 0 t _ c0 h))))
theorem below5 {B : Nat} {w w1 : World} (h : Below B w w1) (g : Nat) (hB : B ≤ g) (c0 c1 c2 c3 c4 : Value) :
    Below B w (((((w1.setCell ⟨g, 0, none⟩ c0).setCell ⟨g, 1, none⟩ c1).setCell ⟨g, 2, none⟩ c2).setCell ⟨g, 3, none⟩ c3).setCell ⟨g, 4, none⟩ c4) :=
  ((((h.setCell (p := ⟨g, 0, none⟩) hB c0).setCell (p := ⟨g, 1, none⟩) hB c1).setCell (p := ⟨g, 2, none⟩) hB c2).setCell (p := ⟨g, 3, none⟩) hB c3).setCell (p := ⟨g, 4, none⟩) hB c4
set_option maxHeartbeats 1000000 in
theorem eqFarm_same (s wt ag : Bool) (c n : Int) (w : World) :
    Calls Try.prog 16 #[.agg #[.bool s, .bool wt, .bool ag, .int .i64 c, .int .i64 n], .agg #[.bool s, .bool wt, .bool ag, .int .i64 c, .int .i64 n]] w fun e w' => e = .returned (.bool true) ∧ Below w.heap.size w w' := by
  go_enter Try.func16, Try.ntmps16
  go_wp2
  go_ret
  exact ⟨rfl, ((Below.refl _ _).alloc (Nat.le_refl _) _).alloc (by simp) _⟩
set_option maxHeartbeats 1000000 in
theorem implFarmRoom_no (s wt ag : Bool) (c n : Int) (w : World) (h : faOk wt ag c n = false) :
    Calls Try.prog 24 #[.agg #[.bool s, .bool wt, .bool ag, .int .i64 c, .int .i64 n]] w fun e w' => e = .returned (.agg #[.bool false, .bool false, .bool false, .int .i64 0, .int .i64 0]) ∧ Below w.heap.size w w' := by
  go_enter Try.func24, Try.ntmps24
  go_wp2_with fail
  refine (implFarmOk_any _ _ _ _ _ _).mono ?_
  rintro e w1 ⟨rfl, hb1⟩
  obtain ⟨hc, hf⟩ := bcell' hb1
  have hz : w.heap.size + 1 < w1.heap.size := by have := hb1.size; simp at this; omega
  have HB : Hid (Below w.heap.size w w1) := (((Below.refl _ _).alloc (Nat.le_refl _) _).alloc (by simp) _).trans (hb1.mono (by simp; omega))
  have HG : Hid (w1.heap[w.heap.size + 1]? = some (.cells #[.bool false, .bool false, .bool false, .int .i64 0, .int .i64 0] 27)) := (hb1.block (w.heap.size + 1) (by simp)).trans (heap_alloc2_new w _ _)
  clear hb1
  go_wp2_with fail
  refine bodyPost_ret (v := .agg #[.bool false, .bool false, .bool false, .int .i64 0, .int .i64 0]) (results_cell_row Try.results24 _ _ (w.heap.size + 1) 27 #[.bool false, .bool false, .bool false, .int .i64 0, .int .i64 0] (0, 0) _ rfl (set5 w1 (w.heap.size + 1) 27 (.bool false) (.bool false) (.bool false) (.int .i64 0) (.int .i64 0) (.bool false) (.bool false) (.bool false) (.int .i64 0) (.int .i64 0) HG.out) Try.underlying27 rfl cellsFarm) rfl ⟨rfl, ?_⟩
  exact below5 HB.out (w.heap.size + 1) (by omega) _ _ _ _ _
set_option maxHeartbeats 1000000 in
theorem implFarmRoom_yes (s wt ag : Bool) (c n : Int) (w : World) (h : faOk wt ag c n = true) :
    Calls Try.prog 24 #[.agg #[.bool s, .bool wt, .bool ag, .int .i64 c, .int .i64 n]] w fun e w' => e = .returned (.agg #[.bool s, .bool false, .bool ag, .int .i64 c, .int .i64 n]) ∧ Below w.heap.size w w' := by
  go_enter Try.func24, Try.ntmps24
  go_wp2_with fail
  refine (implFarmOk_any _ _ _ _ _ _).mono ?_
  rintro e w1 ⟨rfl, hb1⟩
  obtain ⟨hc, hf⟩ := bcell' hb1
  have hz : w.heap.size + 1 < w1.heap.size := by have := hb1.size; simp at this; omega
  have HB : Hid (Below w.heap.size w (w1.setCell ⟨w.heap.size, 1, none⟩ (.bool false))) := ((((Below.refl _ _).alloc (Nat.le_refl _) _).alloc (by simp) _).trans (hb1.mono (by simp; omega))).setCell (Nat.le_refl _) _
  have HG : Hid ((w1.setCell ⟨w.heap.size, 1, none⟩ (.bool false)).heap[w.heap.size + 1]? = some (.cells #[.bool false, .bool false, .bool false, .int .i64 0, .int .i64 0] 27)) := (Below.heap_setCell w1 ⟨w.heap.size, 1, none⟩ (.bool false) (w.heap.size + 1) (by simp)).trans ((hb1.block (w.heap.size + 1) (by simp)).trans (heap_alloc2_new w _ _))
  have hcell1 : w1.cell? ⟨w.heap.size, 1, none⟩ = some (.bool wt) := (hb1.cell (p := ⟨w.heap.size, 1, none⟩) (by simp; omega)).trans (by rw [World.cell?_alloc_lt _ _ _ (by simp), World.cell?_alloc_mark]; rfl)
  have hsame : (w1.setCell ⟨w.heap.size, 1, none⟩ (.bool false)).cell? ⟨w.heap.size, 1, none⟩ = some (.bool false) := World.cell?_setCell_same _ _ _ hcell1
  clear hcell1
  clear hb1
  go_wp2_with fail
  refine bodyPost_ret (v := .agg #[.bool s, .bool false, .bool ag, .int .i64 c, .int .i64 n]) (results_cell_row Try.results24 _ _ (w.heap.size + 1) 27 #[.bool s, .bool false, .bool ag, .int .i64 c, .int .i64 n] (0, 0) _ rfl (set5 (w1.setCell ⟨w.heap.size, 1, none⟩ (.bool false)) (w.heap.size + 1) 27 (.bool false) (.bool false) (.bool false) (.int .i64 0) (.int .i64 0) (.bool s) (.bool false) (.bool ag) (.int .i64 c) (.int .i64 n) HG.out) Try.underlying27 rfl cellsFarm) rfl ⟨rfl, ?_⟩
  exact below5 HB.out (w.heap.size + 1) (by omega) _ _ _ _ _
set_option maxHeartbeats 1000000 in
theorem specFarmRoom_no (s wt ag : Bool) (c n : Int) (w : World) (h : faOk wt ag c n = false) :
    Calls Try.prog 25 #[.agg #[.bool s, .bool wt, .bool ag, .int .i64 c, .int .i64 n]] w fun e w' => e = .returned (.agg #[.bool false, .bool false, .bool false, .int .i64 0, .int .i64 0]) ∧ Below w.heap.size w w' := by
  go_enter Try.func25, Try.ntmps25
  go_wp2_with fail
  refine (specFarmOk_any _ _ _ _ _ _).mono ?_
  rintro e w1 ⟨rfl, hb1⟩
  obtain ⟨hc, hf⟩ := bcell' hb1
  have hz : w.heap.size + 1 < w1.heap.size := by have := hb1.size; simp at this; omega
  have HB : Hid (Below w.heap.size w w1) := (((Below.refl _ _).alloc (Nat.le_refl _) _).alloc (by simp) _).trans (hb1.mono (by simp; omega))
  have HG : Hid (w1.heap[w.heap.size + 1]? = some (.cells #[.bool false, .bool false, .bool false, .int .i64 0, .int .i64 0] 27)) := (hb1.block (w.heap.size + 1) (by simp)).trans (heap_alloc2_new w _ _)
  clear hb1
  go_wp2_with fail
  refine bodyPost_ret (v := .agg #[.bool false, .bool false, .bool false, .int .i64 0, .int .i64 0]) (results_cell_row Try.results25 _ _ (w.heap.size + 1) 27 #[.bool false, .bool false, .bool false, .int .i64 0, .int .i64 0] (0, 0) _ rfl (set5 w1 (w.heap.size + 1) 27 (.bool false) (.bool false) (.bool false) (.int .i64 0) (.int .i64 0) (.bool false) (.bool false) (.bool false) (.int .i64 0) (.int .i64 0) HG.out) Try.underlying27 rfl cellsFarm) rfl ⟨rfl, ?_⟩
  exact below5 HB.out (w.heap.size + 1) (by omega) _ _ _ _ _
set_option maxHeartbeats 1000000 in
theorem specFarmRoom_yes (s wt ag : Bool) (c n : Int) (w : World) (h : faOk wt ag c n = true) :
    Calls Try.prog 25 #[.agg #[.bool s, .bool wt, .bool ag, .int .i64 c, .int .i64 n]] w fun e w' => e = .returned (.agg #[.bool s, .bool false, .bool ag, .int .i64 c, .int .i64 n]) ∧ Below w.heap.size w w' := by
  go_enter Try.func25, Try.ntmps25
  go_wp2_with fail
  refine (specFarmOk_any _ _ _ _ _ _).mono ?_
  rintro e w1 ⟨rfl, hb1⟩
  obtain ⟨hc, hf⟩ := bcell' hb1
  have hz : w.heap.size + 1 < w1.heap.size := by have := hb1.size; simp at this; omega
  have HB : Hid (Below w.heap.size w (w1.setCell ⟨w.heap.size, 1, none⟩ (.bool false))) := ((((Below.refl _ _).alloc (Nat.le_refl _) _).alloc (by simp) _).trans (hb1.mono (by simp; omega))).setCell (Nat.le_refl _) _
  have HG : Hid ((w1.setCell ⟨w.heap.size, 1, none⟩ (.bool false)).heap[w.heap.size + 1]? = some (.cells #[.bool false, .bool false, .bool false, .int .i64 0, .int .i64 0] 27)) := (Below.heap_setCell w1 ⟨w.heap.size, 1, none⟩ (.bool false) (w.heap.size + 1) (by simp)).trans ((hb1.block (w.heap.size + 1) (by simp)).trans (heap_alloc2_new w _ _))
  have hcell1 : w1.cell? ⟨w.heap.size, 1, none⟩ = some (.bool wt) := (hb1.cell (p := ⟨w.heap.size, 1, none⟩) (by simp; omega)).trans (by rw [World.cell?_alloc_lt _ _ _ (by simp), World.cell?_alloc_mark]; rfl)
  have hsame : (w1.setCell ⟨w.heap.size, 1, none⟩ (.bool false)).cell? ⟨w.heap.size, 1, none⟩ = some (.bool false) := World.cell?_setCell_same _ _ _ hcell1
  clear hcell1
  clear hb1
  go_wp2_with fail
  refine bodyPost_ret (v := .agg #[.bool s, .bool false, .bool ag, .int .i64 c, .int .i64 n]) (results_cell_row Try.results25 _ _ (w.heap.size + 1) 27 #[.bool s, .bool false, .bool ag, .int .i64 c, .int .i64 n] (0, 0) _ rfl (set5 (w1.setCell ⟨w.heap.size, 1, none⟩ (.bool false)) (w.heap.size + 1) 27 (.bool false) (.bool false) (.bool false) (.int .i64 0) (.int .i64 0) (.bool s) (.bool false) (.bool ag) (.int .i64 c) (.int .i64 n) HG.out) Try.underlying27 rfl cellsFarm) rfl ⟨rfl, ?_⟩
  exact below5 HB.out (w.heap.size + 1) (by omega) _ _ _ _ _
end Go.Proofs.Yteeneiogghldgaa
