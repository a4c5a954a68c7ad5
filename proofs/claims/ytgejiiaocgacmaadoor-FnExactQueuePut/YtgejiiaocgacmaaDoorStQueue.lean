/- A struct of slices: laws.szQueue, laws.toQueue, laws.eqQueue. -/
import Derived.Test.YtgejiiaocgacmaaDoorNum
import Derived.Test.YtgejiiaocgacmaaDoorHeap
import Derived.Test.YtgejiiaocgacmaaDoorKeep
import Derived.Test.YtgejiiaocgacmaaDoorCellsN
import Derived.Test.YtgejiiaocgacmaaDoorTxL
namespace Go.Proofs.YtgejiiaocgacmaaDoor
open Go.ChangeShapes Go.WideShapes Go.ChangeAt Go.RowKit
set_option linter.unusedVariables false

theorem cellsQueue : (Tryd.prog.info? 45).map (·.size) = some 2 := by kernel_rfl
set_option maxHeartbeats 2000000 in
theorem szQueuel_any (a0 : Option Addr) (n0 p0 : Nat) (g0 : Nat → ByteArray) (v1 : Int) (l : Int) (w : World) (hn0 : n0 ≤ maxLen) (h0 : Txt w a0 n0 g0) (hl0 : 0 ≤ l) (hl1 : l ≤ 1048576) :
    Calls Tryd.prog 27 #[.agg #[.slice a0 n0 p0, .int .i64 v1], .int .i64 l] w fun e w' => ∃ r : Int, (0 ≤ r → (n0 ≤ 1048576 ∧ ∀ i, i < n0 → (g0 i).size ≤ 1048576)) ∧ r ≤ 1048576 ∧ e = .returned (.int .i64 r) ∧ Below w.heap.size w w' := by
  have HB0 : Hid (Below w.heap.size w (w.alloc (.cells #[.slice a0 n0 p0, .int .i64 v1] 42))) := (Below.refl _ _).alloc (Nat.le_refl _) _
  have H0_0 : Hid (Txt (w.alloc (.cells #[.slice a0 n0 p0, .int .i64 v1] 42)) a0 n0 g0) := h0.alloc _
  have HG0 : Hid ((w.alloc (.cells #[.slice a0 n0 p0, .int .i64 v1] 42)).heap[w.heap.size]? = some (.cells #[.slice a0 n0 p0, .int .i64 v1] 42)) := get_new rfl
  clear h0
  go_enter Tryd.func27, Tryd.ntmps27
  go_wp2_with fail
  refine (szStringSl_any a0 n0 p0 g0 l _ hn0 H0_0.out hl0 hl1).mono ?_
  rintro e w1 ⟨r0, hr0, hs0, rfl, hb1⟩
  have HR0 : Hid _ := hr0
  have HB1 : Hid (Below w.heap.size w w1) := HB0.out.trans (hb1.mono HB0.out.size)
  have HG1 : Hid (w1.heap[w.heap.size]? = some (.cells #[.slice a0 n0 p0, .int .i64 v1] 42)) := get_below hb1 HG0.out (size_of_get HG0.out)
  clear hr0 hb1
  by_cases hneg0 : r0 < 0
  · go_wp2_with fail
    go_ret
    exact ⟨-1, fun h => by omega, by omega, rfl, HB1.out⟩
  have hpos0 : 0 ≤ r0 := by omega
  go_wp2_with fail
  go_ret
  exact ⟨r0, fun h => HR0.out hpos0, hs0, rfl, HB1.out⟩
set_option maxHeartbeats 4000000 in
theorem toQueue_anyf (a0 : Option Addr) (n0 p0 : Nat) (g0 : Nat → ByteArray) (v1 : Int) (w : World) (hn0 : n0 ≤ 1048576) (h0 : Txt w a0 n0 g0) :
    Calls Tryd.prog 29 #[.agg #[.slice a0 n0 p0, .int .i64 v1]] w fun e w' => ∃ b0 : Nat, (w.heap.size ≤ b0 ∧ b0 < w'.heap.size) ∧ e = .returned (.agg #[.slice (some ⟨b0, 0, none⟩) n0 n0, .int .i64 v1]) ∧ (Txt w' (some ⟨b0, 0, none⟩) n0 g0 ∧ (∀ q, w'.frozen? ⟨b0, q, none⟩ = false)) ∧ Below w.heap.size w w' := by
  have HB0 : Hid (Below w.heap.size w (((w.alloc (.cells #[.slice a0 n0 p0, .int .i64 v1] 42)).alloc (.cells #[.slice none 0 0, .int .i64 0] 45)).alloc (.cells #[.slice none 0 0, .int .i64 0] 45))) := (((Below.refl _ _).alloc (Nat.le_refl _) _).alloc (by simp) _).alloc (by simp; omega) _
  have HA0 : Hid (Txt w a0 n0 g0) := h0
  have HP0 : Hid ((((w.alloc (.cells #[.slice a0 n0 p0, .int .i64 v1] 42)).alloc (.cells #[.slice none 0 0, .int .i64 0] 45)).alloc (.cells #[.slice none 0 0, .int .i64 0] 45)).heap[w.heap.size]? = some (.cells #[.slice a0 n0 p0, .int .i64 v1] 42)) := get_alloc (get_alloc (get_new rfl) (by simp)) (by simp; omega)
  have HR0 : Hid ((((w.alloc (.cells #[.slice a0 n0 p0, .int .i64 v1] 42)).alloc (.cells #[.slice none 0 0, .int .i64 0] 45)).alloc (.cells #[.slice none 0 0, .int .i64 0] 45)).heap[w.heap.size + 1]? = some (.cells #[.slice none 0 0, .int .i64 0] 45)) := get_alloc (get_new (by simp)) (by simp)
  have HO0 : Hid ((((w.alloc (.cells #[.slice a0 n0 p0, .int .i64 v1] 42)).alloc (.cells #[.slice none 0 0, .int .i64 0] 45)).alloc (.cells #[.slice none 0 0, .int .i64 0] 45)).heap[w.heap.size + 2]? = some (.cells #[.slice none 0 0, .int .i64 0] 45)) := get_new (by simp)
  clear h0
  go_enter Tryd.func29, Tryd.ntmps29
  go_wp2_with fail
  refine (toStringS_exf a0 n0 p0 g0 _ hn0 (HA0.out.below HB0.out)).mono ?_
  rintro e w1 ⟨b0, hlo0, hhi0, rfl, ht0, hb1, hz0⟩
  have HB1 : Hid (Below w.heap.size w w1) := HB0.out.trans (hb1.mono HB0.out.size)
  have hPx1 : w1.heap[w.heap.size]? = some (.cells #[.slice a0 n0 p0, .int .i64 v1] 42) := get_below hb1 HP0.out (size_of_get HP0.out)
  have hRx1 : w1.heap[w.heap.size + 1]? = some (.cells #[.slice none 0 0, .int .i64 0] 45) := get_below hb1 HR0.out (size_of_get HR0.out)
  have hOx1 : w1.heap[w.heap.size + 2]? = some (.cells #[.slice none 0 0, .int .i64 0] 45) := get_below hb1 HO0.out (size_of_get HO0.out)
  have hZ0_1 : ∀ q, w1.frozen? ⟨b0, q, none⟩ = false := hz0
  have hN0_1 : Txt w1 (some ⟨b0, 0, none⟩) n0 g0 := ht0
  have hgr1 : w.heap.size + 3 ≤ w1.heap.size := by have := hb1.size; simp at this; omega
  have hbl0 : w.heap.size + 3 ≤ b0 := by have := hlo0; simp at this; omega
  have HRz : Hid _ := hRx1
  have HOz : Hid _ := hOx1
  have HZz0 : Hid (∀ q, w1.frozen? ⟨b0, q, none⟩ = false) := hZ0_1
  have HNz0 : Hid (Txt w1 (some ⟨b0, 0, none⟩) n0 g0) := hN0_1
  obtain ⟨k0, k1⟩ := cells2_of hPx1
  obtain ⟨q0, q1⟩ := cells2_of hOx1
  obtain ⟨z0, z1⟩ := cells2_of hRx1
  have fz : ∀ j, w1.frozen? ⟨w.heap.size + 2, j, none⟩ = false := fun j => frozen_get hOx1
  have fr : ∀ j, w1.frozen? ⟨w.heap.size + 1, j, none⟩ = false := fun j => frozen_get hRx1
  clear hb1 ht0 hz0 hPx1 hRx1 hOx1 hN0_1 hZ0_1
  go_wp2_with fail
  refine bodyPost_ret (v := .agg #[.slice (some ⟨b0, 0, none⟩) n0 n0, .int .i64 v1]) (results_cell_row Tryd.results29 _ _ (w.heap.size + 1) 45 #[.slice (some ⟨b0, 0, none⟩) n0 n0, .int .i64 v1] (0, 0) _ rfl ?_ Tryd.underlying45 rfl cellsQueue) rfl ⟨b0, ⟨by omega, by simpa [World.setCell] using hhi0⟩, rfl, ⟨?_, ?_⟩, ?_⟩
  · exact get_set (get_set (get_set_ne (get_set_ne (HRz.out) (by omega)) (by omega)) rfl) rfl
  · exact ((((HNz0.out).set (by omega)).set (by omega)).set (by omega)).set (by omega)
  · intro q; simp only [World.frozen?_setCell]; exact HZz0.out q
  · exact belowS (belowS (belowS (belowS (HB1.out) (by omega)) (by omega)) (by omega)) (by omega)
theorem toQueue_any (a0 : Option Addr) (n0 p0 : Nat) (g0 : Nat → ByteArray) (v1 : Int) (w : World) (hn0 : n0 ≤ 1048576) (h0 : Txt w a0 n0 g0) :
    Calls Tryd.prog 29 #[.agg #[.slice a0 n0 p0, .int .i64 v1]] w fun e w' => ∃ b0 : Nat, (w.heap.size ≤ b0 ∧ b0 < w'.heap.size) ∧ e = .returned (.agg #[.slice (some ⟨b0, 0, none⟩) n0 n0, .int .i64 v1]) ∧ (Txt w' (some ⟨b0, 0, none⟩) n0 g0) ∧ Below w.heap.size w w' :=
  (toQueue_anyf a0 n0 p0 g0 v1 w hn0 h0).mono fun e w' ⟨b0, ho, he, ⟨p0, _⟩, hb⟩ => ⟨b0, ho, he, p0, hb⟩
set_option maxHeartbeats 4000000 in
theorem eqQueue_any (a0 : Option Addr) (n0 p0 : Nat) (g0 : Nat → ByteArray) (v1 : Int) (a0' : Option Addr) (p0' : Nat) (w : World) (hn0 : n0 ≤ maxLen) (h0 : Txt w a0 n0 g0) (h0' : Txt w a0' n0 g0) :
    Calls Tryd.prog 31 #[.agg #[.slice a0 n0 p0, .int .i64 v1], .agg #[.slice a0' n0 p0', .int .i64 v1]] w fun e w' => e = .returned (.bool true) ∧ Below w.heap.size w w' := by
  have HB0 : Hid (Below w.heap.size w ((w.alloc (.cells #[.slice a0 n0 p0, .int .i64 v1] 45)).alloc (.cells #[.slice a0' n0 p0', .int .i64 v1] 45))) := ((Below.refl _ _).alloc (Nat.le_refl _) _).alloc (by simp) _
  have HA0 : Hid (Txt w a0 n0 g0) := h0
  have HC0 : Hid (Txt w a0' n0 g0) := h0'
  have HP0 : Hid (((w.alloc (.cells #[.slice a0 n0 p0, .int .i64 v1] 45)).alloc (.cells #[.slice a0' n0 p0', .int .i64 v1] 45)).heap[w.heap.size]? = some (.cells #[.slice a0 n0 p0, .int .i64 v1] 45)) := get_alloc (get_new rfl) (by simp)
  have HQ0 : Hid (((w.alloc (.cells #[.slice a0 n0 p0, .int .i64 v1] 45)).alloc (.cells #[.slice a0' n0 p0', .int .i64 v1] 45)).heap[w.heap.size + 1]? = some (.cells #[.slice a0' n0 p0', .int .i64 v1] 45)) := get_new (by simp)
  clear h0 h0'
  go_enter Tryd.func31, Tryd.ntmps31
  go_wp2_with fail
  refine (eqStringS_any a0 a0' n0 p0 p0' g0 _ hn0 (HA0.out.below HB0.out) (HC0.out.below HB0.out)).mono ?_
  rintro e w1 ⟨rfl, x0, he0⟩
  have hb1 : Below ((w.alloc (.cells #[.slice a0 n0 p0, .int .i64 v1] 45)).alloc (.cells #[.slice a0' n0 p0', .int .i64 v1] 45)).heap.size ((w.alloc (.cells #[.slice a0 n0 p0, .int .i64 v1] 45)).alloc (.cells #[.slice a0' n0 p0', .int .i64 v1] 45)) w1 := by rw [he0]; exact belowN (Below.refl _ _) _
  clear he0
  have HB1 : Hid (Below w.heap.size w w1) := HB0.out.trans (hb1.mono HB0.out.size)
  have HP1 : Hid (w1.heap[w.heap.size]? = some (.cells #[.slice a0 n0 p0, .int .i64 v1] 45)) := get_below hb1 HP0.out (size_of_get HP0.out)
  have HQ1 : Hid (w1.heap[w.heap.size + 1]? = some (.cells #[.slice a0' n0 p0', .int .i64 v1] 45)) := get_below hb1 HQ0.out (size_of_get HQ0.out)
  clear hb1
  obtain ⟨k0, k1⟩ := cells2_of HP1.out
  obtain ⟨q0, q1⟩ := cells2_of HQ1.out
  go_wp2_with fail
  try clear k0 q0 k1 q1
  go_ret
  exact ⟨rfl, HB1.out⟩
end Go.Proofs.YtgejiiaocgacmaaDoor
