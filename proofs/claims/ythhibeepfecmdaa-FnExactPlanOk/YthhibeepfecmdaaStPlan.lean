/- A struct of slices: laws.szPlan, laws.toPlan, laws.eqPlan. -/
import Derived.Test.YthhibeepfecmdaaNum
import Derived.Test.YthhibeepfecmdaaHeap
import Derived.Test.YthhibeepfecmdaaKeep
import Derived.Test.YthhibeepfecmdaaCellsN
import Derived.Test.YthhibeepfecmdaaSlItem
namespace Go.Proofs.Ythhibeepfecmdaa
open Go.ChangeShapes Go.WideShapes Go.ChangeAt Go.RowKit
set_option linter.unusedVariables false

theorem cellsPlan : (Try.prog.info? 67).map (·.size) = some 2 := by kernel_rfl
set_option maxHeartbeats 2000000 in
theorem szPlanl_any (v0 : Bool) (a1 : Option Addr) (n1 p1 : Nat) (g1_0 : Nat → Int) (g1_1 : Nat → ByteArray) (l : Int) (w : World) (hn1 : n1 ≤ maxLen) (h1 : ItemS w a1 n1 g1_0 g1_1) (hl0 : 0 ≤ l) (hl1 : l ≤ 1048576) :
    Calls Try.prog 43 #[.agg #[.bool v0, .slice a1 n1 p1], .int .i64 l] w fun e w' => ∃ r : Int, (0 ≤ r → n1 ≤ 1048576) ∧ r ≤ 1048576 ∧ e = .returned (.int .i64 r) ∧ Below w.heap.size w w' := by
  have HB0 : Hid (Below w.heap.size w (w.alloc (.cells #[.bool v0, .slice a1 n1 p1] 62))) := (Below.refl _ _).alloc (Nat.le_refl _) _
  have H1_0 : Hid (ItemS (w.alloc (.cells #[.bool v0, .slice a1 n1 p1] 62)) a1 n1 g1_0 g1_1) := h1.alloc _
  have HG0 : Hid ((w.alloc (.cells #[.bool v0, .slice a1 n1 p1] 62)).heap[w.heap.size]? = some (.cells #[.bool v0, .slice a1 n1 p1] 62)) := get_new rfl
  clear h1
  go_enter Try.func43, Try.ntmps43
  go_wp2_with fail
  refine (szItemSl_any a1 n1 p1 g1_0 g1_1 l _ hn1 H1_0.out hl0 hl1).mono ?_
  rintro e w1 ⟨r1, hr1, hs1, rfl, hb1⟩
  have HR1 : Hid _ := hr1
  have HB1 : Hid (Below w.heap.size w w1) := HB0.out.trans (hb1.mono HB0.out.size)
  have HG1 : Hid (w1.heap[w.heap.size]? = some (.cells #[.bool v0, .slice a1 n1 p1] 62)) := get_below hb1 HG0.out (size_of_get HG0.out)
  clear hr1 hb1
  by_cases hneg1 : r1 < 0
  · go_wp2_with fail
    go_ret
    exact ⟨-1, fun h => by omega, by omega, rfl, HB1.out⟩
  have hpos1 : 0 ≤ r1 := by omega
  go_wp2_with fail
  go_ret
  exact ⟨r1, fun h => (HR1.out hpos1).1, hs1, rfl, HB1.out⟩
set_option maxHeartbeats 4000000 in
theorem toPlan_any (v0 : Bool) (a1 : Option Addr) (n1 p1 : Nat) (g1_0 : Nat → Int) (g1_1 : Nat → ByteArray) (w : World) (hn1 : n1 ≤ 1048576) (h1 : ItemS w a1 n1 g1_0 g1_1) :
    Calls Try.prog 45 #[.agg #[.bool v0, .slice a1 n1 p1]] w fun e w' => ∃ b1 : Nat, (w.heap.size ≤ b1 ∧ b1 < w'.heap.size) ∧ e = .returned (.agg #[.bool v0, .slice (some ⟨b1, 0, none⟩) n1 n1]) ∧ (ItemS w' (some ⟨b1, 0, none⟩) n1 g1_0 g1_1) ∧ Below w.heap.size w w' := by
  have HB0 : Hid (Below w.heap.size w (((w.alloc (.cells #[.bool v0, .slice a1 n1 p1] 62)).alloc (.cells #[.bool false, .slice none 0 0] 67)).alloc (.cells #[.bool v0, .slice none 0 0] 67))) := (((Below.refl _ _).alloc (Nat.le_refl _) _).alloc (by simp) _).alloc (by simp; omega) _
  have HA1 : Hid (ItemS w a1 n1 g1_0 g1_1) := h1
  have HP0 : Hid ((((w.alloc (.cells #[.bool v0, .slice a1 n1 p1] 62)).alloc (.cells #[.bool false, .slice none 0 0] 67)).alloc (.cells #[.bool v0, .slice none 0 0] 67)).heap[w.heap.size]? = some (.cells #[.bool v0, .slice a1 n1 p1] 62)) := get_alloc (get_alloc (get_new rfl) (by simp)) (by simp; omega)
  have HR0 : Hid ((((w.alloc (.cells #[.bool v0, .slice a1 n1 p1] 62)).alloc (.cells #[.bool false, .slice none 0 0] 67)).alloc (.cells #[.bool v0, .slice none 0 0] 67)).heap[w.heap.size + 1]? = some (.cells #[.bool false, .slice none 0 0] 67)) := get_alloc (get_new (by simp)) (by simp)
  have HO0 : Hid ((((w.alloc (.cells #[.bool v0, .slice a1 n1 p1] 62)).alloc (.cells #[.bool false, .slice none 0 0] 67)).alloc (.cells #[.bool v0, .slice none 0 0] 67)).heap[w.heap.size + 2]? = some (.cells #[.bool v0, .slice none 0 0] 67)) := get_new (by simp)
  clear h1
  go_enter Try.func45, Try.ntmps45
  go_wp2_with fail
  refine (toItemS_ex a1 n1 p1 g1_0 g1_1 _ hn1 (HA1.out.below HB0.out)).mono ?_
  rintro e w1 ⟨b1, hlo1, hhi1, rfl, ht1, hb1⟩
  have HB1 : Hid (Below w.heap.size w w1) := HB0.out.trans (hb1.mono HB0.out.size)
  have hPx1 : w1.heap[w.heap.size]? = some (.cells #[.bool v0, .slice a1 n1 p1] 62) := get_below hb1 HP0.out (size_of_get HP0.out)
  have hRx1 : w1.heap[w.heap.size + 1]? = some (.cells #[.bool false, .slice none 0 0] 67) := get_below hb1 HR0.out (size_of_get HR0.out)
  have hOx1 : w1.heap[w.heap.size + 2]? = some (.cells #[.bool v0, .slice none 0 0] 67) := get_below hb1 HO0.out (size_of_get HO0.out)
  have hN1_1 : ItemS w1 (some ⟨b1, 0, none⟩) n1 g1_0 g1_1 := ht1
  have hgr1 : w.heap.size + 3 ≤ w1.heap.size := by have := hb1.size; simp at this; omega
  have hbl1 : w.heap.size + 3 ≤ b1 := by have := hlo1; simp at this; omega
  have HRz : Hid _ := hRx1
  have HOz : Hid _ := hOx1
  have HNz1 : Hid (ItemS w1 (some ⟨b1, 0, none⟩) n1 g1_0 g1_1) := hN1_1
  obtain ⟨k0, k1⟩ := cells2_of hPx1
  obtain ⟨q0, q1⟩ := cells2_of hOx1
  obtain ⟨z0, z1⟩ := cells2_of hRx1
  have fz : ∀ j, w1.frozen? ⟨w.heap.size + 2, j, none⟩ = false := fun j => frozen_get hOx1
  have fr : ∀ j, w1.frozen? ⟨w.heap.size + 1, j, none⟩ = false := fun j => frozen_get hRx1
  clear hb1 ht1 hPx1 hRx1 hOx1 hN1_1
  go_wp2_with fail
  refine bodyPost_ret (v := .agg #[.bool v0, .slice (some ⟨b1, 0, none⟩) n1 n1]) (results_cell_row Try.results45 _ _ (w.heap.size + 1) 67 #[.bool v0, .slice (some ⟨b1, 0, none⟩) n1 n1] (0, 0) _ rfl ?_ Try.underlying67 rfl cellsPlan) rfl ⟨b1, ⟨by omega, by simpa [World.setCell] using hhi1⟩, rfl, ?_, ?_⟩
  · exact get_set (get_set (get_set_ne (HRz.out) (by omega)) rfl) rfl
  · exact (((HNz1.out).set (by omega)).set (by omega)).set (by omega)
  · exact belowS (belowS (belowS (HB1.out) (by omega)) (by omega)) (by omega)
set_option maxHeartbeats 4000000 in
theorem eqPlan_any (v0 : Bool) (a1 : Option Addr) (n1 p1 : Nat) (g1_0 : Nat → Int) (g1_1 : Nat → ByteArray) (a1' : Option Addr) (p1' : Nat) (w : World) (hn1 : n1 ≤ maxLen) (h1 : ItemS w a1 n1 g1_0 g1_1) (h1' : ItemS w a1' n1 g1_0 g1_1) :
    Calls Try.prog 47 #[.agg #[.bool v0, .slice a1 n1 p1], .agg #[.bool v0, .slice a1' n1 p1']] w fun e w' => e = .returned (.bool true) ∧ Below w.heap.size w w' := by
  have HB0 : Hid (Below w.heap.size w ((w.alloc (.cells #[.bool v0, .slice a1 n1 p1] 67)).alloc (.cells #[.bool v0, .slice a1' n1 p1'] 67))) := ((Below.refl _ _).alloc (Nat.le_refl _) _).alloc (by simp) _
  have HA1 : Hid (ItemS w a1 n1 g1_0 g1_1) := h1
  have HC1 : Hid (ItemS w a1' n1 g1_0 g1_1) := h1'
  have HP0 : Hid (((w.alloc (.cells #[.bool v0, .slice a1 n1 p1] 67)).alloc (.cells #[.bool v0, .slice a1' n1 p1'] 67)).heap[w.heap.size]? = some (.cells #[.bool v0, .slice a1 n1 p1] 67)) := get_alloc (get_new rfl) (by simp)
  have HQ0 : Hid (((w.alloc (.cells #[.bool v0, .slice a1 n1 p1] 67)).alloc (.cells #[.bool v0, .slice a1' n1 p1'] 67)).heap[w.heap.size + 1]? = some (.cells #[.bool v0, .slice a1' n1 p1'] 67)) := get_new (by simp)
  clear h1 h1'
  go_enter Try.func47, Try.ntmps47
  go_wp2_with fail
  refine (eqItemS_any a1 a1' n1 p1 p1' g1_0 g1_1 _ hn1 (HA1.out.below HB0.out) (HC1.out.below HB0.out)).mono ?_
  rintro e w1 ⟨rfl, hb1⟩
  have HB1 : Hid (Below w.heap.size w w1) := HB0.out.trans (hb1.mono HB0.out.size)
  have HP1 : Hid (w1.heap[w.heap.size]? = some (.cells #[.bool v0, .slice a1 n1 p1] 67)) := get_below hb1 HP0.out (size_of_get HP0.out)
  have HQ1 : Hid (w1.heap[w.heap.size + 1]? = some (.cells #[.bool v0, .slice a1' n1 p1'] 67)) := get_below hb1 HQ0.out (size_of_get HQ0.out)
  clear hb1
  go_wp2_with fail
  go_ret
  exact ⟨rfl, HB1.out⟩
end Go.Proofs.Ythhibeepfecmdaa
