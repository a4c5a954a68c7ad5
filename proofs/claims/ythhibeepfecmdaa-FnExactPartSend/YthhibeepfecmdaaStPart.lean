/- A struct of slices: laws.szPart, laws.toPart, laws.eqPart. -/
import Derived.Test.YthhibeepfecmdaaNum
import Derived.Test.YthhibeepfecmdaaHeap
import Derived.Test.YthhibeepfecmdaaKeep
import Derived.Test.YthhibeepfecmdaaCellsN
import Derived.Test.YthhibeepfecmdaaInS
import Derived.Test.YthhibeepfecmdaaSlOp
namespace Go.Proofs.Ythhibeepfecmdaa
open Go.ChangeShapes Go.WideShapes Go.ChangeAt Go.RowKit
set_option linter.unusedVariables false

theorem cellsPart : (Try.prog.info? 84).map (·.size) = some 5 := by kernel_rfl
set_option maxHeartbeats 2000000 in
theorem szPartl_any (a0 : Option Addr) (n0 p0 : Nat) (g0_0 : Nat → Int) (g0_1 : Nat → Int) (g0_2 : Nat → Int) (a1 : Option Addr) (n1 p1 : Nat) (g1 : Nat → Int) (v2 : Int) (v3 : Bool) (a4 : Option Addr) (n4 p4 : Nat) (g4 : Nat → Int) (l : Int) (w : World) (hn0 : n0 ≤ maxLen) (hn1 : n1 ≤ maxLen) (hn4 : n4 ≤ maxLen) (h0 : OpS w a0 n0 g0_0 g0_1 g0_2) (h1 : IntS w a1 n1 g1) (h4 : IntS w a4 n4 g4) (hl0 : 0 ≤ l) (hl1 : l ≤ 1048576) :
    Calls Try.prog 53 #[.agg #[.slice a0 n0 p0, .slice a1 n1 p1, .int .i64 v2, .bool v3, .slice a4 n4 p4], .int .i64 l] w fun e w' => ∃ r : Int, (0 ≤ r → n0 ≤ 1048576 ∧ n1 ≤ 1048576 ∧ n4 ≤ 1048576) ∧ r ≤ 1048576 ∧ e = .returned (.int .i64 r) ∧ Below w.heap.size w w' := by
  have HB0 : Hid (Below w.heap.size w (w.alloc (.cells #[.slice a0 n0 p0, .slice a1 n1 p1, .int .i64 v2, .bool v3, .slice a4 n4 p4] 80))) := (Below.refl _ _).alloc (Nat.le_refl _) _
  have H0_0 : Hid (OpS (w.alloc (.cells #[.slice a0 n0 p0, .slice a1 n1 p1, .int .i64 v2, .bool v3, .slice a4 n4 p4] 80)) a0 n0 g0_0 g0_1 g0_2) := h0.alloc _
  have H1_0 : Hid (IntS (w.alloc (.cells #[.slice a0 n0 p0, .slice a1 n1 p1, .int .i64 v2, .bool v3, .slice a4 n4 p4] 80)) a1 n1 g1) := h1.alloc _
  have H4_0 : Hid (IntS (w.alloc (.cells #[.slice a0 n0 p0, .slice a1 n1 p1, .int .i64 v2, .bool v3, .slice a4 n4 p4] 80)) a4 n4 g4) := h4.alloc _
  have HG0 : Hid ((w.alloc (.cells #[.slice a0 n0 p0, .slice a1 n1 p1, .int .i64 v2, .bool v3, .slice a4 n4 p4] 80)).heap[w.heap.size]? = some (.cells #[.slice a0 n0 p0, .slice a1 n1 p1, .int .i64 v2, .bool v3, .slice a4 n4 p4] 80)) := get_new rfl
  clear h0 h1 h4
  go_enter Try.func53, Try.ntmps53
  go_wp2_with fail
  refine (szOpSl_any a0 n0 p0 l _ hn0 hl0 hl1).mono ?_
  rintro e w1 ⟨r0, hr0, hs0, rfl, he1⟩
  have hb1 : Below (w.alloc (.cells #[.slice a0 n0 p0, .slice a1 n1 p1, .int .i64 v2, .bool v3, .slice a4 n4 p4] 80)).heap.size (w.alloc (.cells #[.slice a0 n0 p0, .slice a1 n1 p1, .int .i64 v2, .bool v3, .slice a4 n4 p4] 80)) w1 := by rw [he1]; exact Below.refl _ _
  clear he1
  have HR0 : Hid _ := hr0
  have HB1 : Hid (Below w.heap.size w w1) := HB0.out.trans (hb1.mono HB0.out.size)
  have H1_1 : Hid (IntS w1 a1 n1 g1) := H1_0.out.below hb1
  have H4_1 : Hid (IntS w1 a4 n4 g4) := H4_0.out.below hb1
  have HG1 : Hid (w1.heap[w.heap.size]? = some (.cells #[.slice a0 n0 p0, .slice a1 n1 p1, .int .i64 v2, .bool v3, .slice a4 n4 p4] 80)) := get_below hb1 HG0.out (size_of_get HG0.out)
  clear hr0 hb1
  obtain ⟨k0, k1, k2, k3, k4⟩ := cells5_of HG1.out
  by_cases hneg0 : r0 < 0
  · go_wp2_with fail
    go_ret
    exact ⟨-1, fun h => by omega, by omega, rfl, HB1.out⟩
  have hpos0 : 0 ≤ r0 := by omega
  go_wp2_with fail
  clear k0 k1 k2 k3 k4
  refine (szIntS_any a1 n1 p1 r0 _ hn1 hpos0 hs0).mono ?_
  rintro e w2 ⟨r1, hr1, hs1, rfl, he2⟩
  have hb2 : Below w1.heap.size w1 w2 := by rw [he2]; exact Below.refl _ _
  clear he2
  have HR1 : Hid _ := hr1
  have HB2 : Hid (Below w.heap.size w w2) := HB1.out.trans (hb2.mono HB1.out.size)
  have H4_2 : Hid (IntS w2 a4 n4 g4) := H4_1.out.below hb2
  have HG2 : Hid (w2.heap[w.heap.size]? = some (.cells #[.slice a0 n0 p0, .slice a1 n1 p1, .int .i64 v2, .bool v3, .slice a4 n4 p4] 80)) := get_below hb2 HG1.out (size_of_get HG1.out)
  clear hr1 hb2
  obtain ⟨k0, k1, k2, k3, k4⟩ := cells5_of HG2.out
  by_cases hneg1 : r1 < 0
  · go_wp2_with fail
    go_ret
    exact ⟨-1, fun h => by omega, by omega, rfl, HB2.out⟩
  have hpos1 : 0 ≤ r1 := by omega
  go_wp2_with fail
  clear k0 k1 k2 k3 k4
  refine (szIntS_any a4 n4 p4 r1 _ hn4 hpos1 hs1).mono ?_
  rintro e w3 ⟨r4, hr4, hs4, rfl, he3⟩
  have hb3 : Below w2.heap.size w2 w3 := by rw [he3]; exact Below.refl _ _
  clear he3
  have HR4 : Hid _ := hr4
  have HB3 : Hid (Below w.heap.size w w3) := HB2.out.trans (hb3.mono HB2.out.size)
  have HG3 : Hid (w3.heap[w.heap.size]? = some (.cells #[.slice a0 n0 p0, .slice a1 n1 p1, .int .i64 v2, .bool v3, .slice a4 n4 p4] 80)) := get_below hb3 HG2.out (size_of_get HG2.out)
  clear hr4 hb3
  by_cases hneg4 : r4 < 0
  · go_wp2_with fail
    go_ret
    exact ⟨-1, fun h => by omega, by omega, rfl, HB3.out⟩
  have hpos4 : 0 ≤ r4 := by omega
  go_wp2_with fail
  go_ret
  exact ⟨r4, fun h => ⟨HR0.out hpos0, HR1.out hpos1, HR4.out hpos4⟩, hs4, rfl, HB3.out⟩
set_option maxHeartbeats 4000000 in
theorem toPart_anyf (a0 : Option Addr) (n0 p0 : Nat) (g0_0 : Nat → Int) (g0_1 : Nat → Int) (g0_2 : Nat → Int) (a1 : Option Addr) (n1 p1 : Nat) (g1 : Nat → Int) (v2 : Int) (v3 : Bool) (a4 : Option Addr) (n4 p4 : Nat) (g4 : Nat → Int) (w : World) (hn0 : n0 ≤ 1048576) (hn1 : n1 ≤ 1048576) (hn4 : n4 ≤ 1048576) (h0 : OpS w a0 n0 g0_0 g0_1 g0_2) (h1 : IntS w a1 n1 g1) (h4 : IntS w a4 n4 g4) :
    Calls Try.prog 55 #[.agg #[.slice a0 n0 p0, .slice a1 n1 p1, .int .i64 v2, .bool v3, .slice a4 n4 p4]] w fun e w' => ∃ b0 b1 b4 : Nat, (w.heap.size ≤ b0 ∧ b0 < b1 ∧ b1 < b4 ∧ b4 < w'.heap.size) ∧ e = .returned (.agg #[.slice (some ⟨b0, 0, none⟩) n0 n0, .slice (some ⟨b1, 0, none⟩) n1 n1, .int .i64 v2, .bool v3, .slice (some ⟨b4, 0, none⟩) n4 n4]) ∧ (OpS w' (some ⟨b0, 0, none⟩) n0 g0_0 g0_1 g0_2 ∧ IntS w' (some ⟨b1, 0, none⟩) n1 g1 ∧ IntS w' (some ⟨b4, 0, none⟩) n4 g4 ∧ (∀ q, w'.frozen? ⟨b0, q, none⟩ = false) ∧ (∀ q, w'.frozen? ⟨b1, q, none⟩ = false) ∧ (∀ q, w'.frozen? ⟨b4, q, none⟩ = false)) ∧ Below w.heap.size w w' := by
  have HB0 : Hid (Below w.heap.size w (((w.alloc (.cells #[.slice a0 n0 p0, .slice a1 n1 p1, .int .i64 v2, .bool v3, .slice a4 n4 p4] 80)).alloc (.cells #[.slice none 0 0, .slice none 0 0, .int .i64 0, .bool false, .slice none 0 0] 84)).alloc (.cells #[.slice none 0 0, .slice none 0 0, .int .i64 0, .bool false, .slice none 0 0] 84))) := (((Below.refl _ _).alloc (Nat.le_refl _) _).alloc (by simp) _).alloc (by simp; omega) _
  have HA0 : Hid (OpS w a0 n0 g0_0 g0_1 g0_2) := h0
  have HA1 : Hid (IntS w a1 n1 g1) := h1
  have HA4 : Hid (IntS w a4 n4 g4) := h4
  have HP0 : Hid ((((w.alloc (.cells #[.slice a0 n0 p0, .slice a1 n1 p1, .int .i64 v2, .bool v3, .slice a4 n4 p4] 80)).alloc (.cells #[.slice none 0 0, .slice none 0 0, .int .i64 0, .bool false, .slice none 0 0] 84)).alloc (.cells #[.slice none 0 0, .slice none 0 0, .int .i64 0, .bool false, .slice none 0 0] 84)).heap[w.heap.size]? = some (.cells #[.slice a0 n0 p0, .slice a1 n1 p1, .int .i64 v2, .bool v3, .slice a4 n4 p4] 80)) := get_alloc (get_alloc (get_new rfl) (by simp)) (by simp; omega)
  have HR0 : Hid ((((w.alloc (.cells #[.slice a0 n0 p0, .slice a1 n1 p1, .int .i64 v2, .bool v3, .slice a4 n4 p4] 80)).alloc (.cells #[.slice none 0 0, .slice none 0 0, .int .i64 0, .bool false, .slice none 0 0] 84)).alloc (.cells #[.slice none 0 0, .slice none 0 0, .int .i64 0, .bool false, .slice none 0 0] 84)).heap[w.heap.size + 1]? = some (.cells #[.slice none 0 0, .slice none 0 0, .int .i64 0, .bool false, .slice none 0 0] 84)) := get_alloc (get_new (by simp)) (by simp)
  have HO0 : Hid ((((w.alloc (.cells #[.slice a0 n0 p0, .slice a1 n1 p1, .int .i64 v2, .bool v3, .slice a4 n4 p4] 80)).alloc (.cells #[.slice none 0 0, .slice none 0 0, .int .i64 0, .bool false, .slice none 0 0] 84)).alloc (.cells #[.slice none 0 0, .slice none 0 0, .int .i64 0, .bool false, .slice none 0 0] 84)).heap[w.heap.size + 2]? = some (.cells #[.slice none 0 0, .slice none 0 0, .int .i64 0, .bool false, .slice none 0 0] 84)) := get_new (by simp)
  clear h0 h1 h4
  go_enter Try.func55, Try.ntmps55
  go_wp2_with fail
  refine (toOpS_exf a0 n0 p0 g0_0 g0_1 g0_2 _ hn0 (HA0.out.below HB0.out)).mono ?_
  rintro e w1 ⟨b0, hlo0, hhi0, rfl, ht0, hb1, hz0⟩
  have HB1 : Hid (Below w.heap.size w w1) := HB0.out.trans (hb1.mono HB0.out.size)
  have hPx1 : w1.heap[w.heap.size]? = some (.cells #[.slice a0 n0 p0, .slice a1 n1 p1, .int .i64 v2, .bool v3, .slice a4 n4 p4] 80) := get_below hb1 HP0.out (size_of_get HP0.out)
  have hRx1 : w1.heap[w.heap.size + 1]? = some (.cells #[.slice none 0 0, .slice none 0 0, .int .i64 0, .bool false, .slice none 0 0] 84) := get_below hb1 HR0.out (size_of_get HR0.out)
  have hOx1 : w1.heap[w.heap.size + 2]? = some (.cells #[.slice none 0 0, .slice none 0 0, .int .i64 0, .bool false, .slice none 0 0] 84) := get_below hb1 HO0.out (size_of_get HO0.out)
  have hZ0_1 : ∀ q, w1.frozen? ⟨b0, q, none⟩ = false := hz0
  have hN0_1 : OpS w1 (some ⟨b0, 0, none⟩) n0 g0_0 g0_1 g0_2 := ht0
  have hgr1 : w.heap.size + 3 ≤ w1.heap.size := by have := hb1.size; simp at this; omega
  have hbl0 : w.heap.size + 3 ≤ b0 := by have := hlo0; simp at this; omega
  have HU1 : Hid (Below w.heap.size w (w1.setCell ⟨w.heap.size + 2, 0, none⟩ (.slice (some ⟨b0, 0, none⟩) n0 n0))) := belowS (HB1.out) (by omega)
  have HP1 : Hid ((w1.setCell ⟨w.heap.size + 2, 0, none⟩ (.slice (some ⟨b0, 0, none⟩) n0 n0)).heap[w.heap.size]? = some (.cells #[.slice a0 n0 p0, .slice a1 n1 p1, .int .i64 v2, .bool v3, .slice a4 n4 p4] 80)) := get_set_ne (hPx1) (by omega)
  have HR1 : Hid ((w1.setCell ⟨w.heap.size + 2, 0, none⟩ (.slice (some ⟨b0, 0, none⟩) n0 n0)).heap[w.heap.size + 1]? = some (.cells #[.slice none 0 0, .slice none 0 0, .int .i64 0, .bool false, .slice none 0 0] 84)) := get_set_ne (hRx1) (by omega)
  have HO1 : Hid ((w1.setCell ⟨w.heap.size + 2, 0, none⟩ (.slice (some ⟨b0, 0, none⟩) n0 n0)).heap[w.heap.size + 2]? = some (.cells #[.slice (some ⟨b0, 0, none⟩) n0 n0, .slice none 0 0, .int .i64 0, .bool false, .slice none 0 0] 84)) := get_set (hOx1) rfl
  have HZ0_1 : Hid (∀ q, (w1.setCell ⟨w.heap.size + 2, 0, none⟩ (.slice (some ⟨b0, 0, none⟩) n0 n0)).frozen? ⟨b0, q, none⟩ = false) := fun q => by simp only [World.frozen?_setCell]; exact hZ0_1 q
  have HN0_1 : Hid (OpS (w1.setCell ⟨w.heap.size + 2, 0, none⟩ (.slice (some ⟨b0, 0, none⟩) n0 n0)) (some ⟨b0, 0, none⟩) n0 g0_0 g0_1 g0_2) := (hN0_1).set (by omega)
  obtain ⟨k0, k1, k2, k3, k4⟩ := cells5_of hPx1
  obtain ⟨q0, q1, q2, q3, q4⟩ := cells5_of hOx1
  have fz : ∀ j, w1.frozen? ⟨w.heap.size + 2, j, none⟩ = false := fun j => frozen_get hOx1
  clear hb1 ht0 hz0 hPx1 hRx1 hOx1 hN0_1 hZ0_1
  go_wp2_with fail
  clear k0 q0 k1 q1 k2 q2 k3 q3 k4 q4 fz
  refine (toIntS_exf a1 n1 p1 g1 _ hn1 (HA1.out.below HU1.out)).mono ?_
  rintro e w2 ⟨b1, hlo1, hhi1, rfl, ht1, hb2, hz1⟩
  have HB2 : Hid (Below w.heap.size w w2) := HU1.out.trans (hb2.mono HU1.out.size)
  have hPx2 : w2.heap[w.heap.size]? = some (.cells #[.slice a0 n0 p0, .slice a1 n1 p1, .int .i64 v2, .bool v3, .slice a4 n4 p4] 80) := get_below hb2 HP1.out (size_of_get HP1.out)
  have hRx2 : w2.heap[w.heap.size + 1]? = some (.cells #[.slice none 0 0, .slice none 0 0, .int .i64 0, .bool false, .slice none 0 0] 84) := get_below hb2 HR1.out (size_of_get HR1.out)
  have hOx2 : w2.heap[w.heap.size + 2]? = some (.cells #[.slice (some ⟨b0, 0, none⟩) n0 n0, .slice none 0 0, .int .i64 0, .bool false, .slice none 0 0] 84) := get_below hb2 HO1.out (size_of_get HO1.out)
  have hN0_2 : OpS w2 (some ⟨b0, 0, none⟩) n0 g0_0 g0_1 g0_2 := HN0_1.out.below hb2
  have hZ0_2 : ∀ q, w2.frozen? ⟨b0, q, none⟩ = false := fun q => (hb2.frozen (p := ⟨b0, q, none⟩) (by simp [World.setCell]; omega)).trans (HZ0_1.out q)
  have hZ1_2 : ∀ q, w2.frozen? ⟨b1, q, none⟩ = false := hz1
  have hN1_2 : IntS w2 (some ⟨b1, 0, none⟩) n1 g1 := ht1
  have hgr2 : w.heap.size + 3 ≤ w2.heap.size := by have := hb2.size; simp [World.setCell] at this; omega
  have hbl1 : b0 < b1 := by have := hlo1; simp [World.setCell] at this; omega
  have HU2 : Hid (Below w.heap.size w (((w2.setCell ⟨w.heap.size + 2, 1, none⟩ (.slice (some ⟨b1, 0, none⟩) n1 n1)).setCell ⟨w.heap.size + 2, 2, none⟩ (.int .i64 v2)).setCell ⟨w.heap.size + 2, 3, none⟩ (.bool v3))) := belowS (belowS (belowS (HB2.out) (by omega)) (by omega)) (by omega)
  have HP2 : Hid ((((w2.setCell ⟨w.heap.size + 2, 1, none⟩ (.slice (some ⟨b1, 0, none⟩) n1 n1)).setCell ⟨w.heap.size + 2, 2, none⟩ (.int .i64 v2)).setCell ⟨w.heap.size + 2, 3, none⟩ (.bool v3)).heap[w.heap.size]? = some (.cells #[.slice a0 n0 p0, .slice a1 n1 p1, .int .i64 v2, .bool v3, .slice a4 n4 p4] 80)) := get_set_ne (get_set_ne (get_set_ne (hPx2) (by omega)) (by omega)) (by omega)
  have HR2 : Hid ((((w2.setCell ⟨w.heap.size + 2, 1, none⟩ (.slice (some ⟨b1, 0, none⟩) n1 n1)).setCell ⟨w.heap.size + 2, 2, none⟩ (.int .i64 v2)).setCell ⟨w.heap.size + 2, 3, none⟩ (.bool v3)).heap[w.heap.size + 1]? = some (.cells #[.slice none 0 0, .slice none 0 0, .int .i64 0, .bool false, .slice none 0 0] 84)) := get_set_ne (get_set_ne (get_set_ne (hRx2) (by omega)) (by omega)) (by omega)
  have HO2 : Hid ((((w2.setCell ⟨w.heap.size + 2, 1, none⟩ (.slice (some ⟨b1, 0, none⟩) n1 n1)).setCell ⟨w.heap.size + 2, 2, none⟩ (.int .i64 v2)).setCell ⟨w.heap.size + 2, 3, none⟩ (.bool v3)).heap[w.heap.size + 2]? = some (.cells #[.slice (some ⟨b0, 0, none⟩) n0 n0, .slice (some ⟨b1, 0, none⟩) n1 n1, .int .i64 v2, .bool v3, .slice none 0 0] 84)) := get_set (get_set (get_set (hOx2) rfl) rfl) rfl
  have HZ0_2 : Hid (∀ q, (((w2.setCell ⟨w.heap.size + 2, 1, none⟩ (.slice (some ⟨b1, 0, none⟩) n1 n1)).setCell ⟨w.heap.size + 2, 2, none⟩ (.int .i64 v2)).setCell ⟨w.heap.size + 2, 3, none⟩ (.bool v3)).frozen? ⟨b0, q, none⟩ = false) := fun q => by simp only [World.frozen?_setCell]; exact hZ0_2 q
  have HZ1_2 : Hid (∀ q, (((w2.setCell ⟨w.heap.size + 2, 1, none⟩ (.slice (some ⟨b1, 0, none⟩) n1 n1)).setCell ⟨w.heap.size + 2, 2, none⟩ (.int .i64 v2)).setCell ⟨w.heap.size + 2, 3, none⟩ (.bool v3)).frozen? ⟨b1, q, none⟩ = false) := fun q => by simp only [World.frozen?_setCell]; exact hZ1_2 q
  have HN0_2 : Hid (OpS (((w2.setCell ⟨w.heap.size + 2, 1, none⟩ (.slice (some ⟨b1, 0, none⟩) n1 n1)).setCell ⟨w.heap.size + 2, 2, none⟩ (.int .i64 v2)).setCell ⟨w.heap.size + 2, 3, none⟩ (.bool v3)) (some ⟨b0, 0, none⟩) n0 g0_0 g0_1 g0_2) := (((hN0_2).set (by omega)).set (by omega)).set (by omega)
  have HN1_2 : Hid (IntS (((w2.setCell ⟨w.heap.size + 2, 1, none⟩ (.slice (some ⟨b1, 0, none⟩) n1 n1)).setCell ⟨w.heap.size + 2, 2, none⟩ (.int .i64 v2)).setCell ⟨w.heap.size + 2, 3, none⟩ (.bool v3)) (some ⟨b1, 0, none⟩) n1 g1) := (((hN1_2).set (by omega)).set (by omega)).set (by omega)
  obtain ⟨k0, k1, k2, k3, k4⟩ := cells5_of hPx2
  obtain ⟨q0, q1, q2, q3, q4⟩ := cells5_of hOx2
  have fz : ∀ j, w2.frozen? ⟨w.heap.size + 2, j, none⟩ = false := fun j => frozen_get hOx2
  clear hb2 ht1 hz1 hPx2 hRx2 hOx2 hN0_2 hZ0_2 hN1_2 hZ1_2
  go_wp2_with fail
  clear k0 q0 k1 q1 k2 q2 k3 q3 k4 q4 fz
  refine (toIntS_exf a4 n4 p4 g4 _ hn4 (HA4.out.below HU2.out)).mono ?_
  rintro e w3 ⟨b4, hlo4, hhi4, rfl, ht4, hb3, hz4⟩
  have HB3 : Hid (Below w.heap.size w w3) := HU2.out.trans (hb3.mono HU2.out.size)
  have hPx3 : w3.heap[w.heap.size]? = some (.cells #[.slice a0 n0 p0, .slice a1 n1 p1, .int .i64 v2, .bool v3, .slice a4 n4 p4] 80) := get_below hb3 HP2.out (size_of_get HP2.out)
  have hRx3 : w3.heap[w.heap.size + 1]? = some (.cells #[.slice none 0 0, .slice none 0 0, .int .i64 0, .bool false, .slice none 0 0] 84) := get_below hb3 HR2.out (size_of_get HR2.out)
  have hOx3 : w3.heap[w.heap.size + 2]? = some (.cells #[.slice (some ⟨b0, 0, none⟩) n0 n0, .slice (some ⟨b1, 0, none⟩) n1 n1, .int .i64 v2, .bool v3, .slice none 0 0] 84) := get_below hb3 HO2.out (size_of_get HO2.out)
  have hN0_3 : OpS w3 (some ⟨b0, 0, none⟩) n0 g0_0 g0_1 g0_2 := HN0_2.out.below hb3
  have hN1_3 : IntS w3 (some ⟨b1, 0, none⟩) n1 g1 := HN1_2.out.below hb3
  have hZ0_3 : ∀ q, w3.frozen? ⟨b0, q, none⟩ = false := fun q => (hb3.frozen (p := ⟨b0, q, none⟩) (by simp [World.setCell]; omega)).trans (HZ0_2.out q)
  have hZ1_3 : ∀ q, w3.frozen? ⟨b1, q, none⟩ = false := fun q => (hb3.frozen (p := ⟨b1, q, none⟩) (by simp [World.setCell]; omega)).trans (HZ1_2.out q)
  have hZ4_3 : ∀ q, w3.frozen? ⟨b4, q, none⟩ = false := hz4
  have hN4_3 : IntS w3 (some ⟨b4, 0, none⟩) n4 g4 := ht4
  have hgr3 : w.heap.size + 3 ≤ w3.heap.size := by have := hb3.size; simp [World.setCell] at this; omega
  have hbl4 : b1 < b4 := by have := hlo4; simp [World.setCell] at this; omega
  have HRz : Hid _ := hRx3
  have HOz : Hid _ := hOx3
  have HZz0 : Hid (∀ q, w3.frozen? ⟨b0, q, none⟩ = false) := hZ0_3
  have HZz1 : Hid (∀ q, w3.frozen? ⟨b1, q, none⟩ = false) := hZ1_3
  have HZz4 : Hid (∀ q, w3.frozen? ⟨b4, q, none⟩ = false) := hZ4_3
  have HNz0 : Hid (OpS w3 (some ⟨b0, 0, none⟩) n0 g0_0 g0_1 g0_2) := hN0_3
  have HNz1 : Hid (IntS w3 (some ⟨b1, 0, none⟩) n1 g1) := hN1_3
  have HNz4 : Hid (IntS w3 (some ⟨b4, 0, none⟩) n4 g4) := hN4_3
  obtain ⟨k0, k1, k2, k3, k4⟩ := cells5_of hPx3
  obtain ⟨q0, q1, q2, q3, q4⟩ := cells5_of hOx3
  obtain ⟨z0, z1, z2, z3, z4⟩ := cells5_of hRx3
  have fz : ∀ j, w3.frozen? ⟨w.heap.size + 2, j, none⟩ = false := fun j => frozen_get hOx3
  have fr : ∀ j, w3.frozen? ⟨w.heap.size + 1, j, none⟩ = false := fun j => frozen_get hRx3
  clear hb3 ht4 hz4 hPx3 hRx3 hOx3 hN0_3 hZ0_3 hN1_3 hZ1_3 hN4_3 hZ4_3
  go_wp2_with fail
  refine bodyPost_ret (v := .agg #[.slice (some ⟨b0, 0, none⟩) n0 n0, .slice (some ⟨b1, 0, none⟩) n1 n1, .int .i64 v2, .bool v3, .slice (some ⟨b4, 0, none⟩) n4 n4]) (results_cell_row Try.results55 _ _ (w.heap.size + 1) 84 #[.slice (some ⟨b0, 0, none⟩) n0 n0, .slice (some ⟨b1, 0, none⟩) n1 n1, .int .i64 v2, .bool v3, .slice (some ⟨b4, 0, none⟩) n4 n4] (0, 0) _ rfl ?_ Try.underlying84 rfl cellsPart) rfl ⟨b0, b1, b4, ⟨by omega, by omega, by omega, by simpa [World.setCell] using hhi4⟩, rfl, ⟨?_, ?_, ?_, ?_, ?_, ?_⟩, ?_⟩
  · exact get_set (get_set (get_set (get_set (get_set (get_set_ne (HRz.out) (by omega)) rfl) rfl) rfl) rfl) rfl
  · exact ((((((HNz0.out).set (by omega)).set (by omega)).set (by omega)).set (by omega)).set (by omega)).set (by omega)
  · exact ((((((HNz1.out).set (by omega)).set (by omega)).set (by omega)).set (by omega)).set (by omega)).set (by omega)
  · exact ((((((HNz4.out).set (by omega)).set (by omega)).set (by omega)).set (by omega)).set (by omega)).set (by omega)
  · intro q; simp only [World.frozen?_setCell]; exact HZz0.out q
  · intro q; simp only [World.frozen?_setCell]; exact HZz1.out q
  · intro q; simp only [World.frozen?_setCell]; exact HZz4.out q
  · exact belowS (belowS (belowS (belowS (belowS (belowS (HB3.out) (by omega)) (by omega)) (by omega)) (by omega)) (by omega)) (by omega)
theorem toPart_any (a0 : Option Addr) (n0 p0 : Nat) (g0_0 : Nat → Int) (g0_1 : Nat → Int) (g0_2 : Nat → Int) (a1 : Option Addr) (n1 p1 : Nat) (g1 : Nat → Int) (v2 : Int) (v3 : Bool) (a4 : Option Addr) (n4 p4 : Nat) (g4 : Nat → Int) (w : World) (hn0 : n0 ≤ 1048576) (hn1 : n1 ≤ 1048576) (hn4 : n4 ≤ 1048576) (h0 : OpS w a0 n0 g0_0 g0_1 g0_2) (h1 : IntS w a1 n1 g1) (h4 : IntS w a4 n4 g4) :
    Calls Try.prog 55 #[.agg #[.slice a0 n0 p0, .slice a1 n1 p1, .int .i64 v2, .bool v3, .slice a4 n4 p4]] w fun e w' => ∃ b0 b1 b4 : Nat, (w.heap.size ≤ b0 ∧ b0 < b1 ∧ b1 < b4 ∧ b4 < w'.heap.size) ∧ e = .returned (.agg #[.slice (some ⟨b0, 0, none⟩) n0 n0, .slice (some ⟨b1, 0, none⟩) n1 n1, .int .i64 v2, .bool v3, .slice (some ⟨b4, 0, none⟩) n4 n4]) ∧ (OpS w' (some ⟨b0, 0, none⟩) n0 g0_0 g0_1 g0_2 ∧ IntS w' (some ⟨b1, 0, none⟩) n1 g1 ∧ IntS w' (some ⟨b4, 0, none⟩) n4 g4) ∧ Below w.heap.size w w' :=
  (toPart_anyf a0 n0 p0 g0_0 g0_1 g0_2 a1 n1 p1 g1 v2 v3 a4 n4 p4 g4 w hn0 hn1 hn4 h0 h1 h4).mono fun e w' ⟨b0, b1, b4, ho, he, ⟨p0, p1, p4, _⟩, hb⟩ => ⟨b0, b1, b4, ho, he, ⟨p0, p1, p4⟩, hb⟩
set_option maxHeartbeats 4000000 in
theorem eqPart_any (a0 : Option Addr) (n0 p0 : Nat) (g0_0 : Nat → Int) (g0_1 : Nat → Int) (g0_2 : Nat → Int) (a1 : Option Addr) (n1 p1 : Nat) (g1 : Nat → Int) (v2 : Int) (v3 : Bool) (a4 : Option Addr) (n4 p4 : Nat) (g4 : Nat → Int) (a0' : Option Addr) (p0' : Nat) (a1' : Option Addr) (p1' : Nat) (a4' : Option Addr) (p4' : Nat) (w : World) (hn0 : n0 ≤ maxLen) (hn1 : n1 ≤ maxLen) (hn4 : n4 ≤ maxLen) (h0 : OpS w a0 n0 g0_0 g0_1 g0_2) (h1 : IntS w a1 n1 g1) (h4 : IntS w a4 n4 g4) (h0' : OpS w a0' n0 g0_0 g0_1 g0_2) (h1' : IntS w a1' n1 g1) (h4' : IntS w a4' n4 g4) :
    Calls Try.prog 57 #[.agg #[.slice a0 n0 p0, .slice a1 n1 p1, .int .i64 v2, .bool v3, .slice a4 n4 p4], .agg #[.slice a0' n0 p0', .slice a1' n1 p1', .int .i64 v2, .bool v3, .slice a4' n4 p4']] w fun e w' => e = .returned (.bool true) ∧ Below w.heap.size w w' := by
  have HB0 : Hid (Below w.heap.size w ((w.alloc (.cells #[.slice a0 n0 p0, .slice a1 n1 p1, .int .i64 v2, .bool v3, .slice a4 n4 p4] 84)).alloc (.cells #[.slice a0' n0 p0', .slice a1' n1 p1', .int .i64 v2, .bool v3, .slice a4' n4 p4'] 84))) := ((Below.refl _ _).alloc (Nat.le_refl _) _).alloc (by simp) _
  have HA0 : Hid (OpS w a0 n0 g0_0 g0_1 g0_2) := h0
  have HC0 : Hid (OpS w a0' n0 g0_0 g0_1 g0_2) := h0'
  have HA1 : Hid (IntS w a1 n1 g1) := h1
  have HC1 : Hid (IntS w a1' n1 g1) := h1'
  have HA4 : Hid (IntS w a4 n4 g4) := h4
  have HC4 : Hid (IntS w a4' n4 g4) := h4'
  have HP0 : Hid (((w.alloc (.cells #[.slice a0 n0 p0, .slice a1 n1 p1, .int .i64 v2, .bool v3, .slice a4 n4 p4] 84)).alloc (.cells #[.slice a0' n0 p0', .slice a1' n1 p1', .int .i64 v2, .bool v3, .slice a4' n4 p4'] 84)).heap[w.heap.size]? = some (.cells #[.slice a0 n0 p0, .slice a1 n1 p1, .int .i64 v2, .bool v3, .slice a4 n4 p4] 84)) := get_alloc (get_new rfl) (by simp)
  have HQ0 : Hid (((w.alloc (.cells #[.slice a0 n0 p0, .slice a1 n1 p1, .int .i64 v2, .bool v3, .slice a4 n4 p4] 84)).alloc (.cells #[.slice a0' n0 p0', .slice a1' n1 p1', .int .i64 v2, .bool v3, .slice a4' n4 p4'] 84)).heap[w.heap.size + 1]? = some (.cells #[.slice a0' n0 p0', .slice a1' n1 p1', .int .i64 v2, .bool v3, .slice a4' n4 p4'] 84)) := get_new (by simp)
  clear h0 h0' h1 h1' h4 h4'
  go_enter Try.func57, Try.ntmps57
  go_wp2_with fail
  refine (eqOpS_any a0 a0' n0 p0 p0' g0_0 g0_1 g0_2 _ hn0 (HA0.out.below HB0.out) (HC0.out.below HB0.out)).mono ?_
  rintro e w1 ⟨rfl, hb1⟩
  have HB1 : Hid (Below w.heap.size w w1) := HB0.out.trans (hb1.mono HB0.out.size)
  have HP1 : Hid (w1.heap[w.heap.size]? = some (.cells #[.slice a0 n0 p0, .slice a1 n1 p1, .int .i64 v2, .bool v3, .slice a4 n4 p4] 84)) := get_below hb1 HP0.out (size_of_get HP0.out)
  have HQ1 : Hid (w1.heap[w.heap.size + 1]? = some (.cells #[.slice a0' n0 p0', .slice a1' n1 p1', .int .i64 v2, .bool v3, .slice a4' n4 p4'] 84)) := get_below hb1 HQ0.out (size_of_get HQ0.out)
  clear hb1
  obtain ⟨k0, k1, k2, k3, k4⟩ := cells5_of HP1.out
  obtain ⟨q0, q1, q2, q3, q4⟩ := cells5_of HQ1.out
  go_wp2_with fail
  try clear k0 q0 k1 q1 k2 q2 k3 q3 k4 q4
  refine (eqIntS_any a1 a1' n1 p1 p1' g1 _ hn1 (HA1.out.below HB1.out) (HC1.out.below HB1.out)).mono ?_
  rintro e w2 ⟨rfl, x1, he1⟩
  have hb2 : Below w1.heap.size w1 w2 := by rw [he1]; exact belowN (Below.refl _ _) _
  clear he1
  have HB2 : Hid (Below w.heap.size w w2) := HB1.out.trans (hb2.mono HB1.out.size)
  have HP2 : Hid (w2.heap[w.heap.size]? = some (.cells #[.slice a0 n0 p0, .slice a1 n1 p1, .int .i64 v2, .bool v3, .slice a4 n4 p4] 84)) := get_below hb2 HP1.out (size_of_get HP1.out)
  have HQ2 : Hid (w2.heap[w.heap.size + 1]? = some (.cells #[.slice a0' n0 p0', .slice a1' n1 p1', .int .i64 v2, .bool v3, .slice a4' n4 p4'] 84)) := get_below hb2 HQ1.out (size_of_get HQ1.out)
  clear hb2
  obtain ⟨k0, k1, k2, k3, k4⟩ := cells5_of HP2.out
  obtain ⟨q0, q1, q2, q3, q4⟩ := cells5_of HQ2.out
  go_wp2_with fail
  try clear k0 q0 k1 q1 k2 q2 k3 q3 k4 q4
  refine (eqIntS_any a4 a4' n4 p4 p4' g4 _ hn4 (HA4.out.below HB2.out) (HC4.out.below HB2.out)).mono ?_
  rintro e w3 ⟨rfl, x2, he2⟩
  have hb3 : Below w2.heap.size w2 w3 := by rw [he2]; exact belowN (Below.refl _ _) _
  clear he2
  have HB3 : Hid (Below w.heap.size w w3) := HB2.out.trans (hb3.mono HB2.out.size)
  have HP3 : Hid (w3.heap[w.heap.size]? = some (.cells #[.slice a0 n0 p0, .slice a1 n1 p1, .int .i64 v2, .bool v3, .slice a4 n4 p4] 84)) := get_below hb3 HP2.out (size_of_get HP2.out)
  have HQ3 : Hid (w3.heap[w.heap.size + 1]? = some (.cells #[.slice a0' n0 p0', .slice a1' n1 p1', .int .i64 v2, .bool v3, .slice a4' n4 p4'] 84)) := get_below hb3 HQ2.out (size_of_get HQ2.out)
  clear hb3
  go_wp2_with fail
  go_ret
  exact ⟨rfl, HB3.out⟩
end Go.Proofs.Ythhibeepfecmdaa
