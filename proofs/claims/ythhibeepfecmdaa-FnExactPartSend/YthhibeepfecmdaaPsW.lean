/- PartSend, both sides. -/
import Derived.Test.YthhibeepfecmdaaPtW
import Derived.Test.YthhibeepfecmdaaLcW
import Derived.Test.YthhibeepfecmdaaPcW
import Derived.Test.YthhibeepfecmdaaApI
namespace Go.Proofs.Ythhibeepfecmdaa
open Go.ChangeShapes Go.WideShapes Go.ChangeAt Go.RowKit
set_option linter.unusedVariables false

set_option maxRecDepth 100000 in
set_option maxHeartbeats 2000000 in
theorem specPartSend_no (a0 : Option Addr) (n0 p0 : Nat) (g0_0 g0_1 g0_2 : Nat → Int) (a1 : Option Addr) (n1 p1 : Nat) (g1 : Nat → Int) (v2 : Int) (v3 : Bool) (a4 : Option Addr) (n4 p4 : Nat) (g4 : Nat → Int) (val : Int) (w : World) (hn0 : n0 ≤ 1048576) (hn1 : n1 ≤ 1048576) (hn4 : n4 ≤ 1048576) (ha0 : a0 = none → n0 = 0 ∧ p0 = 0) (ha1 : a1 = none → n1 = 0 ∧ p1 = 0) (ha4 : a4 = none → n4 = 0 ∧ p4 = 0) (h0 : OpS w a0 n0 g0_0 g0_1 g0_2) (h1 : IntS w a1 n1 g1) (h4 : IntS w a4 n4 g4) (hp : partB n0 g0_0 g0_1 g0_2 n1 g1 v2 n4 g4 = false) :
    Calls Try.prog 58 #[.agg #[.slice a0 n0 p0, .slice a1 n1 p1, .int .i64 v2, .bool v3, .slice a4 n4 p4], .int .i64 val] w fun e w' => e = .returned (.tuple #[.agg #[.slice none 0 0, .slice none 0 0, .int .i64 0, .bool false, .slice none 0 0], .bool false]) ∧ Below w.heap.size w w' := by
  have HA0 : Hid (OpS ((w.alloc (.cells #[.slice a0 n0 p0, .slice a1 n1 p1, .int .i64 v2, .bool v3, .slice a4 n4 p4] 84)).alloc (.cells #[.slice none 0 0, .slice none 0 0, .int .i64 0, .bool false, .slice none 0 0] 84)) a0 n0 g0_0 g0_1 g0_2) := (h0.alloc _).alloc _
  have HA1 : Hid (IntS ((w.alloc (.cells #[.slice a0 n0 p0, .slice a1 n1 p1, .int .i64 v2, .bool v3, .slice a4 n4 p4] 84)).alloc (.cells #[.slice none 0 0, .slice none 0 0, .int .i64 0, .bool false, .slice none 0 0] 84)) a1 n1 g1) := (h1.alloc _).alloc _
  have HA4 : Hid (IntS ((w.alloc (.cells #[.slice a0 n0 p0, .slice a1 n1 p1, .int .i64 v2, .bool v3, .slice a4 n4 p4] 84)).alloc (.cells #[.slice none 0 0, .slice none 0 0, .int .i64 0, .bool false, .slice none 0 0] 84)) a4 n4 g4) := (h4.alloc _).alloc _
  have HB0 : Hid (Below w.heap.size w ((w.alloc (.cells #[.slice a0 n0 p0, .slice a1 n1 p1, .int .i64 v2, .bool v3, .slice a4 n4 p4] 84)).alloc (.cells #[.slice none 0 0, .slice none 0 0, .int .i64 0, .bool false, .slice none 0 0] 84))) := ((Below.refl _ _).alloc (Nat.le_refl _) _).alloc (by simp) _
  have HP0 : Hid (((w.alloc (.cells #[.slice a0 n0 p0, .slice a1 n1 p1, .int .i64 v2, .bool v3, .slice a4 n4 p4] 84)).alloc (.cells #[.slice none 0 0, .slice none 0 0, .int .i64 0, .bool false, .slice none 0 0] 84)).heap[w.heap.size]? = some (.cells #[.slice a0 n0 p0, .slice a1 n1 p1, .int .i64 v2, .bool v3, .slice a4 n4 p4] 84)) := get_alloc (get_new rfl) (by simp)
  have HR0 : Hid (((w.alloc (.cells #[.slice a0 n0 p0, .slice a1 n1 p1, .int .i64 v2, .bool v3, .slice a4 n4 p4] 84)).alloc (.cells #[.slice none 0 0, .slice none 0 0, .int .i64 0, .bool false, .slice none 0 0] 84)).heap[w.heap.size + 1]? = some (.cells #[.slice none 0 0, .slice none 0 0, .int .i64 0, .bool false, .slice none 0 0] 84)) := get_new (by simp)
  have HL : Hid (∀ W1 : World, OpS W1 a0 n0 g0_0 g0_1 g0_2 → IntS W1 a1 n1 g1 → IntS W1 a4 n4 g4 → Calls Try.prog 54 #[.agg #[.slice a0 n0 p0, .slice a1 n1 p1, .int .i64 v2, .bool v3, .slice a4 n4 p4]] W1 fun e w' => e = .returned (.bool false) ∧ Below W1.heap.size W1 w') := fun W1 x0 x1 x4 => by
    have := specPartOk_any a0 n0 p0 g0_0 g0_1 g0_2 a1 n1 p1 g1 v2 v3 a4 n4 p4 g4 W1 hn0 hn1 hn4 x0 x1 x4
    rw [hp] at this; exact this
  have HN0 : Hid _ := ha0
  have HN1 : Hid _ := ha1
  have HN4 : Hid _ := ha4
  clear h0 h1 h4 ha0 ha1 ha4 hp
  go_enter Try.func58, Try.ntmps58
  go_wp2_with fail
  refine Calls.mono (HL.out _ HA0.out HA1.out HA4.out) ?_
  rintro e w1 ⟨rfl, hb1⟩
  have HB1 : Hid (Below w.heap.size w w1) := HB0.out.trans (hb1.mono HB0.out.size)
  have HX0 : Hid (OpS w1 a0 n0 g0_0 g0_1 g0_2) := HA0.out.below hb1
  have HX1 : Hid (IntS w1 a1 n1 g1) := HA1.out.below hb1
  have HX4 : Hid (IntS w1 a4 n4 g4) := HA4.out.below hb1
  have HP1 : Hid (w1.heap[w.heap.size]? = some (.cells #[.slice a0 n0 p0, .slice a1 n1 p1, .int .i64 v2, .bool v3, .slice a4 n4 p4] 84)) := get_below hb1 HP0.out (size_of_get HP0.out)
  have HR1 : Hid (w1.heap[w.heap.size + 1]? = some (.cells #[.slice none 0 0, .slice none 0 0, .int .i64 0, .bool false, .slice none 0 0] 84)) := get_below hb1 HR0.out (size_of_get HR0.out)
  have hz1 : w.heap.size + 1 < w1.heap.size := size_of_get HR1.out
  clear hb1
  obtain ⟨q0, q1, q2, q3, q4⟩ := cells5_of HR1.out
  have fr : ∀ j, w1.frozen? ⟨w.heap.size + 1, j, none⟩ = false := fun j => frozen_get HR1.out
  go_wp2_with fail
  refine bodyPost_ret (v := .tuple #[.agg #[.slice none 0 0, .slice none 0 0, .int .i64 0, .bool false, .slice none 0 0], .bool false]) (results_row_tmp Try.results58 _ _ (w.heap.size + 1) 84 #[.slice none 0 0, .slice none 0 0, .int .i64 0, .bool false, .slice none 0 0] (0, 0) _ rfl ?_ Try.underlying84 rfl cellsPart _ rfl) rfl ⟨rfl, ?_⟩
  · exact get_set (get_set (get_set (get_set (get_set HR1.out rfl) rfl) rfl) rfl) rfl
  · exact belowS (belowS (belowS (belowS (belowS HB1.out (by omega)) (by omega)) (by omega)) (by omega)) (by omega)
set_option maxRecDepth 100000 in
set_option maxHeartbeats 4000000 in
theorem specPartSend_full (a0 : Option Addr) (n0 p0 : Nat) (g0_0 g0_1 g0_2 : Nat → Int) (a1 : Option Addr) (n1 p1 : Nat) (g1 : Nat → Int) (v2 : Int) (v3 : Bool) (a4 : Option Addr) (n4 p4 : Nat) (g4 : Nat → Int) (val : Int) (w : World) (hn0 : n0 ≤ 1048576) (hn1 : n1 ≤ 1048576) (hn4 : n4 ≤ 1048576) (ha0 : a0 = none → n0 = 0 ∧ p0 = 0) (ha1 : a1 = none → n1 = 0 ∧ p1 = 0) (ha4 : a4 = none → n4 = 0 ∧ p4 = 0) (h0 : OpS w a0 n0 g0_0 g0_1 g0_2) (h1 : IntS w a1 n1 g1) (h4 : IntS w a4 n4 g4) (hp : partB n0 g0_0 g0_1 g0_2 n1 g1 v2 n4 g4 = true) (hv : inB val 0 9999 = false ∨ (inB val 0 9999 = true ∧ (n4 : Int) = 4)) :
    Calls Try.prog 58 #[.agg #[.slice a0 n0 p0, .slice a1 n1 p1, .int .i64 v2, .bool v3, .slice a4 n4 p4], .int .i64 val] w fun e w' => ∃ b0 c0 b1 c1 b4 c4, e = .returned (.tuple #[.agg #[.slice (some ⟨b0, 0, none⟩) n0 c0, .slice (some ⟨b1, 0, none⟩) n1 c1, .int .i64 v2, .bool v3, .slice (some ⟨b4, 0, none⟩) n4 c4], .bool false]) ∧ (w.heap.size ≤ b0 ∧ w.heap.size ≤ b1 ∧ w.heap.size ≤ b4 ∧ b0 ≠ b1 ∧ b0 ≠ b4 ∧ b1 ≠ b4 ∧ w'.ownsRow b0 155 3 (.slice (some ⟨b0, 0, none⟩) n0 c0) n0 (cellsL (n0 * 3) (allOp g0_0 g0_1 g0_2)) ∧ w'.ownsRow b1 3 1 (.slice (some ⟨b1, 0, none⟩) n1 c1) n1 (cellsL n1 (allInt g1)) ∧ w'.ownsRow b4 3 1 (.slice (some ⟨b4, 0, none⟩) n4 c4) n4 (cellsL n4 (allInt g4))) ∧ Below w.heap.size w w' := by
  have HA0 : Hid (OpS ((w.alloc (.cells #[.slice a0 n0 p0, .slice a1 n1 p1, .int .i64 v2, .bool v3, .slice a4 n4 p4] 84)).alloc (.cells #[.slice none 0 0, .slice none 0 0, .int .i64 0, .bool false, .slice none 0 0] 84)) a0 n0 g0_0 g0_1 g0_2) := (h0.alloc _).alloc _
  have HA1 : Hid (IntS ((w.alloc (.cells #[.slice a0 n0 p0, .slice a1 n1 p1, .int .i64 v2, .bool v3, .slice a4 n4 p4] 84)).alloc (.cells #[.slice none 0 0, .slice none 0 0, .int .i64 0, .bool false, .slice none 0 0] 84)) a1 n1 g1) := (h1.alloc _).alloc _
  have HA4 : Hid (IntS ((w.alloc (.cells #[.slice a0 n0 p0, .slice a1 n1 p1, .int .i64 v2, .bool v3, .slice a4 n4 p4] 84)).alloc (.cells #[.slice none 0 0, .slice none 0 0, .int .i64 0, .bool false, .slice none 0 0] 84)) a4 n4 g4) := (h4.alloc _).alloc _
  have HB0 : Hid (Below w.heap.size w ((w.alloc (.cells #[.slice a0 n0 p0, .slice a1 n1 p1, .int .i64 v2, .bool v3, .slice a4 n4 p4] 84)).alloc (.cells #[.slice none 0 0, .slice none 0 0, .int .i64 0, .bool false, .slice none 0 0] 84))) := ((Below.refl _ _).alloc (Nat.le_refl _) _).alloc (by simp) _
  have HP0 : Hid (((w.alloc (.cells #[.slice a0 n0 p0, .slice a1 n1 p1, .int .i64 v2, .bool v3, .slice a4 n4 p4] 84)).alloc (.cells #[.slice none 0 0, .slice none 0 0, .int .i64 0, .bool false, .slice none 0 0] 84)).heap[w.heap.size]? = some (.cells #[.slice a0 n0 p0, .slice a1 n1 p1, .int .i64 v2, .bool v3, .slice a4 n4 p4] 84)) := get_alloc (get_new rfl) (by simp)
  have HR0 : Hid (((w.alloc (.cells #[.slice a0 n0 p0, .slice a1 n1 p1, .int .i64 v2, .bool v3, .slice a4 n4 p4] 84)).alloc (.cells #[.slice none 0 0, .slice none 0 0, .int .i64 0, .bool false, .slice none 0 0] 84)).heap[w.heap.size + 1]? = some (.cells #[.slice none 0 0, .slice none 0 0, .int .i64 0, .bool false, .slice none 0 0] 84)) := get_new (by simp)
  have HL : Hid (∀ W1 : World, OpS W1 a0 n0 g0_0 g0_1 g0_2 → IntS W1 a1 n1 g1 → IntS W1 a4 n4 g4 → Calls Try.prog 54 #[.agg #[.slice a0 n0 p0, .slice a1 n1 p1, .int .i64 v2, .bool v3, .slice a4 n4 p4]] W1 fun e w' => e = .returned (.bool true) ∧ Below W1.heap.size W1 w') := fun W1 x0 x1 x4 => by
    have := specPartOk_any a0 n0 p0 g0_0 g0_1 g0_2 a1 n1 p1 g1 v2 v3 a4 n4 p4 g4 W1 hn0 hn1 hn4 x0 x1 x4
    rw [hp] at this; exact this
  have HN0 : Hid _ := ha0
  have HN1 : Hid _ := ha1
  have HN4 : Hid _ := ha4
  clear h0 h1 h4 ha0 ha1 ha4 hp
  go_enter Try.func58, Try.ntmps58
  go_wp2_with fail
  refine Calls.mono (HL.out _ HA0.out HA1.out HA4.out) ?_
  rintro e w1 ⟨rfl, hb1⟩
  have HB1 : Hid (Below w.heap.size w w1) := HB0.out.trans (hb1.mono HB0.out.size)
  have HX0 : Hid (OpS w1 a0 n0 g0_0 g0_1 g0_2) := HA0.out.below hb1
  have HX1 : Hid (IntS w1 a1 n1 g1) := HA1.out.below hb1
  have HX4 : Hid (IntS w1 a4 n4 g4) := HA4.out.below hb1
  have HP1 : Hid (w1.heap[w.heap.size]? = some (.cells #[.slice a0 n0 p0, .slice a1 n1 p1, .int .i64 v2, .bool v3, .slice a4 n4 p4] 84)) := get_below hb1 HP0.out (size_of_get HP0.out)
  have HR1 : Hid (w1.heap[w.heap.size + 1]? = some (.cells #[.slice none 0 0, .slice none 0 0, .int .i64 0, .bool false, .slice none 0 0] 84)) := get_below hb1 HR0.out (size_of_get HR0.out)
  have hz1 : w.heap.size + 1 < w1.heap.size := size_of_get HR1.out
  clear hb1
  obtain ⟨k0, k1, k2, k3, k4⟩ := cells5_of HP1.out
  go_wp2_with fail
  clear k0 k1 k2 k3 k4
  refine (l10Copy_any a0 n0 p0 g0_0 g0_1 g0_2 a1 n1 p1 g1 v2 v3 a4 n4 p4 g4 w1 (by omega) (by omega) (by omega) HN0.out HN1.out HN4.out HX0.out HX1.out HX4.out).mono ?_
  rintro e w2 ⟨b0, c0, b1, c1, b4, c4, rfl, ⟨hb0, hb1, hb4, hd14, hS0, hS1, hS4⟩, hb2⟩
  have hd01 : b0 ≠ b1 := own_ty_ne hS0 hS1 (by decide)
  have hd04 : b0 ≠ b4 := own_ty_ne hS0 hS4 (by decide)
  have hlt0 := own_lt hS0
  have hlt1 := own_lt hS1
  have hlt4 := own_lt hS4
  have HB2 : Hid (Below w.heap.size w w2) := HB1.out.trans (hb2.mono HB1.out.size)
  have HP2 : Hid (w2.heap[w.heap.size]? = some (.cells #[.slice a0 n0 p0, .slice a1 n1 p1, .int .i64 v2, .bool v3, .slice a4 n4 p4] 84)) := get_below hb2 HP1.out (size_of_get HP1.out)
  have HR2 : Hid (w2.heap[w.heap.size + 1]? = some (.cells #[.slice none 0 0, .slice none 0 0, .int .i64 0, .bool false, .slice none 0 0] 84)) := get_below hb2 HR1.out (size_of_get HR1.out)
  have hs2 : w1.heap.size ≤ w2.heap.size := hb2.size
  have HS0 : Hid _ := own_kept hS0 ((Below.refl _ _).alloc (Nat.le_refl _) (.cells #[.slice (some ⟨b0, 0, none⟩) n0 c0, .slice (some ⟨b1, 0, none⟩) n1 c1, .int .i64 v2, .bool v3, .slice (some ⟨b4, 0, none⟩) n4 c4] 84))
  have HS1 : Hid _ := own_kept hS1 ((Below.refl _ _).alloc (Nat.le_refl _) (.cells #[.slice (some ⟨b0, 0, none⟩) n0 c0, .slice (some ⟨b1, 0, none⟩) n1 c1, .int .i64 v2, .bool v3, .slice (some ⟨b4, 0, none⟩) n4 c4] 84))
  have HS4 : Hid _ := own_kept hS4 ((Below.refl _ _).alloc (Nat.le_refl _) (.cells #[.slice (some ⟨b0, 0, none⟩) n0 c0, .slice (some ⟨b1, 0, none⟩) n1 c1, .int .i64 v2, .bool v3, .slice (some ⟨b4, 0, none⟩) n4 c4] 84))
  have HB3 : Hid (Below w.heap.size w (w2.alloc (.cells #[.slice (some ⟨b0, 0, none⟩) n0 c0, .slice (some ⟨b1, 0, none⟩) n1 c1, .int .i64 v2, .bool v3, .slice (some ⟨b4, 0, none⟩) n4 c4] 84))) := HB2.out.alloc HB2.out.size _
  have HP3 : Hid ((w2.alloc (.cells #[.slice (some ⟨b0, 0, none⟩) n0 c0, .slice (some ⟨b1, 0, none⟩) n1 c1, .int .i64 v2, .bool v3, .slice (some ⟨b4, 0, none⟩) n4 c4] 84)).heap[w.heap.size]? = some (.cells #[.slice a0 n0 p0, .slice a1 n1 p1, .int .i64 v2, .bool v3, .slice a4 n4 p4] 84)) := get_alloc HP2.out (by omega)
  have HR3 : Hid ((w2.alloc (.cells #[.slice (some ⟨b0, 0, none⟩) n0 c0, .slice (some ⟨b1, 0, none⟩) n1 c1, .int .i64 v2, .bool v3, .slice (some ⟨b4, 0, none⟩) n4 c4] 84)).heap[w.heap.size + 1]? = some (.cells #[.slice none 0 0, .slice none 0 0, .int .i64 0, .bool false, .slice none 0 0] 84)) := get_alloc HR2.out (by omega)
  have HY3 : Hid ((w2.alloc (.cells #[.slice (some ⟨b0, 0, none⟩) n0 c0, .slice (some ⟨b1, 0, none⟩) n1 c1, .int .i64 v2, .bool v3, .slice (some ⟨b4, 0, none⟩) n4 c4] 84)).heap[w2.heap.size]? = some (.cells #[.slice (some ⟨b0, 0, none⟩) n0 c0, .slice (some ⟨b1, 0, none⟩) n1 c1, .int .i64 v2, .bool v3, .slice (some ⟨b4, 0, none⟩) n4 c4] 84)) := get_new rfl
  have hz3 : w2.heap.size + 1 = (w2.alloc (.cells #[.slice (some ⟨b0, 0, none⟩) n0 c0, .slice (some ⟨b1, 0, none⟩) n1 c1, .int .i64 v2, .bool v3, .slice (some ⟨b4, 0, none⟩) n4 c4] 84)).heap.size := by simp
  clear hb2 hS0 hS1 hS4
  go_wp2_with fail
  generalize (w2.alloc (.cells #[.slice (some ⟨b0, 0, none⟩) n0 c0, .slice (some ⟨b1, 0, none⟩) n1 c1, .int .i64 v2, .bool v3, .slice (some ⟨b4, 0, none⟩) n4 c4] 84)) = w3 at *
  obtain ⟨k0, k1, k2, k3, k4⟩ := cells5_of HP3.out
  obtain ⟨y0, y1, y2, y3, y4⟩ := cells5_of HY3.out
  rcases hv with hv | ⟨hv, h44⟩
  · have HV : Hid _ := hv
    obtain ⟨q0, q1, q2, q3, q4⟩ := cells5_of HR3.out
    have fr : ∀ j, w3.frozen? ⟨w.heap.size + 1, j, none⟩ = false := fun j => frozen_get HR3.out
    go_wp2_with (go_at_call 72; refine (l1In_any _ _ _ _).mono ?_; rintro e w' ⟨rfl, rfl⟩)
    refine bodyPost_ret (v := .tuple #[.agg #[.slice (some ⟨b0, 0, none⟩) n0 c0, .slice (some ⟨b1, 0, none⟩) n1 c1, .int .i64 v2, .bool v3, .slice (some ⟨b4, 0, none⟩) n4 c4], .bool false]) (results_row_tmp Try.results58 _ _ (w.heap.size + 1) 84 #[.slice (some ⟨b0, 0, none⟩) n0 c0, .slice (some ⟨b1, 0, none⟩) n1 c1, .int .i64 v2, .bool v3, .slice (some ⟨b4, 0, none⟩) n4 c4] (0, 0) _ rfl ?_ Try.underlying84 rfl cellsPart _ rfl) rfl ⟨b0, c0, b1, c1, b4, c4, rfl, ⟨by omega, by omega, by omega, hd01, hd04, hd14, ?_, ?_, ?_⟩, ?_⟩
    · exact get_set (get_set (get_set (get_set (get_set HR3.out rfl) rfl) rfl) rfl) rfl
    · exact own_set (own_set (own_set (own_set (own_set HS0.out (by omega)) (by omega)) (by omega)) (by omega)) (by omega)
    · exact own_set (own_set (own_set (own_set (own_set HS1.out (by omega)) (by omega)) (by omega)) (by omega)) (by omega)
    · exact own_set (own_set (own_set (own_set (own_set HS4.out (by omega)) (by omega)) (by omega)) (by omega)) (by omega)
    · exact belowS (belowS (belowS (belowS (belowS HB3.out (by omega)) (by omega)) (by omega)) (by omega)) (by omega)
  · have h4' : (4 : Int) ≤ (n4 : Int) := by omega
    clear h44
    obtain ⟨q0, q1, q2, q3, q4⟩ := cells5_of HR3.out
    have fr : ∀ j, w3.frozen? ⟨w.heap.size + 1, j, none⟩ = false := fun j => frozen_get HR3.out
    go_wp2_with (go_at_call 72; refine (l1In_any _ _ _ _).mono ?_; rintro e w' ⟨rfl, rfl⟩)
    refine bodyPost_ret (v := .tuple #[.agg #[.slice (some ⟨b0, 0, none⟩) n0 c0, .slice (some ⟨b1, 0, none⟩) n1 c1, .int .i64 v2, .bool v3, .slice (some ⟨b4, 0, none⟩) n4 c4], .bool false]) (results_row_tmp Try.results58 _ _ (w.heap.size + 1) 84 #[.slice (some ⟨b0, 0, none⟩) n0 c0, .slice (some ⟨b1, 0, none⟩) n1 c1, .int .i64 v2, .bool v3, .slice (some ⟨b4, 0, none⟩) n4 c4] (0, 0) _ rfl ?_ Try.underlying84 rfl cellsPart _ rfl) rfl ⟨b0, c0, b1, c1, b4, c4, rfl, ⟨by omega, by omega, by omega, hd01, hd04, hd14, ?_, ?_, ?_⟩, ?_⟩
    · exact get_set (get_set (get_set (get_set (get_set HR3.out rfl) rfl) rfl) rfl) rfl
    · exact own_set (own_set (own_set (own_set (own_set HS0.out (by omega)) (by omega)) (by omega)) (by omega)) (by omega)
    · exact own_set (own_set (own_set (own_set (own_set HS1.out (by omega)) (by omega)) (by omega)) (by omega)) (by omega)
    · exact own_set (own_set (own_set (own_set (own_set HS4.out (by omega)) (by omega)) (by omega)) (by omega)) (by omega)
    · exact belowS (belowS (belowS (belowS (belowS HB3.out (by omega)) (by omega)) (by omega)) (by omega)) (by omega)
set_option maxRecDepth 100000 in
set_option maxHeartbeats 4000000 in
theorem specPartSend_yes (a0 : Option Addr) (n0 p0 : Nat) (g0_0 g0_1 g0_2 : Nat → Int) (a1 : Option Addr) (n1 p1 : Nat) (g1 : Nat → Int) (v2 : Int) (v3 : Bool) (a4 : Option Addr) (n4 p4 : Nat) (g4 : Nat → Int) (val : Int) (w : World) (hn0 : n0 ≤ 1048576) (hn1 : n1 ≤ 1048576) (hn4 : n4 ≤ 1048576) (ha0 : a0 = none → n0 = 0 ∧ p0 = 0) (ha1 : a1 = none → n1 = 0 ∧ p1 = 0) (ha4 : a4 = none → n4 = 0 ∧ p4 = 0) (h0 : OpS w a0 n0 g0_0 g0_1 g0_2) (h1 : IntS w a1 n1 g1) (h4 : IntS w a4 n4 g4) (hp : partB n0 g0_0 g0_1 g0_2 n1 g1 v2 n4 g4 = true) (hv : inB val 0 9999 = true) (h44 : (n4 : Int) < 4) :
    Calls Try.prog 58 #[.agg #[.slice a0 n0 p0, .slice a1 n1 p1, .int .i64 v2, .bool v3, .slice a4 n4 p4], .int .i64 val] w fun e w' => ∃ b0 c0 b1 c1 b5 c5, e = .returned (.tuple #[.agg #[.slice (some ⟨b0, 0, none⟩) n0 c0, .slice (some ⟨b1, 0, none⟩) n1 c1, .int .i64 v2, .bool v3, .slice (some ⟨b5, 0, none⟩) (n4 + 1) c5], .bool true]) ∧ (w.heap.size ≤ b0 ∧ w.heap.size ≤ b1 ∧ w.heap.size ≤ b5 ∧ b0 ≠ b1 ∧ b0 ≠ b5 ∧ b1 ≠ b5 ∧ w'.ownsRow b0 155 3 (.slice (some ⟨b0, 0, none⟩) n0 c0) n0 (cellsL (n0 * 3) (allOp g0_0 g0_1 g0_2)) ∧ w'.ownsRow b1 3 1 (.slice (some ⟨b1, 0, none⟩) n1 c1) n1 (cellsL n1 (allInt g1)) ∧ w'.ownsRow b5 3 1 (.slice (some ⟨b5, 0, none⟩) (n4 + 1) c5) (n4 + 1) (cellsL (n4 + 1) (allInt (snoc n4 g4 val)))) ∧ Below w.heap.size w w' := by
  have HA0 : Hid (OpS ((w.alloc (.cells #[.slice a0 n0 p0, .slice a1 n1 p1, .int .i64 v2, .bool v3, .slice a4 n4 p4] 84)).alloc (.cells #[.slice none 0 0, .slice none 0 0, .int .i64 0, .bool false, .slice none 0 0] 84)) a0 n0 g0_0 g0_1 g0_2) := (h0.alloc _).alloc _
  have HA1 : Hid (IntS ((w.alloc (.cells #[.slice a0 n0 p0, .slice a1 n1 p1, .int .i64 v2, .bool v3, .slice a4 n4 p4] 84)).alloc (.cells #[.slice none 0 0, .slice none 0 0, .int .i64 0, .bool false, .slice none 0 0] 84)) a1 n1 g1) := (h1.alloc _).alloc _
  have HA4 : Hid (IntS ((w.alloc (.cells #[.slice a0 n0 p0, .slice a1 n1 p1, .int .i64 v2, .bool v3, .slice a4 n4 p4] 84)).alloc (.cells #[.slice none 0 0, .slice none 0 0, .int .i64 0, .bool false, .slice none 0 0] 84)) a4 n4 g4) := (h4.alloc _).alloc _
  have HB0 : Hid (Below w.heap.size w ((w.alloc (.cells #[.slice a0 n0 p0, .slice a1 n1 p1, .int .i64 v2, .bool v3, .slice a4 n4 p4] 84)).alloc (.cells #[.slice none 0 0, .slice none 0 0, .int .i64 0, .bool false, .slice none 0 0] 84))) := ((Below.refl _ _).alloc (Nat.le_refl _) _).alloc (by simp) _
  have HP0 : Hid (((w.alloc (.cells #[.slice a0 n0 p0, .slice a1 n1 p1, .int .i64 v2, .bool v3, .slice a4 n4 p4] 84)).alloc (.cells #[.slice none 0 0, .slice none 0 0, .int .i64 0, .bool false, .slice none 0 0] 84)).heap[w.heap.size]? = some (.cells #[.slice a0 n0 p0, .slice a1 n1 p1, .int .i64 v2, .bool v3, .slice a4 n4 p4] 84)) := get_alloc (get_new rfl) (by simp)
  have HR0 : Hid (((w.alloc (.cells #[.slice a0 n0 p0, .slice a1 n1 p1, .int .i64 v2, .bool v3, .slice a4 n4 p4] 84)).alloc (.cells #[.slice none 0 0, .slice none 0 0, .int .i64 0, .bool false, .slice none 0 0] 84)).heap[w.heap.size + 1]? = some (.cells #[.slice none 0 0, .slice none 0 0, .int .i64 0, .bool false, .slice none 0 0] 84)) := get_new (by simp)
  have HL : Hid (∀ W1 : World, OpS W1 a0 n0 g0_0 g0_1 g0_2 → IntS W1 a1 n1 g1 → IntS W1 a4 n4 g4 → Calls Try.prog 54 #[.agg #[.slice a0 n0 p0, .slice a1 n1 p1, .int .i64 v2, .bool v3, .slice a4 n4 p4]] W1 fun e w' => e = .returned (.bool true) ∧ Below W1.heap.size W1 w') := fun W1 x0 x1 x4 => by
    have := specPartOk_any a0 n0 p0 g0_0 g0_1 g0_2 a1 n1 p1 g1 v2 v3 a4 n4 p4 g4 W1 hn0 hn1 hn4 x0 x1 x4
    rw [hp] at this; exact this
  have HN0 : Hid _ := ha0
  have HN1 : Hid _ := ha1
  have HN4 : Hid _ := ha4
  clear h0 h1 h4 ha0 ha1 ha4 hp
  go_enter Try.func58, Try.ntmps58
  go_wp2_with fail
  refine Calls.mono (HL.out _ HA0.out HA1.out HA4.out) ?_
  rintro e w1 ⟨rfl, hb1⟩
  have HB1 : Hid (Below w.heap.size w w1) := HB0.out.trans (hb1.mono HB0.out.size)
  have HX0 : Hid (OpS w1 a0 n0 g0_0 g0_1 g0_2) := HA0.out.below hb1
  have HX1 : Hid (IntS w1 a1 n1 g1) := HA1.out.below hb1
  have HX4 : Hid (IntS w1 a4 n4 g4) := HA4.out.below hb1
  have HP1 : Hid (w1.heap[w.heap.size]? = some (.cells #[.slice a0 n0 p0, .slice a1 n1 p1, .int .i64 v2, .bool v3, .slice a4 n4 p4] 84)) := get_below hb1 HP0.out (size_of_get HP0.out)
  have HR1 : Hid (w1.heap[w.heap.size + 1]? = some (.cells #[.slice none 0 0, .slice none 0 0, .int .i64 0, .bool false, .slice none 0 0] 84)) := get_below hb1 HR0.out (size_of_get HR0.out)
  have hz1 : w.heap.size + 1 < w1.heap.size := size_of_get HR1.out
  clear hb1
  obtain ⟨k0, k1, k2, k3, k4⟩ := cells5_of HP1.out
  go_wp2_with fail
  clear k0 k1 k2 k3 k4
  refine (l10Copy_any a0 n0 p0 g0_0 g0_1 g0_2 a1 n1 p1 g1 v2 v3 a4 n4 p4 g4 w1 (by omega) (by omega) (by omega) HN0.out HN1.out HN4.out HX0.out HX1.out HX4.out).mono ?_
  rintro e w2 ⟨b0, c0, b1, c1, b4, c4, rfl, ⟨hb0, hb1, hb4, hd14, hS0, hS1, hS4⟩, hb2⟩
  have hd01 : b0 ≠ b1 := own_ty_ne hS0 hS1 (by decide)
  have hd04 : b0 ≠ b4 := own_ty_ne hS0 hS4 (by decide)
  have hlt0 := own_lt hS0
  have hlt1 := own_lt hS1
  have hlt4 := own_lt hS4
  have HB2 : Hid (Below w.heap.size w w2) := HB1.out.trans (hb2.mono HB1.out.size)
  have HP2 : Hid (w2.heap[w.heap.size]? = some (.cells #[.slice a0 n0 p0, .slice a1 n1 p1, .int .i64 v2, .bool v3, .slice a4 n4 p4] 84)) := get_below hb2 HP1.out (size_of_get HP1.out)
  have HR2 : Hid (w2.heap[w.heap.size + 1]? = some (.cells #[.slice none 0 0, .slice none 0 0, .int .i64 0, .bool false, .slice none 0 0] 84)) := get_below hb2 HR1.out (size_of_get HR1.out)
  have hs2 : w1.heap.size ≤ w2.heap.size := hb2.size
  have HS0 : Hid _ := own_kept hS0 ((Below.refl _ _).alloc (Nat.le_refl _) (.cells #[.slice (some ⟨b0, 0, none⟩) n0 c0, .slice (some ⟨b1, 0, none⟩) n1 c1, .int .i64 v2, .bool v3, .slice (some ⟨b4, 0, none⟩) n4 c4] 84))
  have HS1 : Hid _ := own_kept hS1 ((Below.refl _ _).alloc (Nat.le_refl _) (.cells #[.slice (some ⟨b0, 0, none⟩) n0 c0, .slice (some ⟨b1, 0, none⟩) n1 c1, .int .i64 v2, .bool v3, .slice (some ⟨b4, 0, none⟩) n4 c4] 84))
  have HS4 : Hid _ := own_kept hS4 ((Below.refl _ _).alloc (Nat.le_refl _) (.cells #[.slice (some ⟨b0, 0, none⟩) n0 c0, .slice (some ⟨b1, 0, none⟩) n1 c1, .int .i64 v2, .bool v3, .slice (some ⟨b4, 0, none⟩) n4 c4] 84))
  have HB3 : Hid (Below w.heap.size w (w2.alloc (.cells #[.slice (some ⟨b0, 0, none⟩) n0 c0, .slice (some ⟨b1, 0, none⟩) n1 c1, .int .i64 v2, .bool v3, .slice (some ⟨b4, 0, none⟩) n4 c4] 84))) := HB2.out.alloc HB2.out.size _
  have HP3 : Hid ((w2.alloc (.cells #[.slice (some ⟨b0, 0, none⟩) n0 c0, .slice (some ⟨b1, 0, none⟩) n1 c1, .int .i64 v2, .bool v3, .slice (some ⟨b4, 0, none⟩) n4 c4] 84)).heap[w.heap.size]? = some (.cells #[.slice a0 n0 p0, .slice a1 n1 p1, .int .i64 v2, .bool v3, .slice a4 n4 p4] 84)) := get_alloc HP2.out (by omega)
  have HR3 : Hid ((w2.alloc (.cells #[.slice (some ⟨b0, 0, none⟩) n0 c0, .slice (some ⟨b1, 0, none⟩) n1 c1, .int .i64 v2, .bool v3, .slice (some ⟨b4, 0, none⟩) n4 c4] 84)).heap[w.heap.size + 1]? = some (.cells #[.slice none 0 0, .slice none 0 0, .int .i64 0, .bool false, .slice none 0 0] 84)) := get_alloc HR2.out (by omega)
  have HY3 : Hid ((w2.alloc (.cells #[.slice (some ⟨b0, 0, none⟩) n0 c0, .slice (some ⟨b1, 0, none⟩) n1 c1, .int .i64 v2, .bool v3, .slice (some ⟨b4, 0, none⟩) n4 c4] 84)).heap[w2.heap.size]? = some (.cells #[.slice (some ⟨b0, 0, none⟩) n0 c0, .slice (some ⟨b1, 0, none⟩) n1 c1, .int .i64 v2, .bool v3, .slice (some ⟨b4, 0, none⟩) n4 c4] 84)) := get_new rfl
  have hz3 : w2.heap.size + 1 = (w2.alloc (.cells #[.slice (some ⟨b0, 0, none⟩) n0 c0, .slice (some ⟨b1, 0, none⟩) n1 c1, .int .i64 v2, .bool v3, .slice (some ⟨b4, 0, none⟩) n4 c4] 84)).heap.size := by simp
  clear hb2 hS0 hS1 hS4
  go_wp2_with fail
  generalize (w2.alloc (.cells #[.slice (some ⟨b0, 0, none⟩) n0 c0, .slice (some ⟨b1, 0, none⟩) n1 c1, .int .i64 v2, .bool v3, .slice (some ⟨b4, 0, none⟩) n4 c4] 84)) = w3 at *
  obtain ⟨k0, k1, k2, k3, k4⟩ := cells5_of HP3.out
  obtain ⟨y0, y1, y2, y3, y4⟩ := cells5_of HY3.out
  have HV4 : Hid _ := own_kept HS4.out ((Below.refl _ _).alloc (Nat.le_refl _) (.cells #[.int .i64 val] 3))
  obtain ⟨b5, c5, w4, hrun, hor, hb5, hS5, hoff⟩ := append_oneInt (w3.alloc (.cells #[.int .i64 val] 3)) b4 n4 c4 g4 val w3.heap.size (by omega) HV4.out (cell_get (get_new rfl) rfl)
  have hsz4 : w3.heap.size + 1 ≤ w4.heap.size := by have := hoff.size; simp at this; omega
  have hor : b5 = b4 ∨ w3.heap.size < b5 := by rcases hor with e | e; exact .inl e; exact .inr (by simp at e; omega)
  have HB4 : Hid (Below w.heap.size w w4) := Off.below (HB3.out.alloc HB3.out.size _) hoff (by have := HB3.out.size; simp; omega) (by simp; omega)
  have HR4 : Hid (w4.heap[w.heap.size + 1]? = some (.cells #[.slice none 0 0, .slice none 0 0, .int .i64 0, .bool false, .slice none 0 0] 84)) := hoff.get (get_alloc HR3.out (by omega)) (by simp; omega)
  have HY4 : Hid (w4.heap[w2.heap.size]? = some (.cells #[.slice (some ⟨b0, 0, none⟩) n0 c0, .slice (some ⟨b1, 0, none⟩) n1 c1, .int .i64 v2, .bool v3, .slice (some ⟨b4, 0, none⟩) n4 c4] 84)) := hoff.get (get_alloc HY3.out (by omega)) (by simp; omega)
  have HS04 : Hid _ := own_offn (own_kept HS0.out ((Below.refl _ _).alloc (Nat.le_refl _) (.cells #[.int .i64 val] 3))) hoff (by simp; omega)
  have HS14 : Hid _ := own_offn (own_kept HS1.out ((Below.refl _ _).alloc (Nat.le_refl _) (.cells #[.int .i64 val] 3))) hoff (by simp; omega)
  have HS5 : Hid _ := hS5
  have HRUN : Hid _ := hrun
  clear hoff hS5 hrun
  obtain ⟨r0, r1, r2, r3, r4⟩ := cells5_of HR4.out
  obtain ⟨z0, z1, z2, z3, z4⟩ := cells5_of HY4.out
  have fr : ∀ j, w4.frozen? ⟨w.heap.size + 1, j, none⟩ = false := fun j => frozen_get HR4.out
  have fy : ∀ j, w4.frozen? ⟨w2.heap.size, j, none⟩ = false := fun j => frozen_get HY4.out
  go_wp2_with (first | (go_at_call 72; refine (l1In_any _ _ _ _).mono ?_; rintro e w' ⟨rfl, rfl⟩) | (at_builtin; refine wpList_plain rfl (fun K hK => wp_append (.tmp 24) (.tmp 26) 78 rfl rfl rfl HRUN.out (hK _ _ ?_))))
  refine bodyPost_ret (v := .tuple #[.agg #[.slice (some ⟨b0, 0, none⟩) n0 c0, .slice (some ⟨b1, 0, none⟩) n1 c1, .int .i64 v2, .bool v3, .slice (some ⟨b5, 0, none⟩) (n4 + 1) c5], .bool true]) (results_row_tmp Try.results58 _ _ (w.heap.size + 1) 84 #[.slice (some ⟨b0, 0, none⟩) n0 c0, .slice (some ⟨b1, 0, none⟩) n1 c1, .int .i64 v2, .bool v3, .slice (some ⟨b5, 0, none⟩) (n4 + 1) c5] (0, 0) _ rfl ?_ Try.underlying84 rfl cellsPart _ rfl) rfl ⟨b0, c0, b1, c1, b5, c5, rfl, ⟨by omega, by omega, by omega, hd01, by omega, by omega, ?_, ?_, ?_⟩, ?_⟩
  · exact get_set (get_set (get_set (get_set (get_set (get_set_ne HR4.out (by omega)) rfl) rfl) rfl) rfl) rfl
  · exact own_set_ne (own_set_ne (own_set_ne (own_set_ne (own_set_ne (own_set_ne (HS04.out) (by omega)) (by omega)) (by omega)) (by omega)) (by omega)) (by omega)
  · exact own_set_ne (own_set_ne (own_set_ne (own_set_ne (own_set_ne (own_set_ne (HS14.out) (by omega)) (by omega)) (by omega)) (by omega)) (by omega)) (by omega)
  · exact own_set_ne (own_set_ne (own_set_ne (own_set_ne (own_set_ne (own_set_ne (HS5.out) (by omega)) (by omega)) (by omega)) (by omega)) (by omega)) (by omega)
  · exact belowS (belowS (belowS (belowS (belowS (belowS HB4.out (by omega)) (by omega)) (by omega)) (by omega)) (by omega)) (by omega)
set_option maxRecDepth 100000 in
set_option maxHeartbeats 2000000 in
theorem implPartSend_no (a0 : Option Addr) (n0 p0 : Nat) (g0_0 g0_1 g0_2 : Nat → Int) (a1 : Option Addr) (n1 p1 : Nat) (g1 : Nat → Int) (v2 : Int) (v3 : Bool) (a4 : Option Addr) (n4 p4 : Nat) (g4 : Nat → Int) (val : Int) (w : World) (hn0 : n0 ≤ 1048576) (hn1 : n1 ≤ 1048576) (hn4 : n4 ≤ 1048576) (ha0 : a0 = none → n0 = 0 ∧ p0 = 0) (ha1 : a1 = none → n1 = 0 ∧ p1 = 0) (ha4 : a4 = none → n4 = 0 ∧ p4 = 0) (h0 : OpS w a0 n0 g0_0 g0_1 g0_2) (h1 : IntS w a1 n1 g1) (h4 : IntS w a4 n4 g4) (hp : partB n0 g0_0 g0_1 g0_2 n1 g1 v2 n4 g4 = false) :
    Calls Try.prog 59 #[.agg #[.slice a0 n0 p0, .slice a1 n1 p1, .int .i64 v2, .bool v3, .slice a4 n4 p4], .int .i64 val] w fun e w' => e = .returned (.tuple #[.agg #[.slice none 0 0, .slice none 0 0, .int .i64 0, .bool false, .slice none 0 0], .bool false]) ∧ Below w.heap.size w w' := by
  have HA0 : Hid (OpS ((w.alloc (.cells #[.slice a0 n0 p0, .slice a1 n1 p1, .int .i64 v2, .bool v3, .slice a4 n4 p4] 84)).alloc (.cells #[.slice none 0 0, .slice none 0 0, .int .i64 0, .bool false, .slice none 0 0] 84)) a0 n0 g0_0 g0_1 g0_2) := (h0.alloc _).alloc _
  have HA1 : Hid (IntS ((w.alloc (.cells #[.slice a0 n0 p0, .slice a1 n1 p1, .int .i64 v2, .bool v3, .slice a4 n4 p4] 84)).alloc (.cells #[.slice none 0 0, .slice none 0 0, .int .i64 0, .bool false, .slice none 0 0] 84)) a1 n1 g1) := (h1.alloc _).alloc _
  have HA4 : Hid (IntS ((w.alloc (.cells #[.slice a0 n0 p0, .slice a1 n1 p1, .int .i64 v2, .bool v3, .slice a4 n4 p4] 84)).alloc (.cells #[.slice none 0 0, .slice none 0 0, .int .i64 0, .bool false, .slice none 0 0] 84)) a4 n4 g4) := (h4.alloc _).alloc _
  have HB0 : Hid (Below w.heap.size w ((w.alloc (.cells #[.slice a0 n0 p0, .slice a1 n1 p1, .int .i64 v2, .bool v3, .slice a4 n4 p4] 84)).alloc (.cells #[.slice none 0 0, .slice none 0 0, .int .i64 0, .bool false, .slice none 0 0] 84))) := ((Below.refl _ _).alloc (Nat.le_refl _) _).alloc (by simp) _
  have HP0 : Hid (((w.alloc (.cells #[.slice a0 n0 p0, .slice a1 n1 p1, .int .i64 v2, .bool v3, .slice a4 n4 p4] 84)).alloc (.cells #[.slice none 0 0, .slice none 0 0, .int .i64 0, .bool false, .slice none 0 0] 84)).heap[w.heap.size]? = some (.cells #[.slice a0 n0 p0, .slice a1 n1 p1, .int .i64 v2, .bool v3, .slice a4 n4 p4] 84)) := get_alloc (get_new rfl) (by simp)
  have HR0 : Hid (((w.alloc (.cells #[.slice a0 n0 p0, .slice a1 n1 p1, .int .i64 v2, .bool v3, .slice a4 n4 p4] 84)).alloc (.cells #[.slice none 0 0, .slice none 0 0, .int .i64 0, .bool false, .slice none 0 0] 84)).heap[w.heap.size + 1]? = some (.cells #[.slice none 0 0, .slice none 0 0, .int .i64 0, .bool false, .slice none 0 0] 84)) := get_new (by simp)
  have HL : Hid (∀ W1 : World, OpS W1 a0 n0 g0_0 g0_1 g0_2 → IntS W1 a1 n1 g1 → IntS W1 a4 n4 g4 → Calls Try.prog 56 #[.agg #[.slice a0 n0 p0, .slice a1 n1 p1, .int .i64 v2, .bool v3, .slice a4 n4 p4]] W1 fun e w' => e = .returned (.bool false) ∧ Below W1.heap.size W1 w') := fun W1 x0 x1 x4 => by
    have := implPartOk_any a0 n0 p0 g0_0 g0_1 g0_2 a1 n1 p1 g1 v2 v3 a4 n4 p4 g4 W1 hn0 hn1 hn4 x0 x1 x4
    rw [hp] at this; exact this
  have HN0 : Hid _ := ha0
  have HN1 : Hid _ := ha1
  have HN4 : Hid _ := ha4
  clear h0 h1 h4 ha0 ha1 ha4 hp
  go_enter Try.func59, Try.ntmps59
  go_wp2_with fail
  refine Calls.mono (HL.out _ HA0.out HA1.out HA4.out) ?_
  rintro e w1 ⟨rfl, hb1⟩
  have HB1 : Hid (Below w.heap.size w w1) := HB0.out.trans (hb1.mono HB0.out.size)
  have HX0 : Hid (OpS w1 a0 n0 g0_0 g0_1 g0_2) := HA0.out.below hb1
  have HX1 : Hid (IntS w1 a1 n1 g1) := HA1.out.below hb1
  have HX4 : Hid (IntS w1 a4 n4 g4) := HA4.out.below hb1
  have HP1 : Hid (w1.heap[w.heap.size]? = some (.cells #[.slice a0 n0 p0, .slice a1 n1 p1, .int .i64 v2, .bool v3, .slice a4 n4 p4] 84)) := get_below hb1 HP0.out (size_of_get HP0.out)
  have HR1 : Hid (w1.heap[w.heap.size + 1]? = some (.cells #[.slice none 0 0, .slice none 0 0, .int .i64 0, .bool false, .slice none 0 0] 84)) := get_below hb1 HR0.out (size_of_get HR0.out)
  have hz1 : w.heap.size + 1 < w1.heap.size := size_of_get HR1.out
  clear hb1
  obtain ⟨q0, q1, q2, q3, q4⟩ := cells5_of HR1.out
  have fr : ∀ j, w1.frozen? ⟨w.heap.size + 1, j, none⟩ = false := fun j => frozen_get HR1.out
  go_wp2_with fail
  refine bodyPost_ret (v := .tuple #[.agg #[.slice none 0 0, .slice none 0 0, .int .i64 0, .bool false, .slice none 0 0], .bool false]) (results_row_tmp Try.results59 _ _ (w.heap.size + 1) 84 #[.slice none 0 0, .slice none 0 0, .int .i64 0, .bool false, .slice none 0 0] (0, 0) _ rfl ?_ Try.underlying84 rfl cellsPart _ rfl) rfl ⟨rfl, ?_⟩
  · exact get_set (get_set (get_set (get_set (get_set HR1.out rfl) rfl) rfl) rfl) rfl
  · exact belowS (belowS (belowS (belowS (belowS HB1.out (by omega)) (by omega)) (by omega)) (by omega)) (by omega)
set_option maxRecDepth 100000 in
set_option maxHeartbeats 4000000 in
theorem implPartSend_full (a0 : Option Addr) (n0 p0 : Nat) (g0_0 g0_1 g0_2 : Nat → Int) (a1 : Option Addr) (n1 p1 : Nat) (g1 : Nat → Int) (v2 : Int) (v3 : Bool) (a4 : Option Addr) (n4 p4 : Nat) (g4 : Nat → Int) (val : Int) (w : World) (hn0 : n0 ≤ 1048576) (hn1 : n1 ≤ 1048576) (hn4 : n4 ≤ 1048576) (ha0 : a0 = none → n0 = 0 ∧ p0 = 0) (ha1 : a1 = none → n1 = 0 ∧ p1 = 0) (ha4 : a4 = none → n4 = 0 ∧ p4 = 0) (h0 : OpS w a0 n0 g0_0 g0_1 g0_2) (h1 : IntS w a1 n1 g1) (h4 : IntS w a4 n4 g4) (hp : partB n0 g0_0 g0_1 g0_2 n1 g1 v2 n4 g4 = true) (hv : inB val 0 9999 = false ∨ (inB val 0 9999 = true ∧ (n4 : Int) = 4)) :
    Calls Try.prog 59 #[.agg #[.slice a0 n0 p0, .slice a1 n1 p1, .int .i64 v2, .bool v3, .slice a4 n4 p4], .int .i64 val] w fun e w' => ∃ b0 c0 b1 c1 b4 c4, e = .returned (.tuple #[.agg #[.slice (some ⟨b0, 0, none⟩) n0 c0, .slice (some ⟨b1, 0, none⟩) n1 c1, .int .i64 v2, .bool v3, .slice (some ⟨b4, 0, none⟩) n4 c4], .bool false]) ∧ (w.heap.size ≤ b0 ∧ w.heap.size ≤ b1 ∧ w.heap.size ≤ b4 ∧ b0 ≠ b1 ∧ b0 ≠ b4 ∧ b1 ≠ b4 ∧ w'.ownsRow b0 155 3 (.slice (some ⟨b0, 0, none⟩) n0 c0) n0 (cellsL (n0 * 3) (allOp g0_0 g0_1 g0_2)) ∧ w'.ownsRow b1 3 1 (.slice (some ⟨b1, 0, none⟩) n1 c1) n1 (cellsL n1 (allInt g1)) ∧ w'.ownsRow b4 3 1 (.slice (some ⟨b4, 0, none⟩) n4 c4) n4 (cellsL n4 (allInt g4))) ∧ Below w.heap.size w w' := by
  have HA0 : Hid (OpS ((w.alloc (.cells #[.slice a0 n0 p0, .slice a1 n1 p1, .int .i64 v2, .bool v3, .slice a4 n4 p4] 84)).alloc (.cells #[.slice none 0 0, .slice none 0 0, .int .i64 0, .bool false, .slice none 0 0] 84)) a0 n0 g0_0 g0_1 g0_2) := (h0.alloc _).alloc _
  have HA1 : Hid (IntS ((w.alloc (.cells #[.slice a0 n0 p0, .slice a1 n1 p1, .int .i64 v2, .bool v3, .slice a4 n4 p4] 84)).alloc (.cells #[.slice none 0 0, .slice none 0 0, .int .i64 0, .bool false, .slice none 0 0] 84)) a1 n1 g1) := (h1.alloc _).alloc _
  have HA4 : Hid (IntS ((w.alloc (.cells #[.slice a0 n0 p0, .slice a1 n1 p1, .int .i64 v2, .bool v3, .slice a4 n4 p4] 84)).alloc (.cells #[.slice none 0 0, .slice none 0 0, .int .i64 0, .bool false, .slice none 0 0] 84)) a4 n4 g4) := (h4.alloc _).alloc _
  have HB0 : Hid (Below w.heap.size w ((w.alloc (.cells #[.slice a0 n0 p0, .slice a1 n1 p1, .int .i64 v2, .bool v3, .slice a4 n4 p4] 84)).alloc (.cells #[.slice none 0 0, .slice none 0 0, .int .i64 0, .bool false, .slice none 0 0] 84))) := ((Below.refl _ _).alloc (Nat.le_refl _) _).alloc (by simp) _
  have HP0 : Hid (((w.alloc (.cells #[.slice a0 n0 p0, .slice a1 n1 p1, .int .i64 v2, .bool v3, .slice a4 n4 p4] 84)).alloc (.cells #[.slice none 0 0, .slice none 0 0, .int .i64 0, .bool false, .slice none 0 0] 84)).heap[w.heap.size]? = some (.cells #[.slice a0 n0 p0, .slice a1 n1 p1, .int .i64 v2, .bool v3, .slice a4 n4 p4] 84)) := get_alloc (get_new rfl) (by simp)
  have HR0 : Hid (((w.alloc (.cells #[.slice a0 n0 p0, .slice a1 n1 p1, .int .i64 v2, .bool v3, .slice a4 n4 p4] 84)).alloc (.cells #[.slice none 0 0, .slice none 0 0, .int .i64 0, .bool false, .slice none 0 0] 84)).heap[w.heap.size + 1]? = some (.cells #[.slice none 0 0, .slice none 0 0, .int .i64 0, .bool false, .slice none 0 0] 84)) := get_new (by simp)
  have HL : Hid (∀ W1 : World, OpS W1 a0 n0 g0_0 g0_1 g0_2 → IntS W1 a1 n1 g1 → IntS W1 a4 n4 g4 → Calls Try.prog 56 #[.agg #[.slice a0 n0 p0, .slice a1 n1 p1, .int .i64 v2, .bool v3, .slice a4 n4 p4]] W1 fun e w' => e = .returned (.bool true) ∧ Below W1.heap.size W1 w') := fun W1 x0 x1 x4 => by
    have := implPartOk_any a0 n0 p0 g0_0 g0_1 g0_2 a1 n1 p1 g1 v2 v3 a4 n4 p4 g4 W1 hn0 hn1 hn4 x0 x1 x4
    rw [hp] at this; exact this
  have HN0 : Hid _ := ha0
  have HN1 : Hid _ := ha1
  have HN4 : Hid _ := ha4
  clear h0 h1 h4 ha0 ha1 ha4 hp
  go_enter Try.func59, Try.ntmps59
  go_wp2_with fail
  refine Calls.mono (HL.out _ HA0.out HA1.out HA4.out) ?_
  rintro e w1 ⟨rfl, hb1⟩
  have HB1 : Hid (Below w.heap.size w w1) := HB0.out.trans (hb1.mono HB0.out.size)
  have HX0 : Hid (OpS w1 a0 n0 g0_0 g0_1 g0_2) := HA0.out.below hb1
  have HX1 : Hid (IntS w1 a1 n1 g1) := HA1.out.below hb1
  have HX4 : Hid (IntS w1 a4 n4 g4) := HA4.out.below hb1
  have HP1 : Hid (w1.heap[w.heap.size]? = some (.cells #[.slice a0 n0 p0, .slice a1 n1 p1, .int .i64 v2, .bool v3, .slice a4 n4 p4] 84)) := get_below hb1 HP0.out (size_of_get HP0.out)
  have HR1 : Hid (w1.heap[w.heap.size + 1]? = some (.cells #[.slice none 0 0, .slice none 0 0, .int .i64 0, .bool false, .slice none 0 0] 84)) := get_below hb1 HR0.out (size_of_get HR0.out)
  have hz1 : w.heap.size + 1 < w1.heap.size := size_of_get HR1.out
  clear hb1
  obtain ⟨k0, k1, k2, k3, k4⟩ := cells5_of HP1.out
  go_wp2_with fail
  clear k0 k1 k2 k3 k4
  refine (partCopy_any a0 n0 p0 g0_0 g0_1 g0_2 a1 n1 p1 g1 v2 v3 a4 n4 p4 g4 w1 (by omega) (by omega) (by omega) HN0.out HN1.out HN4.out HX0.out HX1.out HX4.out).mono ?_
  rintro e w2 ⟨b0, c0, b1, c1, b4, c4, rfl, ⟨hb0, hb1, hb4, _, _, hd14, hS0, hS1, hS4⟩, hb2⟩
  have hd01 : b0 ≠ b1 := own_ty_ne hS0 hS1 (by decide)
  have hd04 : b0 ≠ b4 := own_ty_ne hS0 hS4 (by decide)
  have hlt0 := own_lt hS0
  have hlt1 := own_lt hS1
  have hlt4 := own_lt hS4
  have HB2 : Hid (Below w.heap.size w w2) := HB1.out.trans (hb2.mono HB1.out.size)
  have HP2 : Hid (w2.heap[w.heap.size]? = some (.cells #[.slice a0 n0 p0, .slice a1 n1 p1, .int .i64 v2, .bool v3, .slice a4 n4 p4] 84)) := get_below hb2 HP1.out (size_of_get HP1.out)
  have HR2 : Hid (w2.heap[w.heap.size + 1]? = some (.cells #[.slice none 0 0, .slice none 0 0, .int .i64 0, .bool false, .slice none 0 0] 84)) := get_below hb2 HR1.out (size_of_get HR1.out)
  have hs2 : w1.heap.size ≤ w2.heap.size := hb2.size
  have HS0 : Hid _ := own_kept hS0 ((Below.refl _ _).alloc (Nat.le_refl _) (.cells #[.slice (some ⟨b0, 0, none⟩) n0 c0, .slice (some ⟨b1, 0, none⟩) n1 c1, .int .i64 v2, .bool v3, .slice (some ⟨b4, 0, none⟩) n4 c4] 84))
  have HS1 : Hid _ := own_kept hS1 ((Below.refl _ _).alloc (Nat.le_refl _) (.cells #[.slice (some ⟨b0, 0, none⟩) n0 c0, .slice (some ⟨b1, 0, none⟩) n1 c1, .int .i64 v2, .bool v3, .slice (some ⟨b4, 0, none⟩) n4 c4] 84))
  have HS4 : Hid _ := own_kept hS4 ((Below.refl _ _).alloc (Nat.le_refl _) (.cells #[.slice (some ⟨b0, 0, none⟩) n0 c0, .slice (some ⟨b1, 0, none⟩) n1 c1, .int .i64 v2, .bool v3, .slice (some ⟨b4, 0, none⟩) n4 c4] 84))
  have HB3 : Hid (Below w.heap.size w (w2.alloc (.cells #[.slice (some ⟨b0, 0, none⟩) n0 c0, .slice (some ⟨b1, 0, none⟩) n1 c1, .int .i64 v2, .bool v3, .slice (some ⟨b4, 0, none⟩) n4 c4] 84))) := HB2.out.alloc HB2.out.size _
  have HP3 : Hid ((w2.alloc (.cells #[.slice (some ⟨b0, 0, none⟩) n0 c0, .slice (some ⟨b1, 0, none⟩) n1 c1, .int .i64 v2, .bool v3, .slice (some ⟨b4, 0, none⟩) n4 c4] 84)).heap[w.heap.size]? = some (.cells #[.slice a0 n0 p0, .slice a1 n1 p1, .int .i64 v2, .bool v3, .slice a4 n4 p4] 84)) := get_alloc HP2.out (by omega)
  have HR3 : Hid ((w2.alloc (.cells #[.slice (some ⟨b0, 0, none⟩) n0 c0, .slice (some ⟨b1, 0, none⟩) n1 c1, .int .i64 v2, .bool v3, .slice (some ⟨b4, 0, none⟩) n4 c4] 84)).heap[w.heap.size + 1]? = some (.cells #[.slice none 0 0, .slice none 0 0, .int .i64 0, .bool false, .slice none 0 0] 84)) := get_alloc HR2.out (by omega)
  have HY3 : Hid ((w2.alloc (.cells #[.slice (some ⟨b0, 0, none⟩) n0 c0, .slice (some ⟨b1, 0, none⟩) n1 c1, .int .i64 v2, .bool v3, .slice (some ⟨b4, 0, none⟩) n4 c4] 84)).heap[w2.heap.size]? = some (.cells #[.slice (some ⟨b0, 0, none⟩) n0 c0, .slice (some ⟨b1, 0, none⟩) n1 c1, .int .i64 v2, .bool v3, .slice (some ⟨b4, 0, none⟩) n4 c4] 84)) := get_new rfl
  have hz3 : w2.heap.size + 1 = (w2.alloc (.cells #[.slice (some ⟨b0, 0, none⟩) n0 c0, .slice (some ⟨b1, 0, none⟩) n1 c1, .int .i64 v2, .bool v3, .slice (some ⟨b4, 0, none⟩) n4 c4] 84)).heap.size := by simp
  clear hb2 hS0 hS1 hS4
  go_wp2_with fail
  generalize (w2.alloc (.cells #[.slice (some ⟨b0, 0, none⟩) n0 c0, .slice (some ⟨b1, 0, none⟩) n1 c1, .int .i64 v2, .bool v3, .slice (some ⟨b4, 0, none⟩) n4 c4] 84)) = w3 at *
  obtain ⟨k0, k1, k2, k3, k4⟩ := cells5_of HP3.out
  obtain ⟨y0, y1, y2, y3, y4⟩ := cells5_of HY3.out
  rcases hv with hv | ⟨hv, h44⟩
  · have HV : Hid _ := hv
    obtain ⟨q0, q1, q2, q3, q4⟩ := cells5_of HR3.out
    have fr : ∀ j, w3.frozen? ⟨w.heap.size + 1, j, none⟩ = false := fun j => frozen_get HR3.out
    go_wp2_with (go_at_call 110; refine (upTo_anyU _ _ _).mono ?_; rintro e w' ⟨rfl, rfl⟩)
    refine bodyPost_ret (v := .tuple #[.agg #[.slice (some ⟨b0, 0, none⟩) n0 c0, .slice (some ⟨b1, 0, none⟩) n1 c1, .int .i64 v2, .bool v3, .slice (some ⟨b4, 0, none⟩) n4 c4], .bool false]) (results_row_tmp Try.results59 _ _ (w.heap.size + 1) 84 #[.slice (some ⟨b0, 0, none⟩) n0 c0, .slice (some ⟨b1, 0, none⟩) n1 c1, .int .i64 v2, .bool v3, .slice (some ⟨b4, 0, none⟩) n4 c4] (0, 0) _ rfl ?_ Try.underlying84 rfl cellsPart _ rfl) rfl ⟨b0, c0, b1, c1, b4, c4, rfl, ⟨by omega, by omega, by omega, hd01, hd04, hd14, ?_, ?_, ?_⟩, ?_⟩
    · exact get_set (get_set (get_set (get_set (get_set HR3.out rfl) rfl) rfl) rfl) rfl
    · exact own_set (own_set (own_set (own_set (own_set HS0.out (by omega)) (by omega)) (by omega)) (by omega)) (by omega)
    · exact own_set (own_set (own_set (own_set (own_set HS1.out (by omega)) (by omega)) (by omega)) (by omega)) (by omega)
    · exact own_set (own_set (own_set (own_set (own_set HS4.out (by omega)) (by omega)) (by omega)) (by omega)) (by omega)
    · exact belowS (belowS (belowS (belowS (belowS HB3.out (by omega)) (by omega)) (by omega)) (by omega)) (by omega)
  · have h4' : (n4 : Int) = 4 := h44
    clear h44
    obtain ⟨q0, q1, q2, q3, q4⟩ := cells5_of HR3.out
    have fr : ∀ j, w3.frozen? ⟨w.heap.size + 1, j, none⟩ = false := fun j => frozen_get HR3.out
    go_wp2_with (go_at_call 110; refine (upTo_anyU _ _ _).mono ?_; rintro e w' ⟨rfl, rfl⟩)
    refine bodyPost_ret (v := .tuple #[.agg #[.slice (some ⟨b0, 0, none⟩) n0 c0, .slice (some ⟨b1, 0, none⟩) n1 c1, .int .i64 v2, .bool v3, .slice (some ⟨b4, 0, none⟩) n4 c4], .bool false]) (results_row_tmp Try.results59 _ _ (w.heap.size + 1) 84 #[.slice (some ⟨b0, 0, none⟩) n0 c0, .slice (some ⟨b1, 0, none⟩) n1 c1, .int .i64 v2, .bool v3, .slice (some ⟨b4, 0, none⟩) n4 c4] (0, 0) _ rfl ?_ Try.underlying84 rfl cellsPart _ rfl) rfl ⟨b0, c0, b1, c1, b4, c4, rfl, ⟨by omega, by omega, by omega, hd01, hd04, hd14, ?_, ?_, ?_⟩, ?_⟩
    · exact get_set (get_set (get_set (get_set (get_set HR3.out rfl) rfl) rfl) rfl) rfl
    · exact own_set (own_set (own_set (own_set (own_set HS0.out (by omega)) (by omega)) (by omega)) (by omega)) (by omega)
    · exact own_set (own_set (own_set (own_set (own_set HS1.out (by omega)) (by omega)) (by omega)) (by omega)) (by omega)
    · exact own_set (own_set (own_set (own_set (own_set HS4.out (by omega)) (by omega)) (by omega)) (by omega)) (by omega)
    · exact belowS (belowS (belowS (belowS (belowS HB3.out (by omega)) (by omega)) (by omega)) (by omega)) (by omega)
set_option maxRecDepth 100000 in
set_option maxHeartbeats 4000000 in
theorem implPartSend_yes (a0 : Option Addr) (n0 p0 : Nat) (g0_0 g0_1 g0_2 : Nat → Int) (a1 : Option Addr) (n1 p1 : Nat) (g1 : Nat → Int) (v2 : Int) (v3 : Bool) (a4 : Option Addr) (n4 p4 : Nat) (g4 : Nat → Int) (val : Int) (w : World) (hn0 : n0 ≤ 1048576) (hn1 : n1 ≤ 1048576) (hn4 : n4 ≤ 1048576) (ha0 : a0 = none → n0 = 0 ∧ p0 = 0) (ha1 : a1 = none → n1 = 0 ∧ p1 = 0) (ha4 : a4 = none → n4 = 0 ∧ p4 = 0) (h0 : OpS w a0 n0 g0_0 g0_1 g0_2) (h1 : IntS w a1 n1 g1) (h4 : IntS w a4 n4 g4) (hp : partB n0 g0_0 g0_1 g0_2 n1 g1 v2 n4 g4 = true) (hv : inB val 0 9999 = true) (h44 : (n4 : Int) < 4) :
    Calls Try.prog 59 #[.agg #[.slice a0 n0 p0, .slice a1 n1 p1, .int .i64 v2, .bool v3, .slice a4 n4 p4], .int .i64 val] w fun e w' => ∃ b0 c0 b1 c1 b5 c5, e = .returned (.tuple #[.agg #[.slice (some ⟨b0, 0, none⟩) n0 c0, .slice (some ⟨b1, 0, none⟩) n1 c1, .int .i64 v2, .bool v3, .slice (some ⟨b5, 0, none⟩) (n4 + 1) c5], .bool true]) ∧ (w.heap.size ≤ b0 ∧ w.heap.size ≤ b1 ∧ w.heap.size ≤ b5 ∧ b0 ≠ b1 ∧ b0 ≠ b5 ∧ b1 ≠ b5 ∧ w'.ownsRow b0 155 3 (.slice (some ⟨b0, 0, none⟩) n0 c0) n0 (cellsL (n0 * 3) (allOp g0_0 g0_1 g0_2)) ∧ w'.ownsRow b1 3 1 (.slice (some ⟨b1, 0, none⟩) n1 c1) n1 (cellsL n1 (allInt g1)) ∧ w'.ownsRow b5 3 1 (.slice (some ⟨b5, 0, none⟩) (n4 + 1) c5) (n4 + 1) (cellsL (n4 + 1) (allInt (snoc n4 g4 val)))) ∧ Below w.heap.size w w' := by
  have HA0 : Hid (OpS ((w.alloc (.cells #[.slice a0 n0 p0, .slice a1 n1 p1, .int .i64 v2, .bool v3, .slice a4 n4 p4] 84)).alloc (.cells #[.slice none 0 0, .slice none 0 0, .int .i64 0, .bool false, .slice none 0 0] 84)) a0 n0 g0_0 g0_1 g0_2) := (h0.alloc _).alloc _
  have HA1 : Hid (IntS ((w.alloc (.cells #[.slice a0 n0 p0, .slice a1 n1 p1, .int .i64 v2, .bool v3, .slice a4 n4 p4] 84)).alloc (.cells #[.slice none 0 0, .slice none 0 0, .int .i64 0, .bool false, .slice none 0 0] 84)) a1 n1 g1) := (h1.alloc _).alloc _
  have HA4 : Hid (IntS ((w.alloc (.cells #[.slice a0 n0 p0, .slice a1 n1 p1, .int .i64 v2, .bool v3, .slice a4 n4 p4] 84)).alloc (.cells #[.slice none 0 0, .slice none 0 0, .int .i64 0, .bool false, .slice none 0 0] 84)) a4 n4 g4) := (h4.alloc _).alloc _
  have HB0 : Hid (Below w.heap.size w ((w.alloc (.cells #[.slice a0 n0 p0, .slice a1 n1 p1, .int .i64 v2, .bool v3, .slice a4 n4 p4] 84)).alloc (.cells #[.slice none 0 0, .slice none 0 0, .int .i64 0, .bool false, .slice none 0 0] 84))) := ((Below.refl _ _).alloc (Nat.le_refl _) _).alloc (by simp) _
  have HP0 : Hid (((w.alloc (.cells #[.slice a0 n0 p0, .slice a1 n1 p1, .int .i64 v2, .bool v3, .slice a4 n4 p4] 84)).alloc (.cells #[.slice none 0 0, .slice none 0 0, .int .i64 0, .bool false, .slice none 0 0] 84)).heap[w.heap.size]? = some (.cells #[.slice a0 n0 p0, .slice a1 n1 p1, .int .i64 v2, .bool v3, .slice a4 n4 p4] 84)) := get_alloc (get_new rfl) (by simp)
  have HR0 : Hid (((w.alloc (.cells #[.slice a0 n0 p0, .slice a1 n1 p1, .int .i64 v2, .bool v3, .slice a4 n4 p4] 84)).alloc (.cells #[.slice none 0 0, .slice none 0 0, .int .i64 0, .bool false, .slice none 0 0] 84)).heap[w.heap.size + 1]? = some (.cells #[.slice none 0 0, .slice none 0 0, .int .i64 0, .bool false, .slice none 0 0] 84)) := get_new (by simp)
  have HL : Hid (∀ W1 : World, OpS W1 a0 n0 g0_0 g0_1 g0_2 → IntS W1 a1 n1 g1 → IntS W1 a4 n4 g4 → Calls Try.prog 56 #[.agg #[.slice a0 n0 p0, .slice a1 n1 p1, .int .i64 v2, .bool v3, .slice a4 n4 p4]] W1 fun e w' => e = .returned (.bool true) ∧ Below W1.heap.size W1 w') := fun W1 x0 x1 x4 => by
    have := implPartOk_any a0 n0 p0 g0_0 g0_1 g0_2 a1 n1 p1 g1 v2 v3 a4 n4 p4 g4 W1 hn0 hn1 hn4 x0 x1 x4
    rw [hp] at this; exact this
  have HN0 : Hid _ := ha0
  have HN1 : Hid _ := ha1
  have HN4 : Hid _ := ha4
  clear h0 h1 h4 ha0 ha1 ha4 hp
  go_enter Try.func59, Try.ntmps59
  go_wp2_with fail
  refine Calls.mono (HL.out _ HA0.out HA1.out HA4.out) ?_
  rintro e w1 ⟨rfl, hb1⟩
  have HB1 : Hid (Below w.heap.size w w1) := HB0.out.trans (hb1.mono HB0.out.size)
  have HX0 : Hid (OpS w1 a0 n0 g0_0 g0_1 g0_2) := HA0.out.below hb1
  have HX1 : Hid (IntS w1 a1 n1 g1) := HA1.out.below hb1
  have HX4 : Hid (IntS w1 a4 n4 g4) := HA4.out.below hb1
  have HP1 : Hid (w1.heap[w.heap.size]? = some (.cells #[.slice a0 n0 p0, .slice a1 n1 p1, .int .i64 v2, .bool v3, .slice a4 n4 p4] 84)) := get_below hb1 HP0.out (size_of_get HP0.out)
  have HR1 : Hid (w1.heap[w.heap.size + 1]? = some (.cells #[.slice none 0 0, .slice none 0 0, .int .i64 0, .bool false, .slice none 0 0] 84)) := get_below hb1 HR0.out (size_of_get HR0.out)
  have hz1 : w.heap.size + 1 < w1.heap.size := size_of_get HR1.out
  clear hb1
  obtain ⟨k0, k1, k2, k3, k4⟩ := cells5_of HP1.out
  go_wp2_with fail
  clear k0 k1 k2 k3 k4
  refine (partCopy_any a0 n0 p0 g0_0 g0_1 g0_2 a1 n1 p1 g1 v2 v3 a4 n4 p4 g4 w1 (by omega) (by omega) (by omega) HN0.out HN1.out HN4.out HX0.out HX1.out HX4.out).mono ?_
  rintro e w2 ⟨b0, c0, b1, c1, b4, c4, rfl, ⟨hb0, hb1, hb4, _, _, hd14, hS0, hS1, hS4⟩, hb2⟩
  have hd01 : b0 ≠ b1 := own_ty_ne hS0 hS1 (by decide)
  have hd04 : b0 ≠ b4 := own_ty_ne hS0 hS4 (by decide)
  have hlt0 := own_lt hS0
  have hlt1 := own_lt hS1
  have hlt4 := own_lt hS4
  have HB2 : Hid (Below w.heap.size w w2) := HB1.out.trans (hb2.mono HB1.out.size)
  have HP2 : Hid (w2.heap[w.heap.size]? = some (.cells #[.slice a0 n0 p0, .slice a1 n1 p1, .int .i64 v2, .bool v3, .slice a4 n4 p4] 84)) := get_below hb2 HP1.out (size_of_get HP1.out)
  have HR2 : Hid (w2.heap[w.heap.size + 1]? = some (.cells #[.slice none 0 0, .slice none 0 0, .int .i64 0, .bool false, .slice none 0 0] 84)) := get_below hb2 HR1.out (size_of_get HR1.out)
  have hs2 : w1.heap.size ≤ w2.heap.size := hb2.size
  have HS0 : Hid _ := own_kept hS0 ((Below.refl _ _).alloc (Nat.le_refl _) (.cells #[.slice (some ⟨b0, 0, none⟩) n0 c0, .slice (some ⟨b1, 0, none⟩) n1 c1, .int .i64 v2, .bool v3, .slice (some ⟨b4, 0, none⟩) n4 c4] 84))
  have HS1 : Hid _ := own_kept hS1 ((Below.refl _ _).alloc (Nat.le_refl _) (.cells #[.slice (some ⟨b0, 0, none⟩) n0 c0, .slice (some ⟨b1, 0, none⟩) n1 c1, .int .i64 v2, .bool v3, .slice (some ⟨b4, 0, none⟩) n4 c4] 84))
  have HS4 : Hid _ := own_kept hS4 ((Below.refl _ _).alloc (Nat.le_refl _) (.cells #[.slice (some ⟨b0, 0, none⟩) n0 c0, .slice (some ⟨b1, 0, none⟩) n1 c1, .int .i64 v2, .bool v3, .slice (some ⟨b4, 0, none⟩) n4 c4] 84))
  have HB3 : Hid (Below w.heap.size w (w2.alloc (.cells #[.slice (some ⟨b0, 0, none⟩) n0 c0, .slice (some ⟨b1, 0, none⟩) n1 c1, .int .i64 v2, .bool v3, .slice (some ⟨b4, 0, none⟩) n4 c4] 84))) := HB2.out.alloc HB2.out.size _
  have HP3 : Hid ((w2.alloc (.cells #[.slice (some ⟨b0, 0, none⟩) n0 c0, .slice (some ⟨b1, 0, none⟩) n1 c1, .int .i64 v2, .bool v3, .slice (some ⟨b4, 0, none⟩) n4 c4] 84)).heap[w.heap.size]? = some (.cells #[.slice a0 n0 p0, .slice a1 n1 p1, .int .i64 v2, .bool v3, .slice a4 n4 p4] 84)) := get_alloc HP2.out (by omega)
  have HR3 : Hid ((w2.alloc (.cells #[.slice (some ⟨b0, 0, none⟩) n0 c0, .slice (some ⟨b1, 0, none⟩) n1 c1, .int .i64 v2, .bool v3, .slice (some ⟨b4, 0, none⟩) n4 c4] 84)).heap[w.heap.size + 1]? = some (.cells #[.slice none 0 0, .slice none 0 0, .int .i64 0, .bool false, .slice none 0 0] 84)) := get_alloc HR2.out (by omega)
  have HY3 : Hid ((w2.alloc (.cells #[.slice (some ⟨b0, 0, none⟩) n0 c0, .slice (some ⟨b1, 0, none⟩) n1 c1, .int .i64 v2, .bool v3, .slice (some ⟨b4, 0, none⟩) n4 c4] 84)).heap[w2.heap.size]? = some (.cells #[.slice (some ⟨b0, 0, none⟩) n0 c0, .slice (some ⟨b1, 0, none⟩) n1 c1, .int .i64 v2, .bool v3, .slice (some ⟨b4, 0, none⟩) n4 c4] 84)) := get_new rfl
  have hz3 : w2.heap.size + 1 = (w2.alloc (.cells #[.slice (some ⟨b0, 0, none⟩) n0 c0, .slice (some ⟨b1, 0, none⟩) n1 c1, .int .i64 v2, .bool v3, .slice (some ⟨b4, 0, none⟩) n4 c4] 84)).heap.size := by simp
  clear hb2 hS0 hS1 hS4
  go_wp2_with fail
  generalize (w2.alloc (.cells #[.slice (some ⟨b0, 0, none⟩) n0 c0, .slice (some ⟨b1, 0, none⟩) n1 c1, .int .i64 v2, .bool v3, .slice (some ⟨b4, 0, none⟩) n4 c4] 84)) = w3 at *
  obtain ⟨k0, k1, k2, k3, k4⟩ := cells5_of HP3.out
  obtain ⟨y0, y1, y2, y3, y4⟩ := cells5_of HY3.out
  have h4' : ¬ (n4 : Int) = 4 := by omega
  have HV4 : Hid _ := own_kept HS4.out ((Below.refl _ _).alloc (Nat.le_refl _) (.cells #[.int .i64 val] 3))
  obtain ⟨b5, c5, w4, hrun, hor, hb5, hS5, hoff⟩ := append_oneInt (w3.alloc (.cells #[.int .i64 val] 3)) b4 n4 c4 g4 val w3.heap.size (by omega) HV4.out (cell_get (get_new rfl) rfl)
  have hsz4 : w3.heap.size + 1 ≤ w4.heap.size := by have := hoff.size; simp at this; omega
  have hor : b5 = b4 ∨ w3.heap.size < b5 := by rcases hor with e | e; exact .inl e; exact .inr (by simp at e; omega)
  have HB4 : Hid (Below w.heap.size w w4) := Off.below (HB3.out.alloc HB3.out.size _) hoff (by have := HB3.out.size; simp; omega) (by simp; omega)
  have HR4 : Hid (w4.heap[w.heap.size + 1]? = some (.cells #[.slice none 0 0, .slice none 0 0, .int .i64 0, .bool false, .slice none 0 0] 84)) := hoff.get (get_alloc HR3.out (by omega)) (by simp; omega)
  have HY4 : Hid (w4.heap[w2.heap.size]? = some (.cells #[.slice (some ⟨b0, 0, none⟩) n0 c0, .slice (some ⟨b1, 0, none⟩) n1 c1, .int .i64 v2, .bool v3, .slice (some ⟨b4, 0, none⟩) n4 c4] 84)) := hoff.get (get_alloc HY3.out (by omega)) (by simp; omega)
  have HS04 : Hid _ := own_offn (own_kept HS0.out ((Below.refl _ _).alloc (Nat.le_refl _) (.cells #[.int .i64 val] 3))) hoff (by simp; omega)
  have HS14 : Hid _ := own_offn (own_kept HS1.out ((Below.refl _ _).alloc (Nat.le_refl _) (.cells #[.int .i64 val] 3))) hoff (by simp; omega)
  have HS5 : Hid _ := hS5
  have HRUN : Hid _ := hrun
  clear hoff hS5 hrun
  obtain ⟨r0, r1, r2, r3, r4⟩ := cells5_of HR4.out
  obtain ⟨z0, z1, z2, z3, z4⟩ := cells5_of HY4.out
  have fr : ∀ j, w4.frozen? ⟨w.heap.size + 1, j, none⟩ = false := fun j => frozen_get HR4.out
  have fy : ∀ j, w4.frozen? ⟨w2.heap.size, j, none⟩ = false := fun j => frozen_get HY4.out
  go_wp2_with (first | (go_at_call 110; refine (upTo_anyU _ _ _).mono ?_; rintro e w' ⟨rfl, rfl⟩) | (at_builtin; refine wpList_plain rfl (fun K hK => wp_append (.tmp 24) (.tmp 26) 78 rfl rfl rfl HRUN.out (hK _ _ ?_))))
  refine bodyPost_ret (v := .tuple #[.agg #[.slice (some ⟨b0, 0, none⟩) n0 c0, .slice (some ⟨b1, 0, none⟩) n1 c1, .int .i64 v2, .bool v3, .slice (some ⟨b5, 0, none⟩) (n4 + 1) c5], .bool true]) (results_row_tmp Try.results59 _ _ (w.heap.size + 1) 84 #[.slice (some ⟨b0, 0, none⟩) n0 c0, .slice (some ⟨b1, 0, none⟩) n1 c1, .int .i64 v2, .bool v3, .slice (some ⟨b5, 0, none⟩) (n4 + 1) c5] (0, 0) _ rfl ?_ Try.underlying84 rfl cellsPart _ rfl) rfl ⟨b0, c0, b1, c1, b5, c5, rfl, ⟨by omega, by omega, by omega, hd01, by omega, by omega, ?_, ?_, ?_⟩, ?_⟩
  · exact get_set (get_set (get_set (get_set (get_set (get_set_ne HR4.out (by omega)) rfl) rfl) rfl) rfl) rfl
  · exact own_set_ne (own_set_ne (own_set_ne (own_set_ne (own_set_ne (own_set_ne (HS04.out) (by omega)) (by omega)) (by omega)) (by omega)) (by omega)) (by omega)
  · exact own_set_ne (own_set_ne (own_set_ne (own_set_ne (own_set_ne (own_set_ne (HS14.out) (by omega)) (by omega)) (by omega)) (by omega)) (by omega)) (by omega)
  · exact own_set_ne (own_set_ne (own_set_ne (own_set_ne (own_set_ne (own_set_ne (HS5.out) (by omega)) (by omega)) (by omega)) (by omega)) (by omega)) (by omega)
  · exact belowS (belowS (belowS (belowS (belowS (belowS HB4.out (by omega)) (by omega)) (by omega)) (by omega)) (by omega)) (by omega)
end Go.Proofs.Ythhibeepfecmdaa
