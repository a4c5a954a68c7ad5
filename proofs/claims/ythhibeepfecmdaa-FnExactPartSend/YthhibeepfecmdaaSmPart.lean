/- A struct of slices: laws.markPart, laws.heldPart. -/
import Derived.Test.YthhibeepfecmdaaStPart
import Derived.Test.YthhibeepfecmdaaOwn
import Derived.Test.YthhibeepfecmdaaCellsN
import Derived.Test.YthhibeepfecmdaaMkInt
import Derived.Test.YthhibeepfecmdaaMkOp
namespace Go.Proofs.Ythhibeepfecmdaa
open Go.ChangeShapes Go.WideShapes Go.ChangeAt Go.RowKit
set_option linter.unusedVariables false

set_option maxRecDepth 100000 in
set_option maxHeartbeats 4000000 in
theorem markPart_any (a0 : Option Addr) (n0 p0 : Nat) (g0_0 : Nat → Int) (g0_1 : Nat → Int) (g0_2 : Nat → Int) (a1 : Option Addr) (n1 p1 : Nat) (g1 : Nat → Int) (v2 : Int) (v3 : Bool) (a4 : Option Addr) (n4 p4 : Nat) (g4 : Nat → Int) (x0 x1 x4 : Nat) (k0 : Int) (w : World) (hn0 : n0 ≤ 4194304) (hn1 : n1 ≤ 4194304) (hn4 : n4 ≤ 4194304) (hk0 : 0 ≤ k0) (hk1 : k0 ≤ 1000000) (h0 : OpS w a0 n0 g0_0 g0_1 g0_2) (h1 : IntS w a1 n1 g1) (h4 : IntS w a4 n4 g4) (hi0 : In x0 a0 n0) (hi1 : In x1 a1 n1) (hi4 : In x4 a4 n4) (hf0 : n0 ≠ 0 → Free w x0) (hf1 : n1 ≠ 0 → Free w x1) (hf4 : n4 ≠ 0 → Free w x4) (hl0 : n0 ≠ 0 → x0 < w.heap.size) (hl1 : n1 ≠ 0 → x1 < w.heap.size) (hl4 : n4 ≠ 0 → x4 < w.heap.size) (hd0_1 : n0 ≠ 0 → n1 ≠ 0 → x0 ≠ x1) (hd0_4 : n0 ≠ 0 → n4 ≠ 0 → x0 ≠ x4) (hd1_4 : n1 ≠ 0 → n4 ≠ 0 → x1 ≠ x4) :
    Calls Try.prog 60 #[.agg #[.slice a0 n0 p0, .slice a1 n1 p1, .int .i64 v2, .bool v3, .slice a4 n4 p4], .int .i64 k0] w fun e w' => e = .returned (.int .i64 (k0 + 3 * n0 + n1 + n4)) ∧ (OpS w' a0 n0 (mkOp_0 (k0)) (mkOp_1 (k0)) (mkOp_2 (k0)) ∧ IntS w' a1 n1 (mkInt_0 (k0 + 3 * n0)) ∧ IntS w' a4 n4 (mkInt_0 (k0 + 3 * n0 + n1))) ∧ Off (own x0 n0 ++ (own x1 n1 ++ (own x4 n4))) w w' := by
  have HO0 : Hid (Off (own x0 n0 ++ (own x1 n1 ++ (own x4 n4))) w (w.alloc (.cells #[.slice a0 n0 p0, .slice a1 n1 p1, .int .i64 v2, .bool v3, .slice a4 n4 p4] 84))) := Off.of_below ((Below.refl _ _).alloc (Nat.le_refl _) _)
  have hB0 : Below w.heap.size w (w.alloc (.cells #[.slice a0 n0 p0, .slice a1 n1 p1, .int .i64 v2, .bool v3, .slice a4 n4 p4] 84)) := (Below.refl _ _).alloc (Nat.le_refl _) _
  have HP0_0 : Hid (OpS (w.alloc (.cells #[.slice a0 n0 p0, .slice a1 n1 p1, .int .i64 v2, .bool v3, .slice a4 n4 p4] 84)) a0 n0 g0_0 g0_1 g0_2) := h0.alloc _
  have HF0_0 : Hid (n0 ≠ 0 → Free (w.alloc (.cells #[.slice a0 n0 p0, .slice a1 n1 p1, .int .i64 v2, .bool v3, .slice a4 n4 p4] 84)) x0) := fun hn => (hf0 hn).below hB0 (hl0 hn)
  have HL0_0 : n0 ≠ 0 → x0 < (w.alloc (.cells #[.slice a0 n0 p0, .slice a1 n1 p1, .int .i64 v2, .bool v3, .slice a4 n4 p4] 84)).heap.size := fun hn => by have := hl0 hn; simp; omega
  have HP1_0 : Hid (IntS (w.alloc (.cells #[.slice a0 n0 p0, .slice a1 n1 p1, .int .i64 v2, .bool v3, .slice a4 n4 p4] 84)) a1 n1 g1) := h1.alloc _
  have HF1_0 : Hid (n1 ≠ 0 → Free (w.alloc (.cells #[.slice a0 n0 p0, .slice a1 n1 p1, .int .i64 v2, .bool v3, .slice a4 n4 p4] 84)) x1) := fun hn => (hf1 hn).below hB0 (hl1 hn)
  have HL1_0 : n1 ≠ 0 → x1 < (w.alloc (.cells #[.slice a0 n0 p0, .slice a1 n1 p1, .int .i64 v2, .bool v3, .slice a4 n4 p4] 84)).heap.size := fun hn => by have := hl1 hn; simp; omega
  have HP4_0 : Hid (IntS (w.alloc (.cells #[.slice a0 n0 p0, .slice a1 n1 p1, .int .i64 v2, .bool v3, .slice a4 n4 p4] 84)) a4 n4 g4) := h4.alloc _
  have HF4_0 : Hid (n4 ≠ 0 → Free (w.alloc (.cells #[.slice a0 n0 p0, .slice a1 n1 p1, .int .i64 v2, .bool v3, .slice a4 n4 p4] 84)) x4) := fun hn => (hf4 hn).below hB0 (hl4 hn)
  have HL4_0 : n4 ≠ 0 → x4 < (w.alloc (.cells #[.slice a0 n0 p0, .slice a1 n1 p1, .int .i64 v2, .bool v3, .slice a4 n4 p4] 84)).heap.size := fun hn => by have := hl4 hn; simp; omega
  have HG0 : Hid ((w.alloc (.cells #[.slice a0 n0 p0, .slice a1 n1 p1, .int .i64 v2, .bool v3, .slice a4 n4 p4] 84)).heap[w.heap.size]? = some (.cells #[.slice a0 n0 p0, .slice a1 n1 p1, .int .i64 v2, .bool v3, .slice a4 n4 p4] 84)) := get_new rfl
  clear h0 hf0 h1 hf1 h4 hf4 hB0
  go_enter Try.func60, Try.ntmps60
  go_wp2_with fail
  refine (markOpS_any a0 x0 n0 p0 g0_0 g0_1 g0_2 (k0) _ hn0 (by omega) (by omega) HP0_0.out hi0 HF0_0.out).mono ?_
  rintro e w1 ⟨rfl, hm0, ho1⟩
  have HO1 : Hid (Off (own x0 n0 ++ (own x1 n1 ++ (own x4 n4))) w w1) := HO0.out.trans (ho1.mono (fun y hy => by simp only [List.mem_append]; simp [hy]))
  have HM0_1 : Hid (OpS w1 a0 n0 (mkOp_0 (k0)) (mkOp_1 (k0)) (mkOp_2 (k0))) := hm0
  have HP1_1 : Hid (IntS w1 a1 n1 g1) := HP1_0.out.off hi1 ho1 (fun a => own_ne fun b => (fun a b => (hd0_1 b a).symm) a b)
  have HF1_1 : Hid (n1 ≠ 0 → Free w1 x1) := fun a => (HF1_0.out a).off ho1 (HL1_0 a) (own_ne fun b => (fun a b => (hd0_1 b a).symm) a b)
  have HL1_1 : n1 ≠ 0 → x1 < w1.heap.size := fun a => Nat.lt_of_lt_of_le (HL1_0 a) ho1.size
  have HP4_1 : Hid (IntS w1 a4 n4 g4) := HP4_0.out.off hi4 ho1 (fun a => own_ne fun b => (fun a b => (hd0_4 b a).symm) a b)
  have HF4_1 : Hid (n4 ≠ 0 → Free w1 x4) := fun a => (HF4_0.out a).off ho1 (HL4_0 a) (own_ne fun b => (fun a b => (hd0_4 b a).symm) a b)
  have HL4_1 : n4 ≠ 0 → x4 < w1.heap.size := fun a => Nat.lt_of_lt_of_le (HL4_0 a) ho1.size
  have HG1 : Hid (w1.heap[w.heap.size]? = some (.cells #[.slice a0 n0 p0, .slice a1 n1 p1, .int .i64 v2, .bool v3, .slice a4 n4 p4] 84)) := ho1.get HG0.out (own_ne fun a => by have := hl0 a; omega)
  clear hm0 ho1
  obtain ⟨k0', k1', k2', k3', k4'⟩ := cells5_of HG1.out
  go_wp2_with fail
  clear k0' k1' k2' k3' k4'
  refine (markIntS_any a1 x1 n1 p1 g1 (k0 + 3 * n0) _ hn1 (by omega) (by omega) HP1_1.out hi1 HF1_1.out).mono ?_
  rintro e w2 ⟨rfl, hm1, ho2⟩
  have HO2 : Hid (Off (own x0 n0 ++ (own x1 n1 ++ (own x4 n4))) w w2) := HO1.out.trans (ho2.mono (fun y hy => by simp only [List.mem_append]; simp [hy]))
  have HM0_2 : Hid (OpS w2 a0 n0 (mkOp_0 (k0)) (mkOp_1 (k0)) (mkOp_2 (k0))) := HM0_1.out.off hi0 ho2 (fun a => own_ne fun b => (fun a b => hd0_1 a b) a b)
  have HM1_2 : Hid (IntS w2 a1 n1 (mkInt_0 (k0 + 3 * n0))) := hm1
  have HP4_2 : Hid (IntS w2 a4 n4 g4) := HP4_1.out.off hi4 ho2 (fun a => own_ne fun b => (fun a b => (hd1_4 b a).symm) a b)
  have HF4_2 : Hid (n4 ≠ 0 → Free w2 x4) := fun a => (HF4_1.out a).off ho2 (HL4_1 a) (own_ne fun b => (fun a b => (hd1_4 b a).symm) a b)
  have HL4_2 : n4 ≠ 0 → x4 < w2.heap.size := fun a => Nat.lt_of_lt_of_le (HL4_1 a) ho2.size
  have HG2 : Hid (w2.heap[w.heap.size]? = some (.cells #[.slice a0 n0 p0, .slice a1 n1 p1, .int .i64 v2, .bool v3, .slice a4 n4 p4] 84)) := ho2.get HG1.out (own_ne fun a => by have := hl1 a; omega)
  clear hm1 ho2
  obtain ⟨k0', k1', k2', k3', k4'⟩ := cells5_of HG2.out
  go_wp2_with fail
  clear k0' k1' k2' k3' k4'
  refine (markIntS_any a4 x4 n4 p4 g4 (k0 + 3 * n0 + n1) _ hn4 (by omega) (by omega) HP4_2.out hi4 HF4_2.out).mono ?_
  rintro e w3 ⟨rfl, hm4, ho3⟩
  have HO3 : Hid (Off (own x0 n0 ++ (own x1 n1 ++ (own x4 n4))) w w3) := HO2.out.trans (ho3.mono (fun y hy => by simp only [List.mem_append]; simp [hy]))
  have HM0_3 : Hid (OpS w3 a0 n0 (mkOp_0 (k0)) (mkOp_1 (k0)) (mkOp_2 (k0))) := HM0_2.out.off hi0 ho3 (fun a => own_ne fun b => (fun a b => hd0_4 a b) a b)
  have HM1_3 : Hid (IntS w3 a1 n1 (mkInt_0 (k0 + 3 * n0))) := HM1_2.out.off hi1 ho3 (fun a => own_ne fun b => (fun a b => hd1_4 a b) a b)
  have HM4_3 : Hid (IntS w3 a4 n4 (mkInt_0 (k0 + 3 * n0 + n1))) := hm4
  have HG3 : Hid (w3.heap[w.heap.size]? = some (.cells #[.slice a0 n0 p0, .slice a1 n1 p1, .int .i64 v2, .bool v3, .slice a4 n4 p4] 84)) := ho3.get HG2.out (own_ne fun a => by have := hl4 a; omega)
  clear hm4 ho3
  go_wp2_with fail
  go_ret
  exact ⟨rfl, ⟨HM0_3.out, HM1_3.out, HM4_3.out⟩, HO3.out⟩
set_option maxRecDepth 100000 in
set_option maxHeartbeats 4000000 in
theorem heldPart_any (a0 : Option Addr) (n0 p0 : Nat) (a1 : Option Addr) (n1 p1 : Nat) (v2 : Int) (v3 : Bool) (a4 : Option Addr) (n4 p4 : Nat) (k0 : Int) (w : World) (hn0 : n0 ≤ 4194304) (hn1 : n1 ≤ 4194304) (hn4 : n4 ≤ 4194304) (hk0 : 0 ≤ k0) (hk1 : k0 ≤ 1000000) (h0 : OpS w a0 n0 (mkOp_0 (k0)) (mkOp_1 (k0)) (mkOp_2 (k0))) (h1 : IntS w a1 n1 (mkInt_0 (k0 + 3 * n0))) (h4 : IntS w a4 n4 (mkInt_0 (k0 + 3 * n0 + n1))) :
    Calls Try.prog 61 #[.agg #[.slice a0 n0 p0, .slice a1 n1 p1, .int .i64 v2, .bool v3, .slice a4 n4 p4], .int .i64 k0] w fun e w' => e = .returned (.int .i64 (k0 + 3 * n0 + n1 + n4)) ∧ Below w.heap.size w w' := by
  have HB0 : Hid (Below w.heap.size w (w.alloc (.cells #[.slice a0 n0 p0, .slice a1 n1 p1, .int .i64 v2, .bool v3, .slice a4 n4 p4] 84))) := (Below.refl _ _).alloc (Nat.le_refl _) _
  have HP0_0 : Hid (OpS (w.alloc (.cells #[.slice a0 n0 p0, .slice a1 n1 p1, .int .i64 v2, .bool v3, .slice a4 n4 p4] 84)) a0 n0 (mkOp_0 (k0)) (mkOp_1 (k0)) (mkOp_2 (k0))) := h0.alloc _
  have HP1_0 : Hid (IntS (w.alloc (.cells #[.slice a0 n0 p0, .slice a1 n1 p1, .int .i64 v2, .bool v3, .slice a4 n4 p4] 84)) a1 n1 (mkInt_0 (k0 + 3 * n0))) := h1.alloc _
  have HP4_0 : Hid (IntS (w.alloc (.cells #[.slice a0 n0 p0, .slice a1 n1 p1, .int .i64 v2, .bool v3, .slice a4 n4 p4] 84)) a4 n4 (mkInt_0 (k0 + 3 * n0 + n1))) := h4.alloc _
  have HG0 : Hid ((w.alloc (.cells #[.slice a0 n0 p0, .slice a1 n1 p1, .int .i64 v2, .bool v3, .slice a4 n4 p4] 84)).heap[w.heap.size]? = some (.cells #[.slice a0 n0 p0, .slice a1 n1 p1, .int .i64 v2, .bool v3, .slice a4 n4 p4] 84)) := get_new rfl
  clear h0 h1 h4
  go_enter Try.func61, Try.ntmps61
  go_wp2_with fail
  refine (heldOpS_any a0 n0 p0 (k0) _ hn0 (by omega) (by omega) HP0_0.out).mono ?_
  rintro e w1 ⟨rfl, he1⟩
  have hb1 : Below (w.alloc (.cells #[.slice a0 n0 p0, .slice a1 n1 p1, .int .i64 v2, .bool v3, .slice a4 n4 p4] 84)).heap.size (w.alloc (.cells #[.slice a0 n0 p0, .slice a1 n1 p1, .int .i64 v2, .bool v3, .slice a4 n4 p4] 84)) w1 := by rw [he1]; exact Below.refl _ _
  clear he1
  have HB1 : Hid (Below w.heap.size w w1) := HB0.out.trans (hb1.mono HB0.out.size)
  have HP1_1 : Hid (IntS w1 a1 n1 (mkInt_0 (k0 + 3 * n0))) := HP1_0.out.below hb1
  have HP4_1 : Hid (IntS w1 a4 n4 (mkInt_0 (k0 + 3 * n0 + n1))) := HP4_0.out.below hb1
  have HG1 : Hid (w1.heap[w.heap.size]? = some (.cells #[.slice a0 n0 p0, .slice a1 n1 p1, .int .i64 v2, .bool v3, .slice a4 n4 p4] 84)) := get_below hb1 HG0.out (size_of_get HG0.out)
  clear hb1
  have hpos1 : ¬ k0 + 3 * n0 < 0 := by omega
  obtain ⟨k0', k1', k2', k3', k4'⟩ := cells5_of HG1.out
  go_wp2_with fail
  clear k0' k1' k2' k3' k4'
  refine (heldIntS_any a1 n1 p1 (k0 + 3 * n0) _ hn1 (by omega) (by omega) HP1_1.out).mono ?_
  rintro e w2 ⟨rfl, he2⟩
  have hb2 : Below w1.heap.size w1 w2 := by rw [he2]; exact Below.refl _ _
  clear he2
  have HB2 : Hid (Below w.heap.size w w2) := HB1.out.trans (hb2.mono HB1.out.size)
  have HP4_2 : Hid (IntS w2 a4 n4 (mkInt_0 (k0 + 3 * n0 + n1))) := HP4_1.out.below hb2
  have HG2 : Hid (w2.heap[w.heap.size]? = some (.cells #[.slice a0 n0 p0, .slice a1 n1 p1, .int .i64 v2, .bool v3, .slice a4 n4 p4] 84)) := get_below hb2 HG1.out (size_of_get HG1.out)
  clear hb2
  have hpos2 : ¬ k0 + 3 * n0 + n1 < 0 := by omega
  obtain ⟨k0', k1', k2', k3', k4'⟩ := cells5_of HG2.out
  go_wp2_with fail
  clear k0' k1' k2' k3' k4'
  refine (heldIntS_any a4 n4 p4 (k0 + 3 * n0 + n1) _ hn4 (by omega) (by omega) HP4_2.out).mono ?_
  rintro e w3 ⟨rfl, he3⟩
  have hb3 : Below w2.heap.size w2 w3 := by rw [he3]; exact Below.refl _ _
  clear he3
  have HB3 : Hid (Below w.heap.size w w3) := HB2.out.trans (hb3.mono HB2.out.size)
  have HG3 : Hid (w3.heap[w.heap.size]? = some (.cells #[.slice a0 n0 p0, .slice a1 n1 p1, .int .i64 v2, .bool v3, .slice a4 n4 p4] 84)) := get_below hb3 HG2.out (size_of_get HG2.out)
  clear hb3
  have hpos3 : ¬ k0 + 3 * n0 + n1 + n4 < 0 := by omega
  go_wp2_with fail
  go_ret
  exact ⟨rfl, HB3.out⟩
end Go.Proofs.Ythhibeepfecmdaa
