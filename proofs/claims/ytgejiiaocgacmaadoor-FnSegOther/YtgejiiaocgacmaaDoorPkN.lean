/- The writer's number and head, and impl.packetOk. -/
import Derived.Test.YtgejiiaocgacmaaDoorPkW
import Derived.Test.YtgejiiaocgacmaaDoorFr
namespace Go.Proofs.YtgejiiaocgacmaaDoor
open Go.ChangeShapes Go.WideShapes Go.ChangeAt Go.RowKit
set_option linter.unusedVariables false

theorem ownsRow_below {w w' : World} {base e size : Nat} {v : Value} {n : Nat} {xs : List Value} (h : w.ownsRow base e size v n xs) (hb : Below w.heap.size w w') : w'.ownsRow base e size v n xs := by
  obtain ⟨h1, h2⟩ := h
  refine ⟨h1, ?_⟩
  rcases h2 with h2 | ⟨b, cap, cur, hv, hb', hh, r⟩
  · exact .inl h2
  · exact .inr ⟨b, cap, cur, hv, hb', get_below hb hh (size_of_get hh), r⟩
theorem Wrt.keep {w w' : World} {b : Nat} {l : List UInt8} (h : Wrt w b l) (hb : Below w.heap.size w w') : Wrt w' b l := by
  obtain ⟨v, hG, hO⟩ := h
  exact ⟨v, get_below hb hG (size_of_get hG), ownsRow_below hO hb⟩
theorem Wrt.lt {w : World} {b : Nat} {l : List UInt8} (h : Wrt w b l) : b < w.heap.size := by
  obtain ⟨v, hG, hO⟩ := h
  exact size_of_get hG
theorem putL_le (n s : Int) : (putL n s).length ≤ 4 := by
  unfold putL; split
  · rw [pt_length]; omega
  · simp
set_option maxRecDepth 100000 in
set_option maxHeartbeats 1000000 in
theorem number_any (b : Nat) (l : List UInt8) (n s : Int) (w : World) (h : Wrt w b l) (hn : l.length ≤ 900000) :
    Calls Tryd.prog 154 #[.pointer (some ⟨b, 0, none⟩), .int .i64 n, .int .i64 s] w fun e w' => e = .returned (.tuple #[]) ∧ Wrt w' b (l ++ putL n s) ∧ Kept b w w' := by
  have H : Hid _ := h
  have hlt := h.lt
  clear h
  go_enter Tryd.func154, Tryd.ntmps154
  go_wp2_with fail
  refine (implNumPut_any _ _ _).mono ?_
  rintro e w1 ⟨rfl, hb1⟩
  have HW1 : Hid (Wrt w1 b l) := Wrt.keep H.out hb1
  have HB1 : Hid (Kept b w w1) := Kept.of_below hb1 (by omega)
  have hle := putL_le n s
  generalize hT : putL n s = t at *
  have HT : Hid _ := hT
  clear hT
  clear hb1
  go_wp2_with fail
  refine (text_any b l _ _ HW1.out (by show l.length + t.length ≤ _; omega)).mono ?_
  rintro e w2 ⟨rfl, hw2, hb2⟩
  have HW2 : Hid _ := hw2
  have HB2 : Hid _ := hb2
  clear hw2 hb2
  go_wp2_with fail
  exact ⟨rfl, .tuple #[], results_none Tryd.results154 _ _ _, rfl, by rw [HT.out]; exact HW2.out, HB1.out.trans HB2.out⟩
set_option maxRecDepth 100000 in
set_option maxHeartbeats 1000000 in
theorem head_true (b : Nat) (l : List UInt8) (a c n : Int) (d : ByteArray) (w : World) (h : Wrt w b l) (hl : l.length ≤ 800000) (ha0 : 0 ≤ a) (ha1 : a ≤ 2047) (hc0 : 0 ≤ c) (hc1 : c ≤ 16383) (hn0 : 0 ≤ n) (hn1 : n ≤ 1000000) :
    Calls Tryd.prog 137 #[.pointer (some ⟨b, 0, none⟩), .agg #[.bool true, .int .i64 a, .int .i64 c, .string d], .int .i64 n] w fun e w' => e = .returned (.tuple #[]) ∧ Wrt w' b (l ++ putL (2048 + a + 4096) 2 ++ putL (49152 + c) 2 ++ putL (n - 1) 2) ∧ Kept b w w' := by
  have hlt := h.lt
  have HW : Hid (Wrt (w.alloc (.cells #[.bool true, .int .i64 a, .int .i64 c, .string d] 79)) b l) := h.keep ((Below.refl _ _).alloc (Nat.le_refl _) _)
  have HB0 : Hid (Kept b w (w.alloc (.cells #[.bool true, .int .i64 a, .int .i64 c, .string d] 79))) := Kept.of_below ((Below.refl _ _).alloc (Nat.le_refl _) _) (by omega)
  have HG : Hid ((w.alloc (.cells #[.bool true, .int .i64 a, .int .i64 c, .string d] 79)).heap[w.heap.size]? = some (.cells #[.bool true, .int .i64 a, .int .i64 c, .string d] 79)) := get_new rfl
  clear h
  go_enter Tryd.func137, Tryd.ntmps137
  go_wp2_with fail
  refine (number_any b l _ _ _ HW.out (by omega)).mono ?_
  rintro e w1 ⟨rfl, hw1, hk1⟩
  have HW : Hid _ := hw1
  have HB0 : Hid (Kept b w w1) := HB0.out.trans hk1
  have hG1 : w1.heap[w.heap.size]? = some (.cells #[.bool true, .int .i64 a, .int .i64 c, .string d] 79) := hk1.2 _ _ _ _ (by omega) (by decide) HG.out
  have m0 : w1.cell? ⟨w.heap.size, 0, none⟩ = some (.bool true) := cell_get hG1 rfl
  have m1 : w1.cell? ⟨w.heap.size, 1, none⟩ = some (.int .i64 a) := cell_get hG1 rfl
  have m2 : w1.cell? ⟨w.heap.size, 2, none⟩ = some (.int .i64 c) := cell_get hG1 rfl
  have HG : Hid _ := hG1
  clear hw1 hk1 hG1
  go_wp2_with fail
  refine (number_any b (l ++ putL (2048 + a + 4096) 2) _ _ _ HW.out (by have := putL_le (2048 + a + 4096) 2; simp only [List.length_append]; omega)).mono ?_
  rintro e w2 ⟨rfl, hw2, hk2⟩
  have HW : Hid _ := hw2
  have HB0 : Hid (Kept b w w2) := HB0.out.trans hk2
  have hG2 : w2.heap[w.heap.size]? = some (.cells #[.bool true, .int .i64 a, .int .i64 c, .string d] 79) := hk2.2 _ _ _ _ (by omega) (by decide) HG.out
  have m0 : w2.cell? ⟨w.heap.size, 0, none⟩ = some (.bool true) := cell_get hG2 rfl
  have m1 : w2.cell? ⟨w.heap.size, 1, none⟩ = some (.int .i64 a) := cell_get hG2 rfl
  have m2 : w2.cell? ⟨w.heap.size, 2, none⟩ = some (.int .i64 c) := cell_get hG2 rfl
  have HG : Hid _ := hG2
  clear hw2 hk2 hG2
  go_wp2_with fail
  refine (number_any b (l ++ putL (2048 + a + 4096) 2 ++ putL (49152 + c) 2) _ _ _ HW.out (by have := putL_le (2048 + a + 4096) 2; have := putL_le (49152 + c) 2; simp only [List.length_append]; omega)).mono ?_
  rintro e w3 ⟨rfl, hw3, hk3⟩
  have HW : Hid _ := hw3
  have HB0 : Hid (Kept b w w3) := HB0.out.trans hk3
  have hG3 : w3.heap[w.heap.size]? = some (.cells #[.bool true, .int .i64 a, .int .i64 c, .string d] 79) := hk3.2 _ _ _ _ (by omega) (by decide) HG.out
  have m0 : w3.cell? ⟨w.heap.size, 0, none⟩ = some (.bool true) := cell_get hG3 rfl
  have m1 : w3.cell? ⟨w.heap.size, 1, none⟩ = some (.int .i64 a) := cell_get hG3 rfl
  have m2 : w3.cell? ⟨w.heap.size, 2, none⟩ = some (.int .i64 c) := cell_get hG3 rfl
  have HG : Hid _ := hG3
  clear hw3 hk3 hG3
  go_wp2_with fail
  exact ⟨rfl, .tuple #[], results_none Tryd.results137 _ _ _, rfl, HW.out, HB0.out⟩
set_option maxRecDepth 100000 in
set_option maxHeartbeats 1000000 in
theorem head_false (b : Nat) (l : List UInt8) (a c n : Int) (d : ByteArray) (w : World) (h : Wrt w b l) (hl : l.length ≤ 800000) (ha0 : 0 ≤ a) (ha1 : a ≤ 2047) (hc0 : 0 ≤ c) (hc1 : c ≤ 16383) (hn0 : 0 ≤ n) (hn1 : n ≤ 1000000) :
    Calls Tryd.prog 137 #[.pointer (some ⟨b, 0, none⟩), .agg #[.bool false, .int .i64 a, .int .i64 c, .string d], .int .i64 n] w fun e w' => e = .returned (.tuple #[]) ∧ Wrt w' b (l ++ putL (2048 + a) 2 ++ putL (49152 + c) 2 ++ putL (n - 1) 2) ∧ Kept b w w' := by
  have hlt := h.lt
  have HW : Hid (Wrt (w.alloc (.cells #[.bool false, .int .i64 a, .int .i64 c, .string d] 79)) b l) := h.keep ((Below.refl _ _).alloc (Nat.le_refl _) _)
  have HB0 : Hid (Kept b w (w.alloc (.cells #[.bool false, .int .i64 a, .int .i64 c, .string d] 79))) := Kept.of_below ((Below.refl _ _).alloc (Nat.le_refl _) _) (by omega)
  have HG : Hid ((w.alloc (.cells #[.bool false, .int .i64 a, .int .i64 c, .string d] 79)).heap[w.heap.size]? = some (.cells #[.bool false, .int .i64 a, .int .i64 c, .string d] 79)) := get_new rfl
  clear h
  go_enter Tryd.func137, Tryd.ntmps137
  go_wp2_with fail
  refine (number_any b l _ _ _ HW.out (by omega)).mono ?_
  rintro e w1 ⟨rfl, hw1, hk1⟩
  have HW : Hid _ := hw1
  have HB0 : Hid (Kept b w w1) := HB0.out.trans hk1
  have hG1 : w1.heap[w.heap.size]? = some (.cells #[.bool false, .int .i64 a, .int .i64 c, .string d] 79) := hk1.2 _ _ _ _ (by omega) (by decide) HG.out
  have m0 : w1.cell? ⟨w.heap.size, 0, none⟩ = some (.bool false) := cell_get hG1 rfl
  have m1 : w1.cell? ⟨w.heap.size, 1, none⟩ = some (.int .i64 a) := cell_get hG1 rfl
  have m2 : w1.cell? ⟨w.heap.size, 2, none⟩ = some (.int .i64 c) := cell_get hG1 rfl
  have HG : Hid _ := hG1
  clear hw1 hk1 hG1
  go_wp2_with fail
  refine (number_any b (l ++ putL (2048 + a) 2) _ _ _ HW.out (by have := putL_le (2048 + a) 2; simp only [List.length_append]; omega)).mono ?_
  rintro e w2 ⟨rfl, hw2, hk2⟩
  have HW : Hid _ := hw2
  have HB0 : Hid (Kept b w w2) := HB0.out.trans hk2
  have hG2 : w2.heap[w.heap.size]? = some (.cells #[.bool false, .int .i64 a, .int .i64 c, .string d] 79) := hk2.2 _ _ _ _ (by omega) (by decide) HG.out
  have m0 : w2.cell? ⟨w.heap.size, 0, none⟩ = some (.bool false) := cell_get hG2 rfl
  have m1 : w2.cell? ⟨w.heap.size, 1, none⟩ = some (.int .i64 a) := cell_get hG2 rfl
  have m2 : w2.cell? ⟨w.heap.size, 2, none⟩ = some (.int .i64 c) := cell_get hG2 rfl
  have HG : Hid _ := hG2
  clear hw2 hk2 hG2
  go_wp2_with fail
  refine (number_any b (l ++ putL (2048 + a) 2 ++ putL (49152 + c) 2) _ _ _ HW.out (by have := putL_le (2048 + a) 2; have := putL_le (49152 + c) 2; simp only [List.length_append]; omega)).mono ?_
  rintro e w3 ⟨rfl, hw3, hk3⟩
  have HW : Hid _ := hw3
  have HB0 : Hid (Kept b w w3) := HB0.out.trans hk3
  have hG3 : w3.heap[w.heap.size]? = some (.cells #[.bool false, .int .i64 a, .int .i64 c, .string d] 79) := hk3.2 _ _ _ _ (by omega) (by decide) HG.out
  have m0 : w3.cell? ⟨w.heap.size, 0, none⟩ = some (.bool false) := cell_get hG3 rfl
  have m1 : w3.cell? ⟨w.heap.size, 1, none⟩ = some (.int .i64 a) := cell_get hG3 rfl
  have m2 : w3.cell? ⟨w.heap.size, 2, none⟩ = some (.int .i64 c) := cell_get hG3 rfl
  have HG : Hid _ := hG3
  clear hw3 hk3 hG3
  go_wp2_with fail
  exact ⟨rfl, .tuple #[], results_none Tryd.results137 _ _ _, rfl, HW.out, HB0.out⟩
end Go.Proofs.YtgejiiaocgacmaaDoor
