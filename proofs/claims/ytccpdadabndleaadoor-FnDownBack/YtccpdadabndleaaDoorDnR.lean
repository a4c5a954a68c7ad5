/- l12Put at any text for the farm: a size. -/
import Derived.Test.YtccpdadabndleaaDoorDnQ
namespace Go.Proofs.YtccpdadabndleaaDoor
open Go.ChangeShapes Go.WideShapes Go.ChangeAt Go.RowKit
set_option linter.unusedVariables false
set_option maxRecDepth 100000 in
set_option maxHeartbeats 4000000 in
theorem l12Put_some (cr wh al ow fi : Int) (d f : ByteArray) (w : World) (c0 : 0 ≤ cr) (c1 : cr ≤ 1023) (w0 : 0 ≤ wh) (w1' : wh ≤ 7) (a0 : 0 ≤ al) (a1 : al ≤ 255) (o0 : 0 ≤ ow) (o1 : ow ≤ 255) (f0 : 0 ≤ fi) (f1 : fi ≤ 2047) (hd28 : d.size = 28) (hf4 : f.size ≤ 4) :
    Calls Tryd.prog 88 #[.agg #[.int .i64 cr, .int .i64 wh, .int .i64 al, .int .i64 ow, .int .i64 fi, .string d, .string f]] w fun e w' => ∃ p : ByteArray, 8 ≤ p.size ∧ p.size ≤ 40 ∧ e = .returned (.string p) ∧ Below w.heap.size w w' := by
  obtain ⟨x1, e1, z1, h1⟩ := l1PutX (cr * 16 + wh * 2 + 1) 2 (by omega) (by omega) (.inr rfl) (by omega)
  obtain ⟨x2, e2, z2, h2⟩ := l1PutX al 1 (by omega) (by omega) (.inl rfl) (by omega)
  obtain ⟨x3, e3, z3, h3⟩ := l1PutX ow 1 (by omega) (by omega) (.inl rfl) (by omega)
  obtain ⟨x4, e4, z4, h4⟩ := l1PutX (6144 + fi) 2 (by omega) (by omega) (.inr rfl) (by omega)
  obtain ⟨T, hs⟩ : ∃ T, x1 ++ x2 ++ x3 ++ x4 ++ d ++ f = T := ⟨_, rfl⟩
  have hTz : T.size = 34 + f.size := by rw [← hs]; simp only [ByteArray.size_append]; omega
  obtain ⟨c0', c1'⟩ := crc_le T
  obtain ⟨x5, e5, z5, h5⟩ := l1PutX ((crcTo T T.size : Nat) : Int) 2 (by omega) (by omega) (.inr rfl) (by omega)
  have HS : Hid _ := hs
  have HZ : Hid (8 ≤ (T ++ x5).size ∧ (T ++ x5).size ≤ 40) := by show 8 ≤ (T ++ x5).size ∧ (T ++ x5).size ≤ 40; rw [ByteArray.size_append]; omega
  have H1 : Hid (∀ W, Calls Tryd.prog 80 #[.int .i64 (cr * 16 + wh * 2 + 1), .int .i64 2] W fun e w' => e = .returned (.string x1) ∧ Below W.heap.size W w') := h1
  have H2 : Hid (∀ W, Calls Tryd.prog 80 #[.int .i64 (al), .int .i64 1] W fun e w' => e = .returned (.string x2) ∧ Below W.heap.size W w') := h2
  have H3 : Hid (∀ W, Calls Tryd.prog 80 #[.int .i64 (ow), .int .i64 1] W fun e w' => e = .returned (.string x3) ∧ Below W.heap.size W w') := h3
  have H4 : Hid (∀ W, Calls Tryd.prog 80 #[.int .i64 (6144 + fi), .int .i64 2] W fun e w' => e = .returned (.string x4) ∧ Below W.heap.size W w') := h4
  have HC : Hid (∀ W, Calls Tryd.prog 56 #[.string T] W fun e w' => e = .returned (.int .i64 (crcTo T T.size : Nat)) ∧ w' = W) := fun W => specCrc16_any T W (by unfold maxLen; omega)
  generalize crcTo T T.size = sm at *
  have H5 : Hid (∀ W, Calls Tryd.prog 80 #[.int .i64 (sm : Int), .int .i64 2] W fun e w' => e = .returned (.string x5) ∧ Below W.heap.size W w') := h5
  have hmx : T.size ≤ maxLen := by unfold maxLen; omega
  have n1 : (9223372036854775807 < x1.size + x2.size) = False := by simp; omega
  have y1 : (x1 ++ x2).size = 3 := by rw [ByteArray.size_append]; omega
  have n2 : (9223372036854775807 < (x1 ++ x2).size + x3.size) = False := by simp; omega
  have y2 : (x1 ++ x2 ++ x3).size = 4 := by rw [ByteArray.size_append]; omega
  have n3 : (9223372036854775807 < (x1 ++ x2 ++ x3).size + x4.size) = False := by simp; omega
  have y3 : (x1 ++ x2 ++ x3 ++ x4).size = 6 := by rw [ByteArray.size_append]; omega
  have n4 : (9223372036854775807 < (x1 ++ x2 ++ x3 ++ x4).size + d.size) = False := by simp; omega
  have y4 : (x1 ++ x2 ++ x3 ++ x4 ++ d).size = 34 := by rw [ByteArray.size_append]; omega
  have n5 : (9223372036854775807 < (x1 ++ x2 ++ x3 ++ x4 ++ d).size + f.size) = False := by simp; omega
  have v1 : IntKind.i64.wrap (cr * 16) = cr * 16 := wrapI64 _ (by omega) (by omega)
  have v2 : IntKind.i64.wrap (wh * 2) = wh * 2 := wrapI64 _ (by omega) (by omega)
  have v3 : IntKind.i64.wrap (cr * 16 + wh * 2) = cr * 16 + wh * 2 := wrapI64 _ (by omega) (by omega)
  have v4 : IntKind.i64.wrap (cr * 16 + wh * 2 + 1) = cr * 16 + wh * 2 + 1 := wrapI64 _ (by omega) (by omega)
  have v5 : IntKind.i64.wrap (6144 + fi) = 6144 + fi := wrapI64 _ (by omega) (by omega)
  clear h1 h2 h3 h4 h5 e1 e2 e3 e4 e5 hs
  have hK : (w.alloc (.cells #[.int .i64 cr, .int .i64 wh, .int .i64 al, .int .i64 ow, .int .i64 fi, .string d, .string f] 54)).heap[w.heap.size]? = some (.cells #[.int .i64 cr, .int .i64 wh, .int .i64 al, .int .i64 ow, .int .i64 fi, .string d, .string f] 54) := get_new rfl
  have HB : Hid (Below w.heap.size w (w.alloc (.cells #[.int .i64 cr, .int .i64 wh, .int .i64 al, .int .i64 ow, .int .i64 fi, .string d, .string f] 54))) := (Below.refl _ _).alloc (Nat.le_refl _) _
  go_enter Tryd.func88, Tryd.ntmps88
  go_wp2_with fail
  generalize (w.alloc (.cells #[.int .i64 cr, .int .i64 wh, .int .i64 al, .int .i64 ow, .int .i64 fi, .string d, .string f] 54)) = wr at *
  obtain ⟨k0, k1, k2, k3, k4, k5, k6⟩ := cells7_of hK
  have hlt := size_of_get hK
  replace k0 := Bl.cell k0 hlt
  replace k1 := Bl.cell k1 hlt
  replace k2 := Bl.cell k2 hlt
  replace k3 := Bl.cell k3 hlt
  replace k4 := Bl.cell k4 hlt
  replace k5 := Bl.cell k5 hlt
  replace k6 := Bl.cell k6 hlt
  clear hK
  refine wp_region_bl (by kernel_rfl) (by kernel_rfl) ?_
  repeat (go_big_quiet_step (fail))
  go_big_quiet_step ((go_at_call 80; exact calls_bl (H1.out _)))
  repeat (go_big_quiet_step (fail))
  go_big_quiet_step ((go_at_call 80; exact calls_bl (H2.out _)))
  repeat (go_big_quiet_step (fail))
  go_big_quiet_step ((go_at_call 80; exact calls_bl (H3.out _)))
  repeat (go_big_quiet_step (fail))
  go_big_quiet_step ((go_at_call 80; exact calls_bl (H4.out _)))
  repeat (go_big_quiet_step (fail))
  refine wpQuiet_nil ?_
  intro w2 hw
  obtain ⟨⟨w2, hb⟩, rfl⟩ := hw
  replace HB : Hid (Below w.heap.size w w2) := HB.out.trans (hb.mono HB.out.size)
  clear hb k0 k1 k2 k3 k4 k5 k6
  rw [HS.out]
  clear n1 n2 n3 n4 n5 y1 y2 y3 y4 v1 v2 v3 v4 v5
  have n6 : (9223372036854775807 < T.size + x5.size) = False := by simp; omega
  go_wp2_with fail
  refine Calls.mono (HC.out _) ?_
  rintro e w3 ⟨rfl, h3⟩
  obtain rfl := h3.symm
  go_wp2_with fail
  refine Calls.mono (H5.out _) ?_
  rintro e w4 ⟨rfl, hb⟩
  replace HB : Hid (Below w.heap.size w w4) := HB.out.trans (hb.mono HB.out.size)
  clear hb
  go_wp2_with fail
  go_ret
  exact ⟨_, HZ.out.1, HZ.out.2, rfl, HB.out⟩
end Go.Proofs.YtccpdadabndleaaDoor
