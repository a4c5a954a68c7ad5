/- DownPut, both sides. -/
import Derived.Test.YtccpdadabndleaaDoorDnP
import Derived.Test.YtccpdadabndleaaDoorQuB
import Derived.Test.YtccpdadabndleaaDoorCrcS
namespace Go.Proofs.YtccpdadabndleaaDoor
open Go.ChangeShapes Go.WideShapes Go.ChangeAt Go.RowKit
set_option linter.unusedVariables false
/-- A frame down ahead of its sum. -/
def dnT (cr wh al ow fi : Int) (d f : ByteArray) : ByteArray := ⟨([] ++ putL (cr * 16 + wh * 2 + 1) 2 ++ putL al 1 ++ putL ow 1 ++ putL (6144 + fi) 2 ++ d.data.toList ++ f.data.toList).toArray⟩
def dnPut (cr wh al ow fi : Int) (d f : ByteArray) : ByteArray := if dnOk cr wh al ow fi d f = true then cmW (dnT cr wh al ow fi d f) else ⟨#[]⟩
theorem dnT_lst {cr wh al ow fi : Int} {d f : ByteArray} (h : dnOk cr wh al ow fi d f = true) : lsP (dnT cr wh al ow fi d f) = [hiB (cr * 16 + wh * 2 + 1), loB (cr * 16 + wh * 2 + 1), UInt8.ofNat al.toNat, UInt8.ofNat ow.toNat, hiB (6144 + fi), loB (6144 + fi)] ++ lsP d ++ lsP f := by
  obtain ⟨_, _, _, _, _, _, _, _, _, _, _, _, _⟩ := dnOk_all h
  unfold dnT lsP
  rw [putL_two (n := cr * 16 + wh * 2 + 1) (by omega) (by omega), putL_two (n := 6144 + fi) (by omega) (by omega), putL_one' (n := al) (by omega) (by omega), putL_one' (n := ow) (by omega) (by omega)]
  simp
theorem dnT_size {cr wh al ow fi : Int} {d f : ByteArray} (h : dnOk cr wh al ow fi d f = true) : (dnT cr wh al ow fi d f).size = 38 := by
  obtain ⟨_, hf, _, _, _, _, _, _, _, _, _, _, hd⟩ := dnOk_all h
  rw [← lsP_size, dnT_lst h]
  simp [lsP_size]; omega
theorem l1PutX (n : Int) (k : Nat) (h0 : 0 ≤ n) (h1 : n ≤ 65535) (hk : k = 1 ∨ k = 2) (h2 : k = 1 → n ≤ 255) : ∃ x : ByteArray, lsP x = putL n k ∧ x.size = k ∧ ∀ W, Calls Tryd.prog 80 #[.int .i64 n, .int .i64 k] W fun e w' => e = .returned (.string x) ∧ Below W.heap.size W w' := by
  refine ⟨⟨(pt n.toNat k).toArray⟩, ?_, ?_, fun W => ?_⟩
  · rw [lsP_mk, putL_yes (by omega) (by omega) h0 (by rcases hk with rfl | rfl <;> simp <;> omega)]; simp
  · show (List.toArray _).size = _
    rcases hk with rfl | rfl <;> simp [pt]
  · have := l1Put_any n k W h0 (by omega) (by omega) (by omega)
    exact this.mono fun e w' ⟨a, b⟩ => ⟨by rw [a]; simp, b⟩
set_option maxHeartbeats 1000000 in
theorem implDownPut_no (cr wh al ow fi : Int) (d f : ByteArray) (w : World) (hd : d.size ≤ maxLen) (hf : f.size ≤ maxLen) (he : Errs w) (h : dnOk cr wh al ow fi d f = false) :
    Calls Tryd.prog 39 #[.agg #[.int .i64 cr, .int .i64 wh, .int .i64 al, .int .i64 ow, .int .i64 fi, .string d, .string f]] w fun e w' => e = .returned (.string ⟨#[]⟩) ∧ Below w.heap.size w w' := by
  have HE : Hid (Errs (w.alloc (.cells #[.int .i64 cr, .int .i64 wh, .int .i64 al, .int .i64 ow, .int .i64 fi, .string d, .string f] 54))) := he.below ((Below.refl _ _).alloc (Nat.le_refl _) _)
  go_enter Tryd.func39, Tryd.ntmps39
  go_wp2_with fail
  refine (implDnOk_any _ _ _ _ _ _ _ _ hd hf HE.out).mono ?_
  rintro e w1 ⟨rfl, hb⟩
  have HB : Hid (Below w.heap.size w w1) := ((Below.refl _ _).alloc (Nat.le_refl _) _).trans (hb.mono (by simp))
  clear hb
  go_wp2_with fail
  go_ret
  exact ⟨rfl, HB.out⟩
set_option maxHeartbeats 1000000 in
theorem specDownPut_no (cr wh al ow fi : Int) (d f : ByteArray) (w : World) (hd : d.size ≤ maxLen) (hf : f.size ≤ maxLen) (h : dnOk cr wh al ow fi d f = false) :
    Calls Tryd.prog 37 #[.agg #[.int .i64 cr, .int .i64 wh, .int .i64 al, .int .i64 ow, .int .i64 fi, .string d, .string f]] w fun e w' => e = .returned (.string ⟨#[]⟩) ∧ Below w.heap.size w w' := by
  go_enter Tryd.func37, Tryd.ntmps37
  go_wp2_with fail
  refine (specDnOk_any _ _ _ _ _ _ _ _ hd hf).mono ?_
  rintro e w1 ⟨rfl, hb⟩
  have HB : Hid (Below w.heap.size w w1) := ((Below.refl _ _).alloc (Nat.le_refl _) _).trans (hb.mono (by simp))
  clear hb
  go_wp2_with fail
  go_ret
  exact ⟨rfl, HB.out⟩
set_option maxRecDepth 100000 in
set_option maxHeartbeats 4000000 in
theorem implDownPut_yes (cr wh al ow fi : Int) (d f : ByteArray) (w : World) (he : Errs w) (h : dnOk cr wh al ow fi d f = true) (c0 : 0 ≤ cr) (c1 : cr ≤ 1023) (w0 : 0 ≤ wh) (w1' : wh ≤ 7) (a0 : 0 ≤ al) (a1 : al ≤ 255) (o0 : 0 ≤ ow) (o1 : ow ≤ 255) (f0 : 0 ≤ fi) (f1 : fi ≤ 2047) (hd28 : d.size = 28) (hf4 : f.size = 4) (T : ByteArray) (hT : dnT cr wh al ow fi d f = T) (hTz : T.size = 38) :
    Calls Tryd.prog 39 #[.agg #[.int .i64 cr, .int .i64 wh, .int .i64 al, .int .i64 ow, .int .i64 fi, .string d, .string f]] w fun e w' => e = .returned (.string (cmW T)) ∧ Below w.heap.size w w' := by
  have HE : Hid (Errs (w.alloc (.cells #[.int .i64 cr, .int .i64 wh, .int .i64 al, .int .i64 ow, .int .i64 fi, .string d, .string f] 54))) := he.below ((Below.refl _ _).alloc (Nat.le_refl _) _)
  have hd : d.size ≤ maxLen := by unfold maxLen; omega
  have hf : f.size ≤ maxLen := by unfold maxLen; omega
  have HT : Hid _ := hT
  clear hT he
  go_enter Tryd.func39, Tryd.ntmps39
  go_wp2_with fail
  refine (implDnOk_any _ _ _ _ _ _ _ _ hd hf HE.out).mono ?_
  rintro e w1 ⟨rfl, hb⟩
  have hK1 : w1.heap[w.heap.size]? = some (.cells #[.int .i64 cr, .int .i64 wh, .int .i64 al, .int .i64 ow, .int .i64 fi, .string d, .string f] 54) := get_below hb (get_new rfl) (by simp)
  have hz1 : w.heap.size < w1.heap.size := size_of_get hK1
  have HB0 : Hid (Below w.heap.size w w1) := ((Below.refl _ _).alloc (Nat.le_refl _) _).trans (hb.mono (by simp))
  clear hb HE hd hf
  have HW : Hid (Wrt (w1.alloc (.cells #[.slice none 0 0] 89)) w1.heap.size []) := wrt_new w1
  have HG : Hid ((w1.alloc (.cells #[.slice none 0 0] 89)).heap[w.heap.size]? = some (.cells #[.int .i64 cr, .int .i64 wh, .int .i64 al, .int .i64 ow, .int .i64 fi, .string d, .string f] 54)) := get_allocS hK1
  have HB : Hid (Below w.heap.size w (w1.alloc (.cells #[.slice none 0 0] 89))) := HB0.out.alloc HB0.out.size _
  obtain ⟨m0, m1, m2, m3, m4, m5, m6⟩ := cells7_of HG.out
  clear HB0 hK1
  go_wp2_with fail
  clear m0 m1 m2 m3 m4 m5 m6
  refine (number_any w1.heap.size ([]) _ _ _ HW.out (by simp)).mono ?_
  rintro e w2 ⟨rfl, hw, hk⟩
  replace HW : Hid (Wrt w2 w1.heap.size ([] ++ putL (cr * 16 + wh * 2 + 1) 2)) := hw
  replace HG : Hid (w2.heap[w.heap.size]? = some (.cells #[.int .i64 cr, .int .i64 wh, .int .i64 al, .int .i64 ow, .int .i64 fi, .string d, .string f] 54)) := get_below hk.1 HG.out hz1
  replace HB : Hid (Below w.heap.size w w2) := HB.out.trans (hk.1.mono (by omega))
  obtain ⟨m0, m1, m2, m3, m4, m5, m6⟩ := cells7_of HG.out
  clear hw hk
  go_wp2_with fail
  clear m0 m1 m2 m3 m4 m5 m6
  refine (number_any w1.heap.size ([] ++ putL (cr * 16 + wh * 2 + 1) 2) _ _ _ HW.out (by have := putL_le (cr * 16 + wh * 2 + 1) 2; simp only [List.length_append, List.length_nil]; omega)).mono ?_
  rintro e w3 ⟨rfl, hw, hk⟩
  replace HW : Hid (Wrt w3 w1.heap.size ([] ++ putL (cr * 16 + wh * 2 + 1) 2 ++ putL (al) 1)) := hw
  replace HG : Hid (w3.heap[w.heap.size]? = some (.cells #[.int .i64 cr, .int .i64 wh, .int .i64 al, .int .i64 ow, .int .i64 fi, .string d, .string f] 54)) := get_below hk.1 HG.out hz1
  replace HB : Hid (Below w.heap.size w w3) := HB.out.trans (hk.1.mono (by omega))
  obtain ⟨m0, m1, m2, m3, m4, m5, m6⟩ := cells7_of HG.out
  clear hw hk
  go_wp2_with fail
  clear m0 m1 m2 m3 m4 m5 m6
  refine (number_any w1.heap.size ([] ++ putL (cr * 16 + wh * 2 + 1) 2 ++ putL (al) 1) _ _ _ HW.out (by have := putL_le (cr * 16 + wh * 2 + 1) 2; have := putL_le (al) 1; simp only [List.length_append, List.length_nil]; omega)).mono ?_
  rintro e w4 ⟨rfl, hw, hk⟩
  replace HW : Hid (Wrt w4 w1.heap.size ([] ++ putL (cr * 16 + wh * 2 + 1) 2 ++ putL (al) 1 ++ putL (ow) 1)) := hw
  replace HG : Hid (w4.heap[w.heap.size]? = some (.cells #[.int .i64 cr, .int .i64 wh, .int .i64 al, .int .i64 ow, .int .i64 fi, .string d, .string f] 54)) := get_below hk.1 HG.out hz1
  replace HB : Hid (Below w.heap.size w w4) := HB.out.trans (hk.1.mono (by omega))
  obtain ⟨m0, m1, m2, m3, m4, m5, m6⟩ := cells7_of HG.out
  clear hw hk
  go_wp2_with fail
  clear m0 m1 m2 m3 m4 m5 m6
  refine (number_any w1.heap.size ([] ++ putL (cr * 16 + wh * 2 + 1) 2 ++ putL (al) 1 ++ putL (ow) 1) _ _ _ HW.out (by have := putL_le (cr * 16 + wh * 2 + 1) 2; have := putL_le (al) 1; have := putL_le (ow) 1; simp only [List.length_append, List.length_nil]; omega)).mono ?_
  rintro e w5 ⟨rfl, hw, hk⟩
  replace HW : Hid (Wrt w5 w1.heap.size ([] ++ putL (cr * 16 + wh * 2 + 1) 2 ++ putL (al) 1 ++ putL (ow) 1 ++ putL (6144 + fi) 2)) := hw
  replace HG : Hid (w5.heap[w.heap.size]? = some (.cells #[.int .i64 cr, .int .i64 wh, .int .i64 al, .int .i64 ow, .int .i64 fi, .string d, .string f] 54)) := get_below hk.1 HG.out hz1
  replace HB : Hid (Below w.heap.size w w5) := HB.out.trans (hk.1.mono (by omega))
  obtain ⟨m0, m1, m2, m3, m4, m5, m6⟩ := cells7_of HG.out
  clear hw hk
  go_wp2_with fail
  clear m0 m1 m2 m3 m4 m5 m6
  refine (text_any w1.heap.size ([] ++ putL (cr * 16 + wh * 2 + 1) 2 ++ putL (al) 1 ++ putL (ow) 1 ++ putL (6144 + fi) 2) d _ HW.out (by have := putL_le (cr * 16 + wh * 2 + 1) 2; have := putL_le (al) 1; have := putL_le (ow) 1; have := putL_le (6144 + fi) 2; simp only [List.length_append, List.length_nil]; omega)).mono ?_
  rintro e w6 ⟨rfl, hw, hk⟩
  replace HW : Hid (Wrt w6 w1.heap.size ([] ++ putL (cr * 16 + wh * 2 + 1) 2 ++ putL (al) 1 ++ putL (ow) 1 ++ putL (6144 + fi) 2 ++ d.data.toList)) := hw
  replace HG : Hid (w6.heap[w.heap.size]? = some (.cells #[.int .i64 cr, .int .i64 wh, .int .i64 al, .int .i64 ow, .int .i64 fi, .string d, .string f] 54)) := get_below hk.1 HG.out hz1
  replace HB : Hid (Below w.heap.size w w6) := HB.out.trans (hk.1.mono (by omega))
  obtain ⟨m0, m1, m2, m3, m4, m5, m6⟩ := cells7_of HG.out
  clear hw hk
  go_wp2_with fail
  clear m0 m1 m2 m3 m4 m5 m6
  refine (text_any w1.heap.size ([] ++ putL (cr * 16 + wh * 2 + 1) 2 ++ putL (al) 1 ++ putL (ow) 1 ++ putL (6144 + fi) 2 ++ d.data.toList) f _ HW.out (by have := putL_le (cr * 16 + wh * 2 + 1) 2; have := putL_le (al) 1; have := putL_le (ow) 1; have := putL_le (6144 + fi) 2; have : d.data.size = d.size := rfl; simp only [List.length_append, List.length_nil, Array.length_toList]; omega)).mono ?_
  rintro e w7 ⟨rfl, hw, hk⟩
  replace HW : Hid (Wrt w7 w1.heap.size ([] ++ putL (cr * 16 + wh * 2 + 1) 2 ++ putL (al) 1 ++ putL (ow) 1 ++ putL (6144 + fi) 2 ++ d.data.toList ++ f.data.toList)) := hw
  replace HG : Hid (w7.heap[w.heap.size]? = some (.cells #[.int .i64 cr, .int .i64 wh, .int .i64 al, .int .i64 ow, .int .i64 fi, .string d, .string f] 54)) := get_below hk.1 HG.out hz1
  replace HB : Hid (Below w.heap.size w w7) := HB.out.trans (hk.1.mono (by omega))
  obtain ⟨m0, m1, m2, m3, m4, m5, m6⟩ := cells7_of HG.out
  clear hw hk
  clear m0 m1 m2 m3 m4 m5 m6 HG
  replace HW : Hid (Wrt w7 w1.heap.size T.data.toList) := by
    have e : T.data.toList = [] ++ putL (cr * 16 + wh * 2 + 1) 2 ++ putL al 1 ++ putL ow 1 ++ putL (6144 + fi) 2 ++ d.data.toList ++ f.data.toList := by rw [← HT.out]; simp [dnT]
    rw [e]; exact HW.out
  have hmx : T.size ≤ maxLen := by unfold maxLen; omega
  have HTl : Hid (T.data.toList.length ≤ 900000) := by show T.data.toList.length ≤ 900000; have e : T.data.toList.length = T.size := (by simp); omega
  clear hTz
  have hcr := crc_lt T
  obtain ⟨v, hv, hcv⟩ := wrt_text HW.out
  have hTT : (⟨T.data.toList.toArray⟩ : ByteArray) = T := by simp
  rw [hTT] at hcv
  clear hTT HT
  go_wp2_with fail
  refine (implCrc16_any T _ hmx).mono ?_
  rintro e w8 ⟨rfl, hb8⟩
  replace HW : Hid (Wrt w8 w1.heap.size T.data.toList) := Wrt.keep HW.out hb8
  replace HB : Hid (Below w.heap.size w w8) := HB.out.trans (hb8.mono HB.out.size)
  clear hb8 hv hcv
  go_wp2_with fail
  refine (number_any w1.heap.size T.data.toList _ _ _ HW.out HTl.out).mono ?_
  rintro e w9 ⟨rfl, hw9, hk9⟩
  replace HB : Hid (Below w.heap.size w w9) := HB.out.trans (hk9.1.mono (by omega))
  obtain ⟨v9, hv9, hcv9⟩ := wrt_text hw9
  have HE : Hid ((⟨(T.data.toList ++ putL (crcTo T T.size : Nat) 2).toArray⟩ : ByteArray) = cmW T) := rfl
  rw [HE.out] at hcv9
  clear hw9 hk9 HE HW HTl
  generalize hU : cmW T = U at *
  have HU : Hid _ := hU
  clear hU
  go_wp2_with fail
  go_ret
  exact ⟨by rw [HU.out]; rfl, HB.out⟩
set_option maxRecDepth 100000 in
set_option maxHeartbeats 4000000 in
theorem l12Put_any (cr wh al ow fi : Int) (d f : ByteArray) (w : World) (c0 : 0 ≤ cr) (c1 : cr ≤ 1023) (w0 : 0 ≤ wh) (w1' : wh ≤ 7) (a0 : 0 ≤ al) (a1 : al ≤ 255) (o0 : 0 ≤ ow) (o1 : ow ≤ 255) (f0 : 0 ≤ fi) (f1 : fi ≤ 2047) (hd28 : d.size = 28) (hf4 : f.size = 4) (T : ByteArray) (hT : dnT cr wh al ow fi d f = T) (hTz : T.size = 38) :
    Calls Tryd.prog 88 #[.agg #[.int .i64 cr, .int .i64 wh, .int .i64 al, .int .i64 ow, .int .i64 fi, .string d, .string f]] w fun e w' => e = .returned (.string (cmW T)) ∧ Below w.heap.size w w' := by
  obtain ⟨x1, e1, z1, h1⟩ := l1PutX (cr * 16 + wh * 2 + 1) 2 (by omega) (by omega) (.inr rfl) (by omega)
  obtain ⟨x2, e2, z2, h2⟩ := l1PutX al 1 (by omega) (by omega) (.inl rfl) (by omega)
  obtain ⟨x3, e3, z3, h3⟩ := l1PutX ow 1 (by omega) (by omega) (.inl rfl) (by omega)
  obtain ⟨x4, e4, z4, h4⟩ := l1PutX (6144 + fi) 2 (by omega) (by omega) (.inr rfl) (by omega)
  obtain ⟨c0', c1'⟩ := crc_le T
  have hs : x1 ++ x2 ++ x3 ++ x4 ++ d ++ f = T := by
    rw [← hT]
    apply lsP_inj
    simp only [lsP_append]
    rw [e1, e2, e3, e4]
    unfold dnT
    rw [lsP_mk]
    rfl
  obtain ⟨x5, e5, z5, h5⟩ := l1PutX ((crcTo T T.size : Nat) : Int) 2 (by omega) (by omega) (.inr rfl) (by omega)
  have hU : T ++ x5 = cmW T := by
    apply lsP_inj
    rw [lsP_append, e5, cmW_lst, show ((2 : Nat) : Int) = 2 from rfl, putL_two (by omega) (by omega)]
  have HS : Hid _ := hs
  have HU : Hid _ := hU
  have H1 : Hid (∀ W, Calls Tryd.prog 80 #[.int .i64 (cr * 16 + wh * 2 + 1), .int .i64 2] W fun e w' => e = .returned (.string x1) ∧ Below W.heap.size W w') := h1
  have H2 : Hid (∀ W, Calls Tryd.prog 80 #[.int .i64 (al), .int .i64 1] W fun e w' => e = .returned (.string x2) ∧ Below W.heap.size W w') := h2
  have H3 : Hid (∀ W, Calls Tryd.prog 80 #[.int .i64 (ow), .int .i64 1] W fun e w' => e = .returned (.string x3) ∧ Below W.heap.size W w') := h3
  have H4 : Hid (∀ W, Calls Tryd.prog 80 #[.int .i64 (6144 + fi), .int .i64 2] W fun e w' => e = .returned (.string x4) ∧ Below W.heap.size W w') := h4
  have HC : Hid (∀ W, Calls Tryd.prog 56 #[.string T] W fun e w' => e = .returned (.int .i64 (crcTo T T.size : Nat)) ∧ w' = W) := fun W => specCrc16_any T W (by unfold maxLen; omega)
  generalize crcTo T T.size = sm at *
  have H5 : Hid (∀ W, Calls Tryd.prog 80 #[.int .i64 (sm : Int), .int .i64 2] W fun e w' => e = .returned (.string x5) ∧ Below W.heap.size W w') := h5
  have hmx : T.size ≤ maxLen := by unfold maxLen; omega
  have n1 : (9223372036854775807 < x1.size + x2.size) = False := by simp; omega
  have y1 : (x1 ++ x2).size = 3 := by rw [ByteArray.size_append]; omega
  have n2 : (9223372036854775807 < (x1 ++ x2).size + x3.size) = False := by simp; omega
  have y2 : (x1 ++ x2 ++ x3).size = 4 := by rw [ByteArray.size_append]; omega
  have n3 : (9223372036854775807 < (x1 ++ x2 ++ x3).size + x4.size) = False := by simp; omega
  have y3 : (x1 ++ x2 ++ x3 ++ x4).size = 6 := by rw [ByteArray.size_append]; omega
  have n4 : (9223372036854775807 < (x1 ++ x2 ++ x3 ++ x4).size + d.size) = False := by simp; omega
  have y4 : (x1 ++ x2 ++ x3 ++ x4 ++ d).size = 34 := by rw [ByteArray.size_append]; omega
  have n5 : (9223372036854775807 < (x1 ++ x2 ++ x3 ++ x4 ++ d).size + f.size) = False := by simp; omega
  have v1 : IntKind.i64.wrap (cr * 16) = cr * 16 := wrapI64 _ (by omega) (by omega)
  have v2 : IntKind.i64.wrap (wh * 2) = wh * 2 := wrapI64 _ (by omega) (by omega)
  have v3 : IntKind.i64.wrap (cr * 16 + wh * 2) = cr * 16 + wh * 2 := wrapI64 _ (by omega) (by omega)
  have v4 : IntKind.i64.wrap (cr * 16 + wh * 2 + 1) = cr * 16 + wh * 2 + 1 := wrapI64 _ (by omega) (by omega)
  have v5 : IntKind.i64.wrap (6144 + fi) = 6144 + fi := wrapI64 _ (by omega) (by omega)
  clear h1 h2 h3 h4 h5 e1 e2 e3 e4 e5 hs hU hT
  have hK : (w.alloc (.cells #[.int .i64 cr, .int .i64 wh, .int .i64 al, .int .i64 ow, .int .i64 fi, .string d, .string f] 54)).heap[w.heap.size]? = some (.cells #[.int .i64 cr, .int .i64 wh, .int .i64 al, .int .i64 ow, .int .i64 fi, .string d, .string f] 54) := get_new rfl
  have HB : Hid (Below w.heap.size w (w.alloc (.cells #[.int .i64 cr, .int .i64 wh, .int .i64 al, .int .i64 ow, .int .i64 fi, .string d, .string f] 54))) := (Below.refl _ _).alloc (Nat.le_refl _) _
  go_enter Tryd.func88, Tryd.ntmps88
  go_wp2_with fail
  generalize (w.alloc (.cells #[.int .i64 cr, .int .i64 wh, .int .i64 al, .int .i64 ow, .int .i64 fi, .string d, .string f] 54)) = wr at *
  obtain ⟨k0, k1, k2, k3, k4, k5, k6⟩ := cells7_of hK
  have hlt := size_of_get hK
  replace k0 := Bl.cell k0 hlt
  replace k1 := Bl.cell k1 hlt
  replace k2 := Bl.cell k2 hlt
  replace k3 := Bl.cell k3 hlt
  replace k4 := Bl.cell k4 hlt
  replace k5 := Bl.cell k5 hlt
  replace k6 := Bl.cell k6 hlt
  clear hK
  refine wp_region_bl (by kernel_rfl) (by kernel_rfl) ?_
  repeat (go_big_quiet_step (fail))
  go_big_quiet_step ((go_at_call 80; exact calls_bl (H1.out _)))
  repeat (go_big_quiet_step (fail))
  go_big_quiet_step ((go_at_call 80; exact calls_bl (H2.out _)))
  repeat (go_big_quiet_step (fail))
  go_big_quiet_step ((go_at_call 80; exact calls_bl (H3.out _)))
  repeat (go_big_quiet_step (fail))
  go_big_quiet_step ((go_at_call 80; exact calls_bl (H4.out _)))
  repeat (go_big_quiet_step (fail))
  refine wpQuiet_nil ?_
  intro w2 hw
  obtain ⟨⟨w2, hb⟩, rfl⟩ := hw
  replace HB : Hid (Below w.heap.size w w2) := HB.out.trans (hb.mono HB.out.size)
  clear hb k0 k1 k2 k3 k4 k5 k6
  rw [HS.out]
  clear n1 n2 n3 n4 n5 y1 y2 y3 y4 v1 v2 v3 v4 v5
  have n6 : (9223372036854775807 < T.size + x5.size) = False := by simp; omega
  go_wp2_with fail
  refine Calls.mono (HC.out _) ?_
  rintro e w3 ⟨rfl, h3⟩
  obtain rfl := h3.symm
  go_wp2_with fail
  refine Calls.mono (H5.out _) ?_
  rintro e w4 ⟨rfl, hb⟩
  replace HB : Hid (Below w.heap.size w w4) := HB.out.trans (hb.mono HB.out.size)
  clear hb
  go_wp2_with fail
  rw [HU.out]
  go_ret
  exact ⟨rfl, HB.out⟩
set_option maxHeartbeats 1000000 in
theorem specDownPut_yes (cr wh al ow fi : Int) (d f : ByteArray) (w : World) (hd : d.size ≤ maxLen) (hf : f.size ≤ maxLen) (h : dnOk cr wh al ow fi d f = true) (U : ByteArray) (H : Hid (∀ W, Calls Tryd.prog 88 #[.agg #[.int .i64 cr, .int .i64 wh, .int .i64 al, .int .i64 ow, .int .i64 fi, .string d, .string f]] W fun e w' => e = .returned (.string U) ∧ Below W.heap.size W w')) :
    Calls Tryd.prog 37 #[.agg #[.int .i64 cr, .int .i64 wh, .int .i64 al, .int .i64 ow, .int .i64 fi, .string d, .string f]] w fun e w' => e = .returned (.string U) ∧ Below w.heap.size w w' := by
  go_enter Tryd.func37, Tryd.ntmps37
  go_wp2_with fail
  refine (specDnOk_any _ _ _ _ _ _ _ _ hd hf).mono ?_
  rintro e w1 ⟨rfl, hb⟩
  have HB : Hid (Below w.heap.size w w1) := ((Below.refl _ _).alloc (Nat.le_refl _) _).trans (hb.mono (by simp))
  have hK : w1.heap[w.heap.size]? = some (.cells #[.int .i64 cr, .int .i64 wh, .int .i64 al, .int .i64 ow, .int .i64 fi, .string d, .string f] 54) := get_below hb (get_new rfl) (by simp)
  obtain ⟨k0, k1, k2, k3, k4, k5, k6⟩ := cells7_of hK
  clear hb hK
  go_wp2_with fail
  refine Calls.mono (H.out _) ?_
  rintro e w2 ⟨rfl, hb⟩
  replace HB : Hid (Below w.heap.size w w2) := HB.out.trans (hb.mono HB.out.size)
  clear hb
  go_wp2_with fail
  go_ret
  exact ⟨rfl, HB.out⟩
theorem implDownPut_any (cr wh al ow fi : Int) (d f : ByteArray) (w : World) (hd : d.size ≤ maxLen) (hf : f.size ≤ maxLen) (he : Errs w) :
    Calls Tryd.prog 39 #[.agg #[.int .i64 cr, .int .i64 wh, .int .i64 al, .int .i64 ow, .int .i64 fi, .string d, .string f]] w fun e w' => e = .returned (.string (dnPut cr wh al ow fi d f)) ∧ Below w.heap.size w w' := by
  unfold dnPut
  cases h : dnOk cr wh al ow fi d f with
  | false => exact implDownPut_no _ _ _ _ _ _ _ w hd hf he h
  | true =>
    obtain ⟨q, p1, p2, p3, p4, p5, p6, p7, p8, p9, p10, p11, p12⟩ := dnOk_all h
    exact implDownPut_yes _ _ _ _ _ _ _ w he h p2 p3 p4 p5 p6 p7 p8 p9 p10 p11 p12 p1 _ rfl (dnT_size h)
theorem specDownPut_any (cr wh al ow fi : Int) (d f : ByteArray) (w : World) (hd : d.size ≤ maxLen) (hf : f.size ≤ maxLen) :
    Calls Tryd.prog 37 #[.agg #[.int .i64 cr, .int .i64 wh, .int .i64 al, .int .i64 ow, .int .i64 fi, .string d, .string f]] w fun e w' => e = .returned (.string (dnPut cr wh al ow fi d f)) ∧ Below w.heap.size w w' := by
  unfold dnPut
  cases h : dnOk cr wh al ow fi d f with
  | false => exact specDownPut_no _ _ _ _ _ _ _ w hd hf h
  | true =>
    obtain ⟨q, p1, p2, p3, p4, p5, p6, p7, p8, p9, p10, p11, p12⟩ := dnOk_all h
    exact specDownPut_yes _ _ _ _ _ _ _ w hd hf h _ (fun W => l12Put_any _ _ _ _ _ _ _ W p2 p3 p4 p5 p6 p7 p8 p9 p10 p11 p12 p1 _ rfl (dnT_size h))
end Go.Proofs.YtccpdadabndleaaDoor
