/- The contracts of CmdPut, both sides. -/
import Derived.Test.YtccpdadabndleaaDoorRpP
namespace Go.Proofs.YtccpdadabndleaaDoor
open Go.ChangeShapes Go.WideShapes Go.ChangeAt Go.RowKit
set_option linter.unusedVariables false

def cmOk (a c so sv sb : Int) (d : ByteArray) : Bool := inB a 0 2047 && inB c 0 16383 && inB so 0 255 && inB sv 0 255 && inB sb 0 255 && decide ((d.size : Int) ≤ 60)
theorem cmOk_all {a c so sv sb : Int} {d : ByteArray} (h : cmOk a c so sv sb d = true) : 0 ≤ a ∧ a ≤ 2047 ∧ 0 ≤ c ∧ c ≤ 16383 ∧ 0 ≤ so ∧ so ≤ 255 ∧ 0 ≤ sv ∧ sv ≤ 255 ∧ 0 ≤ sb ∧ sb ≤ 255 ∧ d.size ≤ 60 := by
  simp only [cmOk, inB, Bool.and_eq_true, decide_eq_true_eq] at h
  omega
/-- A command's bytes ahead of its sum. -/
def cmT (a c so sv sb : Int) (d : ByteArray) : ByteArray := ⟨([] ++ putL (2048 + a + 4096) 2 ++ putL (49152 + c) 2 ++ putL ((d.size : Int) + 6 - 1) 2 ++ putL 47 1 ++ putL sv 1 ++ putL sb 1 ++ putL so 1 ++ d.data.toList).toArray⟩
def cmW (T : ByteArray) : ByteArray := ⟨(T.data.toList ++ putL (crcTo T T.size : Nat) 2).toArray⟩
theorem cmT_list {a c so sv sb : Int} {d : ByteArray} (ha0 : 0 ≤ a) (ha1 : a ≤ 2047) (hca : 0 ≤ c) (hcc : c ≤ 16383) (ho0 : 0 ≤ so) (ho1 : so ≤ 255) (hv0 : 0 ≤ sv) (hv1 : sv ≤ 255) (hu0 : 0 ≤ sb) (hu1 : sb ≤ 255) (hs1 : d.size ≤ 60) :
    (cmT a c so sv sb d).data.toList = [hiB (2048 + a + 4096), loB (2048 + a + 4096), hiB (49152 + c), loB (49152 + c), hiB ((d.size : Int) + 6 - 1), loB ((d.size : Int) + 6 - 1), 47, UInt8.ofNat sv.toNat, UInt8.ofNat sb.toNat, UInt8.ofNat so.toNat] ++ d.data.toList := by
  unfold cmT
  rw [putL_two (n := 2048 + a + 4096) (by omega) (by omega), putL_two (n := 49152 + c) (by omega) (by omega), putL_two (n := (d.size : Int) + 6 - 1) (by omega) (by omega), putL_one' hv0 hv1, putL_one' hu0 hu1, putL_one' ho0 ho1, putL_one' (n := 47) (by omega) (by omega)]
  simp
theorem cmT_size {a c so sv sb : Int} {d : ByteArray} (ha0 : 0 ≤ a) (ha1 : a ≤ 2047) (hca : 0 ≤ c) (hcc : c ≤ 16383) (ho0 : 0 ≤ so) (ho1 : so ≤ 255) (hv0 : 0 ≤ sv) (hv1 : sv ≤ 255) (hu0 : 0 ≤ sb) (hu1 : sb ≤ 255) (hs1 : d.size ≤ 60) : (cmT a c so sv sb d).size = 10 + d.size := by
  have h := congrArg List.length (cmT_list (d := d) ha0 ha1 hca hcc ho0 ho1 hv0 hv1 hu0 hu1 hs1)
  simp at h
  omega
set_option maxHeartbeats 1000000 in
theorem implCmdOk_any (a c so sv sb : Int) (d : ByteArray) (w : World) (hd : d.size ≤ maxLen) :
    Calls Tryd.prog 73 #[.agg #[.int .i64 a, .int .i64 c, .int .i64 so, .int .i64 sv, .int .i64 sb, .string d]] w fun e w' => e = .returned (.bool (cmOk a c so sv sb d)) ∧ Below w.heap.size w w' := by
  have hm := hd
  unfold maxLen at hm
  have HBH : Hid (∀ o, Below w.heap.size w (w.alloc o)) := fun o => (Below.refl _ _).alloc (Nat.le_refl _) o
  cases h1 : inB a 0 2047
  · go_enter Tryd.func73, Tryd.ntmps73
    go_wp2_with (go_at_call 52; refine (upTo_any _ _ _).mono ?_; rintro e w' ⟨rfl, rfl⟩)
    go_ret
    exact ⟨by simp [cmOk, h1], HBH.out _⟩
  cases h2 : inB c 0 16383
  · go_enter Tryd.func73, Tryd.ntmps73
    go_wp2_with (go_at_call 52; refine (upTo_any _ _ _).mono ?_; rintro e w' ⟨rfl, rfl⟩)
    go_ret
    exact ⟨by simp [cmOk, h2], HBH.out _⟩
  cases h3 : inB so 0 255
  · go_enter Tryd.func73, Tryd.ntmps73
    go_wp2_with (go_at_call 52; refine (upTo_any _ _ _).mono ?_; rintro e w' ⟨rfl, rfl⟩)
    go_ret
    exact ⟨by simp [cmOk, h3], HBH.out _⟩
  cases h4 : inB sv 0 255
  · go_enter Tryd.func73, Tryd.ntmps73
    go_wp2_with (go_at_call 52; refine (upTo_any _ _ _).mono ?_; rintro e w' ⟨rfl, rfl⟩)
    go_ret
    exact ⟨by simp [cmOk, h4], HBH.out _⟩
  cases h5 : inB sb 0 255
  · go_enter Tryd.func73, Tryd.ntmps73
    go_wp2_with (go_at_call 52; refine (upTo_any _ _ _).mono ?_; rintro e w' ⟨rfl, rfl⟩)
    go_ret
    exact ⟨by simp [cmOk, h5], HBH.out _⟩
  go_enter Tryd.func73, Tryd.ntmps73
  go_wp2_with (go_at_call 52; refine (upTo_any _ _ _).mono ?_; rintro e w' ⟨rfl, rfl⟩)
  go_ret
  exact ⟨by simp [cmOk, h1, h2, h3, h4, h5], HBH.out _⟩
set_option maxHeartbeats 1000000 in
theorem specCmdOk_any (a c so sv sb : Int) (d : ByteArray) (w : World) (hd : d.size ≤ maxLen) :
    Calls Tryd.prog 76 #[.agg #[.int .i64 a, .int .i64 c, .int .i64 so, .int .i64 sv, .int .i64 sb, .string d]] w fun e w' => e = .returned (.bool (cmOk a c so sv sb d)) ∧ Below w.heap.size w w' := by
  have hm := hd
  unfold maxLen at hm
  have HBH : Hid (∀ o, Below w.heap.size w (w.alloc o)) := fun o => (Below.refl _ _).alloc (Nat.le_refl _) o
  cases h1 : inB a 0 2047
  · go_enter Tryd.func76, Tryd.ntmps76
    go_wp2_with (go_at_call 50; refine (l1In_any _ _ _ _).mono ?_; rintro e w' ⟨rfl, rfl⟩)
    go_ret
    exact ⟨by simp [cmOk, h1], HBH.out _⟩
  cases h2 : inB c 0 16383
  · go_enter Tryd.func76, Tryd.ntmps76
    go_wp2_with (go_at_call 50; refine (l1In_any _ _ _ _).mono ?_; rintro e w' ⟨rfl, rfl⟩)
    go_ret
    exact ⟨by simp [cmOk, h2], HBH.out _⟩
  cases h3 : inB so 0 255
  · go_enter Tryd.func76, Tryd.ntmps76
    go_wp2_with (go_at_call 50; refine (l1In_any _ _ _ _).mono ?_; rintro e w' ⟨rfl, rfl⟩)
    go_ret
    exact ⟨by simp [cmOk, h3], HBH.out _⟩
  cases h4 : inB sv 0 255
  · go_enter Tryd.func76, Tryd.ntmps76
    go_wp2_with (go_at_call 50; refine (l1In_any _ _ _ _).mono ?_; rintro e w' ⟨rfl, rfl⟩)
    go_ret
    exact ⟨by simp [cmOk, h4], HBH.out _⟩
  cases h5 : inB sb 0 255
  · go_enter Tryd.func76, Tryd.ntmps76
    go_wp2_with (go_at_call 50; refine (l1In_any _ _ _ _).mono ?_; rintro e w' ⟨rfl, rfl⟩)
    go_ret
    exact ⟨by simp [cmOk, h5], HBH.out _⟩
  go_enter Tryd.func76, Tryd.ntmps76
  go_wp2_with (go_at_call 50; refine (l1In_any _ _ _ _).mono ?_; rintro e w' ⟨rfl, rfl⟩)
  go_ret
  exact ⟨by simp [cmOk, h1, h2, h3, h4, h5], HBH.out _⟩
set_option maxHeartbeats 1000000 in
theorem implCmdPut_no (a c so sv sb : Int) (d : ByteArray) (w : World) (hd : d.size ≤ maxLen) (h : cmOk a c so sv sb d = false) :
    Calls Tryd.prog 29 #[.agg #[.int .i64 a, .int .i64 c, .int .i64 so, .int .i64 sv, .int .i64 sb, .string d]] w fun e w' => e = .returned (.string ⟨#[]⟩) ∧ Below w.heap.size w w' := by
  have HS : Hid (Below (w.heap.size + 1) (w.alloc (.cells #[.int .i64 a, .int .i64 c, .int .i64 so, .int .i64 sv, .int .i64 sb, .string d] 29)) (w.alloc (.cells #[.int .i64 a, .int .i64 c, .int .i64 so, .int .i64 sv, .int .i64 sb, .string d] 29))) := Below.refl _ _
  go_enter Tryd.func29, Tryd.ntmps29
  go_wp2_with fail
  refine (implCmdOk_any _ _ _ _ _ _ _ hd).mono ?_
  rintro e w1 ⟨rfl, hb1⟩
  have HS : Hid (Below (w.heap.size + 1) (w.alloc (.cells #[.int .i64 a, .int .i64 c, .int .i64 so, .int .i64 sv, .int .i64 sb, .string d] 29)) w1) := (by first | exact hidA HS hb1 | exact hidB HS hb1)
  obtain ⟨hc1, hf1⟩ := bk HS.out
  clear hb1
  go_wp2_with fail
  go_ret
  exact ⟨rfl, ((Below.refl _ _).alloc (Nat.le_refl _) _).trans (HS.out.mono (by omega))⟩
set_option maxHeartbeats 1000000 in
theorem specCmdPut_no (a c so sv sb : Int) (d : ByteArray) (w : World) (hd : d.size ≤ maxLen) (h : cmOk a c so sv sb d = false) :
    Calls Tryd.prog 30 #[.agg #[.int .i64 a, .int .i64 c, .int .i64 so, .int .i64 sv, .int .i64 sb, .string d]] w fun e w' => e = .returned (.string ⟨#[]⟩) ∧ Below w.heap.size w w' := by
  have HS : Hid (Below (w.heap.size + 1) (w.alloc (.cells #[.int .i64 a, .int .i64 c, .int .i64 so, .int .i64 sv, .int .i64 sb, .string d] 29)) (w.alloc (.cells #[.int .i64 a, .int .i64 c, .int .i64 so, .int .i64 sv, .int .i64 sb, .string d] 29))) := Below.refl _ _
  go_enter Tryd.func30, Tryd.ntmps30
  go_wp2_with fail
  refine (specCmdOk_any _ _ _ _ _ _ _ hd).mono ?_
  rintro e w1 ⟨rfl, hb1⟩
  have HS : Hid (Below (w.heap.size + 1) (w.alloc (.cells #[.int .i64 a, .int .i64 c, .int .i64 so, .int .i64 sv, .int .i64 sb, .string d] 29)) w1) := (by first | exact hidA HS hb1 | exact hidB HS hb1)
  obtain ⟨hc1, hf1⟩ := bk HS.out
  clear hb1
  go_wp2_with fail
  go_ret
  exact ⟨rfl, ((Below.refl _ _).alloc (Nat.le_refl _) _).trans (HS.out.mono (by omega))⟩
set_option maxRecDepth 100000 in
set_option maxHeartbeats 4000000 in
theorem implCmdPut_yes (a c so sv sb : Int) (d : ByteArray) (w : World) (hd : d.size ≤ maxLen) (h : cmOk a c so sv sb d = true) (ha0 : 0 ≤ a) (ha1 : a ≤ 2047) (hca : 0 ≤ c) (hcc : c ≤ 16383) (ho0 : 0 ≤ so) (ho1 : so ≤ 255) (hv0 : 0 ≤ sv) (hv1 : sv ≤ 255) (hu0 : 0 ≤ sb) (hu1 : sb ≤ 255) (hs1 : d.size ≤ 60) :
    Calls Tryd.prog 29 #[.agg #[.int .i64 a, .int .i64 c, .int .i64 so, .int .i64 sv, .int .i64 sb, .string d]] w fun e w' => e = .returned (.string (cmW (cmT a c so sv sb d))) ∧ Below w.heap.size w w' := by
  have HS : Hid (Below (w.heap.size + 1) (w.alloc (.cells #[.int .i64 a, .int .i64 c, .int .i64 so, .int .i64 sv, .int .i64 sb, .string d] 29)) (w.alloc (.cells #[.int .i64 a, .int .i64 c, .int .i64 so, .int .i64 sv, .int .i64 sb, .string d] 29))) := Below.refl _ _
  go_enter Tryd.func29, Tryd.ntmps29
  go_wp2_with fail
  refine (implCmdOk_any _ _ _ _ _ _ _ hd).mono ?_
  rintro e w1 ⟨rfl, hb1⟩
  have HS : Hid (Below (w.heap.size + 1) (w.alloc (.cells #[.int .i64 a, .int .i64 c, .int .i64 so, .int .i64 sv, .int .i64 sb, .string d] 29)) w1) := (by first | exact hidA HS hb1 | exact hidB HS hb1)
  obtain ⟨hc1, hf1⟩ := bk HS.out
  clear hb1
  have hz1 : w.heap.size < w1.heap.size := by have := HS.out.size; simp at this; omega
  have HW : Hid (Wrt (w1.alloc (.cells #[.slice none 0 0] 89)) w1.heap.size []) := wrt_new w1
  have HG : Hid ((w1.alloc (.cells #[.slice none 0 0] 89)).heap[w.heap.size]? = some (.cells #[.int .i64 a, .int .i64 c, .int .i64 so, .int .i64 sv, .int .i64 sb, .string d] 29)) := get_allocH (get_below HS.out (get_new rfl) (by omega))
  have HB : Hid (Below w.heap.size w (w1.alloc (.cells #[.slice none 0 0] 89))) := (((Below.refl _ _).alloc (Nat.le_refl _) _).trans (HS.out.mono (by omega))).alloc (by omega) _
  go_wp2_with fail
  refine (head_true w1.heap.size [] a c _ ⟨#[]⟩ _ HW.out (by simp) ha0 ha1 hca hcc (by omega) (by omega)).mono ?_
  rintro e w2 ⟨rfl, hw2, hk2⟩
  have HW : Hid (Wrt w2 w1.heap.size ([] ++ putL (2048 + a + 4096) 2 ++ putL (49152 + c) 2 ++ putL ((d.size : Int) + 6 - 1) 2)) := hw2
  have hG2 : w2.heap[w.heap.size]? = some (.cells #[.int .i64 a, .int .i64 c, .int .i64 so, .int .i64 sv, .int .i64 sb, .string d] 29) := get_below hk2.1 HG.out hz1
  obtain ⟨m0, m1, m2, m3, m4, m5⟩ := cells6_of hG2
  have HG : Hid _ := hG2
  have HB : Hid (Below w.heap.size w w2) := HB.out.trans (hk2.1.mono (by omega))
  clear hw2 hk2 hG2
  go_wp2_with fail
  refine (number_any w1.heap.size ([] ++ putL (2048 + a + 4096) 2 ++ putL (49152 + c) 2 ++ putL ((d.size : Int) + 6 - 1) 2) _ _ _ HW.out (by have := putL_le (2048 + a + 4096) 2; have := putL_le (49152 + c) 2; have := putL_le ((d.size : Int) + 6 - 1) 2; simp only [List.length_append, List.length_nil]; omega)).mono ?_
  rintro e w3 ⟨rfl, hw3, hk3⟩
  have HW : Hid (Wrt w3 w1.heap.size ([] ++ putL (2048 + a + 4096) 2 ++ putL (49152 + c) 2 ++ putL ((d.size : Int) + 6 - 1) 2 ++ putL 47 1)) := hw3
  have hG3 : w3.heap[w.heap.size]? = some (.cells #[.int .i64 a, .int .i64 c, .int .i64 so, .int .i64 sv, .int .i64 sb, .string d] 29) := get_below hk3.1 HG.out hz1
  obtain ⟨m0, m1, m2, m3, m4, m5⟩ := cells6_of hG3
  have HG : Hid _ := hG3
  have HB : Hid (Below w.heap.size w w3) := HB.out.trans (hk3.1.mono (by omega))
  clear hw3 hk3 hG3
  go_wp2_with fail
  refine (number_any w1.heap.size ([] ++ putL (2048 + a + 4096) 2 ++ putL (49152 + c) 2 ++ putL ((d.size : Int) + 6 - 1) 2 ++ putL 47 1) _ _ _ HW.out (by have := putL_le (2048 + a + 4096) 2; have := putL_le (49152 + c) 2; have := putL_le ((d.size : Int) + 6 - 1) 2; have := putL_le (47) 1; simp only [List.length_append, List.length_nil]; omega)).mono ?_
  rintro e w4 ⟨rfl, hw4, hk4⟩
  have HW : Hid (Wrt w4 w1.heap.size ([] ++ putL (2048 + a + 4096) 2 ++ putL (49152 + c) 2 ++ putL ((d.size : Int) + 6 - 1) 2 ++ putL 47 1 ++ putL sv 1)) := hw4
  have hG4 : w4.heap[w.heap.size]? = some (.cells #[.int .i64 a, .int .i64 c, .int .i64 so, .int .i64 sv, .int .i64 sb, .string d] 29) := get_below hk4.1 HG.out hz1
  obtain ⟨m0, m1, m2, m3, m4, m5⟩ := cells6_of hG4
  have HG : Hid _ := hG4
  have HB : Hid (Below w.heap.size w w4) := HB.out.trans (hk4.1.mono (by omega))
  clear hw4 hk4 hG4
  go_wp2_with fail
  refine (number_any w1.heap.size ([] ++ putL (2048 + a + 4096) 2 ++ putL (49152 + c) 2 ++ putL ((d.size : Int) + 6 - 1) 2 ++ putL 47 1 ++ putL sv 1) _ _ _ HW.out (by have := putL_le (2048 + a + 4096) 2; have := putL_le (49152 + c) 2; have := putL_le ((d.size : Int) + 6 - 1) 2; have := putL_le (47) 1; have := putL_le (sv) 1; simp only [List.length_append, List.length_nil]; omega)).mono ?_
  rintro e w5 ⟨rfl, hw5, hk5⟩
  have HW : Hid (Wrt w5 w1.heap.size ([] ++ putL (2048 + a + 4096) 2 ++ putL (49152 + c) 2 ++ putL ((d.size : Int) + 6 - 1) 2 ++ putL 47 1 ++ putL sv 1 ++ putL sb 1)) := hw5
  have hG5 : w5.heap[w.heap.size]? = some (.cells #[.int .i64 a, .int .i64 c, .int .i64 so, .int .i64 sv, .int .i64 sb, .string d] 29) := get_below hk5.1 HG.out hz1
  obtain ⟨m0, m1, m2, m3, m4, m5⟩ := cells6_of hG5
  have HG : Hid _ := hG5
  have HB : Hid (Below w.heap.size w w5) := HB.out.trans (hk5.1.mono (by omega))
  clear hw5 hk5 hG5
  go_wp2_with fail
  refine (number_any w1.heap.size ([] ++ putL (2048 + a + 4096) 2 ++ putL (49152 + c) 2 ++ putL ((d.size : Int) + 6 - 1) 2 ++ putL 47 1 ++ putL sv 1 ++ putL sb 1) _ _ _ HW.out (by have := putL_le (2048 + a + 4096) 2; have := putL_le (49152 + c) 2; have := putL_le ((d.size : Int) + 6 - 1) 2; have := putL_le (47) 1; have := putL_le (sv) 1; have := putL_le (sb) 1; simp only [List.length_append, List.length_nil]; omega)).mono ?_
  rintro e w6 ⟨rfl, hw6, hk6⟩
  have HW : Hid (Wrt w6 w1.heap.size ([] ++ putL (2048 + a + 4096) 2 ++ putL (49152 + c) 2 ++ putL ((d.size : Int) + 6 - 1) 2 ++ putL 47 1 ++ putL sv 1 ++ putL sb 1 ++ putL so 1)) := hw6
  have hG6 : w6.heap[w.heap.size]? = some (.cells #[.int .i64 a, .int .i64 c, .int .i64 so, .int .i64 sv, .int .i64 sb, .string d] 29) := get_below hk6.1 HG.out hz1
  obtain ⟨m0, m1, m2, m3, m4, m5⟩ := cells6_of hG6
  have HG : Hid _ := hG6
  have HB : Hid (Below w.heap.size w w6) := HB.out.trans (hk6.1.mono (by omega))
  clear hw6 hk6 hG6
  go_wp2_with fail
  refine (text_any w1.heap.size ([] ++ putL (2048 + a + 4096) 2 ++ putL (49152 + c) 2 ++ putL ((d.size : Int) + 6 - 1) 2 ++ putL 47 1 ++ putL sv 1 ++ putL sb 1 ++ putL so 1) d _ HW.out (by have := putL_le (2048 + a + 4096) 2; have := putL_le (49152 + c) 2; have := putL_le ((d.size : Int) + 6 - 1) 2; have := putL_le (47) 1; have := putL_le (sv) 1; have := putL_le (sb) 1; have := putL_le (so) 1; simp only [List.length_append, List.length_nil]; omega)).mono ?_
  rintro e w7 ⟨rfl, hw7, hk7⟩
  have hG7 : w7.heap[w.heap.size]? = some (.cells #[.int .i64 a, .int .i64 c, .int .i64 so, .int .i64 sv, .int .i64 sb, .string d] 29) := get_below hk7.1 HG.out hz1
  obtain ⟨m0, m1, m2, m3, m4, m5⟩ := cells6_of hG7
  have HG : Hid _ := hG7
  have HB : Hid (Below w.heap.size w w7) := HB.out.trans (hk7.1.mono (by omega))
  have hsz := cmT_size (d := d) ha0 ha1 hca hcc ho0 ho1 hv0 hv1 hu0 hu1 hs1
  have HW : Hid (Wrt w7 w1.heap.size (cmT a c so sv sb d).data.toList) := hw7
  generalize hT : cmT a c so sv sb d = T at *
  have HT : Hid _ := hT
  have hmx : T.size ≤ maxLen := by rw [hsz]; unfold maxLen; omega
  have hTl : T.data.toList.length ≤ 900000 := by have e : T.data.toList.length = T.size := (by simp); rw [e, hsz]; omega
  have HSZ : Hid _ := hsz
  clear hsz
  have hcr := crc_lt T
  have HTl : Hid _ := hTl
  clear hTl
  obtain ⟨v, hv, hcv⟩ := wrt_text HW.out
  have hTT : (⟨T.data.toList.toArray⟩ : ByteArray) = T := by simp
  rw [hTT] at hcv
  clear hw7 hk7 hG7 hT hTT
  go_wp2_with fail
  refine (implCrc16_any T _ hmx).mono ?_
  rintro e w8 ⟨rfl, hb8⟩
  have HW : Hid (Wrt w8 w1.heap.size T.data.toList) := Wrt.keep HW.out hb8
  have HB : Hid (Below w.heap.size w w8) := HB.out.trans (hb8.mono HB.out.size)
  clear hb8 hv hcv
  go_wp2_with fail
  refine (number_any w1.heap.size T.data.toList _ _ _ HW.out HTl.out).mono ?_
  rintro e w9 ⟨rfl, hw9, hk9⟩
  have HB : Hid (Below w.heap.size w w9) := HB.out.trans (hk9.1.mono (by omega))
  obtain ⟨v9, hv9, hcv9⟩ := wrt_text hw9
  have HE : Hid ((⟨(T.data.toList ++ putL (crcTo T T.size : Nat) 2).toArray⟩ : ByteArray) = cmW T) := rfl
  rw [HE.out] at hcv9
  clear hw9 hk9
  generalize hU : cmW T = U at *
  have HU : Hid _ := hU
  clear hU
  go_wp2_with fail
  go_ret
  exact ⟨by rw [HT.out, HU.out]; rfl, HB.out⟩
def cmS (so sv sb : Int) (d : ByteArray) : ByteArray := ⟨#[47]⟩ ++ ⟨#[UInt8.ofNat sv.toNat]⟩ ++ ⟨#[UInt8.ofNat sb.toNat]⟩ ++ ⟨#[UInt8.ofNat so.toNat]⟩ ++ d
theorem cmS_size (so sv sb : Int) (d : ByteArray) : (cmS so sv sb d).size = 4 + d.size := by
  unfold cmS; simp only [ByteArray.size_append]; rfl
theorem cmS_eq {x y z : UInt8} {so sv sb : Int} {d : ByteArray} (e1 : x = UInt8.ofNat sv.toNat) (e2 : y = UInt8.ofNat sb.toNat) (e3 : z = UInt8.ofNat so.toNat) : (⟨#[47]⟩ ++ ⟨#[x]⟩ ++ ⟨#[y]⟩ ++ ⟨#[z]⟩ ++ d : ByteArray) = cmS so sv sb d := by
  subst e1 e2 e3; rfl
theorem pk_list {a c so sv sb : Int} {d : ByteArray} (ha0 : 0 ≤ a) (ha1 : a ≤ 2047) (hca : 0 ≤ c) (hcc : c ≤ 16383) (hs1 : d.size ≤ 60) :
    (pkW true a c (cmS so sv sb d ++ ⟨#[0, 0]⟩)).data.toList = [hiB (2048 + a + 4096), loB (2048 + a + 4096), hiB (49152 + c), loB (49152 + c), hiB ((d.size : Int) + 6 - 1), loB ((d.size : Int) + 6 - 1), 47, UInt8.ofNat sv.toNat, UInt8.ofNat sb.toNat, UInt8.ofNat so.toNat] ++ d.data.toList ++ [0, 0] := by
  have hz : (cmS so sv sb d ++ ⟨#[0, 0]⟩ : ByteArray).size = 6 + d.size := by
    rw [ByteArray.size_append, cmS_size]; show 4 + d.size + 2 = _; omega
  unfold pkW
  rw [hz, show mkB true a = 2048 + a + 4096 from rfl, show (((6 + d.size : Nat) : Int) - 1) = (d.size : Int) + 6 - 1 from by omega, putL_two (n := 2048 + a + 4096) (by omega) (by omega), putL_two (n := 49152 + c) (by omega) (by omega), putL_two (n := (d.size : Int) + 6 - 1) (by omega) (by omega)]
  simp [cmS]
theorem pk_size {a c so sv sb : Int} {d : ByteArray} (ha0 : 0 ≤ a) (ha1 : a ≤ 2047) (hca : 0 ≤ c) (hcc : c ≤ 16383) (hs1 : d.size ≤ 60) : (pkW true a c (cmS so sv sb d ++ ⟨#[0, 0]⟩)).size = 12 + d.size := by
  have h := congrArg List.length (pk_list (so := so) (sv := sv) (sb := sb) (d := d) ha0 ha1 hca hcc hs1)
  simp at h
  omega
theorem pk_cut {a c so sv sb : Int} {d : ByteArray} (ha0 : 0 ≤ a) (ha1 : a ≤ 2047) (hca : 0 ≤ c) (hcc : c ≤ 16383) (ho0 : 0 ≤ so) (ho1 : so ≤ 255) (hv0 : 0 ≤ sv) (hv1 : sv ≤ 255) (hu0 : 0 ≤ sb) (hu1 : sb ≤ 255) (hs1 : d.size ≤ 60) :
    (pkW true a c (cmS so sv sb d ++ ⟨#[0, 0]⟩)).extract 0 (10 + d.size) = cmT a c so sv sb d := by
  apply ByteArray.ext
  apply Array.toList_inj.1
  rw [cmT_list ha0 ha1 hca hcc ho0 ho1 hv0 hv1 hu0 hu1 hs1]
  simp only [ByteArray.data_extract, Array.toList_extract, List.extract_eq_take_drop, pk_list ha0 ha1 hca hcc hs1]
  have e : d.data.toList.length = d.size := by simp
  rw [List.drop_zero, List.take_append_of_le_length (by simp only [List.length_append, List.length_cons, List.length_nil, e]; omega), List.take_of_length_le (by simp only [List.length_append, List.length_cons, List.length_nil, e]; omega)]
theorem cmW_eq {x y : UInt8} {T : ByteArray} (e : x = hiB (crcTo T T.size : Nat) ∧ y = loB (crcTo T T.size : Nat)) : (T ++ ⟨#[x, y]⟩ : ByteArray) = cmW T := by
  obtain ⟨rfl, rfl⟩ := e
  have h := crc_lt T
  unfold cmW
  rw [putL_two (by omega) (by omega)]
  apply ByteArray.ext
  simp
end Go.Proofs.YtccpdadabndleaaDoor
