/- The contracts of RepPut, both sides. -/
import Derived.Test.YtccpdadabndleaaDoorPkQ
namespace Go.Proofs.YtccpdadabndleaaDoor
open Go.ChangeShapes Go.WideShapes Go.ChangeAt Go.RowKit
set_option linter.unusedVariables false

def rpOk (a c sv sb t : Int) (d : ByteArray) : Bool := inB a 0 2046 && inB c 0 16383 && inB sv 0 255 && inB sb 0 255 && inB t 0 99999 && decide ((d.size : Int) ≤ 60)
theorem rpOk_all {a c sv sb t : Int} {d : ByteArray} (h : rpOk a c sv sb t d = true) : 0 ≤ a ∧ a ≤ 2046 ∧ 0 ≤ c ∧ c ≤ 16383 ∧ 0 ≤ sv ∧ sv ≤ 255 ∧ 0 ≤ sb ∧ sb ≤ 255 ∧ 0 ≤ t ∧ t ≤ 99999 ∧ d.size ≤ 60 := by
  simp only [rpOk, inB, Bool.and_eq_true, decide_eq_true_eq] at h
  omega
def rpD (sv sb t : Int) (d : ByteArray) : ByteArray := ⟨(putL 32 1 ++ putL sv 1 ++ putL sb 1 ++ putL t 4 ++ d.data.toList).toArray⟩
theorem putL_one' {n : Int} (h0 : 0 ≤ n) (h1 : n ≤ 255) : putL n 1 = [UInt8.ofNat n.toNat] := by
  rw [putL_yes (by omega) (by omega) h0 (by show n < (256 : Int); omega)]; simp [pt]
theorem putL_four {n : Int} (h0 : 0 ≤ n) (h1 : n ≤ 99999) : ∃ x0 x1 x2 x3 : UInt8, putL n 4 = [x0, x1, x2, x3] := by
  rw [putL_yes (by omega) (by omega) h0 (by show n < (4294967296 : Int); omega)]
  exact ⟨_, _, _, _, rfl⟩
theorem l1Put4 (n : Int) (w : World) (h0 : 0 ≤ n) (h1 : n ≤ 99999) : Calls Tryd.prog 80 #[.int .i64 n, .int .i64 4] w fun e w' => ∃ x0 x1 x2 x3 : UInt8, Hid (putL n 4 = [x0, x1, x2, x3]) ∧ e = .returned (.string ⟨#[x0, x1, x2, x3]⟩) ∧ Below w.heap.size w w' := by
  obtain ⟨x0, x1, x2, x3, e4⟩ := putL_four h0 h1
  refine (l1Put_any n 4 w h0 (by omega) (by omega) (by omega)).mono fun e w' ⟨he, hb⟩ => ⟨x0, x1, x2, x3, e4, ?_, hb⟩
  have e5 := e4
  rw [putL_yes (by omega) (by omega) h0 (by show n < (4294967296 : Int); omega)] at e5
  rw [he, show (4 : Int).toNat = 4 from rfl] at *
  rw [show pt n.toNat 4 = [x0, x1, x2, x3] from e5]
theorem rpD_size {sv sb t : Int} {d : ByteArray} (hv0 : 0 ≤ sv) (hv1 : sv ≤ 255) (hu0 : 0 ≤ sb) (hu1 : sb ≤ 255) (ht0 : 0 ≤ t) (ht1 : t ≤ 99999) : (rpD sv sb t d).size = 7 + d.size := by
  obtain ⟨x0, x1, x2, x3, e4⟩ := putL_four ht0 ht1
  unfold rpD
  rw [putL_one' hv0 hv1, putL_one' hu0 hu1, putL_one' (n := 32) (by omega) (by omega), e4]
  show (List.toArray _).size = _
  simp
  omega
theorem rp_eq {y z x0 x1 x2 x3 : UInt8} {sv sb t : Int} {d : ByteArray} (e1 : y = UInt8.ofNat sv.toNat) (e2 : z = UInt8.ofNat sb.toNat) (e3 : putL t 4 = [x0, x1, x2, x3]) (hv0 : 0 ≤ sv) (hv1 : sv ≤ 255) (hu0 : 0 ≤ sb) (hu1 : sb ≤ 255) :
    (⟨#[32]⟩ ++ ⟨#[y]⟩ ++ ⟨#[z]⟩ ++ ⟨#[x0, x1, x2, x3]⟩ ++ d : ByteArray) = rpD sv sb t d := by
  subst e1 e2
  unfold rpD
  rw [putL_one' hv0 hv1, putL_one' hu0 hu1, putL_one' (n := 32) (by omega) (by omega), e3]
  apply ByteArray.ext
  simp
set_option maxHeartbeats 1000000 in
theorem implRepOk_any (a c sv sb t : Int) (d : ByteArray) (w : World) (hd : d.size ≤ maxLen) :
    Calls Tryd.prog 84 #[.agg #[.int .i64 a, .int .i64 c, .int .i64 sv, .int .i64 sb, .int .i64 t, .string d]] w fun e w' => e = .returned (.bool (rpOk a c sv sb t d)) ∧ Below w.heap.size w w' := by
  have hm := hd
  unfold maxLen at hm
  have HBH : Hid (∀ o, Below w.heap.size w (w.alloc o)) := fun o => (Below.refl _ _).alloc (Nat.le_refl _) o
  cases h1 : inB a 0 2046
  · go_enter Tryd.func84, Tryd.ntmps84
    go_wp2_with (go_at_call 52; refine (upTo_any _ _ _).mono ?_; rintro e w' ⟨rfl, rfl⟩)
    go_ret
    exact ⟨by simp [rpOk, h1], HBH.out _⟩
  cases h2 : inB c 0 16383
  · go_enter Tryd.func84, Tryd.ntmps84
    go_wp2_with (go_at_call 52; refine (upTo_any _ _ _).mono ?_; rintro e w' ⟨rfl, rfl⟩)
    go_ret
    exact ⟨by simp [rpOk, h2], HBH.out _⟩
  cases h3 : inB sv 0 255
  · go_enter Tryd.func84, Tryd.ntmps84
    go_wp2_with (go_at_call 52; refine (upTo_any _ _ _).mono ?_; rintro e w' ⟨rfl, rfl⟩)
    go_ret
    exact ⟨by simp [rpOk, h3], HBH.out _⟩
  cases h4 : inB sb 0 255
  · go_enter Tryd.func84, Tryd.ntmps84
    go_wp2_with (go_at_call 52; refine (upTo_any _ _ _).mono ?_; rintro e w' ⟨rfl, rfl⟩)
    go_ret
    exact ⟨by simp [rpOk, h4], HBH.out _⟩
  cases h5 : inB t 0 99999
  · go_enter Tryd.func84, Tryd.ntmps84
    go_wp2_with (go_at_call 52; refine (upTo_any _ _ _).mono ?_; rintro e w' ⟨rfl, rfl⟩)
    go_ret
    exact ⟨by simp [rpOk, h5], HBH.out _⟩
  go_enter Tryd.func84, Tryd.ntmps84
  go_wp2_with (go_at_call 52; refine (upTo_any _ _ _).mono ?_; rintro e w' ⟨rfl, rfl⟩)
  go_ret
  exact ⟨by simp [rpOk, h1, h2, h3, h4, h5], HBH.out _⟩
set_option maxHeartbeats 1000000 in
theorem specRepOk_any (a c sv sb t : Int) (d : ByteArray) (w : World) (hd : d.size ≤ maxLen) :
    Calls Tryd.prog 85 #[.agg #[.int .i64 a, .int .i64 c, .int .i64 sv, .int .i64 sb, .int .i64 t, .string d]] w fun e w' => e = .returned (.bool (rpOk a c sv sb t d)) ∧ Below w.heap.size w w' := by
  have hm := hd
  unfold maxLen at hm
  have HBH : Hid (∀ o, Below w.heap.size w (w.alloc o)) := fun o => (Below.refl _ _).alloc (Nat.le_refl _) o
  cases h1 : inB a 0 2046
  · go_enter Tryd.func85, Tryd.ntmps85
    go_wp2_with (go_at_call 50; refine (l1In_any _ _ _ _).mono ?_; rintro e w' ⟨rfl, rfl⟩)
    go_ret
    exact ⟨by simp [rpOk, h1], HBH.out _⟩
  cases h2 : inB c 0 16383
  · go_enter Tryd.func85, Tryd.ntmps85
    go_wp2_with (go_at_call 50; refine (l1In_any _ _ _ _).mono ?_; rintro e w' ⟨rfl, rfl⟩)
    go_ret
    exact ⟨by simp [rpOk, h2], HBH.out _⟩
  cases h3 : inB sv 0 255
  · go_enter Tryd.func85, Tryd.ntmps85
    go_wp2_with (go_at_call 50; refine (l1In_any _ _ _ _).mono ?_; rintro e w' ⟨rfl, rfl⟩)
    go_ret
    exact ⟨by simp [rpOk, h3], HBH.out _⟩
  cases h4 : inB sb 0 255
  · go_enter Tryd.func85, Tryd.ntmps85
    go_wp2_with (go_at_call 50; refine (l1In_any _ _ _ _).mono ?_; rintro e w' ⟨rfl, rfl⟩)
    go_ret
    exact ⟨by simp [rpOk, h4], HBH.out _⟩
  cases h5 : inB t 0 99999
  · go_enter Tryd.func85, Tryd.ntmps85
    go_wp2_with (go_at_call 50; refine (l1In_any _ _ _ _).mono ?_; rintro e w' ⟨rfl, rfl⟩)
    go_ret
    exact ⟨by simp [rpOk, h5], HBH.out _⟩
  go_enter Tryd.func85, Tryd.ntmps85
  go_wp2_with (go_at_call 50; refine (l1In_any _ _ _ _).mono ?_; rintro e w' ⟨rfl, rfl⟩)
  go_ret
  exact ⟨by simp [rpOk, h1, h2, h3, h4, h5], HBH.out _⟩
set_option maxHeartbeats 1000000 in
theorem implRepPut_no (a c sv sb t : Int) (d : ByteArray) (w : World) (hd : d.size ≤ maxLen) (h : rpOk a c sv sb t d = false) :
    Calls Tryd.prog 33 #[.agg #[.int .i64 a, .int .i64 c, .int .i64 sv, .int .i64 sb, .int .i64 t, .string d]] w fun e w' => e = .returned (.string ⟨#[]⟩) ∧ Below w.heap.size w w' := by
  have HS : Hid (Below (w.heap.size + 1) (w.alloc (.cells #[.int .i64 a, .int .i64 c, .int .i64 sv, .int .i64 sb, .int .i64 t, .string d] 35)) (w.alloc (.cells #[.int .i64 a, .int .i64 c, .int .i64 sv, .int .i64 sb, .int .i64 t, .string d] 35))) := Below.refl _ _
  go_enter Tryd.func33, Tryd.ntmps33
  go_wp2_with fail
  refine (implRepOk_any _ _ _ _ _ _ _ hd).mono ?_
  rintro e w1 ⟨rfl, hb1⟩
  have HS : Hid (Below (w.heap.size + 1) (w.alloc (.cells #[.int .i64 a, .int .i64 c, .int .i64 sv, .int .i64 sb, .int .i64 t, .string d] 35)) w1) := (by first | exact hidA HS hb1 | exact hidB HS hb1)
  obtain ⟨hc1, hf1⟩ := bk HS.out
  clear hb1
  go_wp2_with fail
  go_ret
  exact ⟨rfl, ((Below.refl _ _).alloc (Nat.le_refl _) _).trans (HS.out.mono (by omega))⟩
set_option maxHeartbeats 1000000 in
theorem specRepPut_no (a c sv sb t : Int) (d : ByteArray) (w : World) (hd : d.size ≤ maxLen) (h : rpOk a c sv sb t d = false) :
    Calls Tryd.prog 34 #[.agg #[.int .i64 a, .int .i64 c, .int .i64 sv, .int .i64 sb, .int .i64 t, .string d]] w fun e w' => e = .returned (.string ⟨#[]⟩) ∧ Below w.heap.size w w' := by
  have HS : Hid (Below (w.heap.size + 1) (w.alloc (.cells #[.int .i64 a, .int .i64 c, .int .i64 sv, .int .i64 sb, .int .i64 t, .string d] 35)) (w.alloc (.cells #[.int .i64 a, .int .i64 c, .int .i64 sv, .int .i64 sb, .int .i64 t, .string d] 35))) := Below.refl _ _
  go_enter Tryd.func34, Tryd.ntmps34
  go_wp2_with fail
  refine (specRepOk_any _ _ _ _ _ _ _ hd).mono ?_
  rintro e w1 ⟨rfl, hb1⟩
  have HS : Hid (Below (w.heap.size + 1) (w.alloc (.cells #[.int .i64 a, .int .i64 c, .int .i64 sv, .int .i64 sb, .int .i64 t, .string d] 35)) w1) := (by first | exact hidA HS hb1 | exact hidB HS hb1)
  obtain ⟨hc1, hf1⟩ := bk HS.out
  clear hb1
  go_wp2_with fail
  go_ret
  exact ⟨rfl, ((Below.refl _ _).alloc (Nat.le_refl _) _).trans (HS.out.mono (by omega))⟩
set_option maxRecDepth 100000 in
set_option maxHeartbeats 4000000 in
theorem implRepPut_yes (a c sv sb t : Int) (d : ByteArray) (w : World) (hd : d.size ≤ maxLen) (h : rpOk a c sv sb t d = true) (ha0 : 0 ≤ a) (ha1 : a ≤ 2046) (hca : 0 ≤ c) (hcc : c ≤ 16383) (hv0 : 0 ≤ sv) (hv1 : sv ≤ 255) (hu0 : 0 ≤ sb) (hu1 : sb ≤ 255) (ht0 : 0 ≤ t) (ht1 : t ≤ 99999) (hs1 : d.size ≤ 60) :
    Calls Tryd.prog 33 #[.agg #[.int .i64 a, .int .i64 c, .int .i64 sv, .int .i64 sb, .int .i64 t, .string d]] w fun e w' => e = .returned (.string (pkPut false a c (rpD sv sb t d))) ∧ Below w.heap.size w w' := by
  have HS : Hid (Below (w.heap.size + 1) (w.alloc (.cells #[.int .i64 a, .int .i64 c, .int .i64 sv, .int .i64 sb, .int .i64 t, .string d] 35)) (w.alloc (.cells #[.int .i64 a, .int .i64 c, .int .i64 sv, .int .i64 sb, .int .i64 t, .string d] 35))) := Below.refl _ _
  go_enter Tryd.func33, Tryd.ntmps33
  go_wp2_with fail
  refine (implRepOk_any _ _ _ _ _ _ _ hd).mono ?_
  rintro e w1 ⟨rfl, hb1⟩
  have HS : Hid (Below (w.heap.size + 1) (w.alloc (.cells #[.int .i64 a, .int .i64 c, .int .i64 sv, .int .i64 sb, .int .i64 t, .string d] 35)) w1) := (by first | exact hidA HS hb1 | exact hidB HS hb1)
  obtain ⟨hc1, hf1⟩ := bk HS.out
  clear hb1
  have hz1 : w.heap.size < w1.heap.size := by have := HS.out.size; simp at this; omega
  have HW : Hid (Wrt (w1.alloc (.cells #[.slice none 0 0] 89)) w1.heap.size []) := wrt_new w1
  have HG : Hid ((w1.alloc (.cells #[.slice none 0 0] 89)).heap[w.heap.size]? = some (.cells #[.int .i64 a, .int .i64 c, .int .i64 sv, .int .i64 sb, .int .i64 t, .string d] 35)) := get_allocH (get_below HS.out (get_new rfl) (by omega))
  have HB : Hid (Below w.heap.size w (w1.alloc (.cells #[.slice none 0 0] 89))) := (((Below.refl _ _).alloc (Nat.le_refl _) _).trans (HS.out.mono (by omega))).alloc (by omega) _
  go_wp2_with fail
  refine (number_any w1.heap.size [] _ _ _ HW.out (by simp)).mono ?_
  rintro e w2 ⟨rfl, hw2, hk2⟩
  have HW : Hid (Wrt w2 w1.heap.size ([] ++ putL 32 1)) := hw2
  have hG2 : w2.heap[w.heap.size]? = some (.cells #[.int .i64 a, .int .i64 c, .int .i64 sv, .int .i64 sb, .int .i64 t, .string d] 35) := get_below hk2.1 HG.out hz1
  obtain ⟨m0, m1, m2, m3, m4, m5⟩ := cells6_of hG2
  have HG : Hid _ := hG2
  have HB : Hid (Below w.heap.size w w2) := HB.out.trans (hk2.1.mono (by omega))
  clear hw2 hk2 hG2
  go_wp2_with fail
  refine (number_any w1.heap.size ([] ++ putL 32 1) _ _ _ HW.out (by have := putL_le (32) 1; simp only [List.length_append, List.length_nil]; omega)).mono ?_
  rintro e w3 ⟨rfl, hw3, hk3⟩
  have HW : Hid (Wrt w3 w1.heap.size ([] ++ putL 32 1 ++ putL sv 1)) := hw3
  have hG3 : w3.heap[w.heap.size]? = some (.cells #[.int .i64 a, .int .i64 c, .int .i64 sv, .int .i64 sb, .int .i64 t, .string d] 35) := get_below hk3.1 HG.out hz1
  obtain ⟨m0, m1, m2, m3, m4, m5⟩ := cells6_of hG3
  have HG : Hid _ := hG3
  have HB : Hid (Below w.heap.size w w3) := HB.out.trans (hk3.1.mono (by omega))
  clear hw3 hk3 hG3
  go_wp2_with fail
  refine (number_any w1.heap.size ([] ++ putL 32 1 ++ putL sv 1) _ _ _ HW.out (by have := putL_le (32) 1; have := putL_le (sv) 1; simp only [List.length_append, List.length_nil]; omega)).mono ?_
  rintro e w4 ⟨rfl, hw4, hk4⟩
  have HW : Hid (Wrt w4 w1.heap.size ([] ++ putL 32 1 ++ putL sv 1 ++ putL sb 1)) := hw4
  have hG4 : w4.heap[w.heap.size]? = some (.cells #[.int .i64 a, .int .i64 c, .int .i64 sv, .int .i64 sb, .int .i64 t, .string d] 35) := get_below hk4.1 HG.out hz1
  obtain ⟨m0, m1, m2, m3, m4, m5⟩ := cells6_of hG4
  have HG : Hid _ := hG4
  have HB : Hid (Below w.heap.size w w4) := HB.out.trans (hk4.1.mono (by omega))
  clear hw4 hk4 hG4
  go_wp2_with fail
  refine (number_any w1.heap.size ([] ++ putL 32 1 ++ putL sv 1 ++ putL sb 1) _ _ _ HW.out (by have := putL_le (32) 1; have := putL_le (sv) 1; have := putL_le (sb) 1; simp only [List.length_append, List.length_nil]; omega)).mono ?_
  rintro e w5 ⟨rfl, hw5, hk5⟩
  have HW : Hid (Wrt w5 w1.heap.size ([] ++ putL 32 1 ++ putL sv 1 ++ putL sb 1 ++ putL t 4)) := hw5
  have hG5 : w5.heap[w.heap.size]? = some (.cells #[.int .i64 a, .int .i64 c, .int .i64 sv, .int .i64 sb, .int .i64 t, .string d] 35) := get_below hk5.1 HG.out hz1
  obtain ⟨m0, m1, m2, m3, m4, m5⟩ := cells6_of hG5
  have HG : Hid _ := hG5
  have HB : Hid (Below w.heap.size w w5) := HB.out.trans (hk5.1.mono (by omega))
  clear hw5 hk5 hG5
  go_wp2_with fail
  refine (text_any w1.heap.size ([] ++ putL 32 1 ++ putL sv 1 ++ putL sb 1 ++ putL t 4) d _ HW.out (by have := putL_le (32) 1; have := putL_le (sv) 1; have := putL_le (sb) 1; have := putL_le (t) 4; simp only [List.length_append, List.length_nil]; omega)).mono ?_
  rintro e w6 ⟨rfl, hw6, hk6⟩
  have hG6 : w6.heap[w.heap.size]? = some (.cells #[.int .i64 a, .int .i64 c, .int .i64 sv, .int .i64 sb, .int .i64 t, .string d] 35) := get_below hk6.1 HG.out hz1
  obtain ⟨m0, m1, m2, m3, m4, m5⟩ := cells6_of hG6
  have HG : Hid _ := hG6
  have HB : Hid (Below w.heap.size w w6) := HB.out.trans (hk6.1.mono (by omega))
  obtain ⟨v, hv, hcv⟩ := wrt_text hw6
  have HE : Hid ((⟨([] ++ putL 32 1 ++ putL sv 1 ++ putL sb 1 ++ putL t 4 ++ d.data.toList).toArray⟩ : ByteArray) = rpD sv sb t d) := rfl
  have hsz := rpD_size (d := d) hv0 hv1 hu0 hu1 ht0 ht1
  rw [HE.out] at hcv
  have hmx : (rpD sv sb t d).size ≤ maxLen := by rw [hsz]; unfold maxLen; omega
  clear hw6 hk6 hG6
  generalize hT : rpD sv sb t d = T at *
  have HT : Hid _ := hT
  clear hT
  go_wp2_with fail
  refine (implPacketPut_any false a c T _ hmx).mono ?_
  rintro e w7 ⟨rfl, hb7⟩
  have HB7 : Hid (Below w.heap.size w w7) := HB.out.trans (hb7.mono HB.out.size)
  clear hb7
  go_wp2_with fail
  go_ret
  exact ⟨by rw [HT.out]; rfl, HB7.out⟩
set_option maxRecDepth 100000 in
set_option maxHeartbeats 4000000 in
theorem l6Rep_any (a c sv sb t : Int) (d : ByteArray) (w : World) (hd : d.size ≤ maxLen) (ha0 : 0 ≤ a) (ha1 : a ≤ 2046) (hca : 0 ≤ c) (hcc : c ≤ 16383) (hv0 : 0 ≤ sv) (hv1 : sv ≤ 255) (hu0 : 0 ≤ sb) (hu1 : sb ≤ 255) (ht0 : 0 ≤ t) (ht1 : t ≤ 99999) (hs1 : d.size ≤ 60) :
    Calls Tryd.prog 86 #[.agg #[.int .i64 a, .int .i64 c, .int .i64 sv, .int .i64 sb, .int .i64 t, .string d]] w fun e w' => e = .returned (.string (pkW false a c (rpD sv sb t d))) ∧ Below w.heap.size w w' := by
  have hm := hd
  unfold maxLen at hm
  have hsz := rpD_size (d := d) hv0 hv1 hu0 hu1 ht0 ht1
  have HSZ : Hid _ := hsz
  have HM : Hid ((rpD sv sb t d).size ≤ maxLen) := by show (rpD sv sb t d).size ≤ maxLen; rw [hsz]; unfold maxLen; omega
  clear hsz
  go_enter Tryd.func86, Tryd.ntmps86
  go_wp2_with fail
  have HB0 : Hid (Below w.heap.size w (w.alloc (.cells #[.int .i64 a, .int .i64 c, .int .i64 sv, .int .i64 sb, .int .i64 t, .string d] 35))) := ((Below.refl _ _).alloc (Nat.le_refl _) _)
  obtain ⟨k0, k1, k2, k3, k4, k5⟩ := cells6_of (w := (w.alloc (.cells #[.int .i64 a, .int .i64 c, .int .i64 sv, .int .i64 sb, .int .i64 t, .string d] 35))) (get_new rfl)
  generalize (w.alloc (.cells #[.int .i64 a, .int .i64 c, .int .i64 sv, .int .i64 sb, .int .i64 t, .string d] 35)) = wr at *
  have HD : Below wr.heap.size wr wr.drew ∧ wr.drew.cell? ⟨w.heap.size, 0, none⟩ = some (.int .i64 a) ∧ wr.drew.cell? ⟨w.heap.size, 1, none⟩ = some (.int .i64 c) ∧ wr.drew.cell? ⟨w.heap.size, 2, none⟩ = some (.int .i64 sv) ∧ wr.drew.cell? ⟨w.heap.size, 3, none⟩ = some (.int .i64 sb) ∧ wr.drew.cell? ⟨w.heap.size, 4, none⟩ = some (.int .i64 t) ∧ wr.drew.cell? ⟨w.heap.size, 5, none⟩ = some (.string d) := ⟨(Below.refl _ _).drew, k0, k1, k2, k3, k4, k5⟩
  have hqb : (9223372036854775807 < 7 + d.size) = False := by simp; omega
  clear k0 k1 k2 k3 k4 k5
  go_region_held2 (fun W => Below wr.heap.size wr W ∧ W.cell? ⟨w.heap.size, 0, none⟩ = some (.int .i64 a) ∧ W.cell? ⟨w.heap.size, 1, none⟩ = some (.int .i64 c) ∧ W.cell? ⟨w.heap.size, 2, none⟩ = some (.int .i64 sv) ∧ W.cell? ⟨w.heap.size, 3, none⟩ = some (.int .i64 sb) ∧ W.cell? ⟨w.heap.size, 4, none⟩ = some (.int .i64 t) ∧ W.cell? ⟨w.heap.size, 5, none⟩ = some (.string d)) (first | with_reducible assumption) ((first | (go_at_call_of 80 (Value.int IntKind.i64 4); refine (l1Put4 _ _ (by omega) (by omega)).mono ?_; rintro e w8 ⟨x0, x1, x2, x3, HT4, rfl, hb8⟩; have HK := keepC6 (by with_reducible assumption) hb8; clear hb8) | (go_at_call_of 80 (Value.int IntKind.i64 1); have HB := HY; clear HB; refine (l1Put1 _ _ (by omega) (by omega)).mono ?_; rintro e w8 ⟨z, HZ, rfl, hb8⟩; have HK := keepC6 (by with_reducible assumption) hb8; clear hb8) | (go_at_call_of 80 (Value.int IntKind.i64 1); refine (l1Put1 _ _ (by omega) (by omega)).mono ?_; rintro e w8 ⟨y, HY, rfl, hb8⟩; have HK := keepC6 (by with_reducible assumption) hb8; clear hb8) | (go_at_call 67; rw [rp_eq HY.out HZ.out HT4.out hv0 hv1 hu0 hu1]; refine (l6Put_false a c (rpD sv sb t d) _ HM.out ha0 (by omega) hca hcc (by rw [HSZ.out]; omega) (by rw [HSZ.out]; omega)).mono ?_; rintro e w8 ⟨rfl, hb8⟩; have HK := keepC6 (by with_reducible assumption) hb8; clear hb8)))
  go_wp2_with fail
  go_ret
  exact ⟨rfl, HB0.out.trans (HK.1.mono HB0.out.size)⟩
set_option maxHeartbeats 1000000 in
theorem specRepPut_yes (a c sv sb t : Int) (d : ByteArray) (w : World) (hd : d.size ≤ maxLen) (h : rpOk a c sv sb t d = true) (r : ByteArray) (H : Hid (∀ W, Calls Tryd.prog 86 #[.agg #[.int .i64 a, .int .i64 c, .int .i64 sv, .int .i64 sb, .int .i64 t, .string d]] W fun e w' => e = .returned (.string r) ∧ Below W.heap.size W w')) :
    Calls Tryd.prog 34 #[.agg #[.int .i64 a, .int .i64 c, .int .i64 sv, .int .i64 sb, .int .i64 t, .string d]] w fun e w' => e = .returned (.string r) ∧ Below w.heap.size w w' := by
  have HS : Hid (Below (w.heap.size + 1) (w.alloc (.cells #[.int .i64 a, .int .i64 c, .int .i64 sv, .int .i64 sb, .int .i64 t, .string d] 35)) (w.alloc (.cells #[.int .i64 a, .int .i64 c, .int .i64 sv, .int .i64 sb, .int .i64 t, .string d] 35))) := Below.refl _ _
  go_enter Tryd.func34, Tryd.ntmps34
  go_wp2_with fail
  refine (specRepOk_any _ _ _ _ _ _ _ hd).mono ?_
  rintro e w1 ⟨rfl, hb1⟩
  have HS : Hid (Below (w.heap.size + 1) (w.alloc (.cells #[.int .i64 a, .int .i64 c, .int .i64 sv, .int .i64 sb, .int .i64 t, .string d] 35)) w1) := (by first | exact hidA HS hb1 | exact hidB HS hb1)
  obtain ⟨hc1, hf1⟩ := bk HS.out
  clear hb1
  go_wp2_with fail
  refine (H.out _).mono ?_
  rintro e w2 ⟨rfl, hb2⟩
  have HS : Hid (Below (w.heap.size + 1) (w.alloc (.cells #[.int .i64 a, .int .i64 c, .int .i64 sv, .int .i64 sb, .int .i64 t, .string d] 35)) w2) := (by first | exact hidA HS hb2 | exact hidB HS hb2)
  obtain ⟨hc2, hf2⟩ := bk HS.out
  clear hb2
  try clear hc1 hf1
  go_wp2_with fail
  go_ret
  exact ⟨rfl, ((Below.refl _ _).alloc (Nat.le_refl _) _).trans (HS.out.mono (by omega))⟩
def rpPut (a c sv sb t : Int) (d : ByteArray) : ByteArray := if rpOk a c sv sb t d = true then pkW false a c (rpD sv sb t d) else ⟨#[]⟩
theorem implRepPut_any (a c sv sb t : Int) (d : ByteArray) (w : World) (hd : d.size ≤ maxLen) :
    Calls Tryd.prog 33 #[.agg #[.int .i64 a, .int .i64 c, .int .i64 sv, .int .i64 sb, .int .i64 t, .string d]] w fun e w' => e = .returned (.string (rpPut a c sv sb t d)) ∧ Below w.heap.size w w' := by
  unfold rpPut
  cases h : rpOk a c sv sb t d
  · rw [if_neg (by decide)]; exact implRepPut_no a c sv sb t d w hd h
  · rw [if_pos rfl]
    obtain ⟨h0, h1, h2, h3, h4, h5, h6, h7, h8, h9, h10⟩ := rpOk_all h
    have hsz := rpD_size (d := d) h4 h5 h6 h7 h8 h9
    have hk : pkOk a c (rpD sv sb t d) = true := by
      simp only [pkOk, inB, Bool.and_eq_true, decide_eq_true_eq, hsz]
      omega
    have h := implRepPut_yes a c sv sb t d w hd h h0 h1 h2 h3 h4 h5 h6 h7 h8 h9 h10
    rw [pkPut, if_pos hk] at h
    exact h
theorem specRepPut_any (a c sv sb t : Int) (d : ByteArray) (w : World) (hd : d.size ≤ maxLen) :
    Calls Tryd.prog 34 #[.agg #[.int .i64 a, .int .i64 c, .int .i64 sv, .int .i64 sb, .int .i64 t, .string d]] w fun e w' => e = .returned (.string (rpPut a c sv sb t d)) ∧ Below w.heap.size w w' := by
  unfold rpPut
  cases h : rpOk a c sv sb t d
  · rw [if_neg (by decide)]; exact specRepPut_no a c sv sb t d w hd h
  · rw [if_pos rfl]
    obtain ⟨h0, h1, h2, h3, h4, h5, h6, h7, h8, h9, h10⟩ := rpOk_all h
    exact specRepPut_yes a c sv sb t d w hd h _ (fun W => l6Rep_any a c sv sb t d W hd h0 h1 h2 h3 h4 h5 h6 h7 h8 h9 h10)
end Go.Proofs.YtccpdadabndleaaDoor
