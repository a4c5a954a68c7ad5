/- The contracts of impl.Bch and spec.Bch. -/
import Derived.Test.YthhibeepfecmdaaBchM
namespace Go.Proofs.Ythhibeepfecmdaa
open Go.ChangeShapes Go.WideShapes Go.ChangeAt Go.RowKit
set_option linter.unusedVariables false

theorem and_one (x : Nat) : x &&& 1 = x % 2 := Nat.and_one_is_mod x
theorem and_127 (x : Nat) : x &&& 127 = x % 128 := by
  have := Nat.and_two_pow_sub_one_eq_mod x 7; simpa using this
theorem cast_shr (b j : Nat) : (b : Int) / 2 ^ j = ((b / 2 ^ j : Nat) : Int) := by simp
theorem pb_top {v : Nat} (hv : v < 128) : bits .and .u8 ((v : Int) / 64) 1 = ((v / 64 : Nat) : Int) := by
  rw [show ((v : Int) / 64) = ((v / 64 : Nat) : Int) from by simp, show (1 : Int) = ((1 : Nat) : Int) from rfl, u8_and_nat _ _ (by omega) (by omega), and_one]
  congr 1; omega
theorem pb_bit {b : Nat} (hb : b < 256) (j : Nat) : bits .and .u8 ((b : Int) / 2 ^ j) 1 = ((b / 2 ^ j % 2 : Nat) : Int) := by
  have h := Nat.div_le_self b (2 ^ j)
  rw [cast_shr, show (1 : Int) = ((1 : Nat) : Int) from rfl, u8_and_nat _ _ (by omega) (by omega), and_one]
theorem pb_two {v : Nat} (hv : v < 128) : bits .and .u8 ((v : Int) * 2) 127 = ((2 * v % 128 : Nat) : Int) := by
  rw [show ((v : Int) * 2) = ((2 * v : Nat) : Int) from by omega, show (127 : Int) = ((127 : Nat) : Int) from rfl, u8_and_nat _ _ (by omega) (by omega), and_127]
theorem pb_xor {v : Nat} (hv : v < 128) : bits .xor .u8 (v : Int) 69 = ((v ^^^ 69 : Nat) : Int) := by
  rw [show (69 : Int) = ((69 : Nat) : Int) from rfl, u8_xor_nat _ _ (by omega) (by omega)]

set_option maxHeartbeats 400000 in
theorem padd_any (s b : Nat) (w : World) (hs : s < 128) (hb : b < 256) :
    Calls Try.prog 80 #[.int .u8 (s : Nat), .int .u8 (b : Nat)] w fun e w' => e = .returned (.int .u8 (psTo b s 8 : Nat)) ∧ w' = w := by
  go_enter Try.func80, Try.ntmps80
  go_wp2
  go_loop [0, 5] (fun v c => ∃ k : Nat, k ≤ 8 ∧ v = .int .u8 (psTo b s k : Nat) ∧ c = .int .i64 (7 - k)) (fun _ c => (intOf c + 1).toNat)
  case atStart => exact ⟨0, by omega, rfl, rfl⟩
  case round =>
    obtain ⟨k, hk, rfl, rfl⟩ := hrel
    have hv := psTo_lt (b := b) hs k
    have HN : Hid (psTo b s (k + 1) = ps (psTo b s k) (b / 2 ^ (7 - k) % 2)) := rfl
    by_cases hlt : k < 8
    · generalize psTo b s k = v at hv HN ⊢
      have a1 := pb_top hv
      have a2 := pb_bit hb (7 - k)
      have a3 := pb_two hv
      have hm : 2 * v % 128 < 128 := by omega
      have a4 := pb_xor hm
      unfold ps at HN
      generalize v / 64 = top at a1 HN
      generalize b / 2 ^ (7 - k) % 2 = bb at a2 HN
      generalize 2 * v % 128 = m at a3 a4 HN
      generalize m ^^^ 69 = x at a4 HN
      by_cases ht : top = bb
      · have HM : Hid (psTo b s (k + 1) = m) := by rw [if_pos ht] at HN; exact HN
        have h1 : ((top : Int) != (bb : Int)) = false := by rw [bne_eq_false_iff_eq]; omega
        clear ht HN
        go_wp2
        exact ⟨⟨k + 1, by omega, by rw [HM.out], by go_num⟩, by simp [intOf]; omega⟩
      · have HM : Hid (psTo b s (k + 1) = x) := by rw [if_neg ht] at HN; exact HN
        have h1 : ((top : Int) != (bb : Int)) = true := by rw [bne_iff_ne]; omega
        clear ht HN
        go_wp2
        exact ⟨⟨k + 1, by omega, by rw [HM.out], by go_num⟩, by simp [intOf]; omega⟩
    · obtain rfl : k = 8 := by omega
      go_wp2
      go_ret
      exact ⟨rfl, rfl⟩

theorem xor127 {s : Nat} (hs : s < 128) : bits .xor .u8 (s : Int) 127 = ((s ^^^ 127 : Nat) : Int) := by
  rw [show (127 : Int) = ((127 : Nat) : Int) from rfl, u8_xor_nat _ _ (by omega) (by omega)]
theorem x127_lt {s : Nat} (hs : s < 128) : s ^^^ 127 < 128 := Nat.xor_lt_two_pow (n := 7) hs (by omega)

set_option maxHeartbeats 400000 in
theorem implBch_no (t : ByteArray) (w : World) (h7 : t.size ≠ 7) :
    Calls Try.prog 22 #[.string t] w fun e w' => e = .returned (.int .i64 (-1)) ∧ w' = w := by
  have hz : ((t.size : Int) != 7) = true := by rw [bne_iff_ne]; omega
  clear h7
  go_enter Try.func22, Try.ntmps22
  go_wp2
  go_ret
  exact ⟨rfl, rfl⟩
set_option maxHeartbeats 400000 in
theorem specBch_no (t : ByteArray) (w : World) (h7 : t.size ≠ 7) :
    Calls Try.prog 79 #[.string t] w fun e w' => e = .returned (.int .i64 (-1)) ∧ w' = w := by
  have hz : ((t.size : Int) != 7) = true := by rw [bne_iff_ne]; omega
  clear h7
  go_enter Try.func79, Try.ntmps79
  go_wp2
  go_ret
  exact ⟨rfl, rfl⟩

set_option maxHeartbeats 400000 in
theorem implBch_any (t : ByteArray) (w : World) (h7 : t.size = 7) :
    Calls Try.prog 22 #[.string t] w fun e w' => e = .returned (.int .i64 (bchV t : Nat)) ∧ w' = w := by
  have hz : ((t.size : Int) != 7) = false := by rw [bne_eq_false_iff_eq]; omega
  have HZ : Hid (t.size = 7) := h7
  have h7' : t.size < 8 := by omega
  clear h7
  go_enter Try.func22, Try.ntmps22
  go_wp2
  go_loop [3, 10] (fun v c => ∃ k : Nat, k ≤ t.size ∧ v = .int .u8 (bchTo t k : Nat) ∧ c = .int .i64 k) (fun _ c => (t.size - intOf c).toNat)
  case atStart => exact ⟨0, by omega, rfl, rfl⟩
  case round =>
    obtain ⟨k, hk, rfl, rfl⟩ := hrel
    have hv := bchTo_lt t k
    have hb := byteAt_lt t k
    by_cases hlt : k < t.size
    · have hby := byteAt_eq t k hlt
      go_wp2_with (go_at_call 80; refine (padd_any _ _ _ hv hb).mono ?_; rintro e w' ⟨rfl, rfl⟩)
      exact ⟨⟨k + 1, by omega, rfl, by go_num⟩, by simp [intOf]; omega⟩
    · obtain rfl : k = t.size := by omega
      have hx := xor127 hv
      have hl := x127_lt hv
      have HV : Hid (bchV t = (bchTo t t.size ^^^ 127) * 2) := by rw [HZ.out]; rfl
      generalize bchTo t t.size ^^^ 127 = x at hx hl HV
      go_wp2
      go_ret
      exact ⟨ret_int (by rw [HV.out]; simp), rfl⟩

theorem sb_bit {b : Nat} (hb : b < 256) (j : Nat) : bits .and .i64 ((b : Int) / 2 ^ j) 1 = ((b / 2 ^ j % 2 : Nat) : Int) := by
  have h := Nat.div_le_self b (2 ^ j)
  rw [cast_shr, show (1 : Int) = ((1 : Nat) : Int) from rfl, i64_and _ _ (by omega) (by omega), and_one]
theorem sb_two {v : Nat} (hv : v < 128) : bits .and .i64 ((v : Int) * 2) 127 = ((2 * v % 128 : Nat) : Int) := by
  rw [show ((v : Int) * 2) = ((2 * v : Nat) : Int) from by omega, show (127 : Int) = ((127 : Nat) : Int) from rfl, i64_and _ _ (by omega) (by omega), and_127]
theorem sb_xor {v : Nat} (hv : v < 128) : bits .xor .i64 (v : Int) 69 = ((v ^^^ 69 : Nat) : Int) := by
  rw [show (69 : Int) = ((69 : Nat) : Int) from rfl, i64_xor _ _ (by omega) (by omega)]
theorem sb_unlike {v bb : Nat} (hv : v < 128) (hb : bb < 2) : bits .xor .i64 ((v : Int) / 64) (bb : Int) = ((if v / 64 = bb then 0 else 1 : Nat) : Int) := by
  rw [show ((v : Int) / 64) = ((v / 64 : Nat) : Int) from by simp, i64_xor _ _ (by omega) (by omega)]
  have h1 : v / 64 = 0 ∨ v / 64 = 1 := by omega
  have h2 : bb = 0 ∨ bb = 1 := by omega
  rcases h1 with h1 | h1 <;> rcases h2 with rfl | rfl <;> rw [h1] <;> rfl
theorem sb_x127 {s : Nat} (hs : s < 128) : bits .xor .i64 (s : Int) 127 = ((s ^^^ 127 : Nat) : Int) := by
  rw [show (127 : Int) = ((127 : Nat) : Int) from rfl, i64_xor _ _ (by omega) (by omega)]
/-- One bit further in the whole text: behind the eighth bit of a byte the next byte begins. -/
theorem bit_next (t : ByteArray) (k j : Nat) (hj : j < 8) (hk : k < 7) :
    ∃ k' j', (j' < 8 ∧ k' < 7 ∨ k' = 7 ∧ j' = 0) ∧ psTo (byteAt t k) (bchTo t k) (j + 1) = psTo (byteAt t k') (bchTo t k') j' ∧ 8 * k + j + 1 = 8 * k' + j' := by
  by_cases h : j + 1 < 8
  · exact ⟨k, j + 1, by omega, rfl, by omega⟩
  · obtain rfl : j = 7 := by omega
    exact ⟨k + 1, 0, by omega, rfl, by omega⟩

set_option maxHeartbeats 1000000 in
theorem specBch_any (t : ByteArray) (w : World) (h7 : t.size = 7) :
    Calls Try.prog 79 #[.string t] w fun e w' => e = .returned (.int .i64 (bchV t : Nat)) ∧ w' = w := by
  have hz : ((t.size : Int) != 7) = false := by rw [bne_eq_false_iff_eq]; omega
  have HZ : Hid (t.size = 7) := h7
  have h7' : t.size < 8 := by omega
  have h7'' : 6 < t.size := by omega
  clear h7
  go_enter Try.func79, Try.ntmps79
  go_wp2
  go_loop [3, 4] (fun v c => ∃ k j : Nat, (j < 8 ∧ k < 7 ∨ k = 7 ∧ j = 0) ∧ v = .int .i64 (psTo (byteAt t k) (bchTo t k) j : Nat) ∧ c = .int .i64 (8 * k + j)) (fun _ c => (56 - intOf c).toNat)
  case atStart => exact ⟨0, 0, by omega, rfl, rfl⟩
  case round =>
    obtain ⟨k, j, hk, rfl, rfl⟩ := hrel
    have hv := psTo_lt (b := byteAt t k) (bchTo_lt t k) j
    have hby := byteAt_lt t k
    rcases hk with ⟨hj, hk⟩ | ⟨rfl, rfl⟩
    · have hq : (8 * (k : Int) + j) / 8 = k := by omega
      have hr : (8 * (k : Int) + j) % 8 = j := by omega
      have hbe := byteAt_eq t k (by omega)
      have hwb : wrap64 ((byteAt t k : Nat) : Int) = (byteAt t k : Nat) := w64 (by omega) (by omega)
      obtain ⟨k', j', hkj, HN0, HC⟩ := bit_next t k j hj hk
      have HN : Hid (ps (psTo (byteAt t k) (bchTo t k) j) (byteAt t k / 2 ^ (7 - j) % 2) = psTo (byteAt t k') (bchTo t k') j') := HN0
      have HC' : Hid (8 * k + j + 1 = 8 * k' + j') := HC
      clear HN0 HC
      have HK : Hid (j' < 8 ∧ k' < 7 ∨ k' = 7 ∧ j' = 0) := hkj
      clear hkj
      generalize psTo (byteAt t k) (bchTo t k) j = v at hv HN ⊢
      have a2 := sb_bit hby (7 - j)
      have a3 := sb_two hv
      have hm : 2 * v % 128 < 128 := by omega
      have a4 := sb_xor hm
      have hbb : byteAt t k / 2 ^ (7 - j) % 2 < 2 := by omega
      have a1 := sb_unlike hv hbb
      unfold ps at HN
      by_cases ht : v / 64 = byteAt t k / 2 ^ (7 - j) % 2
      · rw [if_pos ht] at HN a1
        clear ht
        generalize byteAt t k / 2 ^ (7 - j) % 2 = bb at a2 a1 HN
        generalize 2 * v % 128 = m at a3 a4 HN hm
        go_wp2
        refine ⟨⟨k', j', HK.out, by rw [HN.out], ?_⟩, by simp [intOf]; omega⟩
        have := HC'.out
        congr 1; omega
      · rw [if_neg ht] at HN a1
        clear ht
        generalize byteAt t k / 2 ^ (7 - j) % 2 = bb at a2 a1 HN
        generalize 2 * v % 128 = m at a3 a4 HN hm
        generalize m ^^^ 69 = x at a4 HN
        go_wp2
        refine ⟨⟨k', j', HK.out, by rw [HN.out], ?_⟩, by simp [intOf]; omega⟩
        have := HC'.out
        congr 1; omega
    · have HV : Hid (bchV t = (psTo (byteAt t 7) (bchTo t 7) 0 ^^^ 127) * 2) := rfl
      generalize psTo (byteAt t 7) (bchTo t 7) 0 = v at hv HV ⊢
      have hx := sb_x127 hv
      have hl := x127_lt hv
      generalize v ^^^ 127 = x at hx hl HV
      go_wp2
      go_ret
      exact ⟨ret_int (by rw [HV.out]; simp), rfl⟩
end Go.Proofs.Ythhibeepfecmdaa
