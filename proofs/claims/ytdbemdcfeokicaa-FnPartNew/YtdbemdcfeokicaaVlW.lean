/- Lists of values: spec.l10Values, impl.allWithin, impl.valuesOk. -/
import Derived.Test.YtdbemdcfeokicaaNum
import Derived.Test.YtdbemdcfeokicaaHeap
import Derived.Test.YtdbemdcfeokicaaUp
import Derived.Test.YtdbemdcfeokicaaInS
namespace Go.Proofs.Ytdbemdcfeokicaa
open Go.ChangeShapes Go.WideShapes Go.ChangeAt Go.RowKit
set_option linter.unusedVariables false

def inL (lo hi : Int) (f : Nat → Int) : Nat → Bool
  | 0 => true
  | k + 1 => inL lo hi f k && inB (f k) lo hi
theorem inL_false {lo hi : Int} {f : Nat → Int} {k n : Nat} (h : inL lo hi f k = false) (hn : k ≤ n) : inL lo hi f n = false := by
  induction n with
  | zero => obtain rfl : k = 0 := by omega
            exact h
  | succ n ih =>
    by_cases e : k = n + 1
    · subst e; exact h
    · simp [inL, ih (by omega)]
theorem inL_all {lo hi : Int} {f : Nat → Int} {n : Nat} (h : inL lo hi f n = true) : ∀ i, i < n → lo ≤ f i ∧ f i ≤ hi := by
  induction n with
  | zero => intro i hi; omega
  | succ n ih =>
    simp only [inL, Bool.and_eq_true, inB, decide_eq_true_eq] at h
    intro i hi
    by_cases e : i = n
    · subst e; exact h.2
    · exact ih h.1 i (by omega)
theorem inL_of {lo hi : Int} {f : Nat → Int} {n : Nat} (h : ∀ i, i < n → lo ≤ f i ∧ f i ≤ hi) : inL lo hi f n = true := by
  induction n with
  | zero => rfl
  | succ n ih => simp only [inL, ih (fun i hi => h i (by omega)), Bool.true_and]; exact inB_yes (h n (by omega)).1 (h n (by omega)).2
set_option maxHeartbeats 2000000 in
theorem l10Values_any (a : Option Addr) (n cap : Nat) (f : Nat → Int) (w : World) (hn : n ≤ maxLen) (h : IntS w a n f) :
    Calls Try.prog 111 #[.slice a n cap] w fun e w' => e = .returned (.bool (inL 0 9999 f n)) ∧ w' = w := by
  unfold maxLen at hn
  have hBad : Hid (∀ k, k < n → inB (f k) 0 9999 = false → inL 0 9999 f n = false) := by
    intro k hk hb
    exact inL_false (k := k + 1) (by simp [inL, hb]) (by omega)
  rcases h with h0 | ⟨b, off, rfl, hlt, hc⟩
  · subst h0
    clear hBad
    go_enter Try.func111, Try.ntmps111
    go_wp2_with fail
    refine Go.wp_loop_rounds 1 ?_
    rw [Go.rounds_succ]
    go_wp2_with fail
    go_ret
    exact ⟨rfl, rfl⟩
  have HC : Hid _ := hc
  clear hc
  go_enter Try.func111, Try.ntmps111
  go_wp2_with fail
  go_loop [3] (fun i => ∃ k : Nat, k ≤ n ∧ i = .int .i64 k ∧ Hid (inL 0 9999 f k = true)) (fun i => n - (intOf i).toNat)
  case atStart => exact ⟨0, by omega, rfl, rfl⟩
  case round =>
    obtain ⟨k, hk, rfl, hx⟩ := hrel
    by_cases hlt2 : k < n
    · have hck := HC.out k hlt2
      have hik : (k : Int) < (n : Int) := by omega
      cases hb : inB (f k) 0 9999
      · have HE : Hid _ := hBad.out k hlt2 hb
        go_wp2_with (go_at_call 82; refine (l1In_any _ _ _ _).mono ?_; rintro e w' ⟨rfl, rfl⟩)
        go_ret
        exact ⟨by rw [HE.out]; rfl, rfl⟩
      · have HE : Hid (inL 0 9999 f (k + 1) = true) := by show _ = _; simp [inL, hb, hx.out]
        go_wp2_with (go_at_call 82; refine (l1In_any _ _ _ _).mono ?_; rintro e w' ⟨rfl, rfl⟩)
        exact ⟨⟨k + 1, by omega, by go_num, HE.out⟩, by simp [intOf]; omega⟩
    · obtain rfl : k = n := by omega
      have HE : Hid (inL 0 9999 f k = true) := hx.out
      go_wp2_with fail
      go_ret
      exact ⟨by rw [HE.out]; rfl, rfl⟩
set_option maxHeartbeats 2000000 in
theorem allWithin_any (a : Option Addr) (n cap : Nat) (f : Nat → Int) (lo hi : Int) (w : World) (hn : n ≤ maxLen) (h : IntS w a n f) :
    Calls Try.prog 144 #[.slice a n cap, .int .i64 lo, .int .i64 hi] w fun e w' => e = .returned (.bool (inL lo hi f n)) ∧ w' = w := by
  unfold maxLen at hn
  have hBad : Hid (∀ k, k < n → inB (f k) lo hi = false → inL lo hi f n = false) := by
    intro k hk hb
    exact inL_false (k := k + 1) (by simp [inL, hb]) (by omega)
  rcases h with h0 | ⟨b, off, rfl, hlt, hc⟩
  · subst h0
    clear hBad
    go_enter Try.func144, Try.ntmps144
    go_wp2_with fail
    refine Go.wp_loop_rounds 1 ?_
    rw [Go.rounds_succ]
    go_wp2_with fail
    go_ret
    exact ⟨rfl, rfl⟩
  have HC : Hid _ := hc
  clear hc
  go_enter Try.func144, Try.ntmps144
  go_wp2_with fail
  go_loop [11] (fun i => ∃ k : Nat, k ≤ n ∧ i = .int .i64 k ∧ Hid (inL lo hi f k = true)) (fun i => n - (intOf i).toNat)
  case atStart => exact ⟨0, by omega, rfl, rfl⟩
  case round =>
    obtain ⟨k, hk, rfl, hx⟩ := hrel
    by_cases hlt2 : k < n
    · have hck := HC.out k hlt2
      have hik : (k : Int) < (n : Int) := by omega
      by_cases hb1 : f k < lo
      · have HE : Hid _ := hBad.out k hlt2 (inB_no (by omega))
        go_wp2_with fail
        go_ret
        exact ⟨by rw [HE.out]; rfl, rfl⟩
      by_cases hb2 : hi < f k
      · have HE : Hid _ := hBad.out k hlt2 (inB_no (by omega))
        go_wp2_with fail
        go_ret
        exact ⟨by rw [HE.out]; rfl, rfl⟩
      have HE : Hid (inL lo hi f (k + 1) = true) := by show _ = _; simp [inL, inB_yes (show lo ≤ f k by omega) (show f k ≤ hi by omega), hx.out]
      go_wp2_with fail
      exact ⟨⟨k + 1, by omega, by go_num, HE.out⟩, by simp [intOf]; omega⟩
    · obtain rfl : k = n := by omega
      have HE : Hid (inL lo hi f k = true) := hx.out
      go_wp2_with fail
      go_ret
      exact ⟨by rw [HE.out]; rfl, rfl⟩
set_option maxHeartbeats 1000000 in
theorem valuesOk_any (a : Option Addr) (n cap : Nat) (f : Nat → Int) (w : World) (hn : n ≤ maxLen) (h : IntS w a n f) :
    Calls Try.prog 106 #[.slice a n cap] w fun e w' => e = .returned (.bool (inL 0 9999 f n)) ∧ w' = w := by
  have H : Hid _ := h
  clear h
  go_enter Try.func106, Try.ntmps106
  go_wp2_with (go_at_call 144; refine (allWithin_any _ _ _ f _ _ _ hn H.out).mono ?_; rintro e w' ⟨rfl, rfl⟩)
  go_ret
  exact ⟨rfl, rfl⟩
end Go.Proofs.Ytdbemdcfeokicaa
