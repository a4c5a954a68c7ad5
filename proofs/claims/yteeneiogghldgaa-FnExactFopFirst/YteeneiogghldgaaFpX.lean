/- spec.FopOk, and FopFirst, both sides. -/
import Derived.Test.YteeneiogghldgaaFpW
namespace Go.Proofs.Yteeneiogghldgaa
open Go.ChangeShapes Go.WideShapes Go.ChangeAt Go.RowKit
set_option linter.unusedVariables false

set_option maxRecDepth 100000 in
set_option maxHeartbeats 4000000 in
theorem specFopOk_any (c v x : Int) (a : Option Addr) (n cap : Nat) (f : Nat → ByteArray) (s : Bool) (w : World) (hn : n ≤ maxLen) (h : Txt w a n f) :
    Calls Try.prog 34 #[.agg #[.int .i64 c, .int .i64 v, .int .i64 x, .slice a n cap, .bool s]] w fun e w' => e = .returned (.bool (fopB c v x n f)) ∧ Below w.heap.size w w' := by
  have HBH : Hid (∀ o, Below w.heap.size w (w.alloc o)) := fun o => (Below.refl _ _).alloc (Nat.le_refl _) o
  unfold maxLen at hn
  have hEnd : Hid (∀ b1 b2 b3 b4 : Bool, inB c 0 1023 = b1 → inB v 0 63 = b2 → inB x 0 255 = b3 → decide ((n : Int) ≤ 4) = b4 → txB f n = true → fopB c v x n f = (b1 && b2 && b3 && b4)) := by
    intro b1 b2 b3 b4 h1 h2 h3 h5 h4
    simp only [fopB, h1, h2, h3, h4, h5]
    cases b1 <;> cases b2 <;> cases b3 <;> cases b4 <;> rfl
  have hBad : Hid (∀ k, k < n → inB ((f k).size : Nat) 1 53 = false → fopB c v x n f = false) := by
    intro k hk hb
    have : txB f n = false := txB_false (k := k + 1) (by simp [txB, hb]) (by omega)
    simp [fopB, this]
  obtain ⟨hsz, h0 | ⟨b, off, rfl, hlt, hc⟩⟩ := h
  · subst h0
    cases h1 : inB c 0 1023 <;> cases h2 : inB v 0 63 <;> cases h3 : inB x 0 255
    all_goals
      have HE := hEnd.out _ _ _ _ h1 h2 h3 rfl rfl
      have HEE : Hid _ := HE
      clear HE hEnd hBad
      go_enter Try.func34, Try.ntmps34
      go_wp2_with fail
      refine Go.wp_loop_rounds 1 ?_
      rw [Go.rounds_succ]
      go_wp2_with (go_at_call 51; refine (l1In_any _ _ _ _).mono ?_; rintro e w' ⟨rfl, rfl⟩)
      go_ret
      exact ⟨by rw [HEE.out]; rfl, HBH.out _⟩
  have HS : Hid _ := hsz
  have HC : Hid (∀ o, ∀ i, i < n → (w.alloc o).cell? ⟨b, off + i, none⟩ = some (.string (f i))) := fun o i hi => (((Below.refl _ _).alloc (Nat.le_refl _) o).cell (p := ⟨b, off + i, none⟩) hlt).trans (hc i hi)
  clear hsz hc
  go_enter Try.func34, Try.ntmps34
  go_wp2_with fail
  go_loop [3] (fun i => ∃ k : Nat, k ≤ n ∧ i = .int .i64 k ∧ Hid (txB f k = true)) (fun i => n - (intOf i).toNat)
  case atStart => exact ⟨0, by omega, rfl, rfl⟩
  case round =>
    obtain ⟨k, hk, rfl, hx⟩ := hrel
    by_cases hlt2 : k < n
    · have hck := HC.out (.cells #[.int .i64 c, .int .i64 v, .int .i64 x, .slice (some ⟨b, off, none⟩) n cap, .bool s] 54) k hlt2
      have hsk := HS.out k hlt2
      unfold maxLen at hsk
      cases hb : inB ((f k).size : Nat) 1 53
      · have HE := hBad.out k hlt2 hb
        have HEE : Hid _ := HE
        clear HE
        go_wp2_with (go_at_call 51; refine (l1In_any _ _ _ _).mono ?_; rintro e w' ⟨rfl, rfl⟩)
        go_ret
        exact ⟨by rw [HEE.out]; rfl, HBH.out _⟩
      · have HEE : Hid (txB f (k + 1) = true) := by show _ = _; simp [txB, hb, hx.out]
        go_wp2_with (go_at_call 51; refine (l1In_any _ _ _ _).mono ?_; rintro e w' ⟨rfl, rfl⟩)
        exact ⟨⟨k + 1, by omega, by go_num, HEE.out⟩, by simp [intOf]; omega⟩
    · obtain rfl : k = n := by omega
      cases h1 : inB c 0 1023 <;> cases h2 : inB v 0 63 <;> cases h3 : inB x 0 255 <;> cases h4 : decide ((k : Int) ≤ 4)
      all_goals
        have HE : Hid _ := hEnd.out _ _ _ _ h1 h2 h3 h4 hx.out
        go_wp2_with (go_at_call 51; refine (l1In_any _ _ _ _).mono ?_; rintro e w' ⟨rfl, rfl⟩)
        go_ret
        exact ⟨by rw [HE.out]; rfl, HBH.out _⟩
set_option maxHeartbeats 400000 in
theorem l4ModF (n : Int) (w : World) (h0 : -512 ≤ n) (h1 : n ≤ 1000000) :
    Calls Try.prog 67 #[.int .i64 n] w fun e w' => e = .returned (.int .i64 (n % 256)) ∧ w' = w := by
  go_enter Try.func67, Try.ntmps67
  go_wp2
  go_ret
  exact ⟨ret_int (by omega), rfl⟩
set_option maxHeartbeats 400000 in
theorem backF (x : Int) (n : Nat) (w : World) (h0 : 0 ≤ x) (h1 : x ≤ 255) (hn : n ≤ 4) :
    Calls Try.prog 66 #[.int .u8 x, .int .i64 n] w fun e w' => e = .returned (.int .u8 ((x - n) % 256)) ∧ w' = w := by
  go_enter Try.func66, Try.ntmps66
  go_wp2
  go_ret
  exact ⟨ret_int (by omega), rfl⟩
theorem fopB_parts {c v x : Int} {n : Nat} {f : Nat → ByteArray} (h : fopB c v x n f = true) : n ≤ 4 ∧ 0 ≤ x ∧ x ≤ 255 := by
  simp only [fopB, inB, Bool.and_eq_true, decide_eq_true_eq] at h
  omega
set_option maxHeartbeats 1000000 in
theorem implFopFirst_any (c v x : Int) (a : Option Addr) (n cap : Nat) (f : Nat → ByteArray) (s : Bool) (w : World) (hn : n ≤ maxLen) (h : Txt w a n f) :
    Calls Try.prog 39 #[.agg #[.int .i64 c, .int .i64 v, .int .i64 x, .slice a n cap, .bool s]] w fun e w' => e = .returned (.int .i64 (if fopB c v x n f = true then (x - n) % 256 else 0)) ∧ Below w.heap.size w w' := by
  have HT : Hid (∀ o, Txt (w.alloc o) a n f) := fun o => h.alloc o
  have HBH : Hid (∀ o, Below w.heap.size w (w.alloc o)) := fun o => (Below.refl _ _).alloc (Nat.le_refl _) o
  clear h
  cases hb : fopB c v x n f
  · have HX : Hid _ := hb
    clear hb
    go_enter Try.func39, Try.ntmps39
    go_wp2_with fail
    have H1 := implFopOk_any c v x a n cap f s (w.alloc (.cells #[.int .i64 c, .int .i64 v, .int .i64 x, .slice a n cap, .bool s] 54)) hn (HT.out _)
    rw [HX.out] at H1
    refine H1.mono ?_
    clear H1
    rintro e w1 ⟨rfl, hb1⟩
    have HB1 : Hid (Below w.heap.size w w1) := (HBH.out _).trans (hb1.mono (by simp))
    clear hb1
    go_wp2_with fail
    go_ret
    exact ⟨rfl, HB1.out⟩
  · have HX : Hid _ := hb
    obtain ⟨h4, hx0, hx1⟩ := fopB_parts hb
    clear hb
    go_enter Try.func39, Try.ntmps39
    go_wp2_with fail
    have H1 := implFopOk_any c v x a n cap f s (w.alloc (.cells #[.int .i64 c, .int .i64 v, .int .i64 x, .slice a n cap, .bool s] 54)) hn (HT.out _)
    rw [HX.out] at H1
    refine H1.mono ?_
    clear H1
    rintro e w1 ⟨rfl, hb1⟩
    have HB1 : Hid (Below w.heap.size w w1) := (HBH.out _).trans (hb1.mono (by simp))
    obtain ⟨hc, hf⟩ := bcell0 hb1
    have hz : w.heap.size < w1.heap.size := by have := hb1.size; simp at this; omega
    clear hb1
    go_wp2_with (go_at_call 66; refine (backF _ _ _ hx0 hx1 h4).mono ?_; rintro e w' ⟨rfl, rfl⟩)
    go_ret
    exact ⟨rfl, HB1.out⟩
set_option maxHeartbeats 1000000 in
theorem l5First_any (c v x : Int) (a : Option Addr) (n cap : Nat) (f : Nat → ByteArray) (s : Bool) (w : World) (hn : n ≤ 4) (hx0 : 0 ≤ x) (hx1 : x ≤ 255) :
    Calls Try.prog 65 #[.agg #[.int .i64 c, .int .i64 v, .int .i64 x, .slice a n cap, .bool s]] w fun e w' => e = .returned (.int .i64 ((x - n) % 256)) ∧ Below w.heap.size w w' := by
  have HBH : Hid (∀ o, Below w.heap.size w (w.alloc o)) := fun o => (Below.refl _ _).alloc (Nat.le_refl _) o
  go_enter Try.func65, Try.ntmps65
  go_wp2_with (go_at_call 67; refine (l4ModF _ _ (by omega) (by omega)).mono ?_; rintro e w' ⟨rfl, rfl⟩)
  go_ret
  exact ⟨rfl, HBH.out _⟩
set_option maxHeartbeats 1000000 in
theorem specFopFirst_any (c v x : Int) (a : Option Addr) (n cap : Nat) (f : Nat → ByteArray) (s : Bool) (w : World) (hn : n ≤ maxLen) (h : Txt w a n f) :
    Calls Try.prog 38 #[.agg #[.int .i64 c, .int .i64 v, .int .i64 x, .slice a n cap, .bool s]] w fun e w' => e = .returned (.int .i64 (if fopB c v x n f = true then (x - n) % 256 else 0)) ∧ Below w.heap.size w w' := by
  have HT : Hid (∀ o, Txt (w.alloc o) a n f) := fun o => h.alloc o
  have HBH : Hid (∀ o, Below w.heap.size w (w.alloc o)) := fun o => (Below.refl _ _).alloc (Nat.le_refl _) o
  clear h
  cases hb : fopB c v x n f
  · have HX : Hid _ := hb
    clear hb
    go_enter Try.func38, Try.ntmps38
    go_wp2_with fail
    have H1 := specFopOk_any c v x a n cap f s (w.alloc (.cells #[.int .i64 c, .int .i64 v, .int .i64 x, .slice a n cap, .bool s] 54)) hn (HT.out _)
    rw [HX.out] at H1
    refine H1.mono ?_
    clear H1
    rintro e w1 ⟨rfl, hb1⟩
    have HB1 : Hid (Below w.heap.size w w1) := (HBH.out _).trans (hb1.mono (by simp))
    clear hb1
    go_wp2_with fail
    go_ret
    exact ⟨rfl, HB1.out⟩
  · have HX : Hid _ := hb
    obtain ⟨h4, hx0, hx1⟩ := fopB_parts hb
    clear hb
    go_enter Try.func38, Try.ntmps38
    go_wp2_with fail
    have H1 := specFopOk_any c v x a n cap f s (w.alloc (.cells #[.int .i64 c, .int .i64 v, .int .i64 x, .slice a n cap, .bool s] 54)) hn (HT.out _)
    rw [HX.out] at H1
    refine H1.mono ?_
    clear H1
    rintro e w1 ⟨rfl, hb1⟩
    have HB1 : Hid (Below w.heap.size w w1) := (HBH.out _).trans (hb1.mono (by simp))
    obtain ⟨hc, hf⟩ := bcell0 hb1
    have hz : w.heap.size < w1.heap.size := by have := hb1.size; simp at this; omega
    clear hb1
    go_wp2_with fail
    refine (l5First_any c v x a n cap f s _ h4 hx0 hx1).mono ?_
    rintro e w2 ⟨rfl, hb2⟩
    have HB2 : Hid (Below w.heap.size w w2) := HB1.out.trans (hb2.mono HB1.out.size)
    clear hb2 hc hf
    go_wp2_with fail
    go_ret
    exact ⟨rfl, HB2.out⟩
end Go.Proofs.Yteeneiogghldgaa
