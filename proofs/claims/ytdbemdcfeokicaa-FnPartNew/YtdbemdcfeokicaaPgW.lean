/- ProgOk, both sides. -/
import Derived.Test.YtdbemdcfeokicaaSlOp
import Derived.Test.YtdbemdcfeokicaaPgF
namespace Go.Proofs.Ytdbemdcfeokicaa
open Go.ChangeShapes Go.WideShapes Go.ChangeAt Go.RowKit
set_option linter.unusedVariables false

def opsB (m : Int) (f0 f1 f2 : Nat → Int) : Nat → Bool
  | 0 => true
  | k + 1 => opsB m f0 f1 f2 k && opB m (f0 k) (f1 k) (f2 k)
theorem opsB_false {m : Int} {f0 f1 f2 : Nat → Int} {k n : Nat} (h : opsB m f0 f1 f2 k = false) (hn : k ≤ n) : opsB m f0 f1 f2 n = false := by
  induction n with
  | zero => obtain rfl : k = 0 := by omega
            exact h
  | succ n ih =>
    by_cases e : k = n + 1
    · subst e; exact h
    · simp [opsB, ih (by omega)]
def progB (n : Nat) (f0 f1 f2 : Nat → Int) : Bool := inB n 1 16 && opsB n f0 f1 f2 n
set_option maxRecDepth 100000 in
set_option maxHeartbeats 4000000 in
theorem specProgOk_any (a : Option Addr) (n cap : Nat) (f0 f1 f2 : Nat → Int) (w : World) (hn : n ≤ 1048576) (h : OpS w a n f0 f1 f2) :
    Calls Try.prog 37 #[.slice a n cap] w fun e w' => e = .returned (.bool (progB n f0 f1 f2)) ∧ Below w.heap.size w w' := by
  have hBad : Hid (∀ k, k < n → opB n (f0 k) (f1 k) (f2 k) = false → progB n f0 f1 f2 = false) := by
    intro k hk hb
    have : opsB n f0 f1 f2 n = false := opsB_false (k := k + 1) (by simp [opsB, hb]) (by omega)
    simp [progB, this]
  have hEnd : Hid (∀ b, inB n 1 16 = b → opsB n f0 f1 f2 n = true → progB n f0 f1 f2 = b) := by
    intro b h1 h2
    simp [progB, h1, h2]
  rcases h with h0 | ⟨b, off, rfl, hlt, hc⟩
  · subst h0
    have HE : Hid (progB 0 f0 f1 f2 = false) := rfl
    clear hEnd hBad
    go_enter Try.func37, Try.ntmps37
    go_wp2_with fail
    refine Go.wp_loop_rounds 1 ?_
    rw [Go.rounds_succ]
    go_wp2_with (go_at_call 82; refine (l1In_any _ _ _ _).mono ?_; rintro e w' ⟨rfl, rfl⟩)
    go_ret
    exact ⟨by rw [HE.out]; rfl, Below.refl _ _⟩
  have HC : Hid _ := hc
  clear hc
  go_enter Try.func37, Try.ntmps37
  go_wp2_with fail
  go_loopw [3] (fun i wr => ∃ k : Nat, k ≤ n ∧ i = .int .i64 k ∧ Hid (opsB n f0 f1 f2 k = true) ∧ Below w.heap.size w wr) (fun i _ => n - (intOf i).toNat)
  case atStart => exact ⟨0, by omega, rfl, rfl, Below.refl _ _⟩
  case round =>
    obtain ⟨k, hk, rfl, hx, hB⟩ := hrel
    have HB : Hid _ := hB
    by_cases hlt2 : k < n
    · have hhw : ∀ q, wr.cell? ⟨b, q, none⟩ = w.cell? ⟨b, q, none⟩ := fun q => hB.cell (p := ⟨b, q, none⟩) hlt
      have hck := HC.out k hlt2
      simp only [← hhw] at hck
      obtain ⟨c0, c1, c2⟩ := hck
      have hik : (k : Int) < (n : Int) := by omega
      clear hB hhw
      cases hb : opB n (f0 k) (f1 k) (f2 k)
      · have HE : Hid _ := hBad.out k hlt2 hb
        have HL := fun W => l10Ok_any n (f0 k) (f1 k) (f2 k) W (by omega) (by omega)
        simp only [hb] at HL
        have HLL : Hid _ := HL
        clear HL
        go_wp2_with fail
        refine Calls.mono (HLL.out _) ?_
        rintro e w1 ⟨rfl, hb1⟩
        have HB1 : Hid (Below w.heap.size w w1) := (by first | exact HB.out.trans (hb1.mono HB.out.size) | exact (HB.out.alloc HB.out.size _).trans (hb1.mono (HB.out.alloc HB.out.size _).size))
        clear hb1
        go_wp2_with fail
        go_ret
        exact ⟨by rw [HE.out]; rfl, HB1.out⟩
      · have HE : Hid (opsB n f0 f1 f2 (k + 1) = true) := by show _ = _; simp [opsB, hb, hx.out]
        have HL := fun W => l10Ok_any n (f0 k) (f1 k) (f2 k) W (by omega) (by omega)
        simp only [hb] at HL
        have HLL : Hid _ := HL
        clear HL
        go_wp2_with fail
        refine Calls.mono (HLL.out _) ?_
        rintro e w1 ⟨rfl, hb1⟩
        have HB1 : Hid (Below w.heap.size w w1) := (by first | exact HB.out.trans (hb1.mono HB.out.size) | exact (HB.out.alloc HB.out.size _).trans (hb1.mono (HB.out.alloc HB.out.size _).size))
        clear hb1
        go_wp2_with fail
        exact ⟨⟨k + 1, by omega, by go_num, HE.out, HB1.out⟩, by simp [intOf]; omega⟩
    · obtain rfl : k = n := by omega
      cases h1 : inB (k : Int) 1 16
      all_goals
        have HE : Hid _ := hEnd.out _ h1 hx.out
        clear hB
        go_wp2_with (go_at_call 82; refine (l1In_any _ _ _ _).mono ?_; rintro e w' ⟨rfl, rfl⟩)
        go_ret
        exact ⟨by rw [HE.out]; rfl, HB.out⟩
set_option maxRecDepth 100000 in
set_option maxHeartbeats 8000000 in
theorem implProgOk_any (a : Option Addr) (n cap : Nat) (f0 f1 f2 : Nat → Int) (w : World) (hn : n ≤ 1048576) (h : OpS w a n f0 f1 f2) :
    Calls Try.prog 36 #[.slice a n cap] w fun e w' => e = .returned (.bool (progB n f0 f1 f2)) ∧ Below w.heap.size w w' := by
  have hBad : Hid (∀ k, k < n → opB n (f0 k) (f1 k) (f2 k) = false → progB n f0 f1 f2 = false) := by
    intro k hk hb
    have : opsB n f0 f1 f2 n = false := opsB_false (k := k + 1) (by simp [opsB, hb]) (by omega)
    simp [progB, this]
  by_cases hsm : (n : Int) < 1
  · have HE : Hid (progB n f0 f1 f2 = false) := by
      show _ = _
      have : inB (n : Int) 1 16 = false := inB_no (by omega)
      simp [progB, this]
    clear h hBad
    go_enter Try.func36, Try.ntmps36
    go_wp2_with fail
    go_ret
    exact ⟨by rw [HE.out]; rfl, Below.refl _ _⟩
  by_cases hbig : (16 : Int) < n
  · have HE : Hid (progB n f0 f1 f2 = false) := by
      show _ = _
      have : inB (n : Int) 1 16 = false := inB_no (by omega)
      simp [progB, this]
    clear h hBad
    go_enter Try.func36, Try.ntmps36
    go_wp2_with fail
    go_ret
    exact ⟨by rw [HE.out]; rfl, Below.refl _ _⟩
  have hEnd : Hid (opsB n f0 f1 f2 n = true → progB n f0 f1 f2 = true) := by
    intro h2
    have : inB (n : Int) 1 16 = true := inB_yes (by omega) (by omega)
    simp [progB, h2, this]
  rcases h with h0 | ⟨b, off, rfl, hlt, hc⟩
  · omega
  have HC : Hid _ := hc
  clear hc
  go_enter Try.func36, Try.ntmps36
  go_wp2_with fail
  go_loopw [15] (fun i wr => ∃ k : Nat, k ≤ n ∧ i = .int .i64 k ∧ Hid (opsB n f0 f1 f2 k = true) ∧ Below w.heap.size w wr) (fun i _ => n - (intOf i).toNat)
  case atStart => exact ⟨0, by omega, rfl, rfl, Below.refl _ _⟩
  case round =>
    obtain ⟨k, hk, rfl, hx, hB⟩ := hrel
    have HB : Hid _ := hB
    by_cases hlt2 : k < n
    · have hhw : ∀ q, wr.cell? ⟨b, q, none⟩ = w.cell? ⟨b, q, none⟩ := fun q => hB.cell (p := ⟨b, q, none⟩) hlt
      have hck := HC.out k hlt2
      simp only [← hhw] at hck
      obtain ⟨c0, c1, c2⟩ := hck
      have hik : (k : Int) < (n : Int) := by omega
      clear hB hhw
      cases hb : opB n (f0 k) (f1 k) (f2 k)
      · have HE : Hid _ := hBad.out k hlt2 hb
        have HL := fun W => opOk_any n (f0 k) (f1 k) (f2 k) W (by omega) (by omega)
        simp only [hb] at HL
        have HLL : Hid _ := HL
        clear HL
        go_wp2_with fail
        refine Calls.mono (HLL.out _) ?_
        rintro e w1 ⟨rfl, hb1⟩
        have HB1 : Hid (Below w.heap.size w w1) := (by first | exact HB.out.trans (hb1.mono HB.out.size) | exact (HB.out.alloc HB.out.size _).trans (hb1.mono (HB.out.alloc HB.out.size _).size))
        clear hb1
        go_wp2_with fail
        go_ret
        exact ⟨by rw [HE.out]; rfl, HB1.out⟩
      · have HE : Hid (opsB n f0 f1 f2 (k + 1) = true) := by show _ = _; simp [opsB, hb, hx.out]
        have HL := fun W => opOk_any n (f0 k) (f1 k) (f2 k) W (by omega) (by omega)
        simp only [hb] at HL
        have HLL : Hid _ := HL
        clear HL
        go_wp2_with fail
        refine Calls.mono (HLL.out _) ?_
        rintro e w1 ⟨rfl, hb1⟩
        have HB1 : Hid (Below w.heap.size w w1) := (by first | exact HB.out.trans (hb1.mono HB.out.size) | exact (HB.out.alloc HB.out.size _).trans (hb1.mono (HB.out.alloc HB.out.size _).size))
        clear hb1
        go_wp2_with fail
        exact ⟨⟨k + 1, by omega, by go_num, HE.out, HB1.out⟩, by simp [intOf]; omega⟩
    · obtain rfl : k = n := by omega
      have HE : Hid _ := hEnd.out hx.out
      clear hB
      go_wp2_with fail
      go_ret
      exact ⟨by rw [HE.out]; rfl, HB.out⟩
end Go.Proofs.Ytdbemdcfeokicaa
