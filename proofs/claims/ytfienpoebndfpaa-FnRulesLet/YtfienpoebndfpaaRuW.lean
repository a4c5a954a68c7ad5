/- RulesOk, both sides. -/
import Derived.Test.YtfienpoebndfpaaSlRule
import Derived.Test.YtfienpoebndfpaaUp
namespace Go.Proofs.Ytfienpoebndfpaa
open Go.ChangeShapes Go.WideShapes Go.ChangeAt Go.RowKit
set_option linter.unusedVariables false

def ruB (v0 v1 v2 v3 : Int) : Bool := inB v0 0 255 && inB v1 0 2047 && inB v2 0 255 && inB v3 0 255
def rusB (f0 f1 f2 f3 : Nat → Int) : Nat → Bool
  | 0 => true
  | k + 1 => rusB f0 f1 f2 f3 k && ruB (f0 k) (f1 k) (f2 k) (f3 k)
theorem rusB_false {f0 f1 f2 f3 : Nat → Int} {k n : Nat} (h : rusB f0 f1 f2 f3 k = false) (hn : k ≤ n) : rusB f0 f1 f2 f3 n = false := by
  induction n with
  | zero => obtain rfl : k = 0 := by omega
            exact h
  | succ n ih =>
    by_cases e : k = n + 1
    · subst e; exact h
    · simp [rusB, ih (by omega)]
def rulesB (n : Nat) (f0 f1 f2 f3 : Nat → Int) : Bool := decide ((n : Int) ≤ 12) && rusB f0 f1 f2 f3 n
set_option maxHeartbeats 2000000 in
theorem l8Ok_any (v0 v1 v2 v3 : Int) (v4 v5 : Bool) (w : World) :
    Calls Try.prog 78 #[.agg #[.int .i64 v0, .int .i64 v1, .int .i64 v2, .int .i64 v3, .bool v4, .bool v5]] w fun e w' => e = .returned (.bool (ruB v0 v1 v2 v3)) ∧ Below w.heap.size w w' := by
  have HBH : Hid (∀ o, Below w.heap.size w (w.alloc o)) := fun o => (Below.refl _ _).alloc (Nat.le_refl _) o
  cases h0 : inB v0 0 255 <;> cases h1 : inB v1 0 2047 <;> cases h2 : inB v2 0 255 <;> cases h3 : inB v3 0 255
  all_goals
    have HE : Hid _ := show ruB v0 v1 v2 v3 = _ by simp only [ruB, h0, h1, h2, h3]; rfl
    go_enter Try.func78, Try.ntmps78
    go_wp2_with (go_at_call 54; refine (l1In_any _ _ _ _).mono ?_; rintro e w' ⟨rfl, rfl⟩)
    go_ret
    exact ⟨by rw [HE.out]; rfl, HBH.out _⟩
set_option maxRecDepth 100000 in
set_option maxHeartbeats 4000000 in
theorem specRulesOk_any (a : Option Addr) (n cap : Nat) (f0 f1 f2 f3 : Nat → Int) (f4 f5 : Nat → Bool) (w : World) (hn : n ≤ maxLen) (h : RuleS w a n f0 f1 f2 f3 f4 f5) :
    Calls Try.prog 33 #[.slice a n cap] w fun e w' => e = .returned (.bool (rulesB n f0 f1 f2 f3)) ∧ Below w.heap.size w w' := by
  unfold maxLen at hn
  have hBad : Hid (∀ k, k < n → ruB (f0 k) (f1 k) (f2 k) (f3 k) = false → rulesB n f0 f1 f2 f3 = false) := by
    intro k hk hb
    have : rusB f0 f1 f2 f3 n = false := rusB_false (k := k + 1) (by simp [rusB, hb]) (by omega)
    simp [rulesB, this]
  have hEnd : Hid (∀ b, decide ((n : Int) ≤ 12) = b → rusB f0 f1 f2 f3 n = true → rulesB n f0 f1 f2 f3 = b) := by
    intro b h1 h2
    simp [rulesB, h1, h2]
  rcases h with h0 | ⟨b, off, rfl, hlt, hc⟩
  · subst h0
    have HE : Hid _ := hEnd.out _ rfl rfl
    clear hEnd hBad
    go_enter Try.func33, Try.ntmps33
    go_wp2_with fail
    refine Go.wp_loop_rounds 1 ?_
    rw [Go.rounds_succ]
    go_wp2_with fail
    go_ret
    exact ⟨by rw [HE.out]; rfl, Below.refl _ _⟩
  have HC : Hid _ := hc
  clear hc
  go_enter Try.func33, Try.ntmps33
  go_wp2_with fail
  go_loopw [3] (fun i wr => ∃ k : Nat, k ≤ n ∧ i = .int .i64 k ∧ Hid (rusB f0 f1 f2 f3 k = true) ∧ Below w.heap.size w wr) (fun i _ => n - (intOf i).toNat)
  case atStart => exact ⟨0, by omega, rfl, rfl, Below.refl _ _⟩
  case round =>
    obtain ⟨k, hk, rfl, hx, hB⟩ := hrel
    have HB : Hid _ := hB
    by_cases hlt2 : k < n
    · have hhw : ∀ q, wr.cell? ⟨b, q, none⟩ = w.cell? ⟨b, q, none⟩ := fun q => hB.cell (p := ⟨b, q, none⟩) hlt
      have hck := HC.out k hlt2
      simp only [← hhw] at hck
      obtain ⟨c0, c1, c2, c3, c4, c5⟩ := hck
      have hik : (k : Int) < (n : Int) := by omega
      clear hB hhw
      cases hb : ruB (f0 k) (f1 k) (f2 k) (f3 k)
      · have HE : Hid _ := hBad.out k hlt2 hb
        have HL := l8Ok_any (f0 k) (f1 k) (f2 k) (f3 k) (f4 k) (f5 k) wr
        rw [hb] at HL
        have HLL : Hid _ := HL
        clear HL
        go_wp2_with fail
        refine Calls.mono HLL.out ?_
        rintro e w1 ⟨rfl, hb1⟩
        have HB1 : Hid (Below w.heap.size w w1) := HB.out.trans (hb1.mono HB.out.size)
        clear hb1
        go_wp2_with fail
        go_ret
        exact ⟨by rw [HE.out]; rfl, HB1.out⟩
      · have HE : Hid (rusB f0 f1 f2 f3 (k + 1) = true) := by show _ = _; simp [rusB, hb, hx.out]
        have HL := l8Ok_any (f0 k) (f1 k) (f2 k) (f3 k) (f4 k) (f5 k) wr
        rw [hb] at HL
        have HLL : Hid _ := HL
        clear HL
        go_wp2_with fail
        refine Calls.mono HLL.out ?_
        rintro e w1 ⟨rfl, hb1⟩
        have HB1 : Hid (Below w.heap.size w w1) := HB.out.trans (hb1.mono HB.out.size)
        clear hb1
        go_wp2_with fail
        exact ⟨⟨k + 1, by omega, by go_num, HE.out, HB1.out⟩, by simp [intOf]; omega⟩
    · obtain rfl : k = n := by omega
      cases h1 : decide ((k : Int) ≤ 12)
      all_goals
        have HE : Hid _ := hEnd.out _ h1 hx.out
        clear hB
        go_wp2_with fail
        go_ret
        exact ⟨by rw [HE.out]; rfl, HB.out⟩
set_option maxRecDepth 100000 in
set_option maxHeartbeats 8000000 in
theorem implRulesOk_any (a : Option Addr) (n cap : Nat) (f0 f1 f2 f3 : Nat → Int) (f4 f5 : Nat → Bool) (w : World) (hn : n ≤ maxLen) (h : RuleS w a n f0 f1 f2 f3 f4 f5) :
    Calls Try.prog 32 #[.slice a n cap] w fun e w' => e = .returned (.bool (rulesB n f0 f1 f2 f3)) ∧ Below w.heap.size w w' := by
  unfold maxLen at hn
  have hBad : Hid (∀ k, k < n → ruB (f0 k) (f1 k) (f2 k) (f3 k) = false → rulesB n f0 f1 f2 f3 = false) := by
    intro k hk hb
    have : rusB f0 f1 f2 f3 n = false := rusB_false (k := k + 1) (by simp [rusB, hb]) (by omega)
    simp [rulesB, this]
  by_cases hbig : (12 : Int) < n
  · have HE : Hid (rulesB n f0 f1 f2 f3 = false) := by show _ = _; simp [rulesB]; intro h; omega
    clear h hBad
    go_enter Try.func32, Try.ntmps32
    go_wp2_with fail
    go_ret
    exact ⟨by rw [HE.out]; rfl, Below.refl _ _⟩
  have hEnd : Hid (rusB f0 f1 f2 f3 n = true → rulesB n f0 f1 f2 f3 = true) := by
    intro h2
    simp [rulesB, h2]; omega
  rcases h with h0 | ⟨b, off, rfl, hlt, hc⟩
  · subst h0
    have HE : Hid _ := hEnd.out rfl
    clear hEnd hBad
    go_enter Try.func32, Try.ntmps32
    go_wp2_with fail
    refine Go.wp_loop_rounds 1 ?_
    rw [Go.rounds_succ]
    go_wp2_with fail
    go_ret
    exact ⟨by rw [HE.out]; rfl, Below.refl _ _⟩
  have HC : Hid _ := hc
  clear hc
  go_enter Try.func32, Try.ntmps32
  go_wp2_with fail
  go_loopw [10] (fun i wr => ∃ k : Nat, k ≤ n ∧ i = .int .i64 k ∧ Hid (rusB f0 f1 f2 f3 k = true) ∧ Below w.heap.size w wr) (fun i _ => n - (intOf i).toNat)
  case atStart => exact ⟨0, by omega, rfl, rfl, Below.refl _ _⟩
  case round =>
    obtain ⟨k, hk, rfl, hx, hB⟩ := hrel
    have HB : Hid _ := hB
    by_cases hlt2 : k < n
    · have hhw : ∀ q, wr.cell? ⟨b, q, none⟩ = w.cell? ⟨b, q, none⟩ := fun q => hB.cell (p := ⟨b, q, none⟩) hlt
      have hck := HC.out k hlt2
      simp only [← hhw] at hck
      obtain ⟨c0, c1, c2, c3, c4, c5⟩ := hck
      have hik : (k : Int) < (n : Int) := by omega
      clear hB hhw
      have HBA : Hid (∀ o, Below w.heap.size w (wr.alloc o)) := fun o => HB.out.alloc HB.out.size o
      cases h0 : inB (f0 k) 0 255 <;> cases h1 : inB (f1 k) 0 2047 <;> cases h2 : inB (f2 k) 0 255 <;> cases h3 : inB (f3 k) 0 255
      all_goals
        first
        | (have HE : Hid _ := hBad.out k hlt2 (by simp [ruB, h0, h1, h2, h3])
           go_wp2_with (go_at_call 59; refine (upTo_anyU _ _ _).mono ?_; rintro e w' ⟨rfl, rfl⟩)
           go_ret
           exact ⟨by rw [HE.out]; rfl, HBA.out _⟩)
        | (have HE : Hid (rusB f0 f1 f2 f3 (k + 1) = true) := (show rusB f0 f1 f2 f3 (k + 1) = true by simp [rusB, ruB, h0, h1, h2, h3, hx.out])
           go_wp2_with (go_at_call 59; refine (upTo_anyU _ _ _).mono ?_; rintro e w' ⟨rfl, rfl⟩)
           exact ⟨⟨k + 1, by omega, by go_num, HE.out, HBA.out _⟩, by simp [intOf]; omega⟩)
    · obtain rfl : k = n := by omega
      have HE : Hid _ := hEnd.out hx.out
      clear hB
      go_wp2_with fail
      go_ret
      exact ⟨by rw [HE.out]; rfl, HB.out⟩
end Go.Proofs.Ytfienpoebndfpaa
