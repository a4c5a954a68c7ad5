/- PlanOk, both sides. -/
import Derived.Test.YthhibeepfecmdaaStPlan
import Derived.Test.YthhibeepfecmdaaUp
import Derived.Deep.QuietTactic
import Derived.BigQuiet
namespace Go.Proofs.Ythhibeepfecmdaa
open Go.ChangeShapes Go.WideShapes Go.ChangeAt Go.RowKit
set_option linter.unusedVariables false

/-- The time ahead of the k-th item. -/
def ear (f : Nat → Int) : Nat → Int
  | 0 => 0
  | k + 1 => f k
def itB (f : Nat → Int) (g : Nat → ByteArray) (k : Nat) : Bool := decide (ear f k ≤ f k) && (decide (f k ≤ 99999) && inB ((g k).size : Nat) 1 60)
def itsB (f : Nat → Int) (g : Nat → ByteArray) : Nat → Bool
  | 0 => true
  | k + 1 => itsB f g k && itB f g k
theorem itsB_false {f : Nat → Int} {g : Nat → ByteArray} {k n : Nat} (h : itsB f g k = false) (hn : k ≤ n) : itsB f g n = false := by
  induction n with
  | zero => obtain rfl : k = 0 := by omega
            exact h
  | succ n ih =>
    by_cases e : k = n + 1
    · subst e; exact h
    · simp [itsB, ih (by omega)]
theorem itsB_ear {f : Nat → Int} {g : Nat → ByteArray} {k : Nat} (h : itsB f g k = true) : 0 ≤ ear f k ∧ ear f k ≤ 99999 := by
  induction k with
  | zero => exact ⟨Int.le_refl _, by simp [ear]⟩
  | succ k ih =>
    simp only [itsB, itB, Bool.and_eq_true, decide_eq_true_eq] at h
    have := ih h.1
    exact ⟨Int.le_trans this.1 h.2.1, h.2.2.1⟩
def planB (n : Nat) (f : Nat → Int) (g : Nat → ByteArray) : Bool := decide ((n : Int) ≤ 6) && itsB f g n
set_option maxHeartbeats 1000000 in
theorem planTextOk_any (t : ByteArray) (w : World) (h : t.size ≤ maxLen) :
    Calls Try.prog 114 #[.string t] w fun e w' => e = .returned (.bool (inB (t.size : Nat) 1 60)) ∧ w' = w := by
  unfold maxLen at h
  by_cases h1 : (1 : Int) ≤ t.size
  · go_enter Try.func114, Try.ntmps114
    go_wp2
    go_ret
    exact ⟨by simp [inB, h1], rfl⟩
  · have hb : inB (t.size : Nat) 1 60 = false := inB_no (by omega)
    go_enter Try.func114, Try.ntmps114
    go_wp2
    go_ret
    exact ⟨by simp, rfl⟩
set_option maxRecDepth 100000 in
set_option maxHeartbeats 8000000 in
theorem specPlanOk_any (v0 : Bool) (a1 : Option Addr) (n1 p1 : Nat) (g1_0 : Nat → Int) (g1_1 : Nat → ByteArray) (w : World) (hn1 : n1 ≤ 1048576) (h1 : ItemS w a1 n1 g1_0 g1_1) :
    Calls Try.prog 44 #[.agg #[.bool v0, .slice a1 n1 p1]] w fun e w' => e = .returned (.bool (planB n1 g1_0 g1_1)) ∧ Below w.heap.size w w' := by
  have HB0 : Hid (∀ o, Below w.heap.size w (w.alloc o)) := fun o => (Below.refl _ _).alloc (Nat.le_refl _) o
  have hBad : Hid (∀ k, k < n1 → itB g1_0 g1_1 k = false → planB n1 g1_0 g1_1 = false) := by
    intro k hk hb
    have : itsB g1_0 g1_1 n1 = false := itsB_false (k := k + 1) (by simp [itsB, hb]) (by omega)
    simp [planB, this]
  have hEnd : Hid (∀ b, decide ((n1 : Int) ≤ 6) = b → itsB g1_0 g1_1 n1 = true → planB n1 g1_0 g1_1 = b) := by
    intro b h1 h2
    simp [planB, h1, h2]
  rcases h1 with h0 | ⟨b, off, rfl, hlt, hc⟩
  · subst h0
    have HE : Hid _ := hEnd.out _ rfl rfl
    clear hEnd hBad
    go_enter Try.func44, Try.ntmps44
    go_wp2_with fail
    refine Go.wp_loop_rounds 1 ?_
    rw [Go.rounds_succ]
    go_wp2_with fail
    go_ret
    exact ⟨by rw [HE.out]; rfl, HB0.out _⟩
  have HC : Hid (∀ o, ∀ i, i < n1 → (w.alloc o).cell? ⟨b, off + i * 2, none⟩ = some (.int .i64 (g1_0 i)) ∧ (w.alloc o).cell? ⟨b, off + i * 2 + 1, none⟩ = some (.string (g1_1 i)) ∧ (g1_1 i).size ≤ maxLen) := fun o i hi => by
    have hh : ∀ q, (w.alloc o).cell? ⟨b, q, none⟩ = w.cell? ⟨b, q, none⟩ := fun q => ((Below.refl _ _).alloc (Nat.le_refl _) o).cell (p := ⟨b, q, none⟩) hlt
    rw [hh, hh]; exact hc i hi
  clear hc
  go_enter Try.func44, Try.ntmps44
  go_wp2_with fail
  go_loopw [3] (fun i wr => ∃ k : Nat, k ≤ n1 ∧ i = .int .i64 k ∧ Hid (itsB g1_0 g1_1 k = true) ∧ Below (w.heap.size + 1) (w.alloc (.cells #[.bool v0, .slice (some ⟨b, off, none⟩) n1 p1] 67)) wr) (fun i _ => n1 - (intOf i).toNat)
  case atStart => exact ⟨0, by omega, rfl, rfl, Below.refl _ _⟩
  case round =>
    obtain ⟨k, hk, rfl, hx, hB⟩ := hrel
    have HB : Hid _ := hB
    have hhw : ∀ o i, o < w.heap.size + 1 → wr.cell? ⟨o, i, none⟩ = (w.alloc (.cells #[.bool v0, .slice (some ⟨b, off, none⟩) n1 p1] 67)).cell? ⟨o, i, none⟩ := fun o i hi => hB.cell (p := ⟨o, i, none⟩) hi
    have kk0 : wr.cell? ⟨w.heap.size, 1, none⟩ = some (.slice (some ⟨b, off, none⟩) n1 p1) := by rw [hhw _ _ (by omega)]; exact cell_get (get_new rfl) rfl
    have HCW : Hid (∀ i, i < n1 → wr.cell? ⟨b, off + i * 2, none⟩ = some (.int .i64 (g1_0 i)) ∧ wr.cell? ⟨b, off + i * 2 + 1, none⟩ = some (.string (g1_1 i)) ∧ (g1_1 i).size ≤ maxLen) := fun i hi => by
      rw [hhw _ _ (by omega), hhw _ _ (by omega)]; exact HC.out _ i hi
    have HBD : Hid (∀ j, Below w.heap.size w (wr.drewN j)) := fun j => belowN ((HB0.out _).trans (hB.mono (by omega))) j
    have HBX : Hid (∀ j, Below (w.heap.size + 1) (w.alloc (.cells #[.bool v0, .slice (some ⟨b, off, none⟩) n1 p1] 67)) (wr.drewN j)) := fun j => belowN hB j
    clear hB hhw
    by_cases hlt2 : k < n1
    · obtain ⟨c0, c1, c2⟩ := HCW.out k hlt2
      unfold maxLen at c2
      have hik : (k : Int) < (n1 : Int) := by omega
      obtain ⟨he0, he1⟩ := itsB_ear hx.out
      have HL : Hid (∀ a b c : Bool, decide (ear g1_0 k ≤ g1_0 k) = a → decide (g1_0 k ≤ 99999) = b → inB ((g1_1 k).size : Nat) 1 60 = c → itB g1_0 g1_1 k = (a && (b && c))) := by
        intro a b c h1 h2 h3; simp only [itB, h1, h2, h3]
      cases hA : inB (g1_0 k) 0 99999
      · have HE : Hid _ := hBad.out k hlt2 (by
          simp only [inB, Bool.and_eq_false_iff, decide_eq_false_iff_not] at hA
          simp only [itB, Bool.and_eq_false_iff, decide_eq_false_iff_not]
          omega)
        go_wp2_with fail
        go_quiet ((go_at_call 72; exact Calls.quiet_of_same (l1In_any _ _ _ _)))
        go_wp2_with fail
        go_ret
        exact ⟨by rw [HE.out]; rfl, HBD.out _⟩
      have hA2 : 0 ≤ g1_0 k ∧ g1_0 k ≤ 99999 := by simpa [inB] using hA
      cases hT : inB ((g1_1 k).size : Nat) 1 60
      · have HE : Hid _ := hBad.out k hlt2 (by simp [itB, hT])
        go_wp2_with fail
        go_quiet ((go_at_call 72; exact Calls.quiet_of_same (l1In_any _ _ _ _)))
        go_wp2_with fail
        go_ret
        exact ⟨by rw [HE.out]; rfl, HBD.out _⟩
      rcases Nat.eq_zero_or_pos k with hk0 | hk0
      · have HE : Hid (itsB g1_0 g1_1 (k + 1) = true) := by show _ = _; subst hk0; simp [itsB, itB, ear, hT, hA2]
        have hd : decide (0 < k) = false := by simp; omega
        have HK : Hid _ := hk0
        clear hBad hk0
        go_wp2_with fail
        go_quiet ((go_at_call 72; exact Calls.quiet_of_same (l1In_any _ _ _ _)))
        go_wp2_with fail
        exact ⟨⟨k + 1, by omega, by go_num, HE.out, HBX.out _⟩, by simp [intOf]; omega⟩
      · obtain ⟨j, rfl⟩ : ∃ j, k = j + 1 := ⟨k - 1, by omega⟩
        obtain ⟨d0, _, _⟩ := HCW.out j (by omega)
        have hj0 : (0 : Int) < ((j + 1 : Nat) : Int) := by omega
        have hjn : (j : Int) < (n1 : Int) := by omega
        by_cases hg : g1_0 (j + 1) < g1_0 j
        · have hng : ¬ g1_0 j ≤ g1_0 (j + 1) := by omega
          have HE : Hid _ := hBad.out (j + 1) hlt2 (by simp [itB, ear, hng])
          clear hng
          go_wp2_with fail
          go_quiet ((go_at_call 72; exact Calls.quiet_of_same (l1In_any _ _ _ _)))
          go_wp2_with fail
          go_ret
          exact ⟨by rw [HE.out]; rfl, HBD.out _⟩
        · have HE : Hid (itsB g1_0 g1_1 (j + 1 + 1) = true) := by
            show _ = _
            have h1 : g1_0 j ≤ g1_0 (j + 1) := by omega
            have h2 := hx.out
            rw [itsB, h2]
            simp [itB, ear, hT, hA2, h1]
          go_wp2_with fail
          go_quiet ((go_at_call 72; exact Calls.quiet_of_same (l1In_any _ _ _ _)))
          go_wp2_with fail
          exact ⟨⟨j + 1 + 1, by omega, by go_num, HE.out, HBX.out _⟩, by simp [intOf]; omega⟩
    · obtain rfl : k = n1 := by omega
      cases h1 : decide ((k : Int) ≤ 6)
      all_goals
        have HE : Hid _ := hEnd.out _ h1 hx.out
        go_wp2_with fail
        go_ret
        exact ⟨by rw [HE.out]; rfl, HBD.out 0⟩
set_option maxRecDepth 100000 in
set_option maxHeartbeats 8000000 in
theorem implPlanOk_any (v0 : Bool) (a1 : Option Addr) (n1 p1 : Nat) (g1_0 : Nat → Int) (g1_1 : Nat → ByteArray) (w : World) (hn1 : n1 ≤ 1048576) (h1 : ItemS w a1 n1 g1_0 g1_1) :
    Calls Try.prog 46 #[.agg #[.bool v0, .slice a1 n1 p1]] w fun e w' => e = .returned (.bool (planB n1 g1_0 g1_1)) ∧ Below w.heap.size w w' := by
  have HB0 : Hid (∀ o, Below w.heap.size w (w.alloc o)) := fun o => (Below.refl _ _).alloc (Nat.le_refl _) o
  have hBad : Hid (∀ k, k < n1 → itB g1_0 g1_1 k = false → planB n1 g1_0 g1_1 = false) := by
    intro k hk hb
    have : itsB g1_0 g1_1 n1 = false := itsB_false (k := k + 1) (by simp [itsB, hb]) (by omega)
    simp [planB, this]
  by_cases hbig : (6 : Int) < n1
  · have HE : Hid (planB n1 g1_0 g1_1 = false) := by show _ = _; simp [planB]; intro h; omega
    clear h1 hBad
    go_enter Try.func46, Try.ntmps46
    go_wp2_with fail
    go_ret
    exact ⟨by rw [HE.out]; rfl, HB0.out _⟩
  have hEnd : Hid (itsB g1_0 g1_1 n1 = true → planB n1 g1_0 g1_1 = true) := by
    intro h2
    simp [planB, h2]; omega
  rcases h1 with h0 | ⟨b, off, rfl, hlt, hc⟩
  · subst h0
    have HE : Hid _ := hEnd.out rfl
    clear hEnd hBad
    go_enter Try.func46, Try.ntmps46
    go_wp2_with fail
    refine Go.wp_loop_rounds 1 ?_
    rw [Go.rounds_succ]
    go_wp2_with fail
    go_ret
    exact ⟨by rw [HE.out]; rfl, HB0.out _⟩
  have HC : Hid _ := hc
  clear hc
  go_enter Try.func46, Try.ntmps46
  go_wp2_with fail
  go_loopw [3, 13] (fun t i wr => ∃ k : Nat, k ≤ n1 ∧ i = .int .i64 k ∧ t = .int .i64 (ear g1_0 k) ∧ Hid (itsB g1_0 g1_1 k = true) ∧ Below w.heap.size w wr) (fun _ i _ => n1 - (intOf i).toNat)
  case atStart => exact ⟨0, by omega, rfl, rfl, rfl, HB0.out _⟩
  case round =>
    obtain ⟨k, hk, rfl, rfl, hx, hB⟩ := hrel
    have HB : Hid _ := hB
    by_cases hlt2 : k < n1
    · have hhw : ∀ q, wr.cell? ⟨b, q, none⟩ = w.cell? ⟨b, q, none⟩ := fun q => hB.cell (p := ⟨b, q, none⟩) hlt
      have hck := HC.out k hlt2
      simp only [← hhw] at hck
      obtain ⟨c0, c1, c2⟩ := hck
      have HBA : Hid (∀ o, Below w.heap.size w (wr.alloc o)) := fun o => HB.out.alloc HB.out.size o
      have hik : (k : Int) < (n1 : Int) := by omega
      clear hB hhw
      by_cases hA : g1_0 k < ear g1_0 k
      · have HE : Hid _ := hBad.out k hlt2 (by simp only [itB, Bool.and_eq_false_iff, decide_eq_false_iff_not]; omega)
        go_wp2_with fail
        go_ret
        exact ⟨by rw [HE.out]; rfl, HBA.out _⟩
      by_cases hA2 : 99999 < g1_0 k
      · have HE : Hid _ := hBad.out k hlt2 (by simp only [itB, Bool.and_eq_false_iff, decide_eq_false_iff_not]; omega)
        go_wp2_with fail
        go_ret
        exact ⟨by rw [HE.out]; rfl, HBA.out _⟩
      cases hT : inB ((g1_1 k).size : Nat) 1 60
      · have HE : Hid _ := hBad.out k hlt2 (by simp [itB, hT])
        go_wp2_with (go_at_call 114; refine (planTextOk_any _ _ c2).mono ?_; rintro e w' ⟨rfl, rfl⟩)
        go_ret
        exact ⟨by rw [HE.out]; rfl, HBA.out _⟩
      · have HE : Hid (itsB g1_0 g1_1 (k + 1) = true) := by
          show _ = _
          have h1 : ear g1_0 k ≤ g1_0 k := by omega
          have h3 : g1_0 k ≤ 99999 := by omega
          have h2 := hx.out
          rw [itsB, h2]
          simp [itB, hT, h1, h3]
        go_wp2_with (go_at_call 114; refine (planTextOk_any _ _ c2).mono ?_; rintro e w' ⟨rfl, rfl⟩)
        exact ⟨⟨k + 1, by omega, by go_num, rfl, HE.out, HBA.out _⟩, by simp [intOf]; omega⟩
    · obtain rfl : k = n1 := by omega
      have HE : Hid _ := hEnd.out hx.out
      clear hB
      go_wp2_with fail
      go_ret
      exact ⟨by rw [HE.out]; rfl, HB.out⟩
end Go.Proofs.Ythhibeepfecmdaa
