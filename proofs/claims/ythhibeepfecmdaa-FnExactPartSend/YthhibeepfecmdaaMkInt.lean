/- A slice of int that is the call's own: rows, marks. -/
import Derived.Test.YthhibeepfecmdaaOwn
import Derived.Test.YthhibeepfecmdaaInS
namespace Go.Proofs.Ythhibeepfecmdaa
open Go.ChangeShapes Go.WideShapes Go.ChangeAt Go.RowKit
set_option linter.unusedVariables false

def allInt (f : Nat → Int) : Nat → Value := fun q => .int .i64 (f q)
def mkInt (k0 : Int) : Nat → Value := fun q => .int .i64 (k0 + (q : Int))
def upInt (f : Nat → Int) (k0 : Int) (k : Nat) : Nat → Value := fun q => if q < k then mkInt k0 q else allInt f q
def mkInt_0 (k0 : Int) : Nat → Int := fun i => k0 + ((i : Nat) : Int)
theorem IntS.off {S : List Nat} {w w' : World} {a : Option Addr} {b n : Nat} {f : Nat → Int} (h : IntS w a n f) (hin : In b a n) (k : Off S w w') (hS : n ≠ 0 → b ∉ S) : IntS w' a n f := by
  refine h.imp id ?_
  rintro ⟨b', off, rfl, hlt, hc⟩
  by_cases hn : n = 0
  · exact ⟨b', off, rfl, Nat.lt_of_lt_of_le hlt k.size, fun i hi => by omega⟩
  rcases hin with h0 | ⟨off', e⟩
  · exact absurd h0 hn
  cases e
  have hh : ∀ q, w'.cell? ⟨b, q, none⟩ = w.cell? ⟨b, q, none⟩ := fun q => World.cell?_of_block (k.block b hlt (hS hn))
  refine ⟨b, off, rfl, Nat.lt_of_lt_of_le hlt k.size, fun i hi => ?_⟩
  simp only [hh]
  exact hc i hi
theorem IntS.inn {w : World} {a : Option Addr} {n : Nat} {f : Nat → Int} (h : IntS w a n f) : ∃ y, In y a n ∧ (n ≠ 0 → y < w.heap.size) := by
  rcases h with h0 | ⟨b, off, rfl, hlt, _⟩
  · exact ⟨0, .inl h0, fun hn => absurd h0 hn⟩
  · exact ⟨b, .inr ⟨off, rfl⟩, fun _ => hlt⟩
theorem rowInt_of {w : World} {b off n : Nat} {f : Nat → Int} (h : ∀ i, i < n → w.cell? ⟨b, off + i, none⟩ = some (.int .i64 (f i))) : FRow w b off (n) (allInt f) := by
  intro q hq
  exact h q hq
theorem of_rowInt {w : World} {b off n : Nat} {f : Nat → Int} (h : FRow w b off (n) (allInt f)) : ∀ i, i < n → w.cell? ⟨b, off + i, none⟩ = some (.int .i64 (f i)) := by
  intro i hi
  exact h i hi
theorem upInt_step (f : Nat → Int) (k0 : Int) (k q : Nat) (V0 : Value) (e0 : V0 = .int .i64 (k0 + ((k : Nat) : Int))) : (if q = k then V0 else upInt f k0 k q) = upInt f k0 (k + 1) q := by
  subst e0
  unfold upInt
  by_cases e : q = k
  · subst e; simp [mkInt]
  · have : (q < k + 1) = (q < k) := by simp; omega
    simp [e, this]
theorem upInt_end (f : Nat → Int) (k0 : Int) (n q : Nat) (hq : q < n) : upInt f k0 n q = allInt (mkInt_0 k0) q := by
  simp [upInt, hq, mkInt, allInt, mkInt_0]
set_option maxRecDepth 100000 in
set_option maxHeartbeats 4000000 in
theorem markIntS_any (a : Option Addr) (b n cap : Nat) (f : Nat → Int) (k0 : Int) (w : World) (hn : n ≤ 4194304) (hk0 : 0 ≤ k0) (hk1 : k0 ≤ 1099511627776) (h : IntS w a n f) (hin : In b a n) (hfr0 : n ≠ 0 → Free w b) :
    Calls Try.prog 128 #[.slice a n cap, .int .i64 k0] w fun e w' => e = .returned (.int .i64 (k0 + n)) ∧ IntS w' a n (mkInt_0 k0) ∧ Off (own b n) w w' := by
  rcases h with h0 | ⟨b', off, rfl, hlt', hc⟩
  · subst h0
    clear hfr0 hin
    go_enter Try.func128, Try.ntmps128
    go_wp2_with fail
    refine Go.wp_loop_rounds 1 ?_
    rw [Go.rounds_succ]
    go_wp2_with fail
    go_ret
    exact ⟨by simp, .inl rfl, Off.refl _ _⟩
  by_cases hn0 : n = 0
  · subst hn0
    clear hin hc
    go_enter Try.func128, Try.ntmps128
    go_wp2_with fail
    refine Go.wp_loop_rounds 1 ?_
    rw [Go.rounds_succ]
    go_wp2_with fail
    go_ret
    exact ⟨by simp, .inl rfl, Off.refl _ _⟩
  rcases hin with h0 | ⟨off', e⟩
  · exact absurd h0 hn0
  cases e
  have hlt := hlt'
  have hfr := hfr0 hn0
  have hrow := rowInt_of hc
  have HR : Hid (FRow w b off (n) (upInt f k0 0)) := hrow.congr fun q hq => by simp [upInt]
  have HFr : Hid _ := hfr
  clear hc hrow hfr
  go_enter Try.func128, Try.ntmps128
  go_wp2_with fail
  go_loopw [1, 5] (fun v i wr => ∃ k : Nat, k ≤ n ∧ i = .int .i64 k ∧ v = .int .i64 (k0 + (k : Int)) ∧ FRow wr b off (n) (upInt f k0 k) ∧ Free wr b ∧ Off [b] w wr) (fun _ i _ => n - (intOf i).toNat)
  case atStart => exact ⟨0, by omega, rfl, by simp, HR.out, HFr.out, Off.refl _ _⟩
  case round =>
    obtain ⟨k, hk, rfl, rfl, hF, hFr, hO⟩ := hrel
    have HF : Hid _ := hF
    have HFw : Hid _ := hFr
    have HO : Hid _ := hO
    clear hF hFr hO
    by_cases hlt2 : k < n
    · have hik : (k : Int) < (n : Int) := by omega
      obtain ⟨u0, o0⟩ : ∃ u, wr.cell? ⟨b, off + k, none⟩ = some (.int .i64 u) := by
        have := HF.out (k) (by omega)
        simp only [upInt, Nat.lt_irrefl, if_false, allInt] at this
        exact ⟨_, this⟩
      have hfz : ∀ q, wr.frozen? ⟨b, q, none⟩ = false := fun q => HFw.out q
      go_wp2_with fail
      refine ⟨⟨k + 1, by omega, by go_num, by go_num, ?_, Free.set (HFw.out), (HO.out).set (by simp)⟩, by simp [intOf]; omega⟩
      refine FRow.congr (FRow.set (HF.out) (q0 := k) (by omega) _) fun q hq => ?_
      exact upInt_step f k0 k q _ (by first | rfl | go_num | (congr 1; simp; omega) | (congr 2; omega))
    · obtain rfl : k = n := by omega
      go_wp2_with fail
      go_ret
      have hrow := of_rowInt (FRow.congr HF.out fun q hq => upInt_end f k0 k q hq)
      exact ⟨rfl, .inr ⟨b, off, rfl, Nat.lt_of_lt_of_le hlt HO.out.size, hrow⟩, Off.one HO.out hn0⟩
set_option maxRecDepth 100000 in
set_option maxHeartbeats 4000000 in
theorem heldIntS_any (a : Option Addr) (n cap : Nat) (k0 : Int) (w : World) (hn : n ≤ 4194304) (hk0 : 0 ≤ k0) (hk1 : k0 ≤ 1099511627776) (h : IntS w a n (mkInt_0 k0)) :
    Calls Try.prog 130 #[.slice a n cap, .int .i64 k0] w fun e w' => e = .returned (.int .i64 (k0 + n)) ∧ w' = w := by
  rcases h with h0 | ⟨b, off, rfl, hlt, hc⟩
  · subst h0
    go_enter Try.func130, Try.ntmps130
    go_wp2_with fail
    refine Go.wp_loop_rounds 1 ?_
    rw [Go.rounds_succ]
    go_wp2_with fail
    go_ret
    exact ⟨by simp, rfl⟩
  have HC : Hid (∀ k : Nat, k < n → w.cell? ⟨b, off + k, none⟩ = some (.int .i64 (k0 + (k : Int)))) := by
    intro k hk
    have := hc k hk
    simp only [mkInt_0] at this
    exact this
  clear hc
  go_enter Try.func130, Try.ntmps130
  go_wp2_with fail
  go_loop [1, 5] (fun v i => ∃ k : Nat, k ≤ n ∧ i = .int .i64 k ∧ v = .int .i64 (k0 + (k : Int))) (fun _ i => n - (intOf i).toNat)
  case atStart => exact ⟨0, by omega, rfl, by simp⟩
  case round =>
    obtain ⟨k, hk, rfl, rfl⟩ := hrel
    by_cases hlt2 : k < n
    · have c0 := HC.out k hlt2
      have hik : (k : Int) < (n : Int) := by omega
      go_wp2_with fail
      exact ⟨⟨k + 1, by omega, by go_num, by go_num⟩, by simp [intOf]; omega⟩
    · obtain rfl : k = n := by omega
      go_wp2_with fail
      go_ret
      exact ⟨rfl, rfl⟩
end Go.Proofs.Ythhibeepfecmdaa
