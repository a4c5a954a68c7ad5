/- One byte of seven turned, but its highest bit, turns the parity. No program in sight. -/
import Derived.Test.YthhibeepfecmdaaBchM
import Derived.Test.YthhibeepfecmdaaCrcM
import Derived.Test.YthhibeepfecmdaaFold
namespace Go.Proofs.Ythhibeepfecmdaa
theorem ps_inj : ∀ s, s < 128 → ∀ t, t < 128 → ∀ b, b < 2 → ps s b = ps t b → s = t := by
  intro s hs t ht b hb e
  have h1 : s / 64 = 0 ∨ s / 64 = 1 := by omega
  have h2 : t / 64 = 0 ∨ t / 64 = 1 := by omega
  have hx : ∀ p q : Nat, p ^^^ 69 = q → p = q ^^^ 69 := fun p q h => by rw [← h, xor_cancel]
  have hodd : ∀ p q : Nat, p % 2 = 0 → q % 2 = 0 → p ^^^ 69 ≠ q := fun p q hp hq h => by
    have h3 : (p ^^^ 69) % 2 = p % 2 ^^^ 69 % 2 := Nat.xor_mod_two_pow (n := 1)
    rw [h, hp, hq] at h3
    exact absurd h3 (by decide)
  unfold ps at e
  by_cases a1 : s / 64 = b
  · rw [if_pos a1] at e
    by_cases a2 : t / 64 = b
    · rw [if_pos a2] at e; omega
    · rw [if_neg a2] at e
      exact absurd e.symm (hodd _ _ (by omega) (by omega))
  · rw [if_neg a1] at e
    by_cases a2 : t / 64 = b
    · rw [if_pos a2] at e
      exact absurd e (hodd _ _ (by omega) (by omega))
    · rw [if_neg a2] at e
      have e2 := hx _ _ e
      rw [xor_cancel] at e2
      omega
theorem psTo_inj {b : Nat} : ∀ k s t, s < 128 → t < 128 → psTo b s k = psTo b t k → s = t
  | 0, s, t, _, _, e => e
  | k + 1, s, t, hs, ht, e => psTo_inj k s t hs ht (ps_inj _ (psTo_lt hs k) _ (psTo_lt ht k) _ (by omega) e)
theorem ps_eq {s b : Nat} (hs : s < 128) (hb : b < 2) : ps s b = 2 * s % 128 ^^^ 69 * (s / 64 ^^^ b) := by
  unfold ps
  have h1 : s / 64 = 0 ∨ s / 64 = 1 := by omega
  have h2 : b = 0 ∨ b = 1 := by omega
  rcases h1 with h1 | h1 <;> rcases h2 with rfl | rfl <;> rw [h1] <;> simp
theorem mul_bit69 {p q : Nat} (hp : p < 2) (hq : q < 2) : 69 * (p ^^^ q) = (69 * p) ^^^ (69 * q) := by
  have hp' : p = 0 ∨ p = 1 := by omega
  have hq' : q = 0 ∨ q = 1 := by omega
  rcases hp' with rfl | rfl <;> rcases hq' with rfl | rfl <;> decide
theorem x2 {a b : Nat} (ha : a < 2) (hb : b < 2) : a ^^^ b < 2 := Nat.xor_lt_two_pow (n := 1) ha hb
theorem ps_xor {s t b c : Nat} (hs : s < 128) (ht : t < 128) (hb : b < 2) (hc : c < 2) : ps (s ^^^ t) (b ^^^ c) = ps s b ^^^ ps t c := by
  have hst : s ^^^ t < 128 := Nat.xor_lt_two_pow (n := 7) hs ht
  rw [ps_eq hs hb, ps_eq ht hc, ps_eq hst (x2 hb hc), xor_two]
  have e1 : (2 * s ^^^ 2 * t) % 128 = 2 * s % 128 ^^^ 2 * t % 128 := Nat.xor_mod_two_pow (n := 7)
  have e2 : (s ^^^ t) / 64 = s / 64 ^^^ t / 64 := Nat.xor_div_two_pow (n := 6)
  rw [e1, e2, xor_swap (s / 64) (t / 64) b c, mul_bit69 (x2 (by omega) hb) (x2 (by omega) hc), xor_swap]
theorem bit_xor (b c j : Nat) : (b ^^^ c) / 2 ^ j % 2 = b / 2 ^ j % 2 ^^^ c / 2 ^ j % 2 := by
  rw [Nat.xor_div_two_pow]
  exact Nat.xor_mod_two_pow (n := 1)
theorem psTo_xor {b c s t : Nat} (hs : s < 128) (ht : t < 128) : ∀ k, psTo (b ^^^ c) (s ^^^ t) k = psTo b s k ^^^ psTo c t k
  | 0 => rfl
  | k + 1 => by
    simp only [psTo]
    rw [psTo_xor hs ht k, bit_xor, ps_xor (psTo_lt hs k) (psTo_lt ht k) (by omega) (by omega)]
theorem ps_none : ∀ d, d < 128 → d ≠ 0 → psTo d 0 8 ≠ 0 := by decide +kernel
theorem psTo_turn {b d s : Nat} (hs : s < 128) (hd : d < 128) (h0 : d ≠ 0) : psTo (b ^^^ d) s 8 ≠ psTo b s 8 := by
  intro e
  have h := psTo_xor (b := b) (c := d) (s := s) (t := 0) hs (by decide) 8
  rw [Nat.xor_zero, e] at h
  have h2 := congrArg (psTo b s 8 ^^^ ·) h
  simp only [← Nat.xor_assoc, Nat.xor_self, Nat.zero_xor] at h2
  exact ps_none d hd h0 h2.symm
def bs (s : Nat) (b : UInt8) : Nat := psTo b.toNat s 8
theorem bs_lt (s : Nat) (b : UInt8) (h : s < 128) : bs s b < 128 := psTo_lt h 8
def bchL (l : List UInt8) : Nat := l.foldl bs 0
theorem bchTo_all (t : ByteArray) : bchTo t t.size = bchL t.data.toList := by
  have h := fold_take (f := bs) (F := bchTo t) (s := 0) t rfl (fun k h => by
    show psTo (byteAt t k) (bchTo t k) 8 = psTo _ (bchTo t k) 8
    have e : byteAt t k = (t.data.toList[k]).toNat := by
      unfold byteAt
      rw [List.getD, List.getElem?_eq_getElem h]
      rfl
    rw [e]) t.size (by simp)
  rw [h, List.take_of_length_le (by simp)]
  rfl
theorem bchL_turn (l r : List UInt8) (b c : UInt8) (d : Nat) (hd : d < 128) (h0 : d ≠ 0) (hc : c.toNat = b.toNat ^^^ d) : bchL (l ++ c :: r) ≠ bchL (l ++ b :: r) := by
  intro e
  unfold bchL at e
  rw [List.foldl_append, List.foldl_append, List.foldl_cons, List.foldl_cons] at e
  have hl := fold_lt bs_lt l 0 (by decide)
  have e1 := fold_inj bs_lt (fun s t b hs ht e => psTo_inj 8 s t hs ht e) r _ _ (bs_lt _ c hl) (bs_lt _ b hl) e
  unfold bs at e1
  rw [hc] at e1
  exact psTo_turn hl hd h0 e1
theorem bchV_eq (t : ByteArray) (h : t.size = 7) : bchV t = (bchL t.data.toList ^^^ 127) * 2 := by
  have := bchTo_all t
  rw [h] at this
  unfold bchV; rw [this]
theorem bchV_turn {t u : ByteArray} (ht : t.size = 7) (hu : u.size = 7) (h : bchL u.data.toList ≠ bchL t.data.toList) : bchV u ≠ bchV t := by
  intro e
  rw [bchV_eq t ht, bchV_eq u hu] at e
  have e2 : bchL u.data.toList ^^^ 127 = bchL t.data.toList ^^^ 127 := by omega
  have e3 := congrArg (· ^^^ 127) e2
  simp only [xor_cancel] at e3
  exact h e3
theorem bchV_lt (t : ByteArray) : bchV t ≤ 254 := by
  have := Nat.xor_lt_two_pow (n := 7) (bchTo_lt t 7) (show (127 : Nat) < 2 ^ 7 by decide)
  unfold bchV; omega
end Go.Proofs.Ythhibeepfecmdaa
