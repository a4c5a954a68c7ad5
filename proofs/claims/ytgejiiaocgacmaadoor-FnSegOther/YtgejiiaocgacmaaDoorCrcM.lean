/- Plain arithmetic of the sixteen-bit sum: no program in sight. -/
import Derived.WalkKit
import Derived.Test.YtgejiiaocgacmaaDoorBits
namespace Go.Proofs.YtgejiiaocgacmaaDoor

def tw (s : Nat) : Nat := if 32768 ≤ s then (2 * s - 65536) ^^^ 4129 else 2 * s
theorem tw_lt {s : Nat} (h : s < 65536) : tw s < 65536 := by
  unfold tw
  split
  · exact Nat.xor_lt_two_pow (n := 16) (by omega) (by omega)
  · omega
def tws (s : Nat) : Nat → Nat
  | 0 => s
  | k + 1 => tw (tws s k)
theorem tws_lt {s : Nat} (h : s < 65536) : ∀ k, tws s k < 65536
  | 0 => h
  | k + 1 => tw_lt (tws_lt h k)
theorem tws_add (s k : Nat) : ∀ m, tws s (k + m) = tws (tws s k) m
  | 0 => rfl
  | m + 1 => by show tw (tws s (k + m)) = tw (tws (tws s k) m); rw [tws_add s k m]
def cb (s b : Nat) : Nat := tws (s ^^^ (b * 256)) 8
theorem x16 {a b : Nat} (ha : a < 65536) (hb : b < 65536) : a ^^^ b < 65536 := Nat.xor_lt_two_pow (n := 16) ha hb
theorem cb_lt {s b : Nat} (hs : s < 65536) (hb : b < 256) : cb s b < 65536 := tws_lt (x16 hs (by omega)) 8

theorem xor_two (a b : Nat) : 2 * (a ^^^ b) = 2 * a ^^^ 2 * b := by
  have h := Nat.shiftLeft_xor_distrib (i := 1) (a := a) (b := b)
  simp only [Nat.shiftLeft_eq] at h
  rw [Nat.mul_comm 2 a, Nat.mul_comm 2 b, Nat.mul_comm 2 (a ^^^ b)]
  exact h
theorem eq_dm {x y m : Nat} (h1 : x / m = y / m) (h2 : x % m = y % m) : x = y := by
  rw [← Nat.div_add_mod x m, ← Nat.div_add_mod y m, h1, h2]
theorem xor_cancel (a b : Nat) : a ^^^ b ^^^ b = a := by rw [Nat.xor_assoc, Nat.xor_self, Nat.xor_zero]
theorem xor_swap (a b c d : Nat) : (a ^^^ b) ^^^ (c ^^^ d) = (a ^^^ c) ^^^ (b ^^^ d) := by
  rw [Nat.xor_assoc, ← Nat.xor_assoc b c d, Nat.xor_comm b c, Nat.xor_assoc c b d, ← Nat.xor_assoc]
theorem xor_eq_zero' {a b : Nat} (h : a ^^^ b = 0) : a = b := by
  have := xor_cancel a b
  rw [h, Nat.zero_xor] at this
  exact this.symm

theorem tw_eq {s : Nat} (h : s < 65536) : tw s = (2 * s) % 65536 ^^^ (4129 * (s / 32768)) := by
  unfold tw
  split
  · have e1 : 2 * s % 65536 = 2 * s - 65536 := by omega
    have e2 : s / 32768 = 1 := by omega
    rw [e1, e2]
  · have e1 : 2 * s % 65536 = 2 * s := by omega
    have e2 : s / 32768 = 0 := by omega
    rw [e1, e2]; simp
theorem mul_bit {p q : Nat} (hp : p < 2) (hq : q < 2) : 4129 * (p ^^^ q) = (4129 * p) ^^^ (4129 * q) := by
  have hp' : p = 0 ∨ p = 1 := by omega
  have hq' : q = 0 ∨ q = 1 := by omega
  rcases hp' with rfl | rfl <;> rcases hq' with rfl | rfl <;> decide
theorem tw_xor {a b : Nat} (ha : a < 65536) (hb : b < 65536) : tw (a ^^^ b) = tw a ^^^ tw b := by
  rw [tw_eq ha, tw_eq hb, tw_eq (x16 ha hb), xor_two]
  have h1 : (2 * a ^^^ 2 * b) % 65536 = 2 * a % 65536 ^^^ 2 * b % 65536 := Nat.xor_mod_two_pow (n := 16)
  have h2 : (a ^^^ b) / 32768 = a / 32768 ^^^ b / 32768 := Nat.xor_div_two_pow (n := 15)
  rw [h1, h2, mul_bit (by omega) (by omega), xor_swap]
theorem tws_xor {a b : Nat} (ha : a < 65536) (hb : b < 65536) : ∀ k, tws (a ^^^ b) k = tws a k ^^^ tws b k
  | 0 => rfl
  | k + 1 => by simp only [tws]; rw [tws_xor ha hb k, tw_xor (tws_lt ha k) (tws_lt hb k)]
theorem tw_zero {d : Nat} (h : tw d = 0) : d = 0 := by
  unfold tw at h
  split at h
  · have := xor_eq_zero' h; omega
  · omega
theorem tw_inj {a b : Nat} (ha : a < 65536) (hb : b < 65536) (h : tw a = tw b) : a = b := by
  apply xor_eq_zero'
  apply tw_zero
  rw [tw_xor ha hb, h, Nat.xor_self]
theorem tws_inj {a b : Nat} (ha : a < 65536) (hb : b < 65536) : ∀ k, tws a k = tws b k → a = b
  | 0, h => h
  | k + 1, h => tws_inj ha hb k (tw_inj (tws_lt ha k) (tws_lt hb k) h)
theorem tws_small {l : Nat} (k : Nat) (h : l * 2 ^ k < 65536) : tws l k = l * 2 ^ k := by
  induction k with
  | zero => simp [tws]
  | succ k ih =>
    have e : l * 2 ^ (k + 1) = 2 * (l * 2 ^ k) := by rw [Nat.pow_succ, ← Nat.mul_assoc, Nat.mul_comm]
    have : tws l k = l * 2 ^ k := ih (by omega)
    simp only [tws]
    rw [this, e]
    unfold tw
    rw [if_neg (by omega)]
theorem split12 (h l : Nat) (hl : l < 4096) : h * 4096 ^^^ l = h * 4096 + l := by
  apply eq_dm (m := 4096)
  · have e : (h * 4096 ^^^ l) / 4096 = h * 4096 / 4096 ^^^ l / 4096 := Nat.xor_div_two_pow (n := 12)
    rw [e, Nat.mul_div_cancel _ (by decide), Nat.div_eq_of_lt hl, Nat.xor_zero]; omega
  · have e : (h * 4096 ^^^ l) % 4096 = h * 4096 % 4096 ^^^ l % 4096 := Nat.xor_mod_two_pow (n := 12)
    rw [e, Nat.mul_mod_left, Nat.zero_xor]; omega
theorem mul4096_xor (a b : Nat) : (a ^^^ b) * 4096 = a * 4096 ^^^ b * 4096 := by
  have h := Nat.shiftLeft_xor_distrib (i := 12) (a := a) (b := b)
  simp only [Nat.shiftLeft_eq] at h
  exact h
/-- Four bits further, off the table: the four that fall out choose the row. -/
def nb (s n : Nat) : Nat := (s * 16 % 65536) ^^^ tws ((s / 4096 ^^^ n) * 4096) 4
theorem nb_eq {s n : Nat} (hs : s < 65536) (hn : n < 16) : nb s n = tws (s ^^^ n * 4096) 4 := by
  have hx : s / 4096 ^^^ n < 16 := Nat.xor_lt_two_pow (n := 4) (by omega) (by omega)
  have e1 : s ^^^ n * 4096 = (s / 4096 ^^^ n) * 4096 ^^^ s % 4096 := by
    conv => lhs; rw [show s = s / 4096 * 4096 + s % 4096 from by omega, ← split12 _ _ (by omega)]
    rw [mul4096_xor, Nat.xor_assoc, Nat.xor_assoc, Nat.xor_comm (n * 4096)]
  rw [e1, tws_xor (by omega) (by omega), tws_small (l := s % 4096) 4 (by omega)]
  unfold nb
  rw [Nat.xor_comm]
  congr 1
  omega
theorem nb_lt {s n : Nat} (hs : s < 65536) (hn : n < 16) : nb s n < 65536 := by
  rw [nb_eq hs hn]; exact tws_lt (x16 hs (by omega)) 4
theorem cb_nb {s b : Nat} (hs : s < 65536) (hb : b < 256) : cb s b = nb (nb s (b / 16)) (b % 16) := by
  rw [nb_eq (nb_lt hs (by omega)) (by omega), nb_eq hs (by omega)]
  unfold cb
  have e : b * 256 = (b / 16) * 4096 ^^^ (b % 16) * 256 := by rw [split12 _ _ (by omega)]; omega
  rw [e, ← Nat.xor_assoc, show (8 : Nat) = 4 + 4 from rfl, tws_add, tws_xor (x16 hs (by omega)) (by omega), tws_small (l := b % 16 * 256) 4 (by omega)]
  congr 2
  omega
end Go.Proofs.YtgejiiaocgacmaaDoor
