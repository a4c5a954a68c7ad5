/- A number in bytes is read back, and what is read is written. No program in sight. -/
import Derived.Test.YtkpefhgkbifhcaaNumG
namespace Go.Proofs.Ytkpefhgkbifhcaa
def val (l : List UInt8) : Nat := l.foldl (fun n b => n * 256 + b.toNat) 0
theorem val_from (l : List UInt8) : ∀ n, l.foldl (fun n b => n * 256 + b.toNat) n = n * 256 ^ l.length + val l := by
  induction l with
  | nil => intro n; simp [val]
  | cons b l ih =>
    intro n
    have h1 := ih (n * 256 + b.toNat)
    have h2 := ih (0 * 256 + b.toNat)
    unfold val
    simp only [List.foldl_cons, List.length_cons]
    rw [h1, h2, Nat.pow_succ, Nat.add_mul, Nat.add_mul, Nat.mul_assoc, Nat.mul_comm 256]
    omega
theorem val_cons (b : UInt8) (l : List UInt8) : val (b :: l) = b.toNat * 256 ^ l.length + val l := by
  have := val_from l b.toNat
  unfold val
  simp only [List.foldl_cons, Nat.zero_mul, Nat.zero_add]
  exact this
theorem val_snoc (l : List UInt8) (b : UInt8) : val (l ++ [b]) = val l * 256 + b.toNat := by
  unfold val; rw [List.foldl_append]; rfl
theorem val_lt (l : List UInt8) : val l < 256 ^ l.length := by
  induction l with
  | nil => simp [val]
  | cons b l ih =>
    rw [val_cons, List.length_cons, Nat.pow_succ]
    have hb := UInt8.toNat_lt b
    have : b.toNat * 256 ^ l.length ≤ 255 * 256 ^ l.length := Nat.mul_le_mul_right _ (by omega)
    omega
theorem val_pt (n : Nat) : ∀ k, val (pt n k) = n % 256 ^ k
  | 0 => by simp [pt, val, Nat.mod_one]
  | k + 1 => by
    simp only [pt]
    have e : (UInt8.ofNat (n / 256 ^ k)).toNat = n / 256 ^ k % 256 := UInt8.toNat_ofNat'
    rw [val_cons, val_pt n k, pt_length, e, Nat.pow_succ, Nat.mod_mul, Nat.mul_comm, Nat.add_comm]
theorem pt_mod (n : Nat) (m : Nat) : ∀ k, k ≤ m → pt (n % 256 ^ m) k = pt n k
  | 0, _ => rfl
  | k + 1, h => by
    simp only [pt]
    rw [pt_mod n m k (by omega)]
    congr 1
    apply UInt8.toNat_inj.1
    rw [UInt8.toNat_ofNat', UInt8.toNat_ofNat']
    obtain ⟨d, rfl⟩ : ∃ d, m = k + 1 + d := ⟨m - (k + 1), by omega⟩
    have e : (256 : Nat) ^ (k + 1 + d) = 256 ^ k * (256 * 256 ^ d) := by rw [Nat.pow_add, Nat.pow_succ, Nat.mul_assoc]
    rw [e, Nat.mod_mul_right_div_self, show (2 : Nat) ^ 8 = 256 from rfl, Nat.mod_mul_right_mod]
theorem pt_val (l : List UInt8) : pt (val l) l.length = l := by
  induction l with
  | nil => rfl
  | cons b l ih =>
    have hl := val_lt l
    have hp : 0 < 256 ^ l.length := Nat.pow_pos (by decide)
    simp only [List.length_cons, pt]
    have e1 : val (b :: l) / 256 ^ l.length = b.toNat := by
      rw [val_cons, Nat.mul_comm, Nat.mul_add_div hp, Nat.div_eq_of_lt hl]; rfl
    have e2 : pt (val (b :: l)) l.length = l := by
      have h := pt_mod (val (b :: l)) l.length l.length (Nat.le_refl _)
      rw [← h, val_cons, Nat.mul_comm, Nat.mul_add_mod, Nat.mod_eq_of_lt hl]
      exact ih
    rw [e1, e2]
    congr 1
    exact UInt8.toNat_inj.1 (by rw [UInt8.toNat_ofNat', Nat.mod_eq_of_lt (UInt8.toNat_lt b)])
theorem gt_val (s : ByteArray) (a : Nat) : ∀ k, a + k ≤ s.data.toList.length → gt s a k = val ((s.data.toList.drop a).take k)
  | 0, _ => by simp [gt, val]
  | k + 1, h => by
    have h' : k < (s.data.toList.drop a).length := by rw [List.length_drop]; omega
    rw [List.take_succ_eq_append_getElem h', val_snoc, ← gt_val s a k (by omega)]
    simp only [gt]
    congr 1
    unfold byteAt
    rw [List.getElem_drop, List.getD, List.getElem?_eq_getElem (by omega)]
    rfl
/-- What was put behind two bytes is read back. -/
theorem back (x y : UInt8) (n k : Nat) (h : n < 256 ^ k) : gt (⟨#[x, y]⟩ ++ ⟨(pt n k).toArray⟩) 2 k = n := by
  have e : (⟨#[x, y]⟩ ++ ⟨(pt n k).toArray⟩ : ByteArray).data.toList = x :: y :: pt n k := by
    rw [ByteArray.data_append, Array.toList_append]; rfl
  rw [gt_val _ _ _ (by rw [e]; simp [pt_length]; omega), e]
  show val ((pt n k).take k) = n
  rw [List.take_of_length_le (Nat.le_of_eq (pt_length n k)), val_pt, Nat.mod_eq_of_lt h]
/-- What was read is written. -/
theorem forth (s : ByteArray) (a k : Nat) (h : a + k ≤ s.size) : (⟨(pt (gt s a k) k).toArray⟩ : ByteArray) = s.extract a (a + k) := by
  have hl : s.data.toList.length = s.size := by simp
  apply ByteArray.ext
  rw [gt_val s a k (by omega)]
  have hlen : ((s.data.toList.drop a).take k).length = k := by rw [List.length_take, List.length_drop]; omega
  have := pt_val ((s.data.toList.drop a).take k)
  rw [hlen] at this
  rw [this, ByteArray.data_extract]
  apply Array.toList_inj.1
  rw [Array.toList_extract]
  simp [List.extract, Nat.add_sub_cancel_left]
end Go.Proofs.Ytkpefhgkbifhcaa
