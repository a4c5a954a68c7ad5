/- The sum of a text as a walk over its bytes; a text with its sum behind it has the sum 0; one byte turned turns the sum. No program in sight. -/
import Derived.Test.YtccpdadabndleaaDoorCrcM
import Derived.Test.YtccpdadabndleaaDoorNumG
import Derived.Test.YtccpdadabndleaaDoorFold
import Derived.Test.YtccpdadabndleaaDoorCrcI
namespace Go.Proofs.YtccpdadabndleaaDoor
def cbs (s : Nat) (b : UInt8) : Nat := cb s b.toNat
def crcL (l : List UInt8) : Nat := l.foldl cbs 65535
theorem cbs_lt (s : Nat) (b : UInt8) (h : s < 65536) : cbs s b < 65536 := cb_lt h (UInt8.toNat_lt b)
theorem crcL_lt (l : List UInt8) : crcL l < 65536 := fold_lt cbs_lt l 65535 (by decide)
theorem crcTo_all (s : ByteArray) : crcTo s s.size = crcL s.data.toList := by
  have h := fold_take (f := cbs) (F := crcTo s) (s := 65535) s rfl (fun k h => by
    show cb (crcTo s k) (byteAt s k) = cb (crcTo s k) _
    have e : byteAt s k = (s.data.toList[k]).toNat := by
      unfold byteAt
      rw [List.getD, List.getElem?_eq_getElem h]
      rfl
    rw [e]) s.size (by simp)
  rw [h, List.take_of_length_le (by simp)]
  rfl
theorem cb_hi (c : Nat) : cb c (c / 256) = c % 256 * 256 := by
  have e : c ^^^ c / 256 * 256 = c % 256 := by
    apply eq_dm (m := 256)
    · have e1 : (c ^^^ c / 256 * 256) / 256 = c / 256 ^^^ c / 256 * 256 / 256 := Nat.xor_div_two_pow (n := 8)
      rw [e1, Nat.mul_div_cancel _ (by decide), Nat.xor_self]; omega
    · have e1 : (c ^^^ c / 256 * 256) % 256 = c % 256 ^^^ c / 256 * 256 % 256 := Nat.xor_mod_two_pow (n := 8)
      rw [e1, Nat.mul_mod_left, Nat.xor_zero]; omega
  unfold cb
  rw [e, tws_small (l := c % 256) 8 (by omega)]
theorem cb_lo (x : Nat) : cb (x * 256) x = 0 := by
  unfold cb
  rw [Nat.xor_self, tws_small (l := 0) 8 (by decide)]
theorem crcL_end (l : List UInt8) (h l' : UInt8) (hh : h.toNat = crcL l / 256) (hl : l'.toNat = crcL l % 256) : crcL (l ++ [h, l']) = 0 := by
  have e : crcL (l ++ [h, l']) = cbs (cbs (crcL l) h) l' := fold_two 65535 l h l'
  rw [e]
  unfold cbs
  rw [hh, hl, cb_hi, cb_lo]
theorem cb_inj {s t b : Nat} (hs : s < 65536) (ht : t < 65536) (hb : b < 256) (h : cb s b = cb t b) : s = t := by
  unfold cb at h
  have e2 := tws_inj (x16 hs (by omega)) (x16 ht (by omega)) 8 h
  have e3 := congrArg (· ^^^ b * 256) e2
  simp only [xor_cancel] at e3
  exact e3
theorem cb_byte_inj {s b c : Nat} (hs : s < 65536) (hb : b < 256) (hc : c < 256) (h : cb s b = cb s c) : b = c := by
  unfold cb at h
  have e := tws_inj (x16 hs (by omega)) (x16 hs (by omega)) 8 h
  have e2 := congrArg (s ^^^ ·) e
  simp only [← Nat.xor_assoc, Nat.xor_self, Nat.zero_xor] at e2
  omega
theorem crcL_turn (l r : List UInt8) (b c : UInt8) (h : b ≠ c) : crcL (l ++ b :: r) ≠ crcL (l ++ c :: r) :=
  fold_turn (f := cbs) (M := 65536) (s := 65535) (by decide) cbs_lt (fun s t b hs ht e => cb_inj hs ht (UInt8.toNat_lt b) e)
    (fun s b c hs e => UInt8.toNat_inj.1 (cb_byte_inj hs (UInt8.toNat_lt b) (UInt8.toNat_lt c) e)) l r b c h
/-- The two bytes of a sum. -/
theorem crc_bytes (s : ByteArray) (n : Nat) (hn : n = crcL s.data.toList) : crcL (s ++ ⟨(pt n 2).toArray⟩ : ByteArray).data.toList = 0 := by
  have hl := crcL_lt s.data.toList
  rw [ByteArray.data_append, Array.toList_append]
  show crcL (s.data.toList ++ pt n 2) = 0
  have e : pt n 2 = [UInt8.ofNat (n / 256), UInt8.ofNat n] := by simp [pt]
  rw [e]
  apply crcL_end
  · rw [UInt8.toNat_ofNat', hn]; omega
  · rw [UInt8.toNat_ofNat', hn]
end Go.Proofs.YtccpdadabndleaaDoor
