/- Code blocks of which one byte is turned: plain bytes. -/
import Derived.Test.YthhibeepfecmdaaCltQ
import Derived.Test.YthhibeepfecmdaaTurn
import Derived.Test.YthhibeepfecmdaaBchL
namespace Go.Proofs.Ythhibeepfecmdaa
open Go.RowKit
set_option linter.unusedVariables false
theorem setB_L (x : ByteArray) (k v : Nat) : bL (setB x k v) = (bL x).set k (UInt8.ofNat v) := by simp [setB, bL]
theorem byteAt_L (x : ByteArray) (i : Nat) : byteAt x i = ((bL x).getD i 0).toNat := rfl
theorem byteAt_set_ne (x : ByteArray) {k v i : Nat} (h : i ≠ k) : byteAt (setB x k v) i = byteAt x i := by
  rw [byteAt_L, byteAt_L, setB_L, List.getD, List.getD, List.getElem?_set_ne (by omega)]
theorem byteAt_set (x : ByteArray) {k v : Nat} (h : k < x.size) (hv : v < 256) : byteAt (setB x k v) k = v := by
  rw [byteAt_L, setB_L, List.getD, List.getElem?_set_self (by rw [bL_len]; exact h)]
  simp [UInt8.toNat_ofNat']; omega
theorem ext_set_ne (x : ByteArray) {k v a b : Nat} (h : k < a ∨ b ≤ k) : (setB x k v).extract a b = x.extract a b := by
  apply bL_inj
  rw [bL_ext, bL_ext, setB_L, List.drop_set]
  split
  · rfl
  · rcases h with h | h
    · omega
    · rw [List.take_set, List.set_eq_of_length_le (by rw [List.length_take]; omega)]
theorem ext_set_in (x : ByteArray) {k v a b : Nat} (h : a ≤ k) (h2 : k < b) : (setB x k v).extract a b = setB (x.extract a b) (k - a) v := by
  apply bL_inj
  rw [setB_L, bL_ext, bL_ext, setB_L, List.drop_set, if_neg (by omega), List.take_set]
theorem setB_rest (s : ByteArray) (K k v : Nat) (h : 2 ≤ k) : (setB (cltB s K) k v).extract 2 (setB (cltB s K) k v).size = setB (restB s K) (k - 2) v := by
  rw [setB_size, ← clt_rest s K]
  apply bL_inj
  rw [setB_L, bL_ext, bL_ext, setB_L, List.drop_set, if_neg (by omega), List.take_set]
theorem pre_set (s : ByteArray) (K k v : Nat) (h : 2 ≤ k) : preQ (setB (cltB s K) k v) = true := by
  have := pre_clt s K
  unfold preQ at this ⊢
  rw [setB_size, ext_set_ne _ (.inr h)]
  exact this
theorem start_list (s : ByteArray) (K : Nat) : ∃ T, bL (cltB s K) = 235 :: 144 :: T := by
  refine ⟨bL (restB s K), ?_⟩
  have e : cltB s K = ⟨#[235, 144]⟩ ++ restB s K := by unfold cltB restB tailB; rw [ByteArray.append_assoc]
  rw [e, bL_app]; rfl
theorem xor_ne {a d : Nat} (h : d ≠ 0) : a ^^^ d ≠ a := by
  intro e
  have : a ^^^ (a ^^^ d) = a ^^^ a := by rw [e]
  rw [← Nat.xor_assoc, Nat.xor_self, Nat.zero_xor] at this
  exact h this
theorem pre_turned (s : ByteArray) (K k d : Nat) (h : k < 2) (h0 : d ≠ 0) (hd : d < 128) : preQ (setB (cltB s K) k (byteAt (cltB s K) k ^^^ d)) = false := by
  obtain ⟨T, hT⟩ := start_list s K
  have hb : byteAt (cltB s K) k < 256 := byteAt_lt _ _
  have hv : byteAt (cltB s K) k ^^^ d < 256 := Nat.xor_lt_two_pow (n := 8) hb (by omega)
  have hk : k < (cltB s K).size := by rw [cltB_size]; omega
  have hne : byteAt (setB (cltB s K) k (byteAt (cltB s K) k ^^^ d)) k ≠ byteAt (cltB s K) k := by
    rw [byteAt_set _ hk hv]; exact xor_ne h0
  generalize setB (cltB s K) k (byteAt (cltB s K) k ^^^ d) = y at *
  unfold preQ
  rw [Bool.and_eq_false_iff]
  right
  rw [beq_eq_false_iff_ne, ByteArray.toList_eq]
  intro e
  have e2 : (bL y).take 2 = [235, 144] := by
    have := e
    change bL (ByteArray.extract _ 0 2) = _ at this
    rw [bL_ext, List.drop_zero] at this
    exact this
  apply hne
  rw [byteAt_L, byteAt_L, List.getD, List.getD]
  have h1 : (bL y)[k]? = ([235, 144] : List UInt8)[k]? := by
    rw [← e2, List.getElem?_take_of_lt h]
  rw [h1, hT]
  have : k = 0 ∨ k = 1 := by omega
  rcases this with rfl | rfl <;> rfl
theorem good_set_ne {r : ByteArray} {m v i : Nat} (h : 8 * i + 8 ≤ m) : goodB (setB r m v) i = goodB r i := by
  unfold goodB
  rw [setB_size, ext_set_ne r (.inr (by omega)), byteAt_set_ne r (by omega)]
theorem good_turned {r : ByteArray} {j p d : Nat} (hp : p < 8) (hg : goodB r j = true) (h0 : d ≠ 0) (hd : d < 128) : goodB (setB r (8 * j + p) (byteAt r (8 * j + p) ^^^ d)) j = false := by
  have hs := good_size hg
  have hb : byteAt r (8 * j + p) < 256 := byteAt_lt _ _
  have hv : byteAt r (8 * j + p) ^^^ d < 256 := Nat.xor_lt_two_pow (n := 8) hb (by omega)
  have he : bchV (r.extract (8 * j) (8 * j + 7)) = byteAt r (8 * j + 7) := by
    simp only [goodB, Bool.and_eq_true, beq_iff_eq] at hg; exact hg.2
  unfold goodB
  rw [Bool.and_eq_false_iff]
  right
  rw [beq_eq_false_iff_ne]
  by_cases h7 : p = 7
  · subst h7
    rw [ext_set_ne r (.inr (by omega)), byteAt_set r (by omega) hv, he]
    exact fun e => xor_ne h0 e.symm
  · rw [ext_set_in r (by omega) (by omega), byteAt_set_ne r (by omega), ← he, show 8 * j + p - 8 * j = p from by omega]
    have h7s : (r.extract (8 * j) (8 * j + 7)).size = 7 := by rw [ByteArray.size_extract]; omega
    have hbb : byteAt (r.extract (8 * j) (8 * j + 7)) p = byteAt r (8 * j + p) := by
      rw [byteAt_L, byteAt_L, bL_ext, List.getD, List.getD, List.getElem?_take_of_lt (by omega), List.getElem?_drop]
    obtain ⟨l, q, b, hl1, hl2, hb1⟩ := setB_split (r.extract (8 * j) (8 * j + 7)) p (byteAt r (8 * j + p) ^^^ d) (by omega)
    refine bchV_turn h7s (by rw [setB_size]; exact h7s) ?_
    rw [hl1, hl2]
    refine bchL_turn l q b _ d hd h0 ?_
    rw [UInt8.toNat_ofNat', hb1, hbb, Nat.mod_eq_of_lt hv]
theorem getB_set {r : ByteArray} {m v : Nat} : ∀ {i : Nat}, 8 * i ≤ m → getB (setB r m v) i = getB r i
  | 0, _ => rfl
  | i + 1, h => by
    rw [getB, getB, getB_set (i := i) (by omega)]
    congr 1
    exact ext_set_ne r (.inr (by omega))
theorem stop_turned (s : ByteArray) {K k d : Nat} (hK : K ≤ 9) (h2 : 2 ≤ k) (hk : k < 2 + 8 * K) (h0 : d ≠ 0) (hd : d < 128) :
    stopB (setB (restB s K) (k - 2) (byteAt (restB s K) (k - 2) ^^^ d)) ((k - 2) / 8) := by
  have e : k - 2 = 8 * ((k - 2) / 8) + (k - 2) % 8 := by omega
  have hj : (k - 2) / 8 < K := by omega
  refine ⟨⟨by omega, fun i hi => ?_⟩, .inl ?_⟩
  · rw [good_set_ne (by omega)]
    exact good_rest s (by omega)
  · generalize hjj : (k - 2) / 8 = j at *
    generalize hpp : (k - 2) % 8 = p at *
    rw [e]
    exact good_turned (by omega) (good_rest s hj) h0 hd
theorem byte_shift (s : ByteArray) (K k : Nat) (h : 2 ≤ k) : byteAt (restB s K) (k - 2) = byteAt (cltB s K) k := by
  have e : cltB s K = ⟨#[235, 144]⟩ ++ restB s K := by unfold cltB restB tailB; rw [ByteArray.append_assoc]
  rw [byteAt_L, byteAt_L, e, bL_app]
  have h2 : bL (⟨#[235, 144]⟩ : ByteArray) = [235, 144] := rfl
  rw [h2, List.getD, List.getD, List.getElem?_append_right (by simpa using h)]
  rfl
theorem padAll_pre (s : ByteArray) {K j : Nat} (hK : 7 * K < s.size + 7) (hj : j < K) : (padAll s K).extract 0 (7 * j) = padAll s j := by
  have h1 : 7 * j ≤ s.size := by omega
  apply bL_inj
  unfold padAll
  simp only [bL_ext, bL_app, rep85_L, List.drop_zero, Nat.sub_zero]
  rw [show 7 * j - s.size = 0 from by omega, List.replicate_zero, List.append_nil]
  have hl : (bL s).length = s.size := bL_len s
  rw [List.take_append, List.take_take, Nat.min_eq_left (by omega)]
  have : 7 * j - ((bL s).take (7 * K)).length = 0 := by rw [List.length_take]; omega
  rw [this, List.take_zero, List.append_nil]
end Go.Proofs.Ythhibeepfecmdaa
