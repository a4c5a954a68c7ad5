/- What is put into code blocks is read back: plain bytes. -/
import Derived.Test.YthhibeepfecmdaaCltG
namespace Go.Proofs.Ythhibeepfecmdaa
set_option linter.unusedVariables false
abbrev bL (t : ByteArray) : List UInt8 := t.data.toList
theorem bL_app (a b : ByteArray) : bL (a ++ b) = bL a ++ bL b := by simp [bL]
theorem bL_len (a : ByteArray) : (bL a).length = a.size := by simp [bL]
theorem bL_ext (t : ByteArray) (i j : Nat) : bL (t.extract i j) = ((bL t).drop i).take (j - i) := by
  simp only [bL, ByteArray.data_extract, Array.toList_extract, List.extract_eq_take_drop]
theorem bL_inj {a b : ByteArray} (h : bL a = bL b) : a = b := ByteArray.ext (Array.ext' h)
def cutB (t : ByteArray) (j : Nat) : ByteArray := t.extract (7 * j) (min (7 * j + 7) t.size)
theorem cutB_le (t : ByteArray) (j : Nat) : (cutB t j).size ≤ 7 := cut_le t j
theorem blks_at (t : ByteArray) : ∀ (K j : Nat) (T : List UInt8), j < K → ((bL (blksB t K) ++ T).drop (8 * j)).take 8 = bL (blkB (cutB t j))
  | 0, j, T, h => by omega
  | K + 1, j, T, h => by
    have hA : (bL (blksB t K)).length = 8 * K := by rw [bL_len, blksB_size]
    have hB : (bL (blkB (cutB t K))).length = 8 := by rw [bL_len, blkB_size (cutB_le t K)]
    have e : bL (blksB t (K + 1)) = bL (blksB t K) ++ bL (blkB (cutB t K)) := by rw [blksB, bL_app]; rfl
    rw [e, List.append_assoc]
    rcases Nat.lt_or_ge j K with hj | hj
    · exact blks_at t K j _ hj
    · obtain rfl : j = K := by omega
      rw [List.drop_append, List.drop_eq_nil_of_le (by omega), hA, Nat.sub_self, List.drop_zero, List.nil_append, List.take_append, List.take_of_length_le (by omega), hB, Nat.sub_self, List.take_zero, List.append_nil]
def tailB : ByteArray := ⟨#[197, 197, 197, 197, 197, 197, 197, 121]⟩
def restB (t : ByteArray) (K : Nat) : ByteArray := blksB t K ++ tailB
theorem restB_size (t : ByteArray) (K : Nat) : (restB t K).size = 8 * K + 8 := by
  unfold restB; rw [ByteArray.size_append, blksB_size]; rfl
theorem rest_at (t : ByteArray) {K j : Nat} (h : j < K) : ((bL (restB t K)).drop (8 * j)).take 8 = bL (blkB (cutB t j)) := by
  unfold restB; rw [bL_app]; exact blks_at t K j _ h
theorem take7 (l : List UInt8) : (l.take 8).take 7 = l.take 7 := by rw [List.take_take]; rfl
theorem blkAt_rest (t : ByteArray) {K j : Nat} (h : j < K) : blkAt (restB t K) j = padB (cutB t j) := by
  apply bL_inj
  have hp : (bL (padB (cutB t j))).length = 7 := by rw [bL_len, padB_size (cutB_le t j)]
  rw [bL_ext, show 8 * j + 7 - 8 * j = 7 from by omega, ← take7, rest_at t h]
  unfold blkB
  rw [bL_app, List.take_append, List.take_of_length_le (by omega), hp, Nat.sub_self, List.take_zero, List.append_nil]
theorem byte_rest (t : ByteArray) {K j : Nat} (h : j < K) : byteAt (restB t K) (8 * j + 7) = bchV (padB (cutB t j)) := by
  have hp : (bL (padB (cutB t j))).length = 7 := by rw [bL_len, padB_size (cutB_le t j)]
  have e : (bL (restB t K))[8 * j + 7]? = some (UInt8.ofNat (bchV (padB (cutB t j)))) := by
    have h1 : (bL (restB t K))[8 * j + 7]? = (((bL (restB t K)).drop (8 * j)).take 8)[7]? := by
      rw [List.getElem?_take_of_lt (by omega), List.getElem?_drop]
    rw [h1, rest_at t h]
    unfold blkB
    rw [bL_app, List.getElem?_append_right (by omega), hp]
    rfl
  unfold byteAt
  rw [List.getD, e]
  have := bchV_256 (padB (cutB t j))
  simp [UInt8.toNat_ofNat']
  omega
theorem good_rest (t : ByteArray) {K j : Nat} (h : j < K) : goodB (restB t K) j = true := by
  have h1 : bchV ((restB t K).extract (8 * j) (8 * j + 7)) = byteAt (restB t K) (8 * j + 7) := by rw [byte_rest t h]; exact congrArg bchV (blkAt_rest t h)
  simp only [goodB, Bool.and_eq_true, decide_eq_true_eq, beq_iff_eq]
  exact ⟨by rw [restB_size]; omega, h1⟩
theorem bchV_even (t : ByteArray) : bchV t % 2 = 0 := by unfold bchV; omega
theorem bad_rest (t : ByteArray) (K : Nat) : goodB (restB t K) K = false := by
  have hA : (bL (blksB t K)).length = 8 * K := by rw [bL_len, blksB_size]
  have e : byteAt (restB t K) (8 * K + 7) = 121 := by
    unfold byteAt restB
    have : (bL (blksB t K ++ tailB))[8 * K + 7]? = some 121 := by
      rw [bL_app, List.getElem?_append_right (by omega), hA, show 8 * K + 7 - 8 * K = 7 from by omega]; rfl
    show ((bL (blksB t K ++ tailB)).getD (8 * K + 7) 0).toNat = 121
    rw [List.getD, this]; rfl
  have hv := bchV_even ((restB t K).extract (8 * K) (8 * K + 7))
  simp only [goodB, e, Bool.and_eq_false_iff]
  right
  rw [beq_eq_false_iff_ne]
  omega
theorem stop_rest (t : ByteArray) {K : Nat} (h : K ≤ 9) : stopB (restB t K) K := ⟨⟨h, fun j hj => good_rest t hj⟩, .inl (bad_rest t K)⟩
/-- The text with what fills its last block. -/
def padAll (t : ByteArray) (k : Nat) : ByteArray := t.extract 0 (7 * k) ++ rep85 (7 * k - t.size)
theorem rep85_L (n : Nat) : bL (rep85 n) = List.replicate n 85 := by simp [rep85, bL]
theorem getB_rest (t : ByteArray) {K : Nat} (hK : 7 * K < t.size + 7) : ∀ k, k ≤ K → getB (restB t K) k = padAll t k
  | 0, _ => by
    apply bL_inj
    unfold padAll
    rw [bL_app, bL_ext, rep85_L]
    simp [getB]
  | k + 1, h => by
    have ih := getB_rest t hK k (by omega)
    rw [getB, ih, blkAt_rest t (by omega)]
    have hlt : 7 * k < t.size := by omega
    apply bL_inj
    unfold padAll padB cutB
    have hs : (t.extract (7 * k) (min (7 * k + 7) t.size)).size = min (7 * k + 7) t.size - 7 * k := by rw [ByteArray.size_extract]; omega
    rw [hs]
    simp only [bL_app, bL_ext, rep85_L]
    have e0 : 7 * k - t.size = 0 := by omega
    have hl : (bL t).length = t.size := bL_len t
    rw [e0, List.replicate_zero, List.append_nil, List.drop_zero, Nat.sub_zero, Nat.sub_zero]
    have e1 : 7 - (min (7 * k + 7) t.size - 7 * k) = 7 * (k + 1) - t.size := by omega
    rw [e1, ← List.append_assoc]
    congr 1
    rw [show 7 * (k + 1) = 7 * k + 7 from by omega, List.take_add]
    congr 1
    by_cases hm : 7 * k + 7 ≤ t.size
    · rw [Nat.min_eq_left hm, show 7 * k + 7 - 7 * k = 7 from by omega]
    · rw [Nat.min_eq_right (by omega), List.take_of_length_le (by rw [List.length_drop]; omega), List.take_of_length_le (by rw [List.length_drop]; omega)]
theorem padAll_size (t : ByteArray) {K : Nat} (h : t.size ≤ 7 * K) : (padAll t K).size = 7 * K := by
  unfold padAll; rw [ByteArray.size_append, ByteArray.size_extract, rep85_size]; omega
theorem padAll_L (t : ByteArray) {K : Nat} (h : t.size ≤ 7 * K) : bL (padAll t K) = bL t ++ List.replicate (7 * K - t.size) 85 := by
  unfold padAll
  rw [bL_app, bL_ext, rep85_L, List.drop_zero, List.take_of_length_le (by rw [bL_len]; omega)]
theorem padAll_head (t : ByteArray) {K : Nat} (h : t.size ≤ 7 * K) : (padAll t K).extract 0 t.size = t := by
  apply bL_inj
  rw [bL_ext, padAll_L t h, List.drop_zero, List.take_append, List.take_of_length_le (by rw [bL_len]; omega), bL_len, Nat.sub_zero, Nat.sub_self, List.take_zero, List.append_nil]
theorem padAll_byte (t : ByteArray) {K i : Nat} (h : t.size ≤ 7 * K) (h1 : t.size ≤ i) (h2 : i < 7 * K) : byteAt (padAll t K) i = 85 := by
  unfold byteAt
  show ((bL (padAll t K)).getD i 0).toNat = 85
  have : (bL (padAll t K))[i]? = some 85 := by
    rw [padAll_L t h, List.getElem?_append_right (by rw [bL_len]; omega), List.getElem?_replicate, bL_len]
    simp; omega
  rw [List.getD, this]; rfl
theorem clt_rest (t : ByteArray) (K : Nat) : (cltB t K).extract 2 (cltB t K).size = restB t K := by
  apply bL_inj
  have e : cltB t K = ⟨#[235, 144]⟩ ++ restB t K := by unfold cltB restB tailB; rw [ByteArray.append_assoc]
  rw [e, bL_ext, bL_app]
  have h2 : bL (⟨#[235, 144]⟩ : ByteArray) = [235, 144] := rfl
  rw [h2, ByteArray.size_append]
  have hs : (⟨#[235, 144]⟩ : ByteArray).size = 2 := rfl
  rw [hs, show 2 + (restB t K).size - 2 = (restB t K).size from by omega]
  simp only [List.cons_append, List.nil_append, List.drop_succ_cons, List.drop_zero]
  exact List.take_of_length_le (by rw [bL_len]; exact Nat.le_refl _)
theorem cltB_size (t : ByteArray) (K : Nat) : (cltB t K).size = 10 + 8 * K := by
  unfold cltB; rw [ByteArray.size_append, ByteArray.size_append, blksB_size]
  show 2 + 8 * K + 8 = _; omega
end Go.Proofs.Ythhibeepfecmdaa
