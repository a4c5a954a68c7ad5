/- A packet's bytes, read back: pure facts. -/
import Derived.Test.YtccpdadabndleaaDoorRgP
namespace Go.Proofs.YtccpdadabndleaaDoor
open Go.ChangeShapes Go.WideShapes Go.ChangeAt Go.RowKit
set_option linter.unusedVariables false

theorem lsP_append (a b : ByteArray) : lsP (a ++ b) = lsP a ++ lsP b := by unfold lsP; simp [ByteArray.data_append]
theorem mkB_bits {u : Bool} {a : Int} (h0 : 0 ≤ a) (h1 : a ≤ 2047) : 0 ≤ mkB u a ∧ mkB u a < 65536 ∧ decide ((mkB u a).toNat / 4096 % 2 = 1) = u ∧ (((mkB u a).toNat % 2048 : Nat) : Int) = a := by
  cases u
  · simp [mkB]; refine ⟨by omega, by omega, by omega, by omega⟩
  · simp [mkB]; refine ⟨by omega, by omega, by omega, by omega⟩
theorem gt1P (t : ByteArray) (a : Nat) : gt t a 1 = byteAt t a := by simp [gt]
/-- What is put is read back, whatever stands behind it. -/
theorem pg_back {u : Bool} {a c : Int} {d : ByteArray} (h : pkOk a c d = true) (z : ByteArray) {S : ByteArray} (hS : S = pkPut u a c d ++ z) :
    pgOk S = true ∧ pgU S = u ∧ pgA S = a ∧ pgC S = c ∧ pgD S = d ∧ pgL S = d.size + 6 ∧ pgPut S = pkPut u a c d := by
  obtain ⟨h0, h1, h2, h3, h4, h5⟩ := pkOk_all h
  have hz := pkPut_size (u := u) h
  have hl : lsP S = [hiB (mkB u a), loB (mkB u a), hiB (49152 + c), loB (49152 + c), hiB ((d.size : Int) - 1), loB ((d.size : Int) - 1)] ++ lsP d ++ lsP z := by
    rw [hS, lsP_append, pkPut_yes h, pkW_lst h]
  have hsz : S.size = d.size + 6 + z.size := by rw [hS, ByteArray.size_append, hz]
  obtain ⟨m0, m1, m2, m3⟩ := mkB_bits (u := u) h0 h1
  have g0 : gt S 0 2 = (mkB u a).toNat := by
    rw [gt2P, byteAt_lsP, byteAt_lsP, hl]
    exact hiloP m0 m1
  have g2 : gt S 2 2 = (49152 + c).toNat := by
    rw [gt2P, byteAt_lsP, byteAt_lsP, hl]
    exact hiloP (by omega) (by omega)
  have g4 : gt S 4 2 = ((d.size : Int) - 1).toNat := by
    rw [gt2P, byteAt_lsP, byteAt_lsP, hl]
    exact hiloP (by omega) (by omega)
  have eL : pgL S = d.size + 6 := by unfold pgL; omega
  have eD : pgD S = d := by
    unfold pgD
    apply lsP_inj
    rw [lsP_ext, eL, hl]
    have : (lsP d).length = d.size := lsP_size d
    simp [← this]
  have eU : pgU S = u := by unfold pgU; rw [g0]; exact m2
  have eA : pgA S = a := by unfold pgA; rw [g0]; exact m3
  have eC : pgC S = c := by unfold pgC; rw [g2]; omega
  have eP : pgPut S = pkPut u a c d := by unfold pgPut; rw [eU, eA, eC, eD]
  refine ⟨?_, eU, eA, eC, eD, eL, eP⟩
  simp only [pgOk, Bool.and_eq_true, decide_eq_true_eq]
  refine ⟨⟨by omega, by omega⟩, ?_⟩
  rw [eP, eL]
  apply lsP_inj
  rw [lsP_ext, hS, lsP_append]
  have : (lsP (pkPut u a c d)).length = d.size + 6 := by rw [lsP_size, hz]
  simp [← this]
theorem pgAt_forth {t : ByteArray} {a : Int} (h : pgOk (pgAt t a) = true) : ∃ A n : Nat, a = A ∧ pgL (pgAt t a) = n ∧ 7 ≤ n ∧ A + n ≤ t.size ∧ pgPut (pgAt t a) = t.extract A (A + n) := by
  by_cases hi : 0 ≤ a ∧ a ≤ t.size
  · obtain ⟨A, rfl⟩ := Int.eq_ofNat_of_zero_le hi.1
    have hA : A ≤ t.size := by omega
    obtain ⟨h7, hL, _⟩ := pgOk_all h
    rw [pgAt_in hA] at h h7 hL ⊢
    rw [ByteArray.size_extract] at h7 hL
    refine ⟨A, _, rfl, rfl, by unfold pgL; omega, by omega, ?_⟩
    simp only [pgOk, Bool.and_eq_true, decide_eq_true_eq] at h
    rw [h.2, ByteArray.extract_extract]
    congr 1
    omega
  · exfalso
    have e0 : pgAt t a = ⟨#[]⟩ := by unfold pgAt; rw [if_neg hi]
    rw [e0, pg_zero] at h
    cases h
theorem pk_ne {u : Bool} {a c : Int} {d : ByteArray} (h : pkOk a c d = true) : 7 ≤ (pkPut u a c d).size ∧ (pkPut u a c d).size ≤ 106 := by
  obtain ⟨_, _, _, _, h4, h5⟩ := pkOk_all h
  rw [pkPut_size h]; omega
theorem ne_empty {t : ByteArray} (h : 1 ≤ t.size) : t.toList.isEmpty = false := by
  rw [ByteArray.toList_eq]
  cases hx : t.data.toList with
  | nil => have h0 : t.data.toList.length = t.size := by simp
           rw [hx] at h0; simp at h0; omega
  | cons a l => rfl
/-- A telling's bytes. -/
theorem rpD_lst {sv sb t : Int} {d : ByteArray} (hv0 : 0 ≤ sv) (hv1 : sv ≤ 255) (hu0 : 0 ≤ sb) (hu1 : sb ≤ 255) :
    lsP (rpD sv sb t d) = [32, UInt8.ofNat sv.toNat, UInt8.ofNat sb.toNat] ++ putL t 4 ++ lsP d := by
  unfold rpD lsP
  rw [putL_one' hv0 hv1, putL_one' hu0 hu1, putL_one' (n := 32) (by omega) (by omega)]
  simp
theorem put4_gt {t : Int} (h0 : 0 ≤ t) (h1 : t ≤ 99999) (x y : List UInt8) {S : ByteArray} {i : Nat} (hl : lsP S = x ++ putL t 4 ++ y) (hi : x.length = i) : gt S i 4 = t.toNat := by
  rw [putL_yes (by omega) (by omega) h0 (by show t < (4294967296 : Int); omega)] at hl
  have e : ∀ j, byteAt S (i + j) = ((pt t.toNat (4 : Int).toNat ++ y).getD j 0).toNat := by
    intro j
    rw [byteAt_lsP, hl, List.append_assoc, List.getD_eq_getElem?_getD, List.getD_eq_getElem?_getD, List.getElem?_append_right (by omega), hi, Nat.add_sub_cancel_left]
  have e0 := e 0
  have e1 := e 1
  have e2 := e 2
  have e3 := e 3
  rw [show (4 : Int).toNat = 4 from rfl] at e0 e1 e2 e3
  simp only [gt]
  rw [e0, e1, e2, e3]
  simp [pt]
  omega
theorem rg_back {a c sv sb t : Int} {d : ByteArray} (h : rpOk a c sv sb t d = true) {S : ByteArray} (hS : S = rpPut a c sv sb t d) :
    rgOk S = true ∧ rgV S = .agg #[.int .i64 a, .int .i64 c, .int .i64 sv, .int .i64 sb, .int .i64 t, .string d] ∧ pgOk S = true ∧ pgU S = false ∧ pgL S = S.size ∧ 1 ≤ S.size := by
  obtain ⟨h0, h1, h2, h3, h4, h5, h6, h7, h8, h9, h10⟩ := rpOk_all h
  have hsz := rpD_size (d := d) h4 h5 h6 h7 h8 h9
  have hk : pkOk a c (rpD sv sb t d) = true := by
    simp only [pkOk, inB, Bool.and_eq_true, decide_eq_true_eq, hsz]
    omega
  have hS1 : S = pkPut false a c (rpD sv sb t d) := by
    rw [hS, pkPut_yes hk]; unfold rpPut; rw [h, if_pos rfl]
  have hS2 : S = pkPut false a c (rpD sv sb t d) ++ ⟨#[]⟩ := by rw [hS1]; apply lsP_inj; rw [lsP_append]; simp [lsP]
  obtain ⟨k1, k2, k3, k4, k5, k6, k7⟩ := pg_back hk _ hS2
  have hSs : S.size = (rpD sv sb t d).size + 6 := by rw [hS1]; exact pkPut_size hk
  have hl := rpD_lst (t := t) (d := d) h4 h5 h6 h7
  have b1 : ((byteAt (rpD sv sb t d) 1 : Nat) : Int) = sv := by
    rw [byteAt_lsP, hl]; simp; omega
  have b2 : ((byteAt (rpD sv sb t d) 2 : Nat) : Int) = sb := by
    rw [byteAt_lsP, hl]; simp; omega
  have b3 : ((gt (rpD sv sb t d) 3 4 : Nat) : Int) = t := by
    rw [put4_gt (i := 3) h8 h9 _ _ hl rfl]; omega
  have b4 : (rpD sv sb t d).extract 7 (rpD sv sb t d).size = d := by
    apply lsP_inj
    rw [lsP_ext, hl, hsz]
    obtain ⟨x0, x1, x2, x3, e4⟩ := putL_four h8 h9
    rw [e4]
    have : (lsP d).length = d.size := lsP_size d
    simp [← this]
  have eP : rgPut S = S := by
    unfold rgPut; rw [k3, k4, k5, b1, b2, b3, b4, hS]
  have hok : rgOk S = true := by
    simp only [rgOk, Bool.and_eq_true, decide_eq_true_eq]
    refine ⟨⟨k1, by rw [k5, hsz]; omega⟩, eP⟩
  refine ⟨hok, ?_, k1, k2, by omega, by omega⟩
  unfold rgV; rw [if_pos hok, k3, k4, k5, b1, b2, b3, b4]
theorem rg_forth {t : ByteArray} (h : rgOk t = true) : rgPut t = t := by
  simp only [rgOk, Bool.and_eq_true, decide_eq_true_eq] at h
  exact h.2
end Go.Proofs.YtccpdadabndleaaDoor
