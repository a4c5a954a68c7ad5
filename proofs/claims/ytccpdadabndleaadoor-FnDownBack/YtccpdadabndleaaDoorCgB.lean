/- A command's bytes, read back, and one of them turned: pure facts. -/
import Derived.Test.YtccpdadabndleaaDoorCgP
import Derived.Test.YtccpdadabndleaaDoorCmQ
import Derived.Test.YtccpdadabndleaaDoorPgB
import Derived.Test.YtccpdadabndleaaDoorCrcL
import Derived.Test.YtccpdadabndleaaDoorTurn
namespace Go.Proofs.YtccpdadabndleaaDoor
open Go.ChangeShapes Go.WideShapes Go.ChangeAt Go.RowKit
set_option linter.unusedVariables false

theorem crc_le (t : ByteArray) : 0 ≤ ((crcTo t t.size : Nat) : Int) ∧ ((crcTo t t.size : Nat) : Int) ≤ 65535 := by
  have := crcL_lt (lsP t)
  rw [show crcTo t t.size = crcL (lsP t) from crcTo_all t]
  omega
theorem cmW_lst (T : ByteArray) : lsP (cmW T) = lsP T ++ [hiB (crcTo T T.size : Nat), loB (crcTo T T.size : Nat)] := by
  obtain ⟨h0, h1⟩ := crc_le T
  unfold cmW lsP
  rw [putL_two h0 h1]
theorem lsP_mk (l : List UInt8) : lsP ⟨l.toArray⟩ = l := by unfold lsP; simp
theorem cg_back {a c so sv sb : Int} {d : ByteArray} (h : cmOk a c so sv sb d = true) {S : ByteArray} (hS : S = cmPut a c so sv sb d) :
    cgK S = 0 ∧ cgV S = .agg #[.int .i64 a, .int .i64 c, .int .i64 so, .int .i64 sv, .int .i64 sb, .string d] ∧ 12 ≤ S.size ∧ S.size ≤ 72 ∧ S = cmW (cmT a c so sv sb d) := by
  obtain ⟨h0, h1, h2, h3, h4, h5, h6, h7, h8, h9, h10⟩ := cmOk_all h
  have hS0 : S = cmW (cmT a c so sv sb d) := by rw [hS]; unfold cmPut; rw [if_pos h]
  have hT := cmT_list (d := d) h0 h1 h2 h3 h4 h5 h6 h7 h8 h9 h10
  have hTz := cmT_size (d := d) h0 h1 h2 h3 h4 h5 h6 h7 h8 h9 h10
  have hSl := cmW_lst (cmT a c so sv sb d)
  rw [← hS0] at hSl
  obtain ⟨c0, c1⟩ := crc_le (cmT a c so sv sb d)
  have hcr : (hiB (crcTo (cmT a c so sv sb d) (cmT a c so sv sb d).size : Nat)).toNat * 256 + (loB (crcTo (cmT a c so sv sb d) (cmT a c so sv sb d).size : Nat)).toNat = crcTo (cmT a c so sv sb d) (cmT a c so sv sb d).size := by
    rw [hiloP c0 (by omega)]; simp
  obtain ⟨T, hTT⟩ : ∃ T, T = cmT a c so sv sb d := ⟨_, rfl⟩
  rw [← hTT] at hT hTz hSl hcr
  change lsP T = _ at hT
  generalize hhi : hiB (crcTo T T.size : Nat) = x at hSl hcr
  generalize hlo : loB (crcTo T T.size : Nat) = y at hSl hcr
  have hSz : S.size = d.size + 12 := by
    rw [← lsP_size, hSl]; simp [lsP_size]; omega
  obtain ⟨D, hD⟩ : ∃ D : ByteArray, D = ⟨([47, UInt8.ofNat sv.toNat, UInt8.ofNat sb.toNat, UInt8.ofNat so.toNat] ++ lsP d ++ [x, y]).toArray⟩ := ⟨_, rfl⟩
  have hDl : lsP D = [47, UInt8.ofNat sv.toNat, UInt8.ofNat sb.toNat, UInt8.ofNat so.toNat] ++ lsP d ++ [x, y] := by rw [hD, lsP_mk]
  have hDz : D.size = d.size + 6 := by rw [← lsP_size, hDl]; simp [lsP_size]
  have hk : pkOk a c D = true := by
    simp only [pkOk, inB, Bool.and_eq_true, decide_eq_true_eq]
    omega
  have hSp : S = pkPut true a c D ++ ⟨#[]⟩ := by
    apply lsP_inj
    rw [lsP_append, pkPut_yes hk, pkW_lst hk, hSl, hT, hDl, show lsP d = d.data.toList from rfl, show (D.size : Int) - 1 = (d.size : Int) + 6 - 1 by omega]
    simp [mkB, lsP]
  obtain ⟨k1, k2, k3, k4, k5, k6, k7⟩ := pg_back hk _ hSp
  have hsh : cgShape S = true := by
    simp only [cgShape, Bool.and_eq_true, decide_eq_true_eq]
    exact ⟨⟨k1, by omega⟩, k2⟩
  have hcT : cgT S = T := by
    apply lsP_inj
    unfold cgT
    rw [lsP_ext, hSl]
    have : (lsP T).length = S.size - 2 := by rw [lsP_size]; omega
    rw [Nat.sub_zero, List.drop_zero, ← this, List.take_left]
  have hgt : gt S (S.size - 2) 2 = crcTo T T.size := by
    rw [gt2P, byteAt_lsP, byteAt_lsP, hSl, ← hcr]
    have : (lsP T).length = S.size - 2 := by rw [lsP_size]; omega
    rw [← this]
    simp [List.getD_eq_getElem?_getD]
  have hsm : cgSum S = true := by
    simp only [cgSum, cgSumB, Bool.and_eq_true, decide_eq_true_eq, k5, hcT]
    exact ⟨by omega, hgt⟩
  have hb0 : byteAt D 0 = 47 := by rw [byteAt_lsP, hDl]; rfl
  have hb1 : ((byteAt D 1 : Nat) : Int) = sv := by rw [byteAt_lsP, hDl]; simp; omega
  have hb2 : ((byteAt D 2 : Nat) : Int) = sb := by rw [byteAt_lsP, hDl]; simp; omega
  have hb3 : ((byteAt D 3 : Nat) : Int) = so := by rw [byteAt_lsP, hDl]; simp; omega
  have hx : D.extract 4 (D.size - 2) = d := by
    apply lsP_inj
    rw [lsP_ext, hDl, hDz]
    have : (lsP d).length = d.size := lsP_size d
    rw [List.append_assoc]
    simp only [List.cons_append, List.nil_append, List.drop_succ_cons, List.drop_zero]
    rw [show d.size + 6 - 2 - 4 = (lsP d).length by omega, List.take_left]
  have hh : cgHead S = true := by
    simp only [cgHead, Bool.and_eq_true, decide_eq_true_eq, k5]
    exact ⟨⟨by omega, hb0⟩, by omega⟩
  have hk0 := cgK_0 hsh hsm hh
  refine ⟨hk0, ?_, by omega, by omega, hS0⟩
  rw [cgV_yes hk0, k3, k4, k5, hb1, hb2, hb3, hx]
theorem cm_empty {a c so sv sb : Int} {d : ByteArray} (h : cmOk a c so sv sb d = false) : cmPut a c so sv sb d = ⟨#[]⟩ := by unfold cmPut; rw [h]; rfl
theorem two_last (r : List UInt8) (h : 2 ≤ r.length) : ∃ m x y, r = m ++ [x, y] := by
  have hl : (r.drop (r.length - 2)).length = 2 := by simp; omega
  match hq : r.drop (r.length - 2) with
  | [x, y] => exact ⟨r.take (r.length - 2), x, y, by rw [← hq, List.take_append_drop]⟩
  | [] => rw [hq] at hl; simp at hl
  | [_] => rw [hq] at hl; simp at hl
  | _ :: _ :: _ :: _ => rw [hq] at hl; simp at hl
theorem hi_of {x y : UInt8} {n : Nat} (h : x.toNat * 256 + y.toNat = n) : hiB (n : Int) = x ∧ loB (n : Int) = y := by
  have hx := UInt8.toNat_lt x
  have hy := UInt8.toNat_lt y
  unfold hiB loB
  constructor
  · apply UInt8.toNat.inj
    rw [UInt8.toNat_ofNat']
    omega
  · apply UInt8.toNat.inj
    rw [UInt8.toNat_ofNat']
    omega
set_option maxRecDepth 100000 in
theorem cg_forth {t : ByteArray} (h : cgK t = 0) : cmPut (pgA t) (pgC t) (byteAt (pgD t) 3 : Nat) (byteAt (pgD t) 1 : Nat) (byteAt (pgD t) 2 : Nat) ((pgD t).extract 4 ((pgD t).size - 2)) = t := by
  have hsh : cgShape t = true := by
    cases q : cgShape t with
    | true => rfl
    | false => rw [cgK_1 q] at h; cases h
  have hsm : cgSum t = true := by
    cases q : cgSum t with
    | true => rfl
    | false => rw [cgK_2 hsh q] at h; cases h
  have hh : cgHead t = true := by
    cases q : cgHead t with
    | true => rfl
    | false => rw [cgK_3 hsh hsm q] at h; cases h
  simp only [cgShape, Bool.and_eq_true, decide_eq_true_eq] at hsh
  simp only [cgSum, cgSumB, Bool.and_eq_true, decide_eq_true_eq] at hsm
  simp only [cgHead, Bool.and_eq_true, decide_eq_true_eq] at hh
  obtain ⟨⟨hp, hL⟩, hu⟩ := hsh
  obtain ⟨_, hcrc⟩ := hsm
  obtain ⟨⟨hd6, hd0⟩, hd66⟩ := hh
  obtain ⟨h7, _, h3⟩ := pgOk_all hp
  simp only [pgOk, Bool.and_eq_true, decide_eq_true_eq] at hp
  have hput := hp.2
  have hall : t.extract 0 (pgL t) = t := by
    apply lsP_inj
    rw [lsP_ext, hL, Nat.sub_zero, List.drop_zero, ← lsP_size, List.take_length]
  rw [hall] at hput
  unfold pgPut at hput
  rw [hu] at hput
  have hk : pkOk (pgA t) (pgC t) (pgD t) = true := by
    cases q : pkOk (pgA t) (pgC t) (pgD t) with
    | true => rfl
    | false =>
      unfold pkPut at hput
      rw [q] at hput
      have := congrArg ByteArray.size hput
      rw [if_neg (by decide)] at this
      have h0 : (⟨#[]⟩ : ByteArray).size = 0 := rfl
      omega
  obtain ⟨a0, a1, c0, c1, _, _⟩ := pkOk_all hk
  have hl := pkW_lst (u := true) hk
  rw [← pkPut_yes hk, hput] at hl
  generalize pgA t = a at *
  generalize pgC t = c at *
  generalize pgD t = D at *
  obtain ⟨b0, b1, b2, b3, m, x, y, hDl⟩ : ∃ b0 b1 b2 b3 m x y, lsP D = [b0, b1, b2, b3] ++ m ++ [x, y] := by
    have hlen : 6 ≤ (lsP D).length := by rw [lsP_size]; exact hd6
    match hq : lsP D with
    | b0 :: b1 :: b2 :: b3 :: r =>
      rw [hq] at hlen
      obtain ⟨m, x, y, e⟩ := two_last r (by simp at hlen; omega)
      exact ⟨b0, b1, b2, b3, m, x, y, by rw [e]; simp⟩
    | [] => rw [hq] at hlen; simp at hlen
    | [_] => rw [hq] at hlen; simp at hlen
    | [_, _] => rw [hq] at hlen; simp at hlen
    | [_, _, _] => rw [hq] at hlen; simp at hlen
  have e0 : byteAt D 0 = b0.toNat := by rw [byteAt_lsP, hDl]; rfl
  have e1 : byteAt D 1 = b1.toNat := by rw [byteAt_lsP, hDl]; rfl
  have e2 : byteAt D 2 = b2.toNat := by rw [byteAt_lsP, hDl]; rfl
  have e3 : byteAt D 3 = b3.toNat := by rw [byteAt_lsP, hDl]; rfl
  have hb0 : b0 = 47 := UInt8.toNat.inj (by rw [← e0, hd0]; rfl)
  have hDz : D.size = m.length + 6 := by rw [← lsP_size, hDl]; simp
  have hx : lsP (D.extract 4 (D.size - 2)) = m := by
    rw [lsP_ext, hDl, List.append_assoc]
    simp only [List.cons_append, List.nil_append, List.drop_succ_cons, List.drop_zero]
    rw [show D.size - 2 - 4 = m.length by omega, List.take_left]
  generalize D.extract 4 (D.size - 2) = d at *
  have hdz : d.size = m.length := by rw [← lsP_size, hx]
  rw [e1, e2, e3]
  have l1 := UInt8.toNat_lt b1
  have l2 := UInt8.toNat_lt b2
  have l3 := UInt8.toNat_lt b3
  have hok : cmOk a c (b3.toNat : Nat) (b1.toNat : Nat) (b2.toNat : Nat) d = true := by
    simp only [cmOk, inB, Bool.and_eq_true, decide_eq_true_eq]
    omega
  have hT := cmT_list (a := a) (c := c) (so := (b3.toNat : Nat)) (sv := (b1.toNat : Nat)) (sb := (b2.toNat : Nat)) (d := d) (by omega) (by omega) (by omega) (by omega) (by omega) (by omega) (by omega) (by omega) (by omega) (by omega) (by omega)
  have hTz := cmT_size (a := a) (c := c) (so := (b3.toNat : Nat)) (sv := (b1.toNat : Nat)) (sb := (b2.toNat : Nat)) (d := d) (by omega) (by omega) (by omega) (by omega) (by omega) (by omega) (by omega) (by omega) (by omega) (by omega) (by omega)
  unfold cmPut
  rw [if_pos hok]
  generalize cmT a c (b3.toNat : Nat) (b1.toNat : Nat) (b2.toNat : Nat) d = T at *
  have hTl : lsP T = [hiB (mkB true a), loB (mkB true a), hiB (49152 + c), loB (49152 + c), hiB ((D.size : Int) - 1), loB ((D.size : Int) - 1), 47, b1, b2, b3] ++ m := by
    rw [show lsP T = T.data.toList from rfl, hT, show d.data.toList = lsP d from rfl, hx, show (D.size : Int) - 1 = (d.size : Int) + 6 - 1 by omega]
    simp [mkB]
  have htl : lsP t = lsP T ++ [x, y] := by rw [hl, hTl, hDl, hb0]; simp
  have htz : t.size = T.size + 2 := by rw [← lsP_size, htl]; simp [lsP_size]
  have hcT : cgT t = T := by
    apply lsP_inj
    unfold cgT
    rw [lsP_ext, htl]
    have : (lsP T).length = t.size - 2 := by rw [lsP_size]; omega
    rw [Nat.sub_zero, List.drop_zero, ← this, List.take_left]
  have hgt : gt t (t.size - 2) 2 = x.toNat * 256 + y.toNat := by
    rw [gt2P, byteAt_lsP, byteAt_lsP, htl]
    have : (lsP T).length = t.size - 2 := by rw [lsP_size]; omega
    rw [← this]
    simp [List.getD_eq_getElem?_getD]
  rw [hgt, hcT] at hcrc
  obtain ⟨i1, i2⟩ := hi_of hcrc
  apply lsP_inj
  rw [cmW_lst, i1, i2, htl]
theorem sum_zero {u : ByteArray} (h2 : 2 ≤ u.size) (h : cgSumB u = true) : crcL (lsP u) = 0 := by
  obtain ⟨m, x, y, e⟩ := two_last (lsP u) (by rw [lsP_size]; exact h2)
  have hm : m.length = u.size - 2 := by
    have := congrArg List.length e
    rw [lsP_size] at this
    simp at this
    omega
  have hcT : lsP (cgT u) = m := by
    unfold cgT
    rw [lsP_ext, e, Nat.sub_zero, List.drop_zero, ← hm, List.take_left]
  simp only [cgSumB, decide_eq_true_eq] at h
  rw [gt2P, byteAt_lsP, byteAt_lsP, e, ← hm] at h
  have hc : crcTo (cgT u) (cgT u).size = crcL m := by rw [show crcTo (cgT u) (cgT u).size = crcL (lsP (cgT u)) from crcTo_all _, hcT]
  rw [hc] at h
  have h' : x.toNat * 256 + y.toNat = crcL m := by
    rw [← h]; simp [List.getD_eq_getElem?_getD]
  have hy := UInt8.toNat_lt y
  rw [e]
  exact crcL_end m x y (by omega) (by omega)
theorem cg_turned {a c so sv sb : Int} {d : ByteArray} (h : cmOk a c so sv sb d = true) {k x : Nat} (hk : k < (cmPut a c so sv sb d).size) (hx : x < 256) (hx0 : x ≠ 0) :
    cgK (setB (cmPut a c so sv sb d) k (byteAt (cmPut a c so sv sb d) k ^^^ x)) ≠ 0 := by
  obtain ⟨s1, _, s3, s4, s5⟩ := cg_back h rfl
  have hz : crcL (lsP (cmPut a c so sv sb d)) = 0 := by
    have hsh : cgSumB (cmPut a c so sv sb d) = true := by
      cases q : cgSumB (cmPut a c so sv sb d) with
      | true => rfl
      | false =>
        exfalso
        have hf : cgSum (cmPut a c so sv sb d) = false := by unfold cgSum; rw [q, Bool.and_false]
        cases q2 : cgShape (cmPut a c so sv sb d) with
        | false => rw [cgK_1 q2] at s1; cases s1
        | true => rw [cgK_2 q2 hf] at s1; cases s1
    exact sum_zero (by omega) hsh
  generalize cmPut a c so sv sb d = s at *
  have hl := byteAt_lt s k
  have hvl : byteAt s k ^^^ x < 256 := Nat.xor_lt_two_pow (n := 8) hl hx
  obtain ⟨l, r, b, hl1, hl2, hb⟩ := setB_split s k (byteAt s k ^^^ x) hk
  have hne : crcL (lsP (setB s k (byteAt s k ^^^ x))) ≠ crcL (lsP s) := by
    unfold lsP
    rw [hl1, hl2]
    refine crcL_turn l r _ b (fun e => ?_)
    have e2 := congrArg UInt8.toNat e
    rw [UInt8.toNat_ofNat', hb, Nat.mod_eq_of_lt hvl] at e2
    have e3 := congrArg (byteAt s k ^^^ ·) e2
    simp only [← Nat.xor_assoc, Nat.xor_self, Nat.zero_xor] at e3
    exact hx0 e3
  have hsz := setB_size s k (byteAt s k ^^^ x)
  generalize setB s k (byteAt s k ^^^ x) = u at *
  intro h0
  have hsb : cgSumB u = true := by
    cases q : cgSumB u with
    | true => rfl
    | false =>
      exfalso
      have hf : cgSum u = false := by unfold cgSum; rw [q, Bool.and_false]
      cases q2 : cgShape u with
      | false => rw [cgK_1 q2] at h0; cases h0
      | true => rw [cgK_2 q2 hf] at h0; cases h0
  exact hne ((sum_zero (by omega) hsb).trans hz.symm)
end Go.Proofs.YtccpdadabndleaaDoor
