/- What a text says of a telling: pure facts. -/
import Derived.Test.YtccpdadabndleaaDoorPgS
import Derived.Test.YtccpdadabndleaaDoorRpP
namespace Go.Proofs.YtccpdadabndleaaDoor
open Go.ChangeShapes Go.WideShapes Go.ChangeAt Go.RowKit
set_option linter.unusedVariables false

def rgPut (t : ByteArray) : ByteArray := rpPut (pgA t) (pgC t) (byteAt (pgD t) 1 : Nat) (byteAt (pgD t) 2 : Nat) (gt (pgD t) 3 4 : Nat) ((pgD t).extract 7 (pgD t).size)
def rgOk (t : ByteArray) : Bool := pgOk t && decide (7 ≤ (pgD t).size) && decide (rgPut t = t)
def rgZ : Value := .agg #[.int .i64 0, .int .i64 0, .int .i64 0, .int .i64 0, .int .i64 0, .string ⟨#[]⟩]
def rgV (t : ByteArray) : Value := if rgOk t = true then .agg #[.int .i64 (pgA t), .int .i64 (pgC t), .int .i64 (byteAt (pgD t) 1 : Nat), .int .i64 (byteAt (pgD t) 2 : Nat), .int .i64 (gt (pgD t) 3 4 : Nat), .string ((pgD t).extract 7 (pgD t).size)] else .agg #[.int .i64 0, .int .i64 0, .int .i64 0, .int .i64 0, .int .i64 0, .string ⟨#[]⟩]
theorem rgV_agg (t : ByteArray) : ∃ (a c sv sb tm : Int) (d : ByteArray), rgV t = .agg #[.int .i64 a, .int .i64 c, .int .i64 sv, .int .i64 sb, .int .i64 tm, .string d] := by
  unfold rgV
  split
  · exact ⟨_, _, _, _, _, _, rfl⟩
  · exact ⟨_, _, _, _, _, _, rfl⟩
theorem rg_pg {t : ByteArray} (h : pgOk t = false) : rgOk t = false := by unfold rgOk; rw [h]; rfl
theorem rgV_no {t : ByteArray} (h : rgOk t = false) : rgV t = .agg #[.int .i64 0, .int .i64 0, .int .i64 0, .int .i64 0, .int .i64 0, .string ⟨#[]⟩] := by unfold rgV; rw [h]; rfl
theorem pgOk_all {t : ByteArray} (h : pgOk t = true) : 7 ≤ t.size ∧ pgL t ≤ t.size ∧ (pgD t).size + 6 = pgL t := by
  simp only [pgOk, Bool.and_eq_true, decide_eq_true_eq] at h
  refine ⟨h.1.1, h.1.2, ?_⟩
  have := h.1.2
  unfold pgD
  rw [ByteArray.size_extract]
  have h7 : 7 ≤ pgL t := by unfold pgL; omega
  omega
/-- A text that is a telling put is no longer and no shorter than its packet. -/
theorem rp_len {a c sv sb tm : Int} {d t : ByteArray} (h : rpPut a c sv sb tm d = t) (ht : 7 ≤ t.size) : t.size = pgL t ∧ pgL t = d.size + 13 := by
  unfold rpPut at h
  cases ho : rpOk a c sv sb tm d with
  | false => rw [ho, if_neg (by decide)] at h; subst h; exact absurd ht (by decide)
  | true =>
    rw [ho, if_pos rfl] at h
    obtain ⟨h0, h1, h2, h3, h4, h5, h6, h7, h8, h9, h10⟩ := rpOk_all ho
    have hsz := rpD_size (d := d) h4 h5 h6 h7 h8 h9
    have hk : pkOk a c (rpD sv sb tm d) = true := by
      simp only [pkOk, inB, Bool.and_eq_true, decide_eq_true_eq, hsz]
      omega
    rw [← pkPut_yes (u := false) hk] at h
    have hz := pkPut_size (u := false) hk
    have hl := pkPut_len (u := false) hk (s := t) (by rw [h]; simp) (by rw [h]; exact Nat.le_refl _)
    rw [h] at hz
    unfold pgL
    omega
theorem rg_long {t : ByteArray} (h : pgOk t = true) (hne : pgL t ≠ t.size) : rgOk t = false := by
  cases hr : rgOk t with
  | false => rfl
  | true =>
    simp only [rgOk, Bool.and_eq_true, decide_eq_true_eq] at hr
    exact absurd (rp_len hr.2 (pgOk_all h).1).1.symm hne
theorem rg_short {t : ByteArray} (hne : (pgD t).size < 7) : rgOk t = false := by
  unfold rgOk
  rw [decide_eq_false (by omega : ¬ 7 ≤ (pgD t).size)]
  simp
theorem rg_spec {t : ByteArray} (h : pgOk t = true) (h7 : 7 ≤ (pgD t).size) : rgOk t = decide (rgPut t = t) := by
  unfold rgOk
  rw [h, decide_eq_true h7, Bool.true_and, Bool.true_and]
/-- What the reader comes to: the same. -/
theorem rg_end {t : ByteArray} {sv sb tm : Nat} {x : ByteArray} {i4 : Nat} (h : pgOk t = true) {z0 i1 i2 i3 : Nat} (d : ByteArray) (hd : pgD t = d) (ei1 : 0 + min 1 (d.size - 0) = i1)
    (ev1 : (if 1 ≤ d.size - i1 then gt d i1 1 else 0) = sv) (ei2 : i1 + min 1 (d.size - i1) = i2)
    (ev2 : (if 1 ≤ d.size - i2 then gt d i2 1 else 0) = sb) (ei3 : i2 + min 1 (d.size - i2) = i3)
    (ev3 : (if 4 ≤ d.size - i3 then gt d i3 4 else 0) = tm) (ei4 : i3 + min 4 (d.size - i3) = i4)
    (ex : d.extract i4 (i4 + min (d.size - i4) (d.size - i4)) = x) :
    rgOk t = decide (rpPut (pgA t) (pgC t) sv sb tm x = t) ∧ (rgOk t = true → rgV t = .agg #[.int .i64 (pgA t), .int .i64 (pgC t), .int .i64 (sv : Nat), .int .i64 (sb : Nat), .int .i64 (tm : Nat), .string x]) := by
  obtain ⟨h1, h2, h3⟩ := pgOk_all h
  rw [hd] at h3
  by_cases h7 : 7 ≤ d.size
  · have a1 : i1 = 1 := by omega
    have a2 : i2 = 2 := by omega
    have a3 : i3 = 3 := by omega
    have a4 : i4 = 7 := by omega
    subst a1 a2 a3 a4
    rw [if_pos (by omega)] at ev1 ev2 ev3
    have g1 : sv = byteAt (pgD t) 1 := by rw [hd, ← ev1]; simp [gt]
    have g2 : sb = byteAt (pgD t) 2 := by rw [hd, ← ev2]; simp [gt]
    have g3 : tm = gt (pgD t) 3 4 := by rw [hd, ← ev3]
    have g4 : x = (pgD t).extract 7 (pgD t).size := by
      rw [hd, ← ex, Nat.min_self, Nat.add_sub_cancel' h7]
    rw [g1, g2, g3, g4]
    refine ⟨rg_spec h (by rw [hd]; exact h7), fun ho => by unfold rgV; rw [if_pos ho]⟩
  · have hf : rgOk t = false := rg_short (by rw [hd]; omega)
    rw [hf]
    refine ⟨?_, fun e => by cases e⟩
    rw [eq_comm, decide_eq_false_iff_not]
    intro e
    have := rp_len e h1
    omega
end Go.Proofs.YtccpdadabndleaaDoor
