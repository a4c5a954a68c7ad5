/- What a text says of the packet with which it begins: pure facts. -/
import Derived.Test.YtgejiiaocgacmaaDoorPkQ
import Derived.Test.YtgejiiaocgacmaaDoorNumG
namespace Go.Proofs.YtgejiiaocgacmaaDoor
open Go.ChangeShapes Go.WideShapes Go.ChangeAt Go.RowKit
set_option linter.unusedVariables false

theorem byteAt_extP (t : ByteArray) (a b i : Nat) (h : i < b - a) : byteAt (t.extract a b) i = byteAt t (a + i) := by
  unfold byteAt
  rw [ByteArray.data_extract, Array.toList_extract, List.getD, List.getD, List.extract_eq_take_drop, List.getElem?_take_of_lt h, List.getElem?_drop]
theorem gt_extP (t : ByteArray) (a b j : Nat) : ∀ k, j + k ≤ b - a → gt (t.extract a b) j k = gt t (a + j) k
  | 0, _ => rfl
  | k + 1, h => by
    simp only [gt, gt_extP t a b j k (by omega), byteAt_extP t a b (j + k) (by omega), Nat.add_assoc]
def pgU (s : ByteArray) : Bool := decide (gt s 0 2 / 4096 % 2 = 1)
def pgA (s : ByteArray) : Int := (gt s 0 2 % 2048 : Nat)
def pgC (s : ByteArray) : Int := (gt s 2 2 % 16384 : Nat)
def pgL (s : ByteArray) : Nat := gt s 4 2 + 7
def pgD (s : ByteArray) : ByteArray := s.extract 6 (pgL s)
def pgPut (s : ByteArray) : ByteArray := pkPut (pgU s) (pgA s) (pgC s) (pgD s)
def pgOk (s : ByteArray) : Bool := decide (7 ≤ s.size) && decide (pgL s ≤ s.size) && decide (pgPut s = s.extract 0 (pgL s))
def pgV (s : ByteArray) : Value := if pgOk s = true then .agg #[.bool (pgU s), .int .i64 (pgA s), .int .i64 (pgC s), .string (pgD s)] else .agg #[.bool false, .int .i64 0, .int .i64 0, .string ⟨#[]⟩]
def pgN (s : ByteArray) : Int := if pgOk s = true then (pgL s : Nat) else 0
def lsP (t : ByteArray) : List UInt8 := t.data.toList
theorem lsP_size (a : ByteArray) : (lsP a).length = a.size := by unfold lsP; simp
theorem lsP_ext (t : ByteArray) (i j : Nat) : lsP (t.extract i j) = ((lsP t).drop i).take (j - i) := by
  unfold lsP; rw [ByteArray.data_extract, Array.toList_extract, List.extract_eq_take_drop]
theorem lsP_inj {a b : ByteArray} (h : lsP a = lsP b) : a = b := bytes_inj h
theorem byteAt_lsP (t : ByteArray) (i : Nat) : byteAt t i = ((lsP t).getD i 0).toNat := rfl
theorem hiloP {h : Int} (h0 : 0 ≤ h) (h1 : h < 65536) : (hiB h).toNat * 256 + (loB h).toNat = h.toNat := by
  unfold hiB loB
  rw [UInt8.toNat_ofNat', UInt8.toNat_ofNat']
  omega
theorem gt2P (t : ByteArray) (a : Nat) : gt t a 2 = byteAt t a * 256 + byteAt t (a + 1) := by simp [gt]
theorem pkW_lst {u : Bool} {a c : Int} {d : ByteArray} (h : pkOk a c d = true) : lsP (pkW u a c d) = [hiB (mkB u a), loB (mkB u a), hiB (49152 + c), loB (49152 + c), hiB ((d.size : Int) - 1), loB ((d.size : Int) - 1)] ++ lsP d := by
  obtain ⟨h0, h1, h2, h3, h4, h5⟩ := pkOk_all h
  have hm : 0 ≤ mkB u a ∧ mkB u a ≤ 65535 := by unfold mkB; split <;> omega
  unfold pkW lsP
  rw [putL_two hm.1 hm.2, putL_two (by omega) (by omega), putL_two (by omega) (by omega)]
  rfl
theorem pkPut_yes {u : Bool} {a c : Int} {d : ByteArray} (h : pkOk a c d = true) : pkPut u a c d = pkW u a c d := by unfold pkPut; rw [if_pos h]
theorem pkPut_size {u : Bool} {a c : Int} {d : ByteArray} (h : pkOk a c d = true) : (pkPut u a c d).size = d.size + 6 := by
  rw [pkPut_yes h, ← lsP_size, pkW_lst h]; simp [lsP_size]
theorem pkPut_len {u : Bool} {a c : Int} {d : ByteArray} (h : pkOk a c d = true) {s : ByteArray} (hp : s.extract 0 (pkPut u a c d).size = pkPut u a c d) (hs : (pkPut u a c d).size ≤ s.size) : gt s 4 2 + 1 = d.size := by
  obtain ⟨_, _, _, _, h4, h5⟩ := pkOk_all h
  have hz := pkPut_size (u := u) h
  have e : gt (s.extract 0 (pkPut u a c d).size) 4 2 = gt s 4 2 := by
    have := gt_extP s 0 (pkPut u a c d).size 4 2 (by omega)
    simpa using this
  rw [hp, pkPut_yes h, gt2P, byteAt_lsP, byteAt_lsP, pkW_lst h] at e
  have e2 := hiloP (h := (d.size : Int) - 1) (by omega) (by omega)
  have e3 : (hiB ((d.size : Int) - 1)).toNat * 256 + (loB ((d.size : Int) - 1)).toNat = gt s 4 2 := e
  omega
/-- What the reader comes to: the same. -/
theorem pg_end {s : ByteArray} {mark cnt : Nat} {d : ByteArray} {q : Bool} (h6 : 6 ≤ s.size → mark = gt s 0 2 ∧ cnt = gt s 2 2 ∧ d = s.extract 6 (min (pgL s) s.size))
    (hq : q = (decide (pkPut (decide (mark / 4096 % 2 = 1)) (mark % 2048 : Nat) (cnt % 16384 : Nat) d ≠ ⟨#[]⟩) && decide ((pkPut (decide (mark / 4096 % 2 = 1)) (mark % 2048 : Nat) (cnt % 16384 : Nat) d).size ≤ s.size) && decide (s.extract 0 (pkPut (decide (mark / 4096 % 2 = 1)) (mark % 2048 : Nat) (cnt % 16384 : Nat) d).size = pkPut (decide (mark / 4096 % 2 = 1)) (mark % 2048 : Nat) (cnt % 16384 : Nat) d))) :
    pgOk s = q ∧ (q = true → pgV s = .agg #[.bool (decide (mark / 4096 % 2 = 1)), .int .i64 (mark % 2048 : Nat), .int .i64 (cnt % 16384 : Nat), .string d] ∧ pgN s = (pkPut (decide (mark / 4096 % 2 = 1)) (mark % 2048 : Nat) (cnt % 16384 : Nat) d).size) ∧ (q = false → pgV s = .agg #[.bool false, .int .i64 0, .int .i64 0, .string ⟨#[]⟩] ∧ pgN s = 0) := by
  cases q with
  | true =>
    have hq' := hq.symm
    simp only [Bool.and_eq_true, decide_eq_true_eq] at hq'
    obtain ⟨⟨hne, hle⟩, hpre⟩ := hq'
    have hok : pkOk (mark % 2048 : Nat) (cnt % 16384 : Nat) d = true := by
      cases h : pkOk (mark % 2048 : Nat) (cnt % 16384 : Nat) d with
      | true => rfl
      | false => exact absurd (by unfold pkPut; rw [h]; rfl) hne
    have hz := pkPut_size (u := decide (mark / 4096 % 2 = 1)) hok
    obtain ⟨_, _, _, _, h4, h5⟩ := pkOk_all hok
    obtain ⟨e1, e2, e3⟩ := h6 (by omega)
    have hl := pkPut_len hok hpre hle
    have hL : pgL s = d.size + 6 := by unfold pgL; omega
    have hD : pgD s = d := by rw [e3]; unfold pgD; rw [Nat.min_eq_left (by omega)]
    have hput : pgPut s = pkPut (decide (mark / 4096 % 2 = 1)) (mark % 2048 : Nat) (cnt % 16384 : Nat) d := by
      unfold pgPut; rw [hD]; unfold pgU pgA pgC; rw [← e1, ← e2]
    have hg : pgOk s = true := by
      simp only [pgOk, Bool.and_eq_true, decide_eq_true_eq]
      refine ⟨⟨by omega, by omega⟩, ?_⟩
      rw [hput, hL, ← hz]; exact hpre.symm
    refine ⟨hg, fun _ => ⟨?_, ?_⟩, fun h => by cases h⟩
    · unfold pgV; rw [if_pos hg, hD]; unfold pgU pgA pgC; rw [← e1, ← e2]
    · unfold pgN; rw [if_pos hg, hL, hz]
  | false =>
    have hg : pgOk s = false := by
      cases h : pgOk s with
      | false => rfl
      | true =>
        exfalso
        simp only [pgOk, Bool.and_eq_true, decide_eq_true_eq] at h
        obtain ⟨⟨a1, a2⟩, a3⟩ := h
        obtain ⟨e1, e2, e3⟩ := h6 (by omega)
        have hD : pgD s = d := by rw [e3]; unfold pgD; rw [Nat.min_eq_left (by omega)]
        have hput : pgPut s = pkPut (decide (mark / 4096 % 2 = 1)) (mark % 2048 : Nat) (cnt % 16384 : Nat) d := by
          unfold pgPut; rw [hD]; unfold pgU pgA pgC; rw [← e1, ← e2]
        rw [hput] at a3
        have hsz : (pkPut (decide (mark / 4096 % 2 = 1)) (mark % 2048 : Nat) (cnt % 16384 : Nat) d).size = pgL s := by
          rw [a3, ByteArray.size_extract]; omega
        have hne : pkPut (decide (mark / 4096 % 2 = 1)) (mark % 2048 : Nat) (cnt % 16384 : Nat) d ≠ ⟨#[]⟩ := fun e => by
          rw [e] at hsz
          have h0 : (⟨#[]⟩ : ByteArray).size = 0 := rfl
          have : pgL s = gt s 4 2 + 7 := rfl
          omega
        have : (true : Bool) = false := by
          rw [hq]; symm
          simp only [Bool.and_eq_true, decide_eq_true_eq]
          exact ⟨⟨hne, by omega⟩, by rw [hsz]; exact a3.symm⟩
        cases this
    exact ⟨hg, (fun h => by cases h), fun _ => ⟨by unfold pgV; rw [hg]; rfl, by unfold pgN; rw [hg]; rfl⟩⟩
end Go.Proofs.YtgejiiaocgacmaaDoor
