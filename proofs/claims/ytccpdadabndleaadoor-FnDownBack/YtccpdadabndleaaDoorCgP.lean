/- What a text says of a command: pure facts; the reader's byte where there is one. -/
import Derived.Test.YtccpdadabndleaaDoorRgI
import Derived.Test.YtccpdadabndleaaDoorCmP
namespace Go.Proofs.YtccpdadabndleaaDoor
open Go.ChangeShapes Go.WideShapes Go.ChangeAt Go.RowKit
set_option linter.unusedVariables false

def cgT (t : ByteArray) : ByteArray := t.extract 0 (t.size - 2)
def cgShape (t : ByteArray) : Bool := pgOk t && decide (pgL t = t.size) && pgU t
def cgSumB (t : ByteArray) : Bool := decide (gt t (t.size - 2) 2 = crcTo (cgT t) (cgT t).size)
def cgSum (t : ByteArray) : Bool := decide (2 ≤ (pgD t).size) && cgSumB t
def cgHead (t : ByteArray) : Bool := decide (6 ≤ (pgD t).size) && decide (byteAt (pgD t) 0 = 47) && decide ((pgD t).size ≤ 66)
def cgK (t : ByteArray) : Int := if cgShape t = false then 1 else if cgSum t = false then 2 else if cgHead t = false then 3 else 0
def cgV (t : ByteArray) : Value := if cgK t = 0 then .agg #[.int .i64 (pgA t), .int .i64 (pgC t), .int .i64 (byteAt (pgD t) 3 : Nat), .int .i64 (byteAt (pgD t) 1 : Nat), .int .i64 (byteAt (pgD t) 2 : Nat), .string ((pgD t).extract 4 ((pgD t).size - 2))] else .agg #[.int .i64 0, .int .i64 0, .int .i64 0, .int .i64 0, .int .i64 0, .string ⟨#[]⟩]
theorem cgV_agg (t : ByteArray) : ∃ (a c so sv sb : Int) (d : ByteArray), cgV t = .agg #[.int .i64 a, .int .i64 c, .int .i64 so, .int .i64 sv, .int .i64 sb, .string d] := by
  unfold cgV
  split
  · exact ⟨_, _, _, _, _, _, rfl⟩
  · exact ⟨_, _, _, _, _, _, rfl⟩
theorem cgK_1 {t : ByteArray} (h : cgShape t = false) : cgK t = 1 := by unfold cgK; rw [if_pos h]
theorem cgK_2 {t : ByteArray} (h : cgShape t = true) (h2 : cgSum t = false) : cgK t = 2 := by unfold cgK; rw [h, h2]; rfl
theorem cgK_3 {t : ByteArray} (h : cgShape t = true) (h2 : cgSum t = true) (h3 : cgHead t = false) : cgK t = 3 := by unfold cgK; rw [h, h2, h3]; rfl
theorem cgK_0 {t : ByteArray} (h : cgShape t = true) (h2 : cgSum t = true) (h3 : cgHead t = true) : cgK t = 0 := by unfold cgK; rw [h, h2, h3]; rfl
theorem cgV_no {t : ByteArray} (h : cgK t ≠ 0) : cgV t = .agg #[.int .i64 0, .int .i64 0, .int .i64 0, .int .i64 0, .int .i64 0, .string ⟨#[]⟩] := by unfold cgV; rw [if_neg h]
theorem cgV_yes {t : ByteArray} (h : cgK t = 0) : cgV t = .agg #[.int .i64 (pgA t), .int .i64 (pgC t), .int .i64 (byteAt (pgD t) 3 : Nat), .int .i64 (byteAt (pgD t) 1 : Nat), .int .i64 (byteAt (pgD t) 2 : Nat), .string ((pgD t).extract 4 ((pgD t).size - 2))] := by unfold cgV; rw [if_pos h]
theorem cgT_size {t : ByteArray} (h : 2 ≤ t.size) : (cgT t).size = t.size - 2 := by unfold cgT; rw [ByteArray.size_extract]; omega
theorem rnum1 (g : Nat) (s : ByteArray) (i : Nat) (w : World) (hs : s.size ≤ 1048576) (h : Prd w g s i) (he : Eof w) (hg : 1 ≠ g) (hi : i + 1 ≤ s.size) :
    Calls Tryd.prog 58 #[.pointer (some ⟨g, 0, none⟩), .int .i64 1] w fun e w' => e = .returned (.int .i64 (byteAt s i : Nat)) ∧ Prd w' g s (i + 1) ∧ Only g w w' :=
  (rnumber1 g s i w hs h he hg).mono fun e w' ⟨h1, h2, h3⟩ => by
    rw [if_pos (by omega)] at h1
    rw [Nat.min_eq_left (by omega)] at h2
    refine ⟨?_, h2, h3⟩
    rw [h1]; simp [gt]
theorem rtextE (g : Nat) (s : ByteArray) (i : Nat) (w : World) (hs : s.size ≤ 1048576) (h : Prd w g s i) (he : Eof w) (hg : 1 ≠ g) (hi : i ≤ s.size) :
    Calls Tryd.prog 59 #[.pointer (some ⟨g, 0, none⟩), .int .i64 ((s.size : Int) - i)] w fun e w' => e = .returned (.string (s.extract i s.size)) ∧ Only g w w' :=
  (rtextR g s i w hs h he hg).mono fun e w' ⟨h1, h2⟩ => by
    rw [Nat.min_self, Nat.add_sub_cancel' hi] at h1
    exact ⟨h1, h2⟩
/-- The data ahead of the sum. -/
theorem cg_ext {d d2 : ByteArray} (h : d2 = d.extract 0 (d.size - 2)) : d2.size = d.size - 2 ∧ (∀ i, i < d.size - 2 → byteAt d2 i = byteAt d i) ∧ d2.extract 4 d2.size = d.extract 4 (d.size - 2) := by
  have hz : d2.size = d.size - 2 := by rw [h, ByteArray.size_extract]; omega
  refine ⟨hz, fun i hi => ?_, ?_⟩
  · rw [h, byteAt_extP d 0 (d.size - 2) i (by omega), Nat.zero_add]
  · rw [hz, h, ByteArray.extract_extract, Nat.zero_add, Nat.zero_add, Nat.min_self]
end Go.Proofs.YtccpdadabndleaaDoor
