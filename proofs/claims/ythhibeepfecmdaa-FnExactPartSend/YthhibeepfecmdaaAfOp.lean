/- 'append([]impl.Op{}, xs...)'. -/
import Derived.Test.YthhibeepfecmdaaCpOp
import Derived.ArgAppend
namespace Go.Proofs.Ythhibeepfecmdaa
open Go.ChangeShapes Go.WideShapes Go.ChangeAt Go.RowKit
set_option linter.unusedVariables false

theorem append_freshOp (w : World) (b : Nat) (hb : w.heap[b]? = some (.cells #[] 155)) (a : Option Addr) (n cap : Nat) (f0 : Nat → Int) (f1 : Nat → Int) (f2 : Nat → Int) (hn : n ≤ 4194304) (ha : a = none → n = 0 ∧ cap = 0) (h : OpS w a n f0 f1 f2) :
    ∃ b' cap' w', (Builtin.append_ #[74, 74] 74 #[.slice (some ⟨b, 0, none⟩) 0 0, .slice a n cap]).run Try.prog w = .ok (.slice (some ⟨b', 0, none⟩) n cap') w' ∧ (b' = b ∨ w.heap.size ≤ b') ∧ b' < w'.heap.size ∧ w'.ownsRow b' 155 3 (.slice (some ⟨b', 0, none⟩) n cap') n (cellsL (n * 3) (allOp f0 f1 f2)) ∧ Below w.heap.size w w' := by
  obtain ⟨i0, hi, hz0, hz1, hz2⟩ := cinfoOp
  have hlt := size_of_get hb
  have hown : w.ownsRow 0 155 3 (.slice (some ⟨b, 0, none⟩) 0 0) 0 [] := ⟨by simp, .inr ⟨b, 0, #[], rfl, Nat.zero_le _, hb, Nat.le_refl _, Nat.zero_le _, by simp, by simp⟩⟩
  by_cases hn0 : n = 0
  · subst hn0
    rcases a with _ | ad
    · obtain ⟨_, rfl⟩ := ha rfl
      exact ⟨b, 0, w, run_append_owned_none (P := Try.prog) (w := w) 0 74 74 155 i0 3 Try.underlying74 hi _ _ _ hown, .inl rfl, hlt, by simpa [cellsL] using own_base hown, Below.refl _ _⟩
    · have hr := run_append_room_cells (P := Try.prog) w 74 74 155 i0 Try.underlying74 hi b 0 0 0 ad 0 cap [] (by simp) (fun j u hj => by simp at hj) (fun u hu => by cases hu) (Nat.le_refl _) (fun j hj => by cases hj) (fun j hj => by cases hj)
      exact ⟨b, 0, w, hr, .inl rfl, hlt, by simpa [cellsL] using own_base hown, Below.refl _ _⟩
  rcases h with h0 | ⟨c, off, rfl, hlc, hc⟩
  · exact absurd h0 hn0
  have hbt : (0 + n) * i0.bytes ≤ 140737488355328 := by
    have := Nat.mul_le_mul (show 0 + n ≤ 4194304 by omega) hz2
    omega
  obtain ⟨v', w', hrun, r1, r2⟩ := run_append_arg_grows (P := Try.prog) w 74 74 155 i0 (.agg #[.int .i64 0, .int .i64 0, .int .i64 0]) 3 i0.bytes Try.underlying74 hi hz0 hz1 rfl rfl (by decide) ⟨b, 0, none⟩ 0 0 [] (by simp) (fun j u hj => by simp at hj) ⟨c, off, none⟩ n cap (cellsL (n * 3) (allOp f0 f1 f2)) (by rw [cellsL_length]) (rowOp_of hc).src (by omega) (by unfold maxLen; omega) hbt
  rw [List.nil_append, Nat.zero_add] at r1
  obtain ⟨a', cap', rfl, hr⟩ := own_row (n := n) (size := 3) (F := allOp f0 f1 f2) r1
  rcases hr with ⟨h0, _⟩ | ⟨b', rfl, hb1, hb2, hfr, hrow⟩
  · exact absurd h0 hn0
  · exact ⟨b', cap', w', hrun, .inr hb1, hb2, own_base r1, own_below (Below.refl _ _) r2 (Nat.le_refl _) (fun b e => by cases e)⟩
theorem own_OpS {w : World} {b n cap : Nat} {f0 : Nat → Int} {f1 : Nat → Int} {f2 : Nat → Int} (h : w.ownsRow b 155 3 (.slice (some ⟨b, 0, none⟩) n cap) n (cellsL (n * 3) (allOp f0 f1 f2))) : OpS w (some ⟨b, 0, none⟩) n f0 f1 f2 ∧ Free w b ∧ b < w.heap.size := by
  obtain ⟨a', cap', e, hr⟩ := own_row (n := n) (size := 3) (F := allOp f0 f1 f2) h
  cases e
  rcases hr with ⟨_, h0⟩ | ⟨b', e2, hb1, hb2, hfr, hrow⟩
  · cases h0
  · cases e2
    exact ⟨.inr ⟨b, 0, rfl, hb2, of_rowOp hrow⟩, hfr, hb2⟩
end Go.Proofs.Ythhibeepfecmdaa
