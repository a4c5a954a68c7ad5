/- 'append([]string{}, xs...)'. -/
import Derived.Test.YtgejiiaocgacmaaDoorCpString
import Derived.ArgAppend
namespace Go.Proofs.YtgejiiaocgacmaaDoor
open Go.ChangeShapes Go.WideShapes Go.ChangeAt Go.RowKit
set_option linter.unusedVariables false

theorem append_freshString (w : World) (b : Nat) (hb : w.heap[b]? = some (.cells #[] 9)) (a : Option Addr) (n cap : Nat) (f : Nat → ByteArray) (hn : n ≤ 4194304) (ha : a = none → n = 0 ∧ cap = 0) (h : Txt w a n f) :
    ∃ b' cap' w', (Builtin.append_ #[34, 34] 34 #[.slice (some ⟨b, 0, none⟩) 0 0, .slice a n cap]).run Tryd.prog w = .ok (.slice (some ⟨b', 0, none⟩) n cap') w' ∧ (b' = b ∨ w.heap.size ≤ b') ∧ b' < w'.heap.size ∧ w'.ownsRow b' 9 1 (.slice (some ⟨b', 0, none⟩) n cap') n (cellsL (n) (allString f)) ∧ Below w.heap.size w w' := by
  obtain ⟨i0, hi, hz0, hz1, hz2⟩ := cinfoString
  have hlt := size_of_get hb
  have hown : w.ownsRow 0 9 1 (.slice (some ⟨b, 0, none⟩) 0 0) 0 [] := ⟨by simp, .inr ⟨b, 0, #[], rfl, Nat.zero_le _, hb, Nat.le_refl _, Nat.zero_le _, by simp, by simp⟩⟩
  by_cases hn0 : n = 0
  · subst hn0
    rcases a with _ | ad
    · obtain ⟨_, rfl⟩ := ha rfl
      exact ⟨b, 0, w, run_append_owned_none (P := Tryd.prog) (w := w) 0 34 34 9 i0 1 Tryd.underlying34 hi _ _ _ hown, .inl rfl, hlt, by simpa [cellsL] using own_base hown, Below.refl _ _⟩
    · have hr := run_append_room_cells (P := Tryd.prog) w 34 34 9 i0 Tryd.underlying34 hi b 0 0 0 ad 0 cap [] (by simp) (fun j u hj => by simp at hj) (fun u hu => by cases hu) (Nat.le_refl _) (fun j hj => by cases hj) (fun j hj => by cases hj)
      exact ⟨b, 0, w, hr, .inl rfl, hlt, by simpa [cellsL] using own_base hown, Below.refl _ _⟩
  have hsz := h.1
  have h := h.2
  rcases h with h0 | ⟨c, off, rfl, hlc, hc⟩
  · exact absurd h0 hn0
  have hbt : (0 + n) * i0.bytes ≤ 140737488355328 := by
    have := Nat.mul_le_mul (show 0 + n ≤ 4194304 by omega) hz2
    omega
  obtain ⟨v', w', hrun, r1, r2⟩ := run_append_arg_grows (P := Tryd.prog) w 34 34 9 i0 (.string ⟨#[]⟩) 1 i0.bytes Tryd.underlying34 hi hz0 hz1 rfl rfl (by decide) ⟨b, 0, none⟩ 0 0 [] (by simp) (fun j u hj => by simp at hj) ⟨c, off, none⟩ n cap (cellsL (n) (allString f)) (by rw [cellsL_length]; omega) (rowString_of hc).src (by omega) (by unfold maxLen; omega) hbt
  rw [List.nil_append, Nat.zero_add] at r1
  obtain ⟨a', cap', rfl, hr⟩ := own_row (n := n) (size := 1) (F := allString f) (by simpa using r1)
  rcases hr with ⟨h0, _⟩ | ⟨b', rfl, hb1, hb2, hfr, hrow⟩
  · exact absurd h0 hn0
  · exact ⟨b', cap', w', hrun, .inr hb1, hb2, own_base (by simpa using r1), own_below (Below.refl _ _) r2 (Nat.le_refl _) (fun b e => by cases e)⟩
end Go.Proofs.YtgejiiaocgacmaaDoor
