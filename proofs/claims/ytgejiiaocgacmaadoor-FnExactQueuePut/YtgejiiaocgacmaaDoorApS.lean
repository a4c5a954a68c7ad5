/- 'append(xs, x)' of texts, the row the call's own. -/
import Derived.Test.YtgejiiaocgacmaaDoorAfString
import Derived.Test.YtgejiiaocgacmaaDoorOwnX
namespace Go.Proofs.YtgejiiaocgacmaaDoor
open Go.ChangeShapes Go.WideShapes Go.ChangeAt Go.RowKit
set_option linter.unusedVariables false

def snocS (n : Nat) (g : Nat → ByteArray) (x : ByteArray) : Nat → ByteArray := fun i => if i < n then g i else x
theorem cellsL_snocS (n : Nat) (g : Nat → ByteArray) (x : ByteArray) : cellsL n (allString g) ++ [.string x] = cellsL (n + 1) (allString (snocS n g x)) := by
  unfold cellsL
  rw [List.range_succ, List.map_append]
  congr 1
  · refine List.map_congr_left fun i hi => ?_
    have := List.mem_range.1 hi
    simp [allString, snocS, this]
  · simp [allString, snocS]
theorem append_oneString (w : World) (b n cap : Nat) (g : Nat → ByteArray) (x : ByteArray) (s : Nat) (hn : n ≤ 4194303) (h : w.ownsRow b 9 1 (.slice (some ⟨b, 0, none⟩) n cap) n (cellsL n (allString g))) (hs : w.cell? ⟨s, 0, none⟩ = some (.string x)) :
    ∃ b' cap' w', (Builtin.append_ #[34, 34] 34 #[.slice (some ⟨b, 0, none⟩) n cap, .slice (some ⟨s, 0, none⟩) 1 1]).run Tryd.prog w = .ok (.slice (some ⟨b', 0, none⟩) (n + 1) cap') w' ∧ (b' = b ∨ w.heap.size ≤ b') ∧ b' < w'.heap.size ∧ w'.ownsRow b' 9 1 (.slice (some ⟨b', 0, none⟩) (n + 1) cap') (n + 1) (cellsL (n + 1) (allString (snocS n g x))) ∧ Off [b] w w' := by
  obtain ⟨i0, hi, hz0, hz1, hz2⟩ := cinfoString
  have hbt : (n + 1) * i0.bytes ≤ 140737488355328 := by
    have := Nat.mul_le_mul (show n + 1 ≤ 4194304 by omega) hz2
    omega
  have hnews : ∀ j u, ([.string x] : List Value)[j]? = some u → w.cell? ((⟨s, 0, none⟩ : Addr).add j) = some u := by
    intro j u hj
    rcases Nat.eq_zero_or_pos j with e | e
    · subst e
      simp at hj
      subst hj
      simpa [Addr.add] using hs
    · rw [List.getElem?_eq_none (by simp; omega)] at hj
      cases hj
  have hone : ∀ u ∈ ([.string x] : List Value), u.oneCell' = true := by
    intro u hu
    simp at hu
    subst hu
    rfl
  obtain ⟨v', w', hr, ho, hg, _⟩ := run_append_own (P := Tryd.prog) w b 34 34 9 i0 (.string ⟨#[]⟩) 1 i0.bytes Tryd.underlying34 hi hz0 hz1 rfl rfl (by decide) (.slice (some ⟨b, 0, none⟩) n cap) n _ h ⟨s, 0, none⟩ 1 1 [.string x] rfl hnews hone (by unfold maxLen; omega) hbt (by
    rcases h.2 with ⟨e, _⟩ | ⟨gg, _, _, _, h4, h5, _⟩
    · cases e
    · have := size_of_get h5; omega)
  rw [cellsL_snocS] at ho
  have hoff : Off [b] w w' := own_off hg (fun k e => by simp [Value.ownBlock] at e; simp [e])
  rcases h.2 with ⟨e, _⟩ | ⟨gg, cc, cur, e, h4, h5, h6, h7, h8, h9⟩
  · cases e
  cases e
  have hend : ∀ b' cap', v' = .slice (some ⟨b', 0, none⟩) (n + 1) cap' → b' < w'.heap.size := by
    intro b' cap' e
    subst e
    rcases ho.2 with ⟨e, _⟩ | ⟨_, _, _, e, _, k5, _⟩
    · cases e
    · cases e; exact size_of_get k5
  by_cases hroom : n + 1 ≤ cap
  · have hr2 := run_append_room (P := Tryd.prog) w 34 34 9 i0 Tryd.underlying34 hi b n cap cur h5 ⟨s, 0, none⟩ 1 1 [.string x] (by rw [hz1]; rfl) hnews hone hroom (by rw [hz1, h8]; simp; omega)
    rw [hr] at hr2
    cases hr2
    exact ⟨b, cap, _, hr, .inl rfl, hend _ _ rfl, own_base ho, hoff⟩
  · obtain ⟨v2, w2, hr2, r1, r2⟩ := run_append_arg_grows (P := Tryd.prog) w 34 34 9 i0 (.string ⟨#[]⟩) 1 i0.bytes Tryd.underlying34 hi hz0 hz1 rfl rfl (by decide) ⟨b, 0, none⟩ n cap (cellsL n (allString g)) (by rw [cellsL_length]; omega) (h.cells (g := b) rfl) ⟨s, 0, none⟩ 1 1 [.string x] rfl hnews (by omega) (by unfold maxLen; omega) hbt
    rw [hr] at hr2
    cases hr2
    rw [cellsL_snocS] at r1
    rcases r1.2 with ⟨_, e⟩ | ⟨gg, c2, cur2, e, k4, k5, _⟩
    · omega
    · subst e
      exact ⟨gg, c2, _, hr, .inr k4, size_of_get k5, own_base ho, hoff⟩
end Go.Proofs.YtgejiiaocgacmaaDoor
