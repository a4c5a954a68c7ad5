/- 'append(xs, x)' of ints, the row the call's own. -/
import Derived.Test.YthhibeepfecmdaaAfInt
namespace Go.Proofs.Ythhibeepfecmdaa
open Go.ChangeShapes Go.WideShapes Go.ChangeAt Go.RowKit
set_option linter.unusedVariables false

def snoc (n : Nat) (g : Nat → Int) (x : Int) : Nat → Int := fun i => if i < n then g i else x
theorem cellsL_snoc (n : Nat) (g : Nat → Int) (x : Int) : cellsL n (allInt g) ++ [.int .i64 x] = cellsL (n + 1) (allInt (snoc n g x)) := by
  unfold cellsL
  rw [List.range_succ, List.map_append]
  congr 1
  · refine List.map_congr_left fun i hi => ?_
    have := List.mem_range.1 hi
    simp [allInt, snoc, this]
  · simp [allInt, snoc]
theorem append_oneInt (w : World) (b n cap : Nat) (g : Nat → Int) (x : Int) (s : Nat) (hn : n ≤ 4194303) (h : w.ownsRow b 3 1 (.slice (some ⟨b, 0, none⟩) n cap) n (cellsL n (allInt g))) (hs : w.cell? ⟨s, 0, none⟩ = some (.int .i64 x)) :
    ∃ b' cap' w', (Builtin.append_ #[78, 78] 78 #[.slice (some ⟨b, 0, none⟩) n cap, .slice (some ⟨s, 0, none⟩) 1 1]).run Try.prog w = .ok (.slice (some ⟨b', 0, none⟩) (n + 1) cap') w' ∧ (b' = b ∨ w.heap.size ≤ b') ∧ b' < w'.heap.size ∧ w'.ownsRow b' 3 1 (.slice (some ⟨b', 0, none⟩) (n + 1) cap') (n + 1) (cellsL (n + 1) (allInt (snoc n g x))) ∧ Off [b] w w' := by
  obtain ⟨i0, hi, hz0, hz1, hz2⟩ := cinfoInt
  have hbt : (n + 1) * i0.bytes ≤ 140737488355328 := by
    have := Nat.mul_le_mul (show n + 1 ≤ 4194304 by omega) hz2
    omega
  have hnews : ∀ j u, ([.int .i64 x] : List Value)[j]? = some u → w.cell? ((⟨s, 0, none⟩ : Addr).add j) = some u := by
    intro j u hj
    rcases Nat.eq_zero_or_pos j with e | e
    · subst e
      simp at hj
      subst hj
      simpa [Addr.add] using hs
    · rw [List.getElem?_eq_none (by simp; omega)] at hj
      cases hj
  have hone : ∀ u ∈ ([.int .i64 x] : List Value), u.oneCell' = true := by
    intro u hu
    simp at hu
    subst hu
    rfl
  obtain ⟨v', w', hr, ho, hg, _⟩ := run_append_own (P := Try.prog) w b 78 78 3 i0 (.int .i64 0) 1 i0.bytes Try.underlying78 hi hz0 hz1 rfl rfl (by decide) (.slice (some ⟨b, 0, none⟩) n cap) n _ h ⟨s, 0, none⟩ 1 1 [.int .i64 x] rfl hnews hone (by unfold maxLen; omega) hbt (by
    rcases h.2 with ⟨e, _⟩ | ⟨gg, _, _, _, h4, h5, _⟩
    · cases e
    · have := size_of_get h5; omega)
  rw [cellsL_snoc] at ho
  have hoff : Off [b] w w' := own_off hg (fun k e => by simp [Value.ownBlock] at e; simp [e])
  rcases h.2 with ⟨e, _⟩ | ⟨gg, cc, cur, e, h4, h5, h6, h7, h8, h9⟩
  · cases e
  cases e
  have hend : ∀ b' cap', v' = .slice (some ⟨b', 0, none⟩) (n + 1) cap' → b' < w'.heap.size := by
    intro b' cap' e
    subst e
    rcases ho.2 with ⟨e, _⟩ | ⟨_, _, _, e, _, k5, _⟩
    · cases e
    · cases e; exact size_of_get k5
  by_cases hroom : n + 1 ≤ cap
  · have hr2 := run_append_room (P := Try.prog) w 78 78 3 i0 Try.underlying78 hi b n cap cur h5 ⟨s, 0, none⟩ 1 1 [.int .i64 x] (by rw [hz1]; rfl) hnews hone hroom (by rw [hz1, h8]; simp; omega)
    rw [hr] at hr2
    cases hr2
    exact ⟨b, cap, _, hr, .inl rfl, hend _ _ rfl, own_base ho, hoff⟩
  · obtain ⟨v2, w2, hr2, r1, r2⟩ := run_append_arg_grows (P := Try.prog) w 78 78 3 i0 (.int .i64 0) 1 i0.bytes Try.underlying78 hi hz0 hz1 rfl rfl (by decide) ⟨b, 0, none⟩ n cap (cellsL n (allInt g)) (by rw [cellsL_length]; omega) (h.cells (g := b) rfl) ⟨s, 0, none⟩ 1 1 [.int .i64 x] rfl hnews (by omega) (by unfold maxLen; omega) hbt
    rw [hr] at hr2
    cases hr2
    rw [cellsL_snoc] at r1
    rcases r1.2 with ⟨_, e⟩ | ⟨gg, c2, cur2, e, k4, k5, _⟩
    · omega
    · subst e
      exact ⟨gg, c2, _, hr, .inr k4, size_of_get k5, own_base ho, hoff⟩
theorem own_ty_ne {w : World} {b b' s s' n n' c c' : Nat} {e e' : TypeId} {xs xs' : List Value} (h : w.ownsRow b e s (.slice (some ⟨b, 0, none⟩) n c) n xs) (k : w.ownsRow b' e' s' (.slice (some ⟨b', 0, none⟩) n' c') n' xs') (hne : e ≠ e') : b ≠ b' := by
  rintro rfl
  rcases h.2 with ⟨x, _⟩ | ⟨g, _, cur, x, _, h5, _⟩
  · cases x
  cases x
  rcases k.2 with ⟨x, _⟩ | ⟨g, _, cur2, x, _, k5, _⟩
  · cases x
  cases x
  rw [h5] at k5
  cases k5
  exact hne rfl
theorem own_offn {S : List Nat} {w w' : World} {b size n m cap : Nat} {e : TypeId} {xs : List Value} (h : w.ownsRow b e size (.slice (some ⟨b, 0, none⟩) m cap) n xs) (hb : Off S w w') (hS : b ∉ S) : w'.ownsRow b e size (.slice (some ⟨b, 0, none⟩) m cap) n xs := by
  obtain ⟨h1, h2⟩ := h
  refine ⟨h1, ?_⟩
  rcases h2 with ⟨x, _⟩ | ⟨g, c, cur, h3, h4, h5, h6⟩
  · cases x
  · cases h3; exact .inr ⟨b, cap, cur, rfl, h4, hb.get h5 hS, h6⟩
theorem own_lt {w : World} {b size n m cap : Nat} {e : TypeId} {xs : List Value} (h : w.ownsRow b e size (.slice (some ⟨b, 0, none⟩) m cap) n xs) : b < w.heap.size := by
  rcases h.2 with ⟨x, _⟩ | ⟨g, c, cur, h3, h4, h5, h6⟩
  · cases x
  · cases h3; exact size_of_get h5
theorem own_set_ne {w : World} {b size n m cap g j : Nat} {e : TypeId} {c : Value} {xs : List Value} (h : w.ownsRow b e size (.slice (some ⟨b, 0, none⟩) m cap) n xs) (hg : g ≠ b) : (w.setCell ⟨g, j, none⟩ c).ownsRow b e size (.slice (some ⟨b, 0, none⟩) m cap) n xs := by
  obtain ⟨h1, h2⟩ := h
  refine ⟨h1, ?_⟩
  rcases h2 with ⟨x, _⟩ | ⟨b', c', cur, h3, h4, h5, h6⟩
  · cases x
  · cases h3; exact .inr ⟨b, cap, cur, rfl, h4, get_set_ne h5 hg.symm, h6⟩
end Go.Proofs.Ythhibeepfecmdaa
