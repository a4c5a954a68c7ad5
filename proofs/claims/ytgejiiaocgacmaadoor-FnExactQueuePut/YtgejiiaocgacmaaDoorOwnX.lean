/- Rows of the call's own: apart, kept. Nothing of the program. -/
import Derived.Test.YtgejiiaocgacmaaDoorOwn
namespace Go.Proofs.YtgejiiaocgacmaaDoor
open Go.RowKit
set_option linter.unusedVariables false
theorem own_ty_ne {w : World} {b b' s s' n n' c c' : Nat} {e e' : TypeId} {xs xs' : List Value} (h : w.ownsRow b e s (.slice (some ⟨b, 0, none⟩) n c) n xs) (k : w.ownsRow b' e' s' (.slice (some ⟨b', 0, none⟩) n' c') n' xs') (hne : e ≠ e') : b ≠ b' := by
  rintro rfl
  rcases h.2 with ⟨x, _⟩ | ⟨g, _, cur, x, _, h5, _⟩
  · cases x
  cases x
  rcases k.2 with ⟨x, _⟩ | ⟨g, _, cur2, x, _, k5, _⟩
  · cases x
  cases x
  rw [h5] at k5
  cases k5
  exact hne rfl
theorem own_offn {S : List Nat} {w w' : World} {b size n m cap : Nat} {e : TypeId} {xs : List Value} (h : w.ownsRow b e size (.slice (some ⟨b, 0, none⟩) m cap) n xs) (hb : Off S w w') (hS : b ∉ S) : w'.ownsRow b e size (.slice (some ⟨b, 0, none⟩) m cap) n xs := by
  obtain ⟨h1, h2⟩ := h
  refine ⟨h1, ?_⟩
  rcases h2 with ⟨x, _⟩ | ⟨g, c, cur, h3, h4, h5, h6⟩
  · cases x
  · cases h3; exact .inr ⟨b, cap, cur, rfl, h4, hb.get h5 hS, h6⟩
theorem own_lt {w : World} {b size n m cap : Nat} {e : TypeId} {xs : List Value} (h : w.ownsRow b e size (.slice (some ⟨b, 0, none⟩) m cap) n xs) : b < w.heap.size := by
  rcases h.2 with ⟨x, _⟩ | ⟨g, c, cur, h3, h4, h5, h6⟩
  · cases x
  · cases h3; exact size_of_get h5
theorem own_set_ne {w : World} {b size n m cap g j : Nat} {e : TypeId} {c : Value} {xs : List Value} (h : w.ownsRow b e size (.slice (some ⟨b, 0, none⟩) m cap) n xs) (hg : g ≠ b) : (w.setCell ⟨g, j, none⟩ c).ownsRow b e size (.slice (some ⟨b, 0, none⟩) m cap) n xs := by
  obtain ⟨h1, h2⟩ := h
  refine ⟨h1, ?_⟩
  rcases h2 with ⟨x, _⟩ | ⟨b', c', cur, h3, h4, h5, h6⟩
  · cases x
  · cases h3; exact .inr ⟨b, cap, cur, rfl, h4, get_set_ne h5 hg.symm, h6⟩
end Go.Proofs.YtgejiiaocgacmaaDoor
