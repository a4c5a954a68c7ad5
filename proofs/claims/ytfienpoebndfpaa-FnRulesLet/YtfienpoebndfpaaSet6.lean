/- Six cells of one block stored. -/
import Derived.Test.YtfienpoebndfpaaNum
import Derived.Laws.Rows
namespace Go.Proofs.Ytfienpoebndfpaa
theorem set1 (w : World) (g j : Nat) (t : TypeId) (cs : Array Value) (c : Value) (h : w.heap[g]? = some (.cells cs t)) :
    (w.setCell ⟨g, j, none⟩ c).heap[g]? = some (.cells (cs.setIfInBounds j c) t) := by
  simp only [World.setCell, Array.getElem?_modify, h]
  simp
theorem set6 (w1 : World) (g : Nat) (t : TypeId) (o0 o1 o2 o3 o4 o5 c0 c1 c2 c3 c4 c5 : Value) (h : w1.heap[g]? = some (.cells #[o0, o1, o2, o3, o4, o5] t)) :
    ((((((w1.setCell ⟨g, 0, none⟩ c0).setCell ⟨g, 1, none⟩ c1).setCell ⟨g, 2, none⟩ c2).setCell ⟨g, 3, none⟩ c3).setCell ⟨g, 4, none⟩ c4).setCell ⟨g, 5, none⟩ c5).heap[g]? = some (.cells #[c0, c1, c2, c3, c4, c5] t) := by
  exact set1 _ g 5 t _ c5 (set1 _ g 4 t _ c4 (set1 _ g 3 t _ c3 (set1 _ g 2 t _ c2 (set1 _ g 1 t _ c1 (set1 w1 g 0 t _ c0 h)))))
theorem cells26 : (Try.prog.info? 125).map (·.size) = some 6 := by kernel_rfl
theorem below6 {B : Nat} {w w1 : World} (h : RowKit.Below B w w1) (g : Nat) (hB : B ≤ g) (c0 c1 c2 c3 c4 c5 : Value) :
    RowKit.Below B w ((((((w1.setCell ⟨g, 0, none⟩ c0).setCell ⟨g, 1, none⟩ c1).setCell ⟨g, 2, none⟩ c2).setCell ⟨g, 3, none⟩ c3).setCell ⟨g, 4, none⟩ c4).setCell ⟨g, 5, none⟩ c5) :=
  (((((h.setCell (p := ⟨g, 0, none⟩) hB c0).setCell (p := ⟨g, 1, none⟩) hB c1).setCell (p := ⟨g, 2, none⟩) hB c2).setCell (p := ⟨g, 3, none⟩) hB c3).setCell (p := ⟨g, 4, none⟩) hB c4).setCell (p := ⟨g, 5, none⟩) hB c5
end Go.Proofs.Ytfienpoebndfpaa
