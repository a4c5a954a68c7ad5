/- A text many times (Many), beside the slots. -/
import Derived.Test.YtccpdadabndleaaDoorSlot
import Derived.Test.YtccpdadabndleaaDoorMany
namespace Go.Proofs.YtccpdadabndleaaDoor
open Go.ChangeShapes Go.WideShapes Go.ChangeAt Go.RowKit
set_option linter.unusedVariables false
theorem of_lit (N g b k cap : Nat) (l : List ByteArray) (w : World) (hk : l.length = k) (hN : N ≤ 536870912) (hl : 1 ≤ k) (hl2 : k ≤ 1000) (hr : Rd N w g) (hb : b ≠ g) (hi : Strs w b l) :
    Calls Tryd.prog 79 #[.pointer (some ⟨g, 0, none⟩), .slice (some ⟨b, 0, none⟩) k cap] w fun e w' => ∃ y ∈ l, e = .returned (.string y) ∧ Only g w w' ∧ Rd (N + 1) w' g := by
  subst hk; exact of_any N g b cap l w hN hl hl2 hr hb hi
-- @FI@
theorem strs_new {w : World} {b : Nat} {T : TypeId} (e : b = w.heap.size) (l : List ByteArray) : Strs (w.alloc (.cells (l.map (Value.string ·)).toArray T)) b l := by subst e; exact Strs.new l
end Go.Proofs.YtccpdadabndleaaDoor
