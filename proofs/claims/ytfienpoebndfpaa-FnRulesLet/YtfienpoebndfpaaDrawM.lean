/- A text many times (Many), beside the slots. -/
import Derived.Test.YtfienpoebndfpaaSlot
import Derived.Test.YtfienpoebndfpaaMany
namespace Go.Proofs.Ytfienpoebndfpaa
open Go.ChangeShapes Go.WideShapes Go.ChangeAt Go.RowKit
set_option linter.unusedVariables false
-- @FI@
theorem strs_new {w : World} {b : Nat} {T : TypeId} (e : b = w.heap.size) (l : List ByteArray) : Strs (w.alloc (.cells (l.map (Value.string ·)).toArray T)) b l := by subst e; exact Strs.new l
end Go.Proofs.Ytfienpoebndfpaa
