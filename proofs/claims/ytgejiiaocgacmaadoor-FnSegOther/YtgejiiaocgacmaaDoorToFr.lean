/- The contracts of laws.szFrame and laws.toFrame. -/
import Derived.Test.YtgejiiaocgacmaaDoorFr
import Derived.Test.YtgejiiaocgacmaaDoorSet6
namespace Go.Proofs.YtgejiiaocgacmaaDoor
open Go.ChangeShapes Go.WideShapes Go.ChangeAt Go.RowKit
set_option linter.unusedVariables false

theorem mid3 (w : World) (A B C : Obj) : (((w.alloc A).alloc B).alloc C).heap[w.heap.size + 1]? = some B := by
  rw [Below.heap_alloc ((w.alloc A).alloc B) C (w.heap.size + 1) (by simp)]
  exact heap_alloc2_new w A B
end Go.Proofs.YtgejiiaocgacmaaDoor
