/- What a frame is sent as: impl.frameKindOf, impl.frameFlags. -/
import Derived.Test.YtccpdadabndleaaDoorFr
import Derived.Test.YtccpdadabndleaaDoorHeap
namespace Go.Proofs.YtccpdadabndleaaDoor
open Go.ChangeShapes Go.WideShapes Go.ChangeAt Go.RowKit
set_option linter.unusedVariables false

end Go.Proofs.YtccpdadabndleaaDoor
