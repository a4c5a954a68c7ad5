/- What a frame is sent as: impl.frameKindOf, impl.frameFlags. -/
import Derived.Test.YtgejiiaocgacmaaDoorFr
import Derived.Test.YtgejiiaocgacmaaDoorHeap
namespace Go.Proofs.YtgejiiaocgacmaaDoor
open Go.ChangeShapes Go.WideShapes Go.ChangeAt Go.RowKit
set_option linter.unusedVariables false

end Go.Proofs.YtgejiiaocgacmaaDoor
