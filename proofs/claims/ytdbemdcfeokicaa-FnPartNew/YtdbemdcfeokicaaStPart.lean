/- A struct of slices: laws.szPart, laws.toPart, laws.eqPart. -/
import Derived.Test.YtdbemdcfeokicaaNum
import Derived.Test.YtdbemdcfeokicaaHeap
import Derived.Test.YtdbemdcfeokicaaKeep
import Derived.Test.YtdbemdcfeokicaaCellsN
import Derived.Test.YtdbemdcfeokicaaInS
import Derived.Test.YtdbemdcfeokicaaSlOp
namespace Go.Proofs.Ytdbemdcfeokicaa
open Go.ChangeShapes Go.WideShapes Go.ChangeAt Go.RowKit
set_option linter.unusedVariables false

theorem cellsPart : (Try.prog.info? 54).map (·.size) = some 5 := by kernel_rfl
end Go.Proofs.Ytdbemdcfeokicaa
