/- The block that a slice lies in. Nothing of the program. -/
import Derived.Test.YthhibeepfecmdaaOwn
namespace Go.Proofs.Ythhibeepfecmdaa
def blkOf : Value → Nat
  | .slice (some a) _ _ => a.block
  | _ => 0
end Go.Proofs.Ythhibeepfecmdaa
