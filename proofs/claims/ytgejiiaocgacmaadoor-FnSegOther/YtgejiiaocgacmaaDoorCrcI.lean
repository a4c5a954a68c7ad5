/- The contract of impl.Crc16. -/
import Derived.Test.YtgejiiaocgacmaaDoorCrcT
import Derived.Deep.RegionWith
import Derived.Laws.Rows
namespace Go.Proofs.YtgejiiaocgacmaaDoor
open Go.ChangeShapes Go.WideShapes Go.ChangeAt Go.RowKit
set_option linter.unusedVariables false

def crcTo (s : ByteArray) : Nat → Nat
  | 0 => 65535
  | k + 1 => cb (crcTo s k) (byteAt s k)
theorem crcTo_lt (s : ByteArray) : ∀ k, crcTo s k < 65536
  | 0 => by simp [crcTo]
  | k + 1 => cb_lt (crcTo_lt s k) (byteAt_lt s k)

theorem bcell {W w1 : World} (hb : Below W.heap.size W w1) : (∀ b o, b < W.heap.size → w1.cell? ⟨b, o, none⟩ = W.cell? ⟨b, o, none⟩) ∧ (∀ b o, b < W.heap.size → w1.frozen? ⟨b, o, none⟩ = W.frozen? ⟨b, o, none⟩) :=
  ⟨fun b o h => hb.cell (p := ⟨b, o, none⟩) h, fun b o h => hb.frozen (p := ⟨b, o, none⟩) h⟩
end Go.Proofs.YtgejiiaocgacmaaDoor
