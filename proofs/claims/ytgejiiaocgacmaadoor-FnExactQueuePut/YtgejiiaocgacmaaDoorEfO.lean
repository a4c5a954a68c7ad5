/- io.EOF stays where only other blocks are written. -/
import Derived.Test.YtgejiiaocgacmaaDoorRdP
import Derived.Test.YtgejiiaocgacmaaDoorOwn
namespace Go.Proofs.YtgejiiaocgacmaaDoor
open Go.RowKit
set_option linter.unusedVariables false
theorem Eof.off {S : List Nat} {w w' : World} (h : Eof w) (k : Off S w w') (hS : 3 ∉ S) : Eof w' := by
  obtain ⟨v, h1, h2⟩ := h
  exact ⟨v, h1, Off.cell k h2 hS⟩
theorem Eof.lt {w : World} (h : Eof w) : 3 < w.heap.size := by
  obtain ⟨v, _, h⟩ := h
  exact block_lt_of_cell h
end Go.Proofs.YtgejiiaocgacmaaDoor
