/- The contract of impl.newSumTable. -/
import Derived.Test.YtgejiiaocgacmaaDoorCrcW
namespace Go.Proofs.YtgejiiaocgacmaaDoor
open Go.ChangeShapes Go.WideShapes Go.ChangeAt Go.RowKit
set_option linter.unusedVariables false

def tabTo (k : Nat) : Array Value := ((List.range 16).map fun i => Value.int .u16 ((if i < k then tws (i * 4096) 4 else 0 : Nat) : Int)).toArray
theorem tabTo_all : tabTo 16 = tabV := by
  kernel_rfl
theorem tabTo_next (k : Nat) (h : k < 16) : (tabTo k).setIfInBounds k (Value.int .u16 (tws (k * 4096) 4 : Nat)) = tabTo (k + 1) := by
  apply Array.ext
  · simp [tabTo]
  · intro i h1 h2
    have hi : i < 16 := by simpa [tabTo] using h2
    simp only [tabTo]
    by_cases e : k = i
    · subst e; simp
    · simp [e]
      by_cases hk : i < k
      · simp [hk, show i < k + 1 from by omega]
      · simp [hk, show ¬ i < k + 1 from by omega]
theorem tabTo_size (k : Nat) : (tabTo k).size = 16 := by simp [tabTo]

theorem tabTo_lit : tabTo 16 = (#[.int .u16 0, .int .u16 4129, .int .u16 8258, .int .u16 12387, .int .u16 16516, .int .u16 20645, .int .u16 24774, .int .u16 28903, .int .u16 33032, .int .u16 37161, .int .u16 41290, .int .u16 45419, .int .u16 49548, .int .u16 53677, .int .u16 57806, .int .u16 61935] : Array Value) := by kernel_rfl
theorem tabV_lit : tabV = (#[.int .u16 0, .int .u16 4129, .int .u16 8258, .int .u16 12387, .int .u16 16516, .int .u16 20645, .int .u16 24774, .int .u16 28903, .int .u16 33032, .int .u16 37161, .int .u16 41290, .int .u16 45419, .int .u16 49548, .int .u16 53677, .int .u16 57806, .int .u16 61935] : Array Value) := by kernel_rfl
end Go.Proofs.YtgejiiaocgacmaaDoor
