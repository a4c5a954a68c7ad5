/- The contracts of laws.szFrame and laws.toFrame. -/
import Derived.Test.YteeneiogghldgaaFr
import Derived.Test.YteeneiogghldgaaSet6
namespace Go.Proofs.Yteeneiogghldgaa
open Go.ChangeShapes Go.WideShapes Go.ChangeAt Go.RowKit
set_option linter.unusedVariables false

set_option maxHeartbeats 400000 in
theorem szFrame_great (p g : Bool) (c v q : Int) (d : ByteArray) (w : World) (hd : d.size ≤ maxLen) (hb : 1048576 < d.size) :
    Calls Try.prog 11 #[.agg #[.bool p, .bool g, .int .i64 c, .int .i64 v, .int .i64 q, .string d], .int .i64 1048576] w fun e w' => e = .returned (.int .i64 (-1)) ∧ Below w.heap.size w w' := by
  unfold maxLen at hd
  have h1 : (1048576 : Int) - d.size < 0 := by omega
  go_enter Try.func11, Try.ntmps11
  go_wp2
  go_ret
  exact ⟨rfl, (Below.refl _ _).alloc (Nat.le_refl _) _⟩
set_option maxHeartbeats 400000 in
theorem szFrame_fits (p g : Bool) (c v q : Int) (d : ByteArray) (w : World) (hb : d.size ≤ 1048576) :
    Calls Try.prog 11 #[.agg #[.bool p, .bool g, .int .i64 c, .int .i64 v, .int .i64 q, .string d], .int .i64 1048576] w fun e w' => e = .returned (.int .i64 (1048576 - d.size)) ∧ Below w.heap.size w w' := by
  have h1 : ¬ (1048576 : Int) - d.size < 0 := by omega
  go_enter Try.func11, Try.ntmps11
  go_wp2
  go_ret
  exact ⟨rfl, (Below.refl _ _).alloc (Nat.le_refl _) _⟩
theorem mid3 (w : World) (A B C : Obj) : (((w.alloc A).alloc B).alloc C).heap[w.heap.size + 1]? = some B := by
  rw [Below.heap_alloc ((w.alloc A).alloc B) C (w.heap.size + 1) (by simp)]
  exact heap_alloc2_new w A B
set_option maxHeartbeats 1000000 in
theorem toFrame_any (p g : Bool) (c v q : Int) (d : ByteArray) (w : World) :
    Calls Try.prog 14 #[.agg #[.bool p, .bool g, .int .i64 c, .int .i64 v, .int .i64 q, .string d]] w fun e w' => e = .returned (.agg #[.bool p, .bool g, .int .i64 c, .int .i64 v, .int .i64 q, .string d]) ∧ Below w.heap.size w w' := by
  go_enter Try.func14, Try.ntmps14
  go_wp2
  refine bodyPost_ret (v := .agg #[.bool p, .bool g, .int .i64 c, .int .i64 v, .int .i64 q, .string d]) (results_cell_row Try.results14 _ _ (w.heap.size + 1) 31 #[.bool p, .bool g, .int .i64 c, .int .i64 v, .int .i64 q, .string d] (0, 0) _ rfl (mid3 w _ _ _) Try.underlying31 rfl cells26) rfl ⟨rfl, ?_⟩
  exact (((Below.refl _ _).alloc (Nat.le_refl _) _).alloc (by simp) _).alloc (by simp; omega) _
end Go.Proofs.Yteeneiogghldgaa
