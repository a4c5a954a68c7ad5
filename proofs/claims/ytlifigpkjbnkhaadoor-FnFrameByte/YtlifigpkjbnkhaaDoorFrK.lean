/- What a frame is sent as: impl.frameKindOf, impl.frameFlags. -/
import Derived.Test.YtlifigpkjbnkhaaDoorFr
import Derived.Test.YtlifigpkjbnkhaaDoorHeap
namespace Go.Proofs.YtlifigpkjbnkhaaDoor
open Go.ChangeShapes Go.WideShapes Go.ChangeAt Go.RowKit
set_option linter.unusedVariables false

set_option maxHeartbeats 400000 in
theorem kind_govern (p : Bool) (c v q : Int) (d : ByteArray) (w : World) :
    Calls Tryd.prog 44 #[.agg #[.bool p, .bool true, .int .i64 c, .int .i64 v, .int .i64 q, .string d]] w fun e w' => e = .returned (.iface 82 (.agg #[.string d])) ∧ Below w.heap.size w w' := by
  go_enter Tryd.func44, Tryd.ntmps44
  go_wp2
  go_ret
  exact ⟨rfl, (Below.refl _ _).alloc (Nat.le_refl _) _⟩
set_option maxHeartbeats 400000 in
theorem kind_past (c v q : Int) (d : ByteArray) (w : World) :
    Calls Tryd.prog 44 #[.agg #[.bool true, .bool false, .int .i64 c, .int .i64 v, .int .i64 q, .string d]] w fun e w' => e = .returned (.iface 84 (.agg #[])) ∧ Below w.heap.size w w' := by
  go_enter Tryd.func44, Tryd.ntmps44
  go_wp2
  go_ret
  exact ⟨rfl, (Below.refl _ _).alloc (Nat.le_refl _) _⟩
set_option maxHeartbeats 400000 in
theorem kind_order (c v q : Int) (d : ByteArray) (w : World) :
    Calls Tryd.prog 44 #[.agg #[.bool false, .bool false, .int .i64 c, .int .i64 v, .int .i64 q, .string d]] w fun e w' => e = .returned (.iface 86 (.agg #[.int .i64 q])) ∧ Below w.heap.size w w' := by
  go_enter Tryd.func44, Tryd.ntmps44
  go_wp2
  go_ret
  exact ⟨rfl, (Below.refl _ _).alloc (Nat.le_refl _) _⟩
theorem tk_gg (d : ByteArray) (W : World) : Sem.run Tryd.prog (Instr.typeAssert (.iface 82 (.agg #[.string d])) 62 82 true) W = .ok (.tuple #[.agg #[.string d], .bool true]) W := by kernel_rfl
theorem tk_pg (W : World) : Sem.run Tryd.prog (Instr.typeAssert (.iface 84 (.agg #[])) 62 82 true) W = .ok (.tuple #[.agg #[.string ⟨#[]⟩], .bool false]) W := by kernel_rfl
theorem tk_pp (W : World) : Sem.run Tryd.prog (Instr.typeAssert (.iface 84 (.agg #[])) 62 84 true) W = .ok (.tuple #[.agg #[], .bool true]) W := by kernel_rfl
theorem tk_og (q : Int) (W : World) : Sem.run Tryd.prog (Instr.typeAssert (.iface 86 (.agg #[.int .i64 q])) 62 82 true) W = .ok (.tuple #[.agg #[.string ⟨#[]⟩], .bool false]) W := by kernel_rfl
theorem tk_op (q : Int) (W : World) : Sem.run Tryd.prog (Instr.typeAssert (.iface 86 (.agg #[.int .i64 q])) 62 84 true) W = .ok (.tuple #[.agg #[], .bool false]) W := by kernel_rfl
set_option maxHeartbeats 400000 in
theorem flags_g (d : ByteArray) (w : World) :
    Calls Tryd.prog 43 #[.iface 82 (.agg #[.string d])] w fun e w' => e = .returned (.int .i64 12288) ∧ Below w.heap.size w w' := by
  have h1 := tk_gg d
  go_enter Tryd.func43, Tryd.ntmps43
  go_wp2
  go_ret
  exact ⟨rfl, Below.refl _ _⟩
set_option maxHeartbeats 400000 in
theorem flags_p (w : World) :
    Calls Tryd.prog 43 #[.iface 84 (.agg #[])] w fun e w' => e = .returned (.int .i64 8192) ∧ Below w.heap.size w w' := by
  have h1 := tk_pg
  have h2 := tk_pp
  go_enter Tryd.func43, Tryd.ntmps43
  go_wp2
  go_ret
  exact ⟨rfl, Below.refl _ _⟩
set_option maxHeartbeats 400000 in
theorem flags_o (q : Int) (w : World) :
    Calls Tryd.prog 43 #[.iface 86 (.agg #[.int .i64 q])] w fun e w' => e = .returned (.int .i64 0) ∧ Below w.heap.size w w' := by
  have h1 := tk_og q
  have h2 := tk_op q
  go_enter Tryd.func43, Tryd.ntmps43
  go_wp2
  go_ret
  exact ⟨rfl, Below.refl _ _⟩
end Go.Proofs.YtlifigpkjbnkhaaDoor
