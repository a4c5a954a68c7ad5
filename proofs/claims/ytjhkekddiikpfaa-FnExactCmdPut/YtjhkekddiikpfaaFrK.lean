/- What a frame is sent as: impl.frameKindOf, impl.frameFlags. -/
import Derived.Test.YtjhkekddiikpfaaFr
import Derived.Test.YtjhkekddiikpfaaHeap
namespace Go.Proofs.Ytjhkekddiikpfaa
open Go.ChangeShapes Go.WideShapes Go.ChangeAt Go.RowKit
set_option linter.unusedVariables false

set_option maxHeartbeats 400000 in
theorem kind_govern (p : Bool) (c v q : Int) (d : ByteArray) (w : World) :
    Calls Try.prog 66 #[.agg #[.bool p, .bool true, .int .i64 c, .int .i64 v, .int .i64 q, .string d]] w fun e w' => e = .returned (.iface 132 (.agg #[.string d])) ∧ Below w.heap.size w w' := by
  go_enter Try.func66, Try.ntmps66
  go_wp2
  go_ret
  exact ⟨rfl, (Below.refl _ _).alloc (Nat.le_refl _) _⟩
set_option maxHeartbeats 400000 in
theorem kind_past (c v q : Int) (d : ByteArray) (w : World) :
    Calls Try.prog 66 #[.agg #[.bool true, .bool false, .int .i64 c, .int .i64 v, .int .i64 q, .string d]] w fun e w' => e = .returned (.iface 134 (.agg #[])) ∧ Below w.heap.size w w' := by
  go_enter Try.func66, Try.ntmps66
  go_wp2
  go_ret
  exact ⟨rfl, (Below.refl _ _).alloc (Nat.le_refl _) _⟩
set_option maxHeartbeats 400000 in
theorem kind_order (c v q : Int) (d : ByteArray) (w : World) :
    Calls Try.prog 66 #[.agg #[.bool false, .bool false, .int .i64 c, .int .i64 v, .int .i64 q, .string d]] w fun e w' => e = .returned (.iface 136 (.agg #[.int .i64 q])) ∧ Below w.heap.size w w' := by
  go_enter Try.func66, Try.ntmps66
  go_wp2
  go_ret
  exact ⟨rfl, (Below.refl _ _).alloc (Nat.le_refl _) _⟩
theorem tk_gg (d : ByteArray) (W : World) : Sem.run Try.prog (Instr.typeAssert (.iface 132 (.agg #[.string d])) 100 132 true) W = .ok (.tuple #[.agg #[.string d], .bool true]) W := by kernel_rfl
theorem tk_pg (W : World) : Sem.run Try.prog (Instr.typeAssert (.iface 134 (.agg #[])) 100 132 true) W = .ok (.tuple #[.agg #[.string ⟨#[]⟩], .bool false]) W := by kernel_rfl
theorem tk_pp (W : World) : Sem.run Try.prog (Instr.typeAssert (.iface 134 (.agg #[])) 100 134 true) W = .ok (.tuple #[.agg #[], .bool true]) W := by kernel_rfl
theorem tk_og (q : Int) (W : World) : Sem.run Try.prog (Instr.typeAssert (.iface 136 (.agg #[.int .i64 q])) 100 132 true) W = .ok (.tuple #[.agg #[.string ⟨#[]⟩], .bool false]) W := by kernel_rfl
theorem tk_op (q : Int) (W : World) : Sem.run Try.prog (Instr.typeAssert (.iface 136 (.agg #[.int .i64 q])) 100 134 true) W = .ok (.tuple #[.agg #[], .bool false]) W := by kernel_rfl
set_option maxHeartbeats 400000 in
theorem flags_g (d : ByteArray) (w : World) :
    Calls Try.prog 65 #[.iface 132 (.agg #[.string d])] w fun e w' => e = .returned (.int .i64 12288) ∧ Below w.heap.size w w' := by
  have h1 := tk_gg d
  go_enter Try.func65, Try.ntmps65
  go_wp2
  go_ret
  exact ⟨rfl, Below.refl _ _⟩
set_option maxHeartbeats 400000 in
theorem flags_p (w : World) :
    Calls Try.prog 65 #[.iface 134 (.agg #[])] w fun e w' => e = .returned (.int .i64 8192) ∧ Below w.heap.size w w' := by
  have h1 := tk_pg
  have h2 := tk_pp
  go_enter Try.func65, Try.ntmps65
  go_wp2
  go_ret
  exact ⟨rfl, Below.refl _ _⟩
set_option maxHeartbeats 400000 in
theorem flags_o (q : Int) (w : World) :
    Calls Try.prog 65 #[.iface 136 (.agg #[.int .i64 q])] w fun e w' => e = .returned (.int .i64 0) ∧ Below w.heap.size w w' := by
  have h1 := tk_og q
  have h2 := tk_op q
  go_enter Try.func65, Try.ntmps65
  go_wp2
  go_ret
  exact ⟨rfl, Below.refl _ _⟩
end Go.Proofs.Ytjhkekddiikpfaa
