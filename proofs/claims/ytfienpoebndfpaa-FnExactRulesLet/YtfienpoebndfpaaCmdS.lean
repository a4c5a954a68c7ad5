/- laws.Cmd: its size beside another's, its copy. -/
import Derived.Test.YtfienpoebndfpaaNum
import Derived.Test.YtfienpoebndfpaaHeap
import Derived.Test.YtfienpoebndfpaaKeep
namespace Go.Proofs.Ytfienpoebndfpaa
open Go.ChangeShapes Go.WideShapes Go.ChangeAt Go.RowKit
set_option linter.unusedVariables false
set_option maxHeartbeats 400000 in
theorem szCmd2_any (a c so sv sb : Int) (d : ByteArray) (r : Int) (w : World) (hd : d.size ≤ maxLen) (h0 : 0 ≤ r) (h1 : r ≤ 1048576) :
    Calls Try.prog 25 #[.agg #[.int .i64 a, .int .i64 c, .int .i64 so, .int .i64 sv, .int .i64 sb, .string d], .int .i64 r] w fun e w' => ∃ r' : Int, (0 ≤ r' → d.size ≤ r ∧ r' ≤ 1048576) ∧ e = .returned (.int .i64 r') ∧ Below w.heap.size w w' := by
  unfold maxLen at hd
  by_cases hb : r - (d.size : Int) < 0
  · go_enter Try.func25, Try.ntmps25
    go_wp2
    go_ret
    exact ⟨-1, fun h => by omega, rfl, (Below.refl _ _).alloc (Nat.le_refl _) _⟩
  · go_enter Try.func25, Try.ntmps25
    go_wp2
    go_ret
    exact ⟨r - d.size, fun _ => by omega, rfl, (Below.refl _ _).alloc (Nat.le_refl _) _⟩
theorem cellsCmd : (Try.prog.info? 52).map (·.size) = some 6 := by kernel_rfl
set_option maxHeartbeats 1000000 in
theorem toCmd_any (a c so sv sb : Int) (d : ByteArray) (w : World) :
    Calls Try.prog 28 #[.agg #[.int .i64 a, .int .i64 c, .int .i64 so, .int .i64 sv, .int .i64 sb, .string d]] w fun e w' => e = .returned (.agg #[.int .i64 a, .int .i64 c, .int .i64 so, .int .i64 sv, .int .i64 sb, .string d]) ∧ Below w.heap.size w w' := by
  go_enter Try.func28, Try.ntmps28
  go_wp2
  refine bodyPost_ret (v := .agg #[.int .i64 a, .int .i64 c, .int .i64 so, .int .i64 sv, .int .i64 sb, .string d]) (results_cell_row Try.results28 _ _ (w.heap.size + 1) 52 #[.int .i64 a, .int .i64 c, .int .i64 so, .int .i64 sv, .int .i64 sb, .string d] (0, 0) _ rfl ?_ Try.underlying52 rfl cellsCmd) rfl ⟨rfl, ?_⟩
  · refine get_alloc (get_new ?_) ?_ <;> simp
  · exact (((Below.refl _ _).alloc (Nat.le_refl _) _).alloc (by simp) _).alloc (by simp; omega) _
set_option maxHeartbeats 400000 in
theorem szRuleS2_any (a : Option Addr) (n cap : Nat) (w : World) (hn : n ≤ maxLen) :
    Calls Try.prog 24 #[.slice a n cap, .int .i64 1048576] w fun e w' => ∃ r : Int, (0 ≤ r → n ≤ 1048576 ∧ r ≤ 1048576) ∧ e = .returned (.int .i64 r) ∧ w' = w := by
  unfold maxLen at hn
  by_cases hbig : (1048576 : Int) - n < 0
  · go_enter Try.func24, Try.ntmps24
    go_wp2
    go_ret
    exact ⟨-1, fun h => by omega, rfl, rfl⟩
  · go_enter Try.func24, Try.ntmps24
    go_wp2
    go_ret
    exact ⟨1048576 - n, fun _ => by omega, rfl, rfl⟩
end Go.Proofs.Ytfienpoebndfpaa
