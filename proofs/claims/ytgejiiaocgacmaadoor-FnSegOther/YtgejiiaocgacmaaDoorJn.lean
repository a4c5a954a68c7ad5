/- The contracts of JoinOk, both sides, and of laws.szJoin, laws.toJoin. -/
import Derived.Test.YtgejiiaocgacmaaDoorNum
import Derived.Test.YtgejiiaocgacmaaDoorHeap
import Derived.Deep.QuietTactic
import Derived.BigQuiet
namespace Go.Proofs.YtgejiiaocgacmaaDoor
open Go.ChangeShapes Go.WideShapes Go.ChangeAt Go.RowKit
set_option linter.unusedVariables false

def jnOk (o : Bool) (d : ByteArray) : Bool := decide ((d.size : Int) ≤ 106) && (o || d.toList.isEmpty)
theorem cellsJoin : (Tryd.prog.info? 25).map (·.size) = some 2 := by kernel_rfl
set_option maxHeartbeats 400000 in
theorem szJoin_great (o : Bool) (d : ByteArray) (w : World) (hd : d.size ≤ maxLen) (hb : 1048576 < d.size) :
    Calls Tryd.prog 14 #[.agg #[.bool o, .string d], .int .i64 1048576] w fun e w' => e = .returned (.int .i64 (-1)) ∧ Below w.heap.size w w' := by
  unfold maxLen at hd
  have h1 : (1048576 : Int) - d.size < 0 := by omega
  go_enter Tryd.func14, Tryd.ntmps14
  go_wp2
  go_ret
  exact ⟨rfl, (Below.refl _ _).alloc (Nat.le_refl _) _⟩
set_option maxHeartbeats 400000 in
theorem szJoin_fits (o : Bool) (d : ByteArray) (w : World) (hb : d.size ≤ 1048576) :
    Calls Tryd.prog 14 #[.agg #[.bool o, .string d], .int .i64 1048576] w fun e w' => e = .returned (.int .i64 (1048576 - d.size)) ∧ Below w.heap.size w w' := by
  have h1 : ¬ (1048576 : Int) - d.size < 0 := by omega
  go_enter Tryd.func14, Tryd.ntmps14
  go_wp2
  go_ret
  exact ⟨rfl, (Below.refl _ _).alloc (Nat.le_refl _) _⟩
set_option maxHeartbeats 1000000 in
theorem toJoin_any (o : Bool) (d : ByteArray) (w : World) :
    Calls Tryd.prog 16 #[.agg #[.bool o, .string d]] w fun e w' => e = .returned (.agg #[.bool o, .string d]) ∧ Below w.heap.size w w' := by
  go_enter Tryd.func16, Tryd.ntmps16
  go_wp2
  refine bodyPost_ret (v := .agg #[.bool o, .string d]) (results_cell_row Tryd.results16 _ _ (w.heap.size + 1) 25 #[.bool o, .string d] (0, 0) _ rfl ?_ Tryd.underlying25 rfl cellsJoin) rfl ⟨rfl, ?_⟩
  · refine get_alloc (get_new ?_) ?_ <;> simp
  · exact (((Below.refl _ _).alloc (Nat.le_refl _) _).alloc (by simp) _).alloc (by simp; omega) _
set_option maxHeartbeats 1000000 in
theorem implJoinOk_any (o : Bool) (d : ByteArray) (w : World) (hd : d.size ≤ maxLen) :
    Calls Tryd.prog 25 #[.agg #[.bool o, .string d]] w fun e w' => e = .returned (.bool (jnOk o d)) ∧ Below w.heap.size w w' := by
  unfold maxLen at hd
  have HBH : Hid (∀ o, Below w.heap.size w (w.alloc o)) := fun o => (Below.refl _ _).alloc (Nat.le_refl _) o
  by_cases h1 : (d.size : Int) ≤ 106
  · cases o
    all_goals
      go_enter Tryd.func25, Tryd.ntmps25
      go_wp2
      go_ret
      exact ⟨by simp [jnOk, h1], HBH.out _⟩
  · have hx : jnOk o d = false := by simp [jnOk]; omega
    have HX : Hid (jnOk o d = false) := hx
    clear hx
    go_enter Tryd.func25, Tryd.ntmps25
    go_wp2
    go_ret
    exact ⟨by rw [HX.out]; rfl, HBH.out _⟩
theorem l7Most_any (w : World) : Calls Tryd.prog 70 #[] w fun e w' => e = .returned (.int .i64 106) ∧ w' = w := by
  go_enter Tryd.func70, Tryd.ntmps70
  go_wp2
  go_ret
  exact ⟨rfl, rfl⟩
set_option maxHeartbeats 1000000 in
theorem specJoinOk_any (o : Bool) (d : ByteArray) (w : World) (hd : d.size ≤ maxLen) :
    Calls Tryd.prog 26 #[.agg #[.bool o, .string d]] w fun e w' => e = .returned (.bool (jnOk o d)) ∧ Below w.heap.size w w' := by
  unfold maxLen at hd
  have HBH : Hid (∀ o, Below w.heap.size w (w.alloc o)) := fun o => (Below.refl _ _).alloc (Nat.le_refl _) o
  by_cases h1 : (d.size : Int) ≤ 106
  · cases o
    all_goals
      go_enter Tryd.func26, Tryd.ntmps26
      go_wp2
      go_big_quiet ((go_at_call 70; exact Calls.quiet_of_same (l7Most_any _)))
      go_wp2
      go_ret
      exact ⟨by simp [jnOk, h1], belowN (HBH.out _) _⟩
  · have hx : jnOk o d = false := by simp [jnOk]; omega
    have hd1 : decide ((d.size : Int) ≤ 106) = false := by simp; omega
    have HX : Hid (jnOk o d = false) := hx
    clear hx h1
    go_enter Tryd.func26, Tryd.ntmps26
    go_wp2
    go_big_quiet ((go_at_call 70; exact Calls.quiet_of_same (l7Most_any _)))
    go_wp2
    go_ret
    exact ⟨by rw [HX.out]; rfl, belowN (HBH.out _) _⟩
end Go.Proofs.YtgejiiaocgacmaaDoor
