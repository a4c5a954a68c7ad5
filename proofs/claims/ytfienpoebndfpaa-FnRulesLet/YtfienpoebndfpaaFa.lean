/- The contracts of FarmOk, both sides, and of laws.toFarm. -/
import Derived.Test.YtfienpoebndfpaaFr
import Derived.Test.YtfienpoebndfpaaSet6
namespace Go.Proofs.Ytfienpoebndfpaa
open Go.ChangeShapes Go.WideShapes Go.ChangeAt Go.RowKit
set_option linter.unusedVariables false

def faOk (wt ag : Bool) (c n : Int) : Bool := inB c 0 3 && inB n 0 255 && (!wt || ag)
theorem cellsFarm : (Try.prog.info? 84).map (·.size) = some 5 := by kernel_rfl
theorem mid3' (w : World) (A B C : Obj) : (((w.alloc A).alloc B).alloc C).heap[w.heap.size + 1]? = some B := by
  rw [Below.heap_alloc ((w.alloc A).alloc B) C (w.heap.size + 1) (by simp)]
  exact heap_alloc2_new w A B

set_option maxHeartbeats 1000000 in
theorem toFarm_any (s wt ag : Bool) (c n : Int) (w : World) :
    Calls Try.prog 50 #[.agg #[.bool s, .bool wt, .bool ag, .int .i64 c, .int .i64 n]] w fun e w' => e = .returned (.agg #[.bool s, .bool wt, .bool ag, .int .i64 c, .int .i64 n]) ∧ Below w.heap.size w w' := by
  go_enter Try.func50, Try.ntmps50
  go_wp2
  refine bodyPost_ret (v := .agg #[.bool s, .bool wt, .bool ag, .int .i64 c, .int .i64 n]) (results_cell_row Try.results50 _ _ (w.heap.size + 1) 84 #[.bool s, .bool wt, .bool ag, .int .i64 c, .int .i64 n] (0, 0) _ rfl (mid3' w _ _ _) Try.underlying84 rfl cellsFarm) rfl ⟨rfl, ?_⟩
  exact (((Below.refl _ _).alloc (Nat.le_refl _) _).alloc (by simp) _).alloc (by simp; omega) _

set_option maxHeartbeats 1000000 in
theorem implFarmOk_any (s wt ag : Bool) (c n : Int) (w : World) :
    Calls Try.prog 100 #[.agg #[.bool s, .bool wt, .bool ag, .int .i64 c, .int .i64 n]] w fun e w' => e = .returned (.bool (faOk wt ag c n)) ∧ Below w.heap.size w w' := by
  have HBH : Hid (∀ o, Below w.heap.size w (w.alloc o)) := fun o => (Below.refl _ _).alloc (Nat.le_refl _) o
  cases h1 : inB c 0 3
  · go_enter Try.func100, Try.ntmps100
    go_wp2_with (go_at_call 59; refine (upTo_any _ _ _).mono ?_; rintro e w' ⟨rfl, rfl⟩)
    go_ret
    exact ⟨by simp [faOk, h1], HBH.out _⟩
  cases h2 : inB n 0 255
  · go_enter Try.func100, Try.ntmps100
    go_wp2_with (go_at_call 59; refine (upTo_any _ _ _).mono ?_; rintro e w' ⟨rfl, rfl⟩)
    go_ret
    exact ⟨by simp [faOk, h2], HBH.out _⟩
  cases ag <;> cases wt
  all_goals
    go_enter Try.func100, Try.ntmps100
    go_wp2_with (go_at_call 59; refine (upTo_any _ _ _).mono ?_; rintro e w' ⟨rfl, rfl⟩)
    go_ret
    exact ⟨by simp [faOk, h1, h2], HBH.out _⟩

set_option maxHeartbeats 1000000 in
theorem specFarmOk_any (s wt ag : Bool) (c n : Int) (w : World) :
    Calls Try.prog 98 #[.agg #[.bool s, .bool wt, .bool ag, .int .i64 c, .int .i64 n]] w fun e w' => e = .returned (.bool (faOk wt ag c n)) ∧ Below w.heap.size w w' := by
  have HBH : Hid (∀ o, Below w.heap.size w (w.alloc o)) := fun o => (Below.refl _ _).alloc (Nat.le_refl _) o
  cases h1 : inB c 0 3
  · go_enter Try.func98, Try.ntmps98
    go_wp2_with (go_at_call 54; refine (l1In_any _ _ _ _).mono ?_; rintro e w' ⟨rfl, rfl⟩)
    go_ret
    exact ⟨by simp [faOk, h1], HBH.out _⟩
  cases h2 : inB n 0 255
  · go_enter Try.func98, Try.ntmps98
    go_wp2_with (go_at_call 54; refine (l1In_any _ _ _ _).mono ?_; rintro e w' ⟨rfl, rfl⟩)
    go_ret
    exact ⟨by simp [faOk, h2], HBH.out _⟩
  cases wt <;> cases ag
  all_goals
    go_enter Try.func98, Try.ntmps98
    go_wp2_with (go_at_call 54; refine (l1In_any _ _ _ _).mono ?_; rintro e w' ⟨rfl, rfl⟩)
    go_ret
    exact ⟨by simp [faOk, h1, h2], HBH.out _⟩
end Go.Proofs.Ytfienpoebndfpaa
