/- The contract of impl.newSumTable. -/
import Derived.Test.YtccpdadabndleaaDoorCrcW
namespace Go.Proofs.YtccpdadabndleaaDoor
open Go.ChangeShapes Go.WideShapes Go.ChangeAt Go.RowKit
set_option linter.unusedVariables false

def tabTo (k : Nat) : Array Value := ((List.range 16).map fun i => Value.int .u16 ((if i < k then tws (i * 4096) 4 else 0 : Nat) : Int)).toArray
theorem tabTo_all : tabTo 16 = tabV := by
  kernel_rfl
theorem tabTo_next (k : Nat) (h : k < 16) : (tabTo k).setIfInBounds k (Value.int .u16 (tws (k * 4096) 4 : Nat)) = tabTo (k + 1) := by
  apply Array.ext
  · simp [tabTo]
  · intro i h1 h2
    have hi : i < 16 := by simpa [tabTo] using h2
    simp only [tabTo]
    by_cases e : k = i
    · subst e; simp
    · simp [e]
      by_cases hk : i < k
      · simp [hk, show i < k + 1 from by omega]
      · simp [hk, show ¬ i < k + 1 from by omega]
theorem tabTo_size (k : Nat) : (tabTo k).size = 16 := by simp [tabTo]

theorem tabTo_lit : tabTo 16 = (#[.int .u16 0, .int .u16 4129, .int .u16 8258, .int .u16 12387, .int .u16 16516, .int .u16 20645, .int .u16 24774, .int .u16 28903, .int .u16 33032, .int .u16 37161, .int .u16 41290, .int .u16 45419, .int .u16 49548, .int .u16 53677, .int .u16 57806, .int .u16 61935] : Array Value) := by kernel_rfl
theorem tabV_lit : tabV = (#[.int .u16 0, .int .u16 4129, .int .u16 8258, .int .u16 12387, .int .u16 16516, .int .u16 20645, .int .u16 24774, .int .u16 28903, .int .u16 33032, .int .u16 37161, .int .u16 41290, .int .u16 45419, .int .u16 49548, .int .u16 53677, .int .u16 57806, .int .u16 61935] : Array Value) := by kernel_rfl
set_option maxHeartbeats 1000000 in
theorem newSumTable_any (w : World) :
    Calls Tryd.prog 109 #[] w fun e w' => e = .returned (.agg tabV) ∧ Below w.heap.size w w' := by
  have hz : (#[.int .u16 0, .int .u16 0, .int .u16 0, .int .u16 0, .int .u16 0, .int .u16 0, .int .u16 0, .int .u16 0, .int .u16 0, .int .u16 0, .int .u16 0, .int .u16 0, .int .u16 0, .int .u16 0, .int .u16 0, .int .u16 0] : Array Value) = tabTo 0 := by kernel_rfl
  go_enter Tryd.func109, Tryd.ntmps109
  go_wp2
  go_loopw [4] (fun c wr => ∃ k : Nat, k ≤ 16 ∧ c = .int .i64 k ∧ wr = (w.alloc (.cells (tabTo 0) 140)).alloc (.cells (tabTo k) 140)) (fun c _ => 16 - (intOf c).toNat)
  case atStart => exact ⟨0, by omega, rfl, rfl⟩
  case round =>
    obtain ⟨k, hk, rfl, rfl⟩ := hrel
    by_cases hlt : k < 16
    · have hd : decide ((k : Int) < 16) = true := by simp; omega
      go_wp2
      go_loopw [3, 10] (fun v c wq => ∃ j : Nat, j ≤ 4 ∧ c = .int .i64 j ∧ v = .int .u16 (tws (k * 4096) j : Nat) ∧ wq = (w.alloc (.cells (tabTo 0) 140)).alloc (.cells (tabTo k) 140)) (fun _ c _ => 4 - (intOf c).toNat)
      case atStart => exact ⟨0, by omega, rfl, by simp [tws], rfl⟩
      case round =>
        obtain ⟨j, hj, rfl, rfl, rfl⟩ := hrel
        have hv := tws_lt (s := k * 4096) (by omega) j
        by_cases hj4 : j < 4
        · go_wp2_with (go_at_call 122; refine (twice_any _ _ hv).mono ?_; rintro e w' ⟨rfl, rfl⟩)
          exact ⟨⟨j + 1, by omega, by go_num, rfl, trivial⟩, by simp [intOf]; omega⟩
        · obtain rfl : j = 4 := by omega
          have hnx := tabTo_next k hlt
          have hsz := tabTo_size k
          go_wp2
          exact ⟨⟨k + 1, by omega, by go_num, rfl⟩, by simp [intOf]; omega⟩
    · obtain rfl : k = 16 := by omega
      have hl := tabTo_lit
      have hz' := hz.symm
      clear hz
      go_wp2
      refine bodyPost_ret (v := .agg tabV) (by rw [tabV_lit]; simp [results, Tryd.results109, go_sem]) rfl ⟨rfl, ?_⟩
      exact ((Below.refl _ _).alloc (Nat.le_refl _) _).alloc (by simp) _
end Go.Proofs.YtccpdadabndleaaDoor
