import Derived.Test.YtgejiiaocgacmaaDoorNumI
namespace Go.Proofs.YtgejiiaocgacmaaDoor
open Go.ChangeShapes Go.WideShapes Go.ChangeAt Go.RowKit

set_option maxHeartbeats 400000 in
theorem implNumPut_small (n s : Int) (w : World) (h : s < 1) :
    Calls Tryd.prog 98 #[.int .i64 n, .int .i64 s] w fun e w' => e = .returned (.string ⟨#[]⟩) ∧ Below w.heap.size w w' := by
  go_enter Tryd.func98, Tryd.ntmps98
  go_wp2
  go_ret
  exact ⟨rfl, Below.refl _ _⟩
set_option maxHeartbeats 400000 in
theorem implNumPut_great (n s : Int) (w : World) (h : 4 < s) :
    Calls Tryd.prog 98 #[.int .i64 n, .int .i64 s] w fun e w' => e = .returned (.string ⟨#[]⟩) ∧ Below w.heap.size w w' := by
  have h1 : ¬ s < 1 := by omega
  go_enter Tryd.func98, Tryd.ntmps98
  go_wp2
  go_ret
  exact ⟨rfl, Below.refl _ _⟩
set_option maxHeartbeats 400000 in
theorem implNumPut_neg (n s : Int) (w : World) (h1 : 1 ≤ s) (h4 : s ≤ 4) (h : n < 0) :
    Calls Tryd.prog 98 #[.int .i64 n, .int .i64 s] w fun e w' => e = .returned (.string ⟨#[]⟩) ∧ Below w.heap.size w w' := by
  have h1 : ¬ s < 1 := by omega
  have h2 : ¬ 4 < s := by omega
  go_enter Tryd.func98, Tryd.ntmps98
  go_wp2
  go_ret
  exact ⟨rfl, Below.refl _ _⟩
set_option maxHeartbeats 400000 in
theorem implNumPut_over (n s P : Int) (w : World) (hs : s = 1 ∧ P = 256 ∨ s = 2 ∧ P = 65536 ∨ s = 3 ∧ P = 16777216 ∨ s = 4 ∧ P = 4294967296) (h0 : 0 ≤ n) (h : P ≤ n) :
    Calls Tryd.prog 98 #[.int .i64 n, .int .i64 s] w fun e w' => e = .returned (.string ⟨#[]⟩) ∧ Below w.heap.size w w' := by
  have hng : decide (n < 0) = false := by simp; omega
  have hz : (n / P != 0) = true := by rw [bne_iff_ne]; rcases hs with ⟨rfl, rfl⟩ | ⟨rfl, rfl⟩ | ⟨rfl, rfl⟩ | ⟨rfl, rfl⟩ <;> omega
  rcases hs with ⟨rfl, rfl⟩ | ⟨rfl, rfl⟩ | ⟨rfl, rfl⟩ | ⟨rfl, rfl⟩
  all_goals
    go_enter Tryd.func98, Tryd.ntmps98
    go_wp2
    go_ret
    exact ⟨rfl, Below.refl _ _⟩

theorem implNumPut_any (n s : Int) (w : World) :
    Calls Tryd.prog 98 #[.int .i64 n, .int .i64 s] w fun e w' => e = .returned (.string ⟨(putL n s).toArray⟩) ∧ Below w.heap.size w w' := by
  by_cases h1 : s < 1
  · rw [putL_no (by omega)]; exact implNumPut_small n s w h1
  by_cases h4 : 4 < s
  · rw [putL_no (by omega)]; exact implNumPut_great n s w h4
  by_cases h0 : n < 0
  · rw [putL_no (by omega)]; exact implNumPut_neg n s w (by omega) (by omega) h0
  have hs : s = 1 ∨ s = 2 ∨ s = 3 ∨ s = 4 := by omega
  rcases hs with rfl | rfl | rfl | rfl
  · have e : (256 : Int) ^ (1 : Int).toNat = 256 := rfl
    by_cases hn : n < 256
    · rw [putL_yes (by omega) (by omega) (by omega) (by rw [e]; exact hn)]; exact implNumPut_1 n w (by omega) hn
    · rw [putL_no (by rw [e]; omega)]; exact implNumPut_over n 1 256 w (by simp) (by omega) (by omega)
  · have e : (256 : Int) ^ (2 : Int).toNat = 65536 := rfl
    by_cases hn : n < 65536
    · rw [putL_yes (by omega) (by omega) (by omega) (by rw [e]; exact hn)]; exact implNumPut_2 n w (by omega) hn
    · rw [putL_no (by rw [e]; omega)]; exact implNumPut_over n 2 65536 w (by simp) (by omega) (by omega)
  · have e : (256 : Int) ^ (3 : Int).toNat = 16777216 := rfl
    by_cases hn : n < 16777216
    · rw [putL_yes (by omega) (by omega) (by omega) (by rw [e]; exact hn)]; exact implNumPut_3 n w (by omega) hn
    · rw [putL_no (by rw [e]; omega)]; exact implNumPut_over n 3 16777216 w (by simp) (by omega) (by omega)
  · have e : (256 : Int) ^ (4 : Int).toNat = 4294967296 := rfl
    by_cases hn : n < 4294967296
    · rw [putL_yes (by omega) (by omega) (by omega) (by rw [e]; exact hn)]; exact implNumPut_4 n w (by omega) hn
    · rw [putL_no (by rw [e]; omega)]; exact implNumPut_over n 4 4294967296 w (by simp) (by omega) (by omega)

end Go.Proofs.YtgejiiaocgacmaaDoor
