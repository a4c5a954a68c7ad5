/- An op's check, both sides. -/
import Derived.Test.YtdbemdcfeokicaaNum
import Derived.Test.YtdbemdcfeokicaaHeap
import Derived.Test.YtdbemdcfeokicaaKeep
import Derived.Test.YtdbemdcfeokicaaUp
namespace Go.Proofs.Ytdbemdcfeokicaa
open Go.ChangeShapes Go.WideShapes Go.ChangeAt Go.RowKit
set_option linter.unusedVariables false

def mostA (d : Int) : Int := if d = 11 then 0 else 7
def mostB (n d : Int) : Int := if d = 1 ∨ d = 3 then 9999 else if d = 2 ∨ d = 13 then 7 else if d = 5 then n - 1 else if d = 9 ∨ d = 10 then 3 else 0
def opB (n d a b : Int) : Bool := inB d 1 13 && (inB a 0 (mostA d) && inB b 0 (mostB n d))
theorem thirteen {d : Int} (h : inB d 1 13 = true) : d = 1 ∨ d = 2 ∨ d = 3 ∨ d = 4 ∨ d = 5 ∨ d = 6 ∨ d = 7 ∨ d = 8 ∨ d = 9 ∨ d = 10 ∨ d = 11 ∨ d = 12 ∨ d = 13 := by
  simp [inB] at h; omega
theorem inB_zero (b : Int) : inB b 0 0 = decide (b = 0) := by
  simp only [inB]; by_cases h : b = 0
  · subst h; rfl
  · simp [h]; omega
set_option maxHeartbeats 400000 in
theorem l10Cell_any (n : Int) (w : World) :
    Calls Try.prog 143 #[.int .i64 n] w fun e w' => e = .returned (.bool (inB n 0 7)) ∧ w' = w := by
  go_enter Try.func143, Try.ntmps143
  go_wp2_with (go_at_call 82; refine (l1In_any _ _ _ _).mono ?_; rintro e w' ⟨rfl, rfl⟩)
  go_ret
  exact ⟨rfl, rfl⟩
set_option maxHeartbeats 400000 in
theorem mostA_any (d : Int) (w : World) :
    Calls Try.prog 141 #[.int .i64 d] w fun e w' => e = .returned (.int .i64 (mostA d)) ∧ w' = w := by
  by_cases h : d = 11
  · subst h
    go_enter Try.func141, Try.ntmps141
    go_wp2_with fail
    go_ret
    exact ⟨rfl, rfl⟩
  · have HE : Hid (mostA d = 7) := by show _ = _; simp [mostA, h]
    go_enter Try.func141, Try.ntmps141
    go_wp2_with fail
    go_ret
    exact ⟨by rw [HE.out]; rfl, rfl⟩
set_option maxHeartbeats 1000000 in
theorem mostB_any (n d : Int) (w : World) (h : inB d 1 13 = true) (hn0 : 0 ≤ n) (hn1 : n < 4611686018427387904) :
    Calls Try.prog 142 #[.int .i64 d, .int .i64 n] w fun e w' => e = .returned (.int .i64 (mostB n d)) ∧ w' = w := by
  rcases thirteen h with rfl | rfl | rfl | rfl | rfl | rfl | rfl | rfl | rfl | rfl | rfl | rfl | rfl
  all_goals
    clear h
    go_enter Try.func142, Try.ntmps142
    go_wp2_with fail
    go_ret
    exact ⟨by simp [mostB] <;> go_num, rfl⟩
set_option maxHeartbeats 4000000 in
theorem l10Ok_any (n d a b : Int) (w : World) (hn0 : 0 ≤ n) (hn1 : n < 4611686018427387904) :
    Calls Try.prog 105 #[.agg #[.int .i64 d, .int .i64 a, .int .i64 b], .int .i64 n] w fun e w' => e = .returned (.bool (opB n d a b)) ∧ Below w.heap.size w w' := by
  have HBH : Hid (∀ o, Below w.heap.size w (w.alloc o)) := fun o => (Below.refl _ _).alloc (Nat.le_refl _) o
  cases h : inB d 1 13
  · have HE : Hid (opB n d a b = false) := by show _ = _; simp [opB, h]
    have hd : d < 1 ∨ 13 < d := by simp [inB] at h; omega
    clear h
    rcases hd with hd | hd
    all_goals
      go_enter Try.func105, Try.ntmps105
      go_wp2_with fail
      go_ret
      exact ⟨by rw [HE.out]; rfl, HBH.out _⟩
  · rcases thirteen h with rfl | rfl | rfl | rfl | rfl | rfl | rfl | rfl | rfl | rfl | rfl | rfl | rfl
    · have HE : Hid (opB n 1 a b = (inB a 0 7 && inB b 0 9999)) := by
        have e1 : mostA 1 = 7 := rfl
        have e2 : mostB n 1 = 9999 := rfl
        show _ = _
        rw [opB, h, e1, e2]
        rfl
      clear h
      cases ha : inB a 0 7
      all_goals
        go_enter Try.func105, Try.ntmps105
        go_wp2_with (first | (go_at_call 143; refine (l10Cell_any _ _).mono ?_; rintro e w' ⟨rfl, rfl⟩) | (go_at_call 82; refine (l1In_any _ _ _ _).mono ?_; rintro e w' ⟨rfl, rfl⟩))
        go_ret
        exact ⟨by rw [HE.out, ha]; rfl, HBH.out _⟩
    · have HE : Hid (opB n 2 a b = (inB a 0 7 && inB b 0 7)) := by
        have e1 : mostA 2 = 7 := rfl
        have e2 : mostB n 2 = 7 := rfl
        show _ = _
        rw [opB, h, e1, e2]
        rfl
      clear h
      cases ha : inB a 0 7
      all_goals
        go_enter Try.func105, Try.ntmps105
        go_wp2_with (first | (go_at_call 143; refine (l10Cell_any _ _).mono ?_; rintro e w' ⟨rfl, rfl⟩) | (go_at_call 82; refine (l1In_any _ _ _ _).mono ?_; rintro e w' ⟨rfl, rfl⟩))
        go_ret
        exact ⟨by rw [HE.out, ha]; rfl, HBH.out _⟩
    · have HE : Hid (opB n 3 a b = (inB a 0 7 && inB b 0 9999)) := by
        have e1 : mostA 3 = 7 := rfl
        have e2 : mostB n 3 = 9999 := rfl
        show _ = _
        rw [opB, h, e1, e2]
        rfl
      clear h
      cases ha : inB a 0 7
      all_goals
        go_enter Try.func105, Try.ntmps105
        go_wp2_with (first | (go_at_call 143; refine (l10Cell_any _ _).mono ?_; rintro e w' ⟨rfl, rfl⟩) | (go_at_call 82; refine (l1In_any _ _ _ _).mono ?_; rintro e w' ⟨rfl, rfl⟩))
        go_ret
        exact ⟨by rw [HE.out, ha]; rfl, HBH.out _⟩
    · have HE : Hid (opB n 4 a b = (inB a 0 7 && decide (b = 0))) := by
        have e1 : mostA 4 = 7 := rfl
        have e2 : mostB n 4 = 0 := rfl
        show _ = _
        rw [opB, h, e1, e2]
        rw [inB_zero]
        rfl
      clear h
      cases ha : inB a 0 7
      all_goals
        go_enter Try.func105, Try.ntmps105
        go_wp2_with (first | (go_at_call 143; refine (l10Cell_any _ _).mono ?_; rintro e w' ⟨rfl, rfl⟩) | (go_at_call 82; refine (l1In_any _ _ _ _).mono ?_; rintro e w' ⟨rfl, rfl⟩))
        go_ret
        exact ⟨by rw [HE.out, ha]; rfl, HBH.out _⟩
    · have HE : Hid (opB n 5 a b = (inB a 0 7 && inB b 0 (n - 1))) := by
        have e1 : mostA 5 = 7 := rfl
        have e2 : mostB n 5 = n - 1 := rfl
        show _ = _
        rw [opB, h, e1, e2]
        rfl
      clear h
      cases ha : inB a 0 7
      all_goals
        go_enter Try.func105, Try.ntmps105
        go_wp2_with (first | (go_at_call 143; refine (l10Cell_any _ _).mono ?_; rintro e w' ⟨rfl, rfl⟩) | (go_at_call 82; refine (l1In_any _ _ _ _).mono ?_; rintro e w' ⟨rfl, rfl⟩))
        go_ret
        exact ⟨by rw [HE.out, ha]; rfl, HBH.out _⟩
    · have HE : Hid (opB n 6 a b = (inB a 0 7 && decide (b = 0))) := by
        have e1 : mostA 6 = 7 := rfl
        have e2 : mostB n 6 = 0 := rfl
        show _ = _
        rw [opB, h, e1, e2]
        rw [inB_zero]
        rfl
      clear h
      cases ha : inB a 0 7
      all_goals
        go_enter Try.func105, Try.ntmps105
        go_wp2_with (first | (go_at_call 143; refine (l10Cell_any _ _).mono ?_; rintro e w' ⟨rfl, rfl⟩) | (go_at_call 82; refine (l1In_any _ _ _ _).mono ?_; rintro e w' ⟨rfl, rfl⟩))
        go_ret
        exact ⟨by rw [HE.out, ha]; rfl, HBH.out _⟩
    · have HE : Hid (opB n 7 a b = (inB a 0 7 && decide (b = 0))) := by
        have e1 : mostA 7 = 7 := rfl
        have e2 : mostB n 7 = 0 := rfl
        show _ = _
        rw [opB, h, e1, e2]
        rw [inB_zero]
        rfl
      clear h
      cases ha : inB a 0 7
      all_goals
        go_enter Try.func105, Try.ntmps105
        go_wp2_with (first | (go_at_call 143; refine (l10Cell_any _ _).mono ?_; rintro e w' ⟨rfl, rfl⟩) | (go_at_call 82; refine (l1In_any _ _ _ _).mono ?_; rintro e w' ⟨rfl, rfl⟩))
        go_ret
        exact ⟨by rw [HE.out, ha]; rfl, HBH.out _⟩
    · have HE : Hid (opB n 8 a b = (inB a 0 7 && decide (b = 0))) := by
        have e1 : mostA 8 = 7 := rfl
        have e2 : mostB n 8 = 0 := rfl
        show _ = _
        rw [opB, h, e1, e2]
        rw [inB_zero]
        rfl
      clear h
      cases ha : inB a 0 7
      all_goals
        go_enter Try.func105, Try.ntmps105
        go_wp2_with (first | (go_at_call 143; refine (l10Cell_any _ _).mono ?_; rintro e w' ⟨rfl, rfl⟩) | (go_at_call 82; refine (l1In_any _ _ _ _).mono ?_; rintro e w' ⟨rfl, rfl⟩))
        go_ret
        exact ⟨by rw [HE.out, ha]; rfl, HBH.out _⟩
    · have HE : Hid (opB n 9 a b = (inB a 0 7 && inB b 0 3)) := by
        have e1 : mostA 9 = 7 := rfl
        have e2 : mostB n 9 = 3 := rfl
        show _ = _
        rw [opB, h, e1, e2]
        rfl
      clear h
      cases ha : inB a 0 7
      all_goals
        go_enter Try.func105, Try.ntmps105
        go_wp2_with (first | (go_at_call 143; refine (l10Cell_any _ _).mono ?_; rintro e w' ⟨rfl, rfl⟩) | (go_at_call 82; refine (l1In_any _ _ _ _).mono ?_; rintro e w' ⟨rfl, rfl⟩))
        go_ret
        exact ⟨by rw [HE.out, ha]; rfl, HBH.out _⟩
    · have HE : Hid (opB n 10 a b = (inB a 0 7 && inB b 0 3)) := by
        have e1 : mostA 10 = 7 := rfl
        have e2 : mostB n 10 = 3 := rfl
        show _ = _
        rw [opB, h, e1, e2]
        rfl
      clear h
      cases ha : inB a 0 7
      all_goals
        go_enter Try.func105, Try.ntmps105
        go_wp2_with (first | (go_at_call 143; refine (l10Cell_any _ _).mono ?_; rintro e w' ⟨rfl, rfl⟩) | (go_at_call 82; refine (l1In_any _ _ _ _).mono ?_; rintro e w' ⟨rfl, rfl⟩))
        go_ret
        exact ⟨by rw [HE.out, ha]; rfl, HBH.out _⟩
    · have HE : Hid (opB n 11 a b = (decide (a = 0) && decide (b = 0))) := by
        have e1 : mostA 11 = 0 := rfl
        have e2 : mostB n 11 = 0 := rfl
        show _ = _
        rw [opB, h, e1, e2]
        rw [inB_zero, inB_zero]
        rfl
      clear h
      cases ha : decide (a = 0)
      all_goals
        have HA : Hid _ := ha
        simp only [decide_eq_true_eq, decide_eq_false_iff_not] at ha
        go_enter Try.func105, Try.ntmps105
        go_wp2_with (first | (go_at_call 143; refine (l10Cell_any _ _).mono ?_; rintro e w' ⟨rfl, rfl⟩) | (go_at_call 82; refine (l1In_any _ _ _ _).mono ?_; rintro e w' ⟨rfl, rfl⟩))
        go_ret
        exact ⟨by rw [HE.out, HA.out]; rfl, HBH.out _⟩
    · have HE : Hid (opB n 12 a b = (inB a 0 7 && decide (b = 0))) := by
        have e1 : mostA 12 = 7 := rfl
        have e2 : mostB n 12 = 0 := rfl
        show _ = _
        rw [opB, h, e1, e2]
        rw [inB_zero]
        rfl
      clear h
      cases ha : inB a 0 7
      all_goals
        go_enter Try.func105, Try.ntmps105
        go_wp2_with (first | (go_at_call 143; refine (l10Cell_any _ _).mono ?_; rintro e w' ⟨rfl, rfl⟩) | (go_at_call 82; refine (l1In_any _ _ _ _).mono ?_; rintro e w' ⟨rfl, rfl⟩))
        go_ret
        exact ⟨by rw [HE.out, ha]; rfl, HBH.out _⟩
    · have HE : Hid (opB n 13 a b = (inB a 0 7 && inB b 0 7)) := by
        have e1 : mostA 13 = 7 := rfl
        have e2 : mostB n 13 = 7 := rfl
        show _ = _
        rw [opB, h, e1, e2]
        rfl
      clear h
      cases ha : inB a 0 7
      all_goals
        go_enter Try.func105, Try.ntmps105
        go_wp2_with (first | (go_at_call 143; refine (l10Cell_any _ _).mono ?_; rintro e w' ⟨rfl, rfl⟩) | (go_at_call 82; refine (l1In_any _ _ _ _).mono ?_; rintro e w' ⟨rfl, rfl⟩))
        go_ret
        exact ⟨by rw [HE.out, ha]; rfl, HBH.out _⟩
end Go.Proofs.Ytdbemdcfeokicaa
