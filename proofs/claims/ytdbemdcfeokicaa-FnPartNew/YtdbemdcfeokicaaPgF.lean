/- impl.opOk. -/
import Derived.Test.YtdbemdcfeokicaaPgE
import Derived.Deep.QuietTactic
import Derived.BigQuiet
namespace Go.Proofs.Ytdbemdcfeokicaa
open Go.ChangeShapes Go.WideShapes Go.ChangeAt Go.RowKit
set_option linter.unusedVariables false

set_option maxHeartbeats 4000000 in
theorem opOk_any (n d a b : Int) (w : World) (hn0 : 0 ≤ n) (hn1 : n < 4611686018427387904) :
    Calls Try.prog 104 #[.agg #[.int .i64 d, .int .i64 a, .int .i64 b], .int .i64 n] w fun e w' => e = .returned (.bool (opB n d a b)) ∧ Below w.heap.size w w' := by
  have HBD : Hid (∀ o m, Below w.heap.size w ((w.alloc o).drewN m)) := fun o m => belowN ((Below.refl _ _).alloc (Nat.le_refl _) o) m
  cases h : inB d 1 13
  · have HE : Hid (opB n d a b = false) := by show _ = _; simp [opB, h]
    have hd : (decide (1 ≤ d) = false) ∨ (1 ≤ d ∧ decide (d ≤ 13) = false) := by simp [inB] at h ⊢; omega
    clear h
    rcases hd with hd | ⟨hd0, hd⟩
    all_goals
      go_enter Try.func104, Try.ntmps104
      go_wp2_with fail
      go_quiet (fail)
      go_wp2_with fail
      go_ret
      exact ⟨by rw [HE.out]; rfl, HBD.out _ _⟩
  · have hd1 : 1 ≤ d := by simp [inB] at h; omega
    have hd2 : d ≤ 13 := by simp [inB] at h; omega
    have HE : Hid (opB n d a b = (inB a 0 (mostA d) && inB b 0 (mostB n d))) := by show _ = _; simp [opB, h]
    cases ha : inB a 0 (mostA d)
    all_goals
      go_enter Try.func104, Try.ntmps104
      go_wp2_with fail
      go_quiet ((first | (go_at_call 141; exact Calls.quiet_of_same (mostA_any _ _)) | (go_at_call 142; exact Calls.quiet_of_same (mostB_any _ _ _ h hn0 hn1)) | (go_at_call 85; exact Calls.quiet_of_same (upTo_anyU _ _ _))))
      go_wp2_with fail
      go_ret
      exact ⟨by rw [HE.out, ha]; rfl, HBD.out _ _⟩
end Go.Proofs.Ytdbemdcfeokicaa
