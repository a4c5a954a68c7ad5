/- laws.skInts, laws.skProg, laws.skPart at equal data. -/
import Derived.Test.YtdbemdcfeokicaaInS
import Derived.Test.YtdbemdcfeokicaaSlOp
import Derived.Test.YtdbemdcfeokicaaStPart
import Derived.Test.YtdbemdcfeokicaaKeep
import Derived.BigQuiet
namespace Go.Proofs.Ytdbemdcfeokicaa
open Go.ChangeShapes Go.WideShapes Go.ChangeAt Go.RowKit
set_option linter.unusedVariables false

theorem below_drewN (w : World) (m : Nat) (w0 : World) (B : Nat) (h : Below B w0 w) : Below B w0 (w.drewN m) := ⟨h.os, h.tape, h.output, h.size, h.block⟩
set_option maxHeartbeats 1000000 in
theorem skInts_any (a a' : Option Addr) (n cap cap' : Nat) (f : Nat → Int) (w : World) (hn : n ≤ maxLen) (h : IntS w a n f) (h' : IntS w a' n f) :
    Calls Try.prog 43 #[.slice a n cap, .slice a' n cap'] w fun e w' => e = .returned (.bool true) ∧ ∃ m, w' = w.drewN m := by
  unfold maxLen at hn
  obtain h0 | ⟨b, off, rfl, hlt, hc⟩ := h
  · subst h0
    go_enter Try.func43, Try.ntmps43
    go_wp2
    refine Go.wp_loop_rounds 1 ?_
    rw [Go.rounds_succ]
    go_wp2
    go_ret
    exact ⟨rfl, 0, rfl⟩
  obtain h0 | ⟨b', off', rfl, hlt', hc'⟩ := h'
  · subst h0
    go_enter Try.func43, Try.ntmps43
    go_wp2
    refine Go.wp_loop_rounds 1 ?_
    rw [Go.rounds_succ]
    go_wp2
    go_ret
    exact ⟨rfl, 0, rfl⟩
  have HC : Hid _ := hc
  have HC' : Hid _ := hc'
  clear hc hc'
  go_enter Try.func43, Try.ntmps43
  go_wp2
  go_loopw [5] (fun i wr => ∃ k : Nat, k ≤ n ∧ i = .int .i64 k ∧ ∃ m, wr = w.drewN m) (fun i _ => n - (intOf i).toNat)
  case atStart => exact ⟨0, by omega, rfl, 0, rfl⟩
  case round =>
    obtain ⟨k, hk, rfl, m, rfl⟩ := hrel
    by_cases hlt2 : k < n
    · have hck := HC.out k hlt2
      have hck' := HC'.out k hlt2
      have hik : (k : Int) < (n : Int) := by omega
      go_wp2
      go_quiet (fail)
      go_wp2
      exact ⟨⟨k + 1, by omega, by go_num, m + nq, rfl⟩, by simp [intOf]; omega⟩
    · go_wp2
      go_ret
      exact ⟨rfl, m, rfl⟩
set_option maxHeartbeats 1000000 in
theorem skProg_any (a a' : Option Addr) (n cap cap' : Nat) (f0 f1 f2 : Nat → Int) (w : World) (hn : n ≤ maxLen) (h : OpS w a n f0 f1 f2) (h' : OpS w a' n f0 f1 f2) :
    Calls Try.prog 49 #[.slice a n cap, .slice a' n cap'] w fun e w' => e = .returned (.bool true) ∧ ∃ m, w' = w.drewN m := by
  unfold maxLen at hn
  obtain h0 | ⟨b, off, rfl, hlt, hc⟩ := h
  · subst h0
    go_enter Try.func49, Try.ntmps49
    go_wp2
    refine Go.wp_loop_rounds 1 ?_
    rw [Go.rounds_succ]
    go_wp2
    go_ret
    exact ⟨rfl, 0, rfl⟩
  obtain h0 | ⟨b', off', rfl, hlt', hc'⟩ := h'
  · subst h0
    go_enter Try.func49, Try.ntmps49
    go_wp2
    refine Go.wp_loop_rounds 1 ?_
    rw [Go.rounds_succ]
    go_wp2
    go_ret
    exact ⟨rfl, 0, rfl⟩
  have HC : Hid _ := hc
  have HC' : Hid _ := hc'
  clear hc hc'
  go_enter Try.func49, Try.ntmps49
  go_wp2
  go_loopw [5] (fun i wr => ∃ k : Nat, k ≤ n ∧ i = .int .i64 k ∧ ∃ m, wr = w.drewN m) (fun i _ => n - (intOf i).toNat)
  case atStart => exact ⟨0, by omega, rfl, 0, rfl⟩
  case round =>
    obtain ⟨k, hk, rfl, m, rfl⟩ := hrel
    by_cases hlt2 : k < n
    · have hck := HC.out k hlt2
      have hck' := HC'.out k hlt2
      obtain ⟨c0, c1, c2⟩ := hck
      obtain ⟨d0, d1, d2⟩ := hck'
      have hik : (k : Int) < (n : Int) := by omega
      go_wp2
      go_quiet (fail)
      go_wp2
      exact ⟨⟨k + 1, by omega, by go_num, m + nq, rfl⟩, by simp [intOf]; omega⟩
    · go_wp2
      go_ret
      exact ⟨rfl, m, rfl⟩
set_option maxHeartbeats 1000000 in
theorem skPart_any (a0 b0 a1 b1 a4 b4 : Option Addr) (n0 p0 q0 n1 p1 q1 n4 p4 q4 : Nat) (g0 g1 g2 f1 : Nat → Int) (v2 : Int) (v3 : Bool) (f4 : Nat → Int) (w : World) (hn0 : n0 ≤ maxLen) (hn1 : n1 ≤ maxLen) (hn4 : n4 ≤ maxLen)
    (h0 : OpS w a0 n0 g0 g1 g2) (h1 : IntS w a1 n1 f1) (h4 : IntS w a4 n4 f4) (k0 : OpS w b0 n0 g0 g1 g2) (k1 : IntS w b1 n1 f1) (k4 : IntS w b4 n4 f4) :
    Calls Try.prog 34 #[.agg #[.slice a0 n0 p0, .slice a1 n1 p1, .int .i64 v2, .bool v3, .slice a4 n4 p4], .agg #[.slice b0 n0 q0, .slice b1 n1 q1, .int .i64 v2, .bool v3, .slice b4 n4 q4]] w fun e w' => e = .returned (.bool true) ∧ Below w.heap.size w w' := by
  have HB : Hid (Below w.heap.size w ((w.alloc (.cells #[.slice a0 n0 p0, .slice a1 n1 p1, .int .i64 v2, .bool v3, .slice a4 n4 p4] 54)).alloc (.cells #[.slice b0 n0 q0, .slice b1 n1 q1, .int .i64 v2, .bool v3, .slice b4 n4 q4] 54))) := ((Below.refl _ _).alloc (Nat.le_refl _) _).alloc (by simp) _
  have H0 : Hid (OpS ((w.alloc (.cells #[.slice a0 n0 p0, .slice a1 n1 p1, .int .i64 v2, .bool v3, .slice a4 n4 p4] 54)).alloc (.cells #[.slice b0 n0 q0, .slice b1 n1 q1, .int .i64 v2, .bool v3, .slice b4 n4 q4] 54)) a0 n0 g0 g1 g2) := (h0.alloc _).alloc _
  have H1 : Hid (IntS ((w.alloc (.cells #[.slice a0 n0 p0, .slice a1 n1 p1, .int .i64 v2, .bool v3, .slice a4 n4 p4] 54)).alloc (.cells #[.slice b0 n0 q0, .slice b1 n1 q1, .int .i64 v2, .bool v3, .slice b4 n4 q4] 54)) a1 n1 f1) := (h1.alloc _).alloc _
  have H4 : Hid (IntS ((w.alloc (.cells #[.slice a0 n0 p0, .slice a1 n1 p1, .int .i64 v2, .bool v3, .slice a4 n4 p4] 54)).alloc (.cells #[.slice b0 n0 q0, .slice b1 n1 q1, .int .i64 v2, .bool v3, .slice b4 n4 q4] 54)) a4 n4 f4) := (h4.alloc _).alloc _
  have K0 : Hid (OpS ((w.alloc (.cells #[.slice a0 n0 p0, .slice a1 n1 p1, .int .i64 v2, .bool v3, .slice a4 n4 p4] 54)).alloc (.cells #[.slice b0 n0 q0, .slice b1 n1 q1, .int .i64 v2, .bool v3, .slice b4 n4 q4] 54)) b0 n0 g0 g1 g2) := (k0.alloc _).alloc _
  have K1 : Hid (IntS ((w.alloc (.cells #[.slice a0 n0 p0, .slice a1 n1 p1, .int .i64 v2, .bool v3, .slice a4 n4 p4] 54)).alloc (.cells #[.slice b0 n0 q0, .slice b1 n1 q1, .int .i64 v2, .bool v3, .slice b4 n4 q4] 54)) b1 n1 f1) := (k1.alloc _).alloc _
  have K4 : Hid (IntS ((w.alloc (.cells #[.slice a0 n0 p0, .slice a1 n1 p1, .int .i64 v2, .bool v3, .slice a4 n4 p4] 54)).alloc (.cells #[.slice b0 n0 q0, .slice b1 n1 q1, .int .i64 v2, .bool v3, .slice b4 n4 q4] 54)) b4 n4 f4) := (k4.alloc _).alloc _
  clear h0 h1 h4 k0 k1 k4
  have hrn : Hid (∀ m : Nat, Below ((w.alloc (.cells #[.slice a0 n0 p0, .slice a1 n1 p1, .int .i64 v2, .bool v3, .slice a4 n4 p4] 54)).alloc (.cells #[.slice b0 n0 q0, .slice b1 n1 q1, .int .i64 v2, .bool v3, .slice b4 n4 q4] 54)).heap.size ((w.alloc (.cells #[.slice a0 n0 p0, .slice a1 n1 p1, .int .i64 v2, .bool v3, .slice a4 n4 p4] 54)).alloc (.cells #[.slice b0 n0 q0, .slice b1 n1 q1, .int .i64 v2, .bool v3, .slice b4 n4 q4] 54)) (((w.alloc (.cells #[.slice a0 n0 p0, .slice a1 n1 p1, .int .i64 v2, .bool v3, .slice a4 n4 p4] 54)).alloc (.cells #[.slice b0 n0 q0, .slice b1 n1 q1, .int .i64 v2, .bool v3, .slice b4 n4 q4] 54)).drewN m)) := fun m => below_drewN _ m _ _ (Below.refl _ _)
  go_enter Try.func34, Try.ntmps34
  go_wp2_with fail
  refine (skProg_any a0 b0 n0 p0 q0 g0 g1 g2 _ hn0 H0.out K0.out).mono ?_
  rintro e w' ⟨rfl, m1, rfl⟩
  go_wp2_with fail
  refine (skInts_any a1 b1 n1 p1 q1 f1 _ hn1 (H1.out.below (hrn.out m1)) (K1.out.below (hrn.out m1))).mono ?_
  rintro e w' ⟨rfl, m2, rfl⟩
  go_wp2_with fail
  refine (skInts_any a4 b4 n4 p4 q4 f4 _ hn4 (H4.out.below (hrn.out (m1 + m2))) (K4.out.below (hrn.out (m1 + m2)))).mono ?_
  rintro e w' ⟨rfl, m3, rfl⟩
  go_wp2_with fail
  go_ret
  exact ⟨rfl, below_drewN _ _ _ _ HB.out⟩
end Go.Proofs.Ytdbemdcfeokicaa
