/- The contracts below impl.FarmHear: numbers that go round, how it stands, and what it hears. -/
import Derived.Test.YtfojljhpobdcdaaFa
import Derived.Test.YtfojljhpobdcdaaHeap
namespace Go.Proofs.Ytfojljhpobdcdaa
open Go.ChangeShapes Go.WideShapes Go.ChangeAt Go.RowKit
set_option linter.unusedVariables false

def setName : String := "loop.example/skyway/impl.set"
def farmName : String := "loop.example/skyway/impl.farm"
def hearName : String := "loop.example/skyway/impl.hear"
theorem nil_shut (s wt ag : Bool) (c n : Int) (W : World) : Sem.run Try.prog (nilAhead 208 81 (.agg #[.bool s, .bool wt, .bool ag, .int .i64 c, .int .i64 n]) setName) W = .ok (some false) W := by kernel_rfl
theorem m_shut_set (s wt ag : Bool) (c n : Int) (W : World) : Sem.run Try.prog (method 208 81 (.agg #[.bool s, .bool wt, .bool ag, .int .i64 c, .int .i64 n]) setName) W = .ok (67, .agg #[.bool s, .bool wt, .bool ag, .int .i64 c, .int .i64 n]) W := by kernel_rfl
theorem m_shut_farm (s wt ag : Bool) (c n : Int) (W : World) : Sem.run Try.prog (method 208 81 (.agg #[.bool s, .bool wt, .bool ag, .int .i64 c, .int .i64 n]) farmName) W = .ok (64, .agg #[.bool s, .bool wt, .bool ag, .int .i64 c, .int .i64 n]) W := by kernel_rfl
theorem m_shut_hear (s wt ag : Bool) (c n : Int) (W : World) : Sem.run Try.prog (method 208 81 (.agg #[.bool s, .bool wt, .bool ag, .int .i64 c, .int .i64 n]) hearName) W = .ok (66, .agg #[.bool s, .bool wt, .bool ag, .int .i64 c, .int .i64 n]) W := by kernel_rfl
theorem nil_waiting (s wt ag : Bool) (c n : Int) (W : World) : Sem.run Try.prog (nilAhead 208 82 (.agg #[.bool s, .bool wt, .bool ag, .int .i64 c, .int .i64 n]) setName) W = .ok (some false) W := by kernel_rfl
theorem m_waiting_set (s wt ag : Bool) (c n : Int) (W : World) : Sem.run Try.prog (method 208 82 (.agg #[.bool s, .bool wt, .bool ag, .int .i64 c, .int .i64 n]) setName) W = .ok (65, .agg #[.bool s, .bool wt, .bool ag, .int .i64 c, .int .i64 n]) W := by kernel_rfl
theorem m_waiting_farm (s wt ag : Bool) (c n : Int) (W : World) : Sem.run Try.prog (method 208 82 (.agg #[.bool s, .bool wt, .bool ag, .int .i64 c, .int .i64 n]) farmName) W = .ok (64, .agg #[.bool s, .bool wt, .bool ag, .int .i64 c, .int .i64 n]) W := by kernel_rfl
theorem m_waiting_hear (s wt ag : Bool) (c n : Int) (W : World) : Sem.run Try.prog (method 208 82 (.agg #[.bool s, .bool wt, .bool ag, .int .i64 c, .int .i64 n]) hearName) W = .ok (68, .agg #[.bool s, .bool wt, .bool ag, .int .i64 c, .int .i64 n]) W := by kernel_rfl
theorem nil_taking (s wt ag : Bool) (c n : Int) (W : World) : Sem.run Try.prog (nilAhead 208 83 (.agg #[.bool s, .bool wt, .bool ag, .int .i64 c, .int .i64 n]) setName) W = .ok (some false) W := by kernel_rfl
theorem m_taking_set (s wt ag : Bool) (c n : Int) (W : World) : Sem.run Try.prog (method 208 83 (.agg #[.bool s, .bool wt, .bool ag, .int .i64 c, .int .i64 n]) setName) W = .ok (65, .agg #[.bool s, .bool wt, .bool ag, .int .i64 c, .int .i64 n]) W := by kernel_rfl
theorem m_taking_farm (s wt ag : Bool) (c n : Int) (W : World) : Sem.run Try.prog (method 208 83 (.agg #[.bool s, .bool wt, .bool ag, .int .i64 c, .int .i64 n]) farmName) W = .ok (64, .agg #[.bool s, .bool wt, .bool ag, .int .i64 c, .int .i64 n]) W := by kernel_rfl
theorem m_taking_hear (s wt ag : Bool) (c n : Int) (W : World) : Sem.run Try.prog (method 208 83 (.agg #[.bool s, .bool wt, .bool ag, .int .i64 c, .int .i64 n]) hearName) W = .ok (73, .agg #[.bool s, .bool wt, .bool ag, .int .i64 c, .int .i64 n]) W := by kernel_rfl
theorem since_any (n m : Int) (w : World) :
    Calls Try.prog 69 #[.int .u8 n, .int .u8 m] w fun e w' => e = .returned (.int .i64 ((n - m) % 256)) ∧ w' = w := by
  go_enter Try.func69, Try.ntmps69
  go_wp2
  go_ret
  exact ⟨rfl, rfl⟩
theorem next_any (n : Int) (w : World) :
    Calls Try.prog 62 #[.int .u8 n] w fun e w' => e = .returned (.int .u8 ((n + 1) % 256)) ∧ w' = w := by
  go_enter Try.func62, Try.ntmps62
  go_wp2
  go_ret
  exact ⟨rfl, rfl⟩
def lateB (a : Int) : Bool := decide (247 < a)
def farB (a : Int) : Bool := decide (8 ≤ a) && !lateB a
theorem seqLate_any (a : Int) (w : World) :
    Calls Try.prog 72 #[.int .i64 a] w fun e w' => e = .returned (.bool (lateB a)) ∧ w' = w := by
  go_enter Try.func72, Try.ntmps72
  go_wp2
  go_ret
  exact ⟨rfl, rfl⟩
set_option maxHeartbeats 400000 in
theorem seqFar_any (a : Int) (w : World) :
    Calls Try.prog 70 #[.int .i64 a] w fun e w' => e = .returned (.bool (farB a)) ∧ w' = w := by
  by_cases h : 8 ≤ a
  · have hx : Hid (farB a = !lateB a) := by show farB a = _; simp [farB, h]
    go_enter Try.func70, Try.ntmps70
    go_wp2_with (go_at_call 72; refine (seqLate_any _ _).mono ?_; rintro e w' ⟨rfl, rfl⟩)
    go_ret
    exact ⟨by rw [hx.out]; rfl, rfl⟩
  · have hx : Hid (farB a = false) := by show farB a = _; simp [farB, h]
    go_enter Try.func70, Try.ntmps70
    go_wp2_with (go_at_call 72; refine (seqLate_any _ _).mono ?_; rintro e w' ⟨rfl, rfl⟩)
    go_ret
    exact ⟨by rw [hx.out]; rfl, rfl⟩
set_option maxHeartbeats 400000 in
theorem shut_any (s wt ag : Bool) (c n : Int) (w : World) :
    Calls Try.prog 71 #[.agg #[.bool s, .bool wt, .bool ag, .int .i64 c, .int .i64 n]] w fun e w' => e = .returned (.iface 81 (.agg #[.bool true, .bool wt, .bool ag, .int .i64 c, .int .i64 n])) ∧ Below w.heap.size w w' := by
  go_enter Try.func71, Try.ntmps71
  go_wp2
  go_ret
  exact ⟨rfl, (Below.refl _ _).alloc (Nat.le_refl _) _⟩
set_option maxHeartbeats 400000 in
theorem standing_shut (wt ag : Bool) (c n : Int) (w : World) :
    Calls Try.prog 27 #[.agg #[.bool true, .bool wt, .bool ag, .int .i64 c, .int .i64 n]] w fun e w' => e = .returned (.iface 81 (.agg #[.bool true, .bool wt, .bool ag, .int .i64 c, .int .i64 n])) ∧ Below w.heap.size w w' := by
  go_enter Try.func27, Try.ntmps27
  go_wp2
  go_ret
  exact ⟨rfl, ((Below.refl _ _).alloc (Nat.le_refl _) _).alloc (by simp) _⟩
set_option maxHeartbeats 400000 in
theorem standing_waits (ag : Bool) (c n : Int) (w : World) :
    Calls Try.prog 27 #[.agg #[.bool false, .bool true, .bool ag, .int .i64 c, .int .i64 n]] w fun e w' => e = .returned (.iface 82 (.agg #[.bool false, .bool true, .bool ag, .int .i64 c, .int .i64 n])) ∧ Below w.heap.size w w' := by
  go_enter Try.func27, Try.ntmps27
  go_wp2
  go_ret
  exact ⟨rfl, ((Below.refl _ _).alloc (Nat.le_refl _) _).alloc (by simp) _⟩
set_option maxHeartbeats 400000 in
theorem standing_takes (ag : Bool) (c n : Int) (w : World) :
    Calls Try.prog 27 #[.agg #[.bool false, .bool false, .bool ag, .int .i64 c, .int .i64 n]] w fun e w' => e = .returned (.iface 83 (.agg #[.bool false, .bool false, .bool ag, .int .i64 c, .int .i64 n])) ∧ Below w.heap.size w w' := by
  go_enter Try.func27, Try.ntmps27
  go_wp2
  go_ret
  exact ⟨rfl, ((Below.refl _ _).alloc (Nat.le_refl _) _).alloc (by simp) _⟩
set_option maxHeartbeats 400000 in
theorem kind_govern (p : Bool) (c v q : Int) (d : ByteArray) (w : World) :
    Calls Try.prog 25 #[.agg #[.bool p, .bool true, .int .i64 c, .int .i64 v, .int .i64 q, .string d]] w fun e w' => e = .returned (.iface 50 (.agg #[.string d])) ∧ Below w.heap.size w w' := by
  go_enter Try.func25, Try.ntmps25
  go_wp2
  go_ret
  exact ⟨rfl, (Below.refl _ _).alloc (Nat.le_refl _) _⟩
set_option maxHeartbeats 400000 in
theorem kind_past (c v q : Int) (d : ByteArray) (w : World) :
    Calls Try.prog 25 #[.agg #[.bool true, .bool false, .int .i64 c, .int .i64 v, .int .i64 q, .string d]] w fun e w' => e = .returned (.iface 74 (.agg #[])) ∧ Below w.heap.size w w' := by
  go_enter Try.func25, Try.ntmps25
  go_wp2
  go_ret
  exact ⟨rfl, (Below.refl _ _).alloc (Nat.le_refl _) _⟩
set_option maxHeartbeats 400000 in
theorem kind_order (c v q : Int) (d : ByteArray) (w : World) :
    Calls Try.prog 25 #[.agg #[.bool false, .bool false, .int .i64 c, .int .i64 v, .int .i64 q, .string d]] w fun e w' => e = .returned (.iface 53 (.agg #[.int .i64 q])) ∧ Below w.heap.size w w' := by
  go_enter Try.func25, Try.ntmps25
  go_wp2
  go_ret
  exact ⟨rfl, (Below.refl _ _).alloc (Nat.le_refl _) _⟩
set_option maxHeartbeats 400000 in
theorem shut_hear (wt ag : Bool) (c n q : Int) (room : Bool) (w : World) :
    Calls Try.prog 66 #[.agg #[.bool true, .bool wt, .bool ag, .int .i64 c, .int .i64 n], .int .u8 q, .bool room] w fun e w' => e = .returned (.tuple #[.iface 81 (.agg #[.bool true, .bool wt, .bool ag, .int .i64 c, .int .i64 n]), .int .i64 5]) ∧ Below w.heap.size w w' := by
  go_enter Try.func66, Try.ntmps66
  go_wp2
  go_ret2
  exact ⟨rfl, (Below.refl _ _).alloc (Nat.le_refl _) _⟩
set_option maxHeartbeats 400000 in
theorem waits_hear_far (s wt ag : Bool) (c n q : Int) (room : Bool) (w : World) (hn0 : 0 ≤ n) (hn1 : n ≤ 255) (hf : farB ((q - n) % 256) = true) :
    Calls Try.prog 68 #[.agg #[.bool s, .bool wt, .bool ag, .int .i64 c, .int .i64 n], .int .u8 q, .bool room] w fun e w' => e = .returned (.tuple #[.iface 81 (.agg #[.bool true, .bool wt, .bool ag, .int .i64 c, .int .i64 n]), .int .i64 3]) ∧ Below w.heap.size w w' := by
  go_enter Try.func68, Try.ntmps68
  go_wp2_with (first | (go_at_call 69; refine (since_any _ _ _).mono ?_; rintro e w' ⟨rfl, rfl⟩) | (go_at_call 70; refine (seqFar_any _ _).mono ?_; rintro e w' ⟨rfl, rfl⟩) | (go_at_call 72; refine (seqLate_any _ _).mono ?_; rintro e w' ⟨rfl, rfl⟩) | (go_at_call 62; refine (next_any _ _).mono ?_; rintro e w' ⟨rfl, rfl⟩) | (go_at_call 71; refine (shut_any _ _ _ _ _ _).mono ?_; rintro e w1 ⟨rfl, hb1⟩))
  go_ret2
  exact ⟨rfl, ((Below.refl _ _).alloc (Nat.le_refl _) _).trans (hb1.mono (by simp))⟩
set_option maxHeartbeats 400000 in
theorem waits_hear_late (s wt ag : Bool) (c n q : Int) (room : Bool) (w : World) (hn0 : 0 ≤ n) (hn1 : n ≤ 255) (hf : farB ((q - n) % 256) = false) (hl : lateB ((q - n) % 256) = true) :
    Calls Try.prog 68 #[.agg #[.bool s, .bool wt, .bool ag, .int .i64 c, .int .i64 n], .int .u8 q, .bool room] w fun e w' => e = .returned (.tuple #[.iface 82 (.agg #[.bool s, .bool wt, .bool ag, .int .i64 c, .int .i64 n]), .int .i64 1]) ∧ Below w.heap.size w w' := by
  go_enter Try.func68, Try.ntmps68
  go_wp2_with (first | (go_at_call 69; refine (since_any _ _ _).mono ?_; rintro e w' ⟨rfl, rfl⟩) | (go_at_call 70; refine (seqFar_any _ _).mono ?_; rintro e w' ⟨rfl, rfl⟩) | (go_at_call 72; refine (seqLate_any _ _).mono ?_; rintro e w' ⟨rfl, rfl⟩) | (go_at_call 62; refine (next_any _ _).mono ?_; rintro e w' ⟨rfl, rfl⟩) | (go_at_call 71; refine (shut_any _ _ _ _ _ _).mono ?_; rintro e w1 ⟨rfl, hb1⟩))
  go_ret2
  exact ⟨rfl, (Below.refl _ _).alloc (Nat.le_refl _) _⟩
set_option maxHeartbeats 400000 in
theorem waits_hear_near (s wt ag : Bool) (c n q : Int) (room : Bool) (w : World) (hn0 : 0 ≤ n) (hn1 : n ≤ 255) (hf : farB ((q - n) % 256) = false) (hl : lateB ((q - n) % 256) = false) :
    Calls Try.prog 68 #[.agg #[.bool s, .bool wt, .bool ag, .int .i64 c, .int .i64 n], .int .u8 q, .bool room] w fun e w' => e = .returned (.tuple #[.iface 82 (.agg #[.bool s, .bool wt, .bool ag, .int .i64 c, .int .i64 n]), .int .i64 4]) ∧ Below w.heap.size w w' := by
  go_enter Try.func68, Try.ntmps68
  go_wp2_with (first | (go_at_call 69; refine (since_any _ _ _).mono ?_; rintro e w' ⟨rfl, rfl⟩) | (go_at_call 70; refine (seqFar_any _ _).mono ?_; rintro e w' ⟨rfl, rfl⟩) | (go_at_call 72; refine (seqLate_any _ _).mono ?_; rintro e w' ⟨rfl, rfl⟩) | (go_at_call 62; refine (next_any _ _).mono ?_; rintro e w' ⟨rfl, rfl⟩) | (go_at_call 71; refine (shut_any _ _ _ _ _ _).mono ?_; rintro e w1 ⟨rfl, hb1⟩))
  go_ret2
  exact ⟨rfl, (Below.refl _ _).alloc (Nat.le_refl _) _⟩
set_option maxHeartbeats 400000 in
theorem takes_hear_far (s wt ag : Bool) (c n q : Int) (room : Bool) (w : World) (hn0 : 0 ≤ n) (hn1 : n ≤ 255) (hf : farB ((q - n) % 256) = true) :
    Calls Try.prog 73 #[.agg #[.bool s, .bool wt, .bool ag, .int .i64 c, .int .i64 n], .int .u8 q, .bool room] w fun e w' => e = .returned (.tuple #[.iface 81 (.agg #[.bool true, .bool wt, .bool ag, .int .i64 c, .int .i64 n]), .int .i64 3]) ∧ Below w.heap.size w w' := by
  go_enter Try.func73, Try.ntmps73
  go_wp2_with (first | (go_at_call 69; refine (since_any _ _ _).mono ?_; rintro e w' ⟨rfl, rfl⟩) | (go_at_call 70; refine (seqFar_any _ _).mono ?_; rintro e w' ⟨rfl, rfl⟩) | (go_at_call 72; refine (seqLate_any _ _).mono ?_; rintro e w' ⟨rfl, rfl⟩) | (go_at_call 62; refine (next_any _ _).mono ?_; rintro e w' ⟨rfl, rfl⟩) | (go_at_call 71; refine (shut_any _ _ _ _ _ _).mono ?_; rintro e w1 ⟨rfl, hb1⟩))
  go_ret2
  exact ⟨rfl, ((Below.refl _ _).alloc (Nat.le_refl _) _).trans (hb1.mono (by simp))⟩
set_option maxHeartbeats 400000 in
theorem takes_hear_late (s wt ag : Bool) (c n q : Int) (room : Bool) (w : World) (hn0 : 0 ≤ n) (hn1 : n ≤ 255) (hf : farB ((q - n) % 256) = false) (hl : lateB ((q - n) % 256) = true) :
    Calls Try.prog 73 #[.agg #[.bool s, .bool wt, .bool ag, .int .i64 c, .int .i64 n], .int .u8 q, .bool room] w fun e w' => e = .returned (.tuple #[.iface 83 (.agg #[.bool s, .bool wt, .bool ag, .int .i64 c, .int .i64 n]), .int .i64 1]) ∧ Below w.heap.size w w' := by
  go_enter Try.func73, Try.ntmps73
  go_wp2_with (first | (go_at_call 69; refine (since_any _ _ _).mono ?_; rintro e w' ⟨rfl, rfl⟩) | (go_at_call 70; refine (seqFar_any _ _).mono ?_; rintro e w' ⟨rfl, rfl⟩) | (go_at_call 72; refine (seqLate_any _ _).mono ?_; rintro e w' ⟨rfl, rfl⟩) | (go_at_call 62; refine (next_any _ _).mono ?_; rintro e w' ⟨rfl, rfl⟩) | (go_at_call 71; refine (shut_any _ _ _ _ _ _).mono ?_; rintro e w1 ⟨rfl, hb1⟩))
  go_ret2
  exact ⟨rfl, (Below.refl _ _).alloc (Nat.le_refl _) _⟩
set_option maxHeartbeats 400000 in
theorem takes_hear_early (s wt ag : Bool) (c n q : Int) (room : Bool) (w : World) (hn0 : 0 ≤ n) (hn1 : n ≤ 255) (hf : farB ((q - n) % 256) = false) (hl : lateB ((q - n) % 256) = false) (hz : 0 < (q - n) % 256) :
    Calls Try.prog 73 #[.agg #[.bool s, .bool wt, .bool ag, .int .i64 c, .int .i64 n], .int .u8 q, .bool room] w fun e w' => e = .returned (.tuple #[.iface 83 (.agg #[.bool s, .bool wt, .bool true, .int .i64 c, .int .i64 n]), .int .i64 2]) ∧ Below w.heap.size w w' := by
  go_enter Try.func73, Try.ntmps73
  go_wp2_with (first | (go_at_call 69; refine (since_any _ _ _).mono ?_; rintro e w' ⟨rfl, rfl⟩) | (go_at_call 70; refine (seqFar_any _ _).mono ?_; rintro e w' ⟨rfl, rfl⟩) | (go_at_call 72; refine (seqLate_any _ _).mono ?_; rintro e w' ⟨rfl, rfl⟩) | (go_at_call 62; refine (next_any _ _).mono ?_; rintro e w' ⟨rfl, rfl⟩) | (go_at_call 71; refine (shut_any _ _ _ _ _ _).mono ?_; rintro e w1 ⟨rfl, hb1⟩))
  go_ret2
  exact ⟨rfl, (Below.refl _ _).alloc (Nat.le_refl _) _⟩
set_option maxHeartbeats 400000 in
theorem takes_hear_full (s wt ag : Bool) (c n q : Int) (w : World) (hn0 : 0 ≤ n) (hn1 : n ≤ 255) (hf : farB ((q - n) % 256) = false) (hl : lateB ((q - n) % 256) = false) (hz : ¬ 0 < (q - n) % 256) :
    Calls Try.prog 73 #[.agg #[.bool s, .bool wt, .bool ag, .int .i64 c, .int .i64 n], .int .u8 q, .bool false] w fun e w' => e = .returned (.tuple #[.iface 82 (.agg #[.bool s, .bool true, .bool true, .int .i64 c, .int .i64 n]), .int .i64 4]) ∧ Below w.heap.size w w' := by
  go_enter Try.func73, Try.ntmps73
  go_wp2_with (first | (go_at_call 69; refine (since_any _ _ _).mono ?_; rintro e w' ⟨rfl, rfl⟩) | (go_at_call 70; refine (seqFar_any _ _).mono ?_; rintro e w' ⟨rfl, rfl⟩) | (go_at_call 72; refine (seqLate_any _ _).mono ?_; rintro e w' ⟨rfl, rfl⟩) | (go_at_call 62; refine (next_any _ _).mono ?_; rintro e w' ⟨rfl, rfl⟩) | (go_at_call 71; refine (shut_any _ _ _ _ _ _).mono ?_; rintro e w1 ⟨rfl, hb1⟩))
  go_ret2
  exact ⟨rfl, (Below.refl _ _).alloc (Nat.le_refl _) _⟩
set_option maxHeartbeats 400000 in
theorem takes_hear_take (s wt ag : Bool) (c n q : Int) (w : World) (hn0 : 0 ≤ n) (hn1 : n ≤ 255) (hf : farB ((q - n) % 256) = false) (hl : lateB ((q - n) % 256) = false) (hz : ¬ 0 < (q - n) % 256) :
    Calls Try.prog 73 #[.agg #[.bool s, .bool wt, .bool ag, .int .i64 c, .int .i64 n], .int .u8 q, .bool true] w fun e w' => e = .returned (.tuple #[.iface 83 (.agg #[.bool s, .bool wt, .bool false, .int .i64 c, .int .i64 ((q + 1) % 256)]), .int .i64 0]) ∧ Below w.heap.size w w' := by
  go_enter Try.func73, Try.ntmps73
  go_wp2_with (first | (go_at_call 69; refine (since_any _ _ _).mono ?_; rintro e w' ⟨rfl, rfl⟩) | (go_at_call 70; refine (seqFar_any _ _).mono ?_; rintro e w' ⟨rfl, rfl⟩) | (go_at_call 72; refine (seqLate_any _ _).mono ?_; rintro e w' ⟨rfl, rfl⟩) | (go_at_call 62; refine (next_any _ _).mono ?_; rintro e w' ⟨rfl, rfl⟩) | (go_at_call 71; refine (shut_any _ _ _ _ _ _).mono ?_; rintro e w1 ⟨rfl, hb1⟩))
  go_ret2
  exact ⟨rfl, (Below.refl _ _).alloc (Nat.le_refl _) _⟩
set_option maxHeartbeats 400000 in
theorem farm_any (s wt ag : Bool) (c n : Int) (w : World) :
    Calls Try.prog 64 #[.agg #[.bool s, .bool wt, .bool ag, .int .i64 c, .int .i64 n]] w fun e w' => e = .returned (.agg #[.bool s, .bool wt, .bool ag, .int .i64 c, .int .i64 n]) ∧ Below w.heap.size w w' := by
  go_enter Try.func64, Try.ntmps64
  go_wp2
  refine bodyPost_ret (v := .agg #[.bool s, .bool wt, .bool ag, .int .i64 c, .int .i64 n]) (results_cell_row Try.results64 _ _ (w.heap.size + 1) 24 #[.bool s, .bool wt, .bool ag, .int .i64 c, .int .i64 n] (0, 0) _ rfl ?_ Try.underlying24 rfl cellsFarm) rfl ⟨rfl, ?_⟩
  · exact get_new (by simp)
  · exact ((Below.refl _ _).alloc (Nat.le_refl _) _).alloc (by simp) _
set_option maxHeartbeats 400000 in
theorem counted_any (s wt ag : Bool) (c n : Int) (w : World) (h0 : 0 ≤ c) (h1 : c ≤ 3) :
    Calls Try.prog 28 #[.agg #[.bool s, .bool wt, .bool ag, .int .i64 c, .int .i64 n]] w fun e w' => e = .returned (.agg #[.bool s, .bool wt, .bool ag, .int .i64 ((c + 1) % 4), .int .i64 n]) ∧ Below w.heap.size w w' := by
  go_enter Try.func28, Try.ntmps28
  go_wp2
  refine bodyPost_ret (v := .agg #[.bool s, .bool wt, .bool ag, .int .i64 ((c + 1) % 4), .int .i64 n]) (results_cell_row Try.results28 _ _ (w.heap.size + 1) 24 #[.bool s, .bool wt, .bool ag, .int .i64 ((c + 1) % 4), .int .i64 n] (0, 0) _ rfl ?_ Try.underlying24 rfl cellsFarm) rfl ⟨rfl, ?_⟩
  · exact get_new (by simp)
  · exact ((Below.refl _ _).alloc (Nat.le_refl _) _).alloc (by simp) _
set_option maxHeartbeats 400000 in
theorem keeper_set (s wt ag : Bool) (c n m : Int) (w : World) (h0 : 0 ≤ m) (h1 : m ≤ 255) :
    Calls Try.prog 65 #[.agg #[.bool s, .bool wt, .bool ag, .int .i64 c, .int .i64 n], .int .u8 m] w fun e w' => e = .returned (.iface 83 (.agg #[.bool false, .bool false, .bool false, .int .i64 c, .int .i64 m])) ∧ Below w.heap.size w w' := by
  go_enter Try.func65, Try.ntmps65
  go_wp2
  go_ret
  exact ⟨rfl, (Below.refl _ _).alloc (Nat.le_refl _) _⟩
set_option maxHeartbeats 400000 in
theorem shut_set (s wt ag : Bool) (c n m : Int) (w : World) :
    Calls Try.prog 67 #[.agg #[.bool s, .bool wt, .bool ag, .int .i64 c, .int .i64 n], .int .u8 m] w fun e w' => e = .returned (.iface 81 (.agg #[.bool s, .bool wt, .bool ag, .int .i64 c, .int .i64 n])) ∧ Below w.heap.size w w' := by
  go_enter Try.func67, Try.ntmps67
  go_wp2
  go_ret
  exact ⟨rfl, (Below.refl _ _).alloc (Nat.le_refl _) _⟩
end Go.Proofs.Ytfojljhpobdcdaa
