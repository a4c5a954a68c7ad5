/- The contracts below impl.FarmHear: numbers that go round, how it stands, and what it hears. -/
import Derived.Test.YteogiiealhganaaFa
import Derived.Test.YteogiiealhganaaHeap
namespace Go.Proofs.Yteogiiealhganaa
open Go.ChangeShapes Go.WideShapes Go.ChangeAt Go.RowKit
set_option linter.unusedVariables false

def slash : String := String.ofList [Char.ofNat 47]
def setName : String := "loop.example" ++ slash ++ "skyway" ++ slash ++ "impl.set"
def farmName : String := "loop.example" ++ slash ++ "skyway" ++ slash ++ "impl.farm"
def hearName : String := "loop.example" ++ slash ++ "skyway" ++ slash ++ "impl.hear"
theorem nil_shut (s wt ag : Bool) (c n : Int) (W : World) : Sem.run Try.prog (nilAhead 218 91 (.agg #[.bool s, .bool wt, .bool ag, .int .i64 c, .int .i64 n]) setName) W = .ok (some false) W := by kernel_rfl
theorem m_shut_set (s wt ag : Bool) (c n : Int) (W : World) : Sem.run Try.prog (method 218 91 (.agg #[.bool s, .bool wt, .bool ag, .int .i64 c, .int .i64 n]) setName) W = .ok (80, .agg #[.bool s, .bool wt, .bool ag, .int .i64 c, .int .i64 n]) W := by kernel_rfl
theorem m_shut_farm (s wt ag : Bool) (c n : Int) (W : World) : Sem.run Try.prog (method 218 91 (.agg #[.bool s, .bool wt, .bool ag, .int .i64 c, .int .i64 n]) farmName) W = .ok (77, .agg #[.bool s, .bool wt, .bool ag, .int .i64 c, .int .i64 n]) W := by kernel_rfl
theorem m_shut_hear (s wt ag : Bool) (c n : Int) (W : World) : Sem.run Try.prog (method 218 91 (.agg #[.bool s, .bool wt, .bool ag, .int .i64 c, .int .i64 n]) hearName) W = .ok (79, .agg #[.bool s, .bool wt, .bool ag, .int .i64 c, .int .i64 n]) W := by kernel_rfl
theorem nil_waiting (s wt ag : Bool) (c n : Int) (W : World) : Sem.run Try.prog (nilAhead 218 92 (.agg #[.bool s, .bool wt, .bool ag, .int .i64 c, .int .i64 n]) setName) W = .ok (some false) W := by kernel_rfl
theorem m_waiting_set (s wt ag : Bool) (c n : Int) (W : World) : Sem.run Try.prog (method 218 92 (.agg #[.bool s, .bool wt, .bool ag, .int .i64 c, .int .i64 n]) setName) W = .ok (78, .agg #[.bool s, .bool wt, .bool ag, .int .i64 c, .int .i64 n]) W := by kernel_rfl
theorem m_waiting_farm (s wt ag : Bool) (c n : Int) (W : World) : Sem.run Try.prog (method 218 92 (.agg #[.bool s, .bool wt, .bool ag, .int .i64 c, .int .i64 n]) farmName) W = .ok (77, .agg #[.bool s, .bool wt, .bool ag, .int .i64 c, .int .i64 n]) W := by kernel_rfl
theorem m_waiting_hear (s wt ag : Bool) (c n : Int) (W : World) : Sem.run Try.prog (method 218 92 (.agg #[.bool s, .bool wt, .bool ag, .int .i64 c, .int .i64 n]) hearName) W = .ok (81, .agg #[.bool s, .bool wt, .bool ag, .int .i64 c, .int .i64 n]) W := by kernel_rfl
theorem nil_taking (s wt ag : Bool) (c n : Int) (W : World) : Sem.run Try.prog (nilAhead 218 93 (.agg #[.bool s, .bool wt, .bool ag, .int .i64 c, .int .i64 n]) setName) W = .ok (some false) W := by kernel_rfl
theorem m_taking_set (s wt ag : Bool) (c n : Int) (W : World) : Sem.run Try.prog (method 218 93 (.agg #[.bool s, .bool wt, .bool ag, .int .i64 c, .int .i64 n]) setName) W = .ok (78, .agg #[.bool s, .bool wt, .bool ag, .int .i64 c, .int .i64 n]) W := by kernel_rfl
theorem m_taking_farm (s wt ag : Bool) (c n : Int) (W : World) : Sem.run Try.prog (method 218 93 (.agg #[.bool s, .bool wt, .bool ag, .int .i64 c, .int .i64 n]) farmName) W = .ok (77, .agg #[.bool s, .bool wt, .bool ag, .int .i64 c, .int .i64 n]) W := by kernel_rfl
theorem m_taking_hear (s wt ag : Bool) (c n : Int) (W : World) : Sem.run Try.prog (method 218 93 (.agg #[.bool s, .bool wt, .bool ag, .int .i64 c, .int .i64 n]) hearName) W = .ok (86, .agg #[.bool s, .bool wt, .bool ag, .int .i64 c, .int .i64 n]) W := by kernel_rfl
theorem since_any (n m : Int) (w : World) :
    Calls Try.prog 82 #[.int .u8 n, .int .u8 m] w fun e w' => e = .returned (.int .i64 ((n - m) % 256)) ∧ w' = w := by
  go_enter Try.func82, Try.ntmps82
  go_wp2
  go_ret
  exact ⟨rfl, rfl⟩
theorem next_any (n : Int) (w : World) :
    Calls Try.prog 75 #[.int .u8 n] w fun e w' => e = .returned (.int .u8 ((n + 1) % 256)) ∧ w' = w := by
  go_enter Try.func75, Try.ntmps75
  go_wp2
  go_ret
  exact ⟨rfl, rfl⟩
def lateB (a : Int) : Bool := decide (247 < a)
def farB (a : Int) : Bool := decide (8 ≤ a) && !lateB a
theorem seqLate_any (a : Int) (w : World) :
    Calls Try.prog 85 #[.int .i64 a] w fun e w' => e = .returned (.bool (lateB a)) ∧ w' = w := by
  go_enter Try.func85, Try.ntmps85
  go_wp2
  go_ret
  exact ⟨rfl, rfl⟩
set_option maxHeartbeats 400000 in
theorem seqFar_any (a : Int) (w : World) :
    Calls Try.prog 83 #[.int .i64 a] w fun e w' => e = .returned (.bool (farB a)) ∧ w' = w := by
  by_cases h : 8 ≤ a
  · have hx : Hid (farB a = !lateB a) := by show farB a = _; simp [farB, h]
    go_enter Try.func83, Try.ntmps83
    go_wp2_with (go_at_call 85; refine (seqLate_any _ _).mono ?_; rintro e w' ⟨rfl, rfl⟩)
    go_ret
    exact ⟨by rw [hx.out]; rfl, rfl⟩
  · have hx : Hid (farB a = false) := by show farB a = _; simp [farB, h]
    go_enter Try.func83, Try.ntmps83
    go_wp2_with (go_at_call 85; refine (seqLate_any _ _).mono ?_; rintro e w' ⟨rfl, rfl⟩)
    go_ret
    exact ⟨by rw [hx.out]; rfl, rfl⟩
set_option maxHeartbeats 400000 in
theorem shut_any (s wt ag : Bool) (c n : Int) (w : World) :
    Calls Try.prog 84 #[.agg #[.bool s, .bool wt, .bool ag, .int .i64 c, .int .i64 n]] w fun e w' => e = .returned (.iface 91 (.agg #[.bool true, .bool wt, .bool ag, .int .i64 c, .int .i64 n])) ∧ Below w.heap.size w w' := by
  go_enter Try.func84, Try.ntmps84
  go_wp2
  go_ret
  exact ⟨rfl, (Below.refl _ _).alloc (Nat.le_refl _) _⟩
set_option maxHeartbeats 400000 in
theorem standing_shut (wt ag : Bool) (c n : Int) (w : World) :
    Calls Try.prog 40 #[.agg #[.bool true, .bool wt, .bool ag, .int .i64 c, .int .i64 n]] w fun e w' => e = .returned (.iface 91 (.agg #[.bool true, .bool wt, .bool ag, .int .i64 c, .int .i64 n])) ∧ Below w.heap.size w w' := by
  go_enter Try.func40, Try.ntmps40
  go_wp2
  go_ret
  exact ⟨rfl, ((Below.refl _ _).alloc (Nat.le_refl _) _).alloc (by simp) _⟩
set_option maxHeartbeats 400000 in
theorem standing_waits (ag : Bool) (c n : Int) (w : World) :
    Calls Try.prog 40 #[.agg #[.bool false, .bool true, .bool ag, .int .i64 c, .int .i64 n]] w fun e w' => e = .returned (.iface 92 (.agg #[.bool false, .bool true, .bool ag, .int .i64 c, .int .i64 n])) ∧ Below w.heap.size w w' := by
  go_enter Try.func40, Try.ntmps40
  go_wp2
  go_ret
  exact ⟨rfl, ((Below.refl _ _).alloc (Nat.le_refl _) _).alloc (by simp) _⟩
set_option maxHeartbeats 400000 in
theorem standing_takes (ag : Bool) (c n : Int) (w : World) :
    Calls Try.prog 40 #[.agg #[.bool false, .bool false, .bool ag, .int .i64 c, .int .i64 n]] w fun e w' => e = .returned (.iface 93 (.agg #[.bool false, .bool false, .bool ag, .int .i64 c, .int .i64 n])) ∧ Below w.heap.size w w' := by
  go_enter Try.func40, Try.ntmps40
  go_wp2
  go_ret
  exact ⟨rfl, ((Below.refl _ _).alloc (Nat.le_refl _) _).alloc (by simp) _⟩
set_option maxHeartbeats 400000 in
theorem kind_govern (p : Bool) (c v q : Int) (d : ByteArray) (w : World) :
    Calls Try.prog 38 #[.agg #[.bool p, .bool true, .int .i64 c, .int .i64 v, .int .i64 q, .string d]] w fun e w' => e = .returned (.iface 61 (.agg #[.string d])) ∧ Below w.heap.size w w' := by
  go_enter Try.func38, Try.ntmps38
  go_wp2
  go_ret
  exact ⟨rfl, (Below.refl _ _).alloc (Nat.le_refl _) _⟩
set_option maxHeartbeats 400000 in
theorem kind_past (c v q : Int) (d : ByteArray) (w : World) :
    Calls Try.prog 38 #[.agg #[.bool true, .bool false, .int .i64 c, .int .i64 v, .int .i64 q, .string d]] w fun e w' => e = .returned (.iface 84 (.agg #[])) ∧ Below w.heap.size w w' := by
  go_enter Try.func38, Try.ntmps38
  go_wp2
  go_ret
  exact ⟨rfl, (Below.refl _ _).alloc (Nat.le_refl _) _⟩
set_option maxHeartbeats 400000 in
theorem kind_order (c v q : Int) (d : ByteArray) (w : World) :
    Calls Try.prog 38 #[.agg #[.bool false, .bool false, .int .i64 c, .int .i64 v, .int .i64 q, .string d]] w fun e w' => e = .returned (.iface 64 (.agg #[.int .i64 q])) ∧ Below w.heap.size w w' := by
  go_enter Try.func38, Try.ntmps38
  go_wp2
  go_ret
  exact ⟨rfl, (Below.refl _ _).alloc (Nat.le_refl _) _⟩
set_option maxHeartbeats 400000 in
theorem shut_hear (wt ag : Bool) (c n q : Int) (room : Bool) (w : World) :
    Calls Try.prog 79 #[.agg #[.bool true, .bool wt, .bool ag, .int .i64 c, .int .i64 n], .int .u8 q, .bool room] w fun e w' => e = .returned (.tuple #[.iface 91 (.agg #[.bool true, .bool wt, .bool ag, .int .i64 c, .int .i64 n]), .int .i64 5]) ∧ Below w.heap.size w w' := by
  go_enter Try.func79, Try.ntmps79
  go_wp2
  go_ret2
  exact ⟨rfl, (Below.refl _ _).alloc (Nat.le_refl _) _⟩
set_option maxHeartbeats 400000 in
theorem waits_hear_far (s wt ag : Bool) (c n q : Int) (room : Bool) (w : World) (hn0 : 0 ≤ n) (hn1 : n ≤ 255) (hf : farB ((q - n) % 256) = true) :
    Calls Try.prog 81 #[.agg #[.bool s, .bool wt, .bool ag, .int .i64 c, .int .i64 n], .int .u8 q, .bool room] w fun e w' => e = .returned (.tuple #[.iface 91 (.agg #[.bool true, .bool wt, .bool ag, .int .i64 c, .int .i64 n]), .int .i64 3]) ∧ Below w.heap.size w w' := by
  go_enter Try.func81, Try.ntmps81
  go_wp2_with (first | (go_at_call 82; refine (since_any _ _ _).mono ?_; rintro e w' ⟨rfl, rfl⟩) | (go_at_call 83; refine (seqFar_any _ _).mono ?_; rintro e w' ⟨rfl, rfl⟩) | (go_at_call 85; refine (seqLate_any _ _).mono ?_; rintro e w' ⟨rfl, rfl⟩) | (go_at_call 75; refine (next_any _ _).mono ?_; rintro e w' ⟨rfl, rfl⟩) | (go_at_call 84; refine (shut_any _ _ _ _ _ _).mono ?_; rintro e w1 ⟨rfl, hb1⟩))
  go_ret2
  exact ⟨rfl, ((Below.refl _ _).alloc (Nat.le_refl _) _).trans (hb1.mono (by simp))⟩
set_option maxHeartbeats 400000 in
theorem waits_hear_late (s wt ag : Bool) (c n q : Int) (room : Bool) (w : World) (hn0 : 0 ≤ n) (hn1 : n ≤ 255) (hf : farB ((q - n) % 256) = false) (hl : lateB ((q - n) % 256) = true) :
    Calls Try.prog 81 #[.agg #[.bool s, .bool wt, .bool ag, .int .i64 c, .int .i64 n], .int .u8 q, .bool room] w fun e w' => e = .returned (.tuple #[.iface 92 (.agg #[.bool s, .bool wt, .bool ag, .int .i64 c, .int .i64 n]), .int .i64 1]) ∧ Below w.heap.size w w' := by
  go_enter Try.func81, Try.ntmps81
  go_wp2_with (first | (go_at_call 82; refine (since_any _ _ _).mono ?_; rintro e w' ⟨rfl, rfl⟩) | (go_at_call 83; refine (seqFar_any _ _).mono ?_; rintro e w' ⟨rfl, rfl⟩) | (go_at_call 85; refine (seqLate_any _ _).mono ?_; rintro e w' ⟨rfl, rfl⟩) | (go_at_call 75; refine (next_any _ _).mono ?_; rintro e w' ⟨rfl, rfl⟩) | (go_at_call 84; refine (shut_any _ _ _ _ _ _).mono ?_; rintro e w1 ⟨rfl, hb1⟩))
  go_ret2
  exact ⟨rfl, (Below.refl _ _).alloc (Nat.le_refl _) _⟩
set_option maxHeartbeats 400000 in
theorem waits_hear_near (s wt ag : Bool) (c n q : Int) (room : Bool) (w : World) (hn0 : 0 ≤ n) (hn1 : n ≤ 255) (hf : farB ((q - n) % 256) = false) (hl : lateB ((q - n) % 256) = false) :
    Calls Try.prog 81 #[.agg #[.bool s, .bool wt, .bool ag, .int .i64 c, .int .i64 n], .int .u8 q, .bool room] w fun e w' => e = .returned (.tuple #[.iface 92 (.agg #[.bool s, .bool wt, .bool ag, .int .i64 c, .int .i64 n]), .int .i64 4]) ∧ Below w.heap.size w w' := by
  go_enter Try.func81, Try.ntmps81
  go_wp2_with (first | (go_at_call 82; refine (since_any _ _ _).mono ?_; rintro e w' ⟨rfl, rfl⟩) | (go_at_call 83; refine (seqFar_any _ _).mono ?_; rintro e w' ⟨rfl, rfl⟩) | (go_at_call 85; refine (seqLate_any _ _).mono ?_; rintro e w' ⟨rfl, rfl⟩) | (go_at_call 75; refine (next_any _ _).mono ?_; rintro e w' ⟨rfl, rfl⟩) | (go_at_call 84; refine (shut_any _ _ _ _ _ _).mono ?_; rintro e w1 ⟨rfl, hb1⟩))
  go_ret2
  exact ⟨rfl, (Below.refl _ _).alloc (Nat.le_refl _) _⟩
set_option maxHeartbeats 400000 in
theorem takes_hear_far (s wt ag : Bool) (c n q : Int) (room : Bool) (w : World) (hn0 : 0 ≤ n) (hn1 : n ≤ 255) (hf : farB ((q - n) % 256) = true) :
    Calls Try.prog 86 #[.agg #[.bool s, .bool wt, .bool ag, .int .i64 c, .int .i64 n], .int .u8 q, .bool room] w fun e w' => e = .returned (.tuple #[.iface 91 (.agg #[.bool true, .bool wt, .bool ag, .int .i64 c, .int .i64 n]), .int .i64 3]) ∧ Below w.heap.size w w' := by
  go_enter Try.func86, Try.ntmps86
  go_wp2_with (first | (go_at_call 82; refine (since_any _ _ _).mono ?_; rintro e w' ⟨rfl, rfl⟩) | (go_at_call 83; refine (seqFar_any _ _).mono ?_; rintro e w' ⟨rfl, rfl⟩) | (go_at_call 85; refine (seqLate_any _ _).mono ?_; rintro e w' ⟨rfl, rfl⟩) | (go_at_call 75; refine (next_any _ _).mono ?_; rintro e w' ⟨rfl, rfl⟩) | (go_at_call 84; refine (shut_any _ _ _ _ _ _).mono ?_; rintro e w1 ⟨rfl, hb1⟩))
  go_ret2
  exact ⟨rfl, ((Below.refl _ _).alloc (Nat.le_refl _) _).trans (hb1.mono (by simp))⟩
set_option maxHeartbeats 400000 in
theorem takes_hear_late (s wt ag : Bool) (c n q : Int) (room : Bool) (w : World) (hn0 : 0 ≤ n) (hn1 : n ≤ 255) (hf : farB ((q - n) % 256) = false) (hl : lateB ((q - n) % 256) = true) :
    Calls Try.prog 86 #[.agg #[.bool s, .bool wt, .bool ag, .int .i64 c, .int .i64 n], .int .u8 q, .bool room] w fun e w' => e = .returned (.tuple #[.iface 93 (.agg #[.bool s, .bool wt, .bool ag, .int .i64 c, .int .i64 n]), .int .i64 1]) ∧ Below w.heap.size w w' := by
  go_enter Try.func86, Try.ntmps86
  go_wp2_with (first | (go_at_call 82; refine (since_any _ _ _).mono ?_; rintro e w' ⟨rfl, rfl⟩) | (go_at_call 83; refine (seqFar_any _ _).mono ?_; rintro e w' ⟨rfl, rfl⟩) | (go_at_call 85; refine (seqLate_any _ _).mono ?_; rintro e w' ⟨rfl, rfl⟩) | (go_at_call 75; refine (next_any _ _).mono ?_; rintro e w' ⟨rfl, rfl⟩) | (go_at_call 84; refine (shut_any _ _ _ _ _ _).mono ?_; rintro e w1 ⟨rfl, hb1⟩))
  go_ret2
  exact ⟨rfl, (Below.refl _ _).alloc (Nat.le_refl _) _⟩
set_option maxHeartbeats 400000 in
theorem takes_hear_early (s wt ag : Bool) (c n q : Int) (room : Bool) (w : World) (hn0 : 0 ≤ n) (hn1 : n ≤ 255) (hf : farB ((q - n) % 256) = false) (hl : lateB ((q - n) % 256) = false) (hz : 0 < (q - n) % 256) :
    Calls Try.prog 86 #[.agg #[.bool s, .bool wt, .bool ag, .int .i64 c, .int .i64 n], .int .u8 q, .bool room] w fun e w' => e = .returned (.tuple #[.iface 93 (.agg #[.bool s, .bool wt, .bool true, .int .i64 c, .int .i64 n]), .int .i64 2]) ∧ Below w.heap.size w w' := by
  go_enter Try.func86, Try.ntmps86
  go_wp2_with (first | (go_at_call 82; refine (since_any _ _ _).mono ?_; rintro e w' ⟨rfl, rfl⟩) | (go_at_call 83; refine (seqFar_any _ _).mono ?_; rintro e w' ⟨rfl, rfl⟩) | (go_at_call 85; refine (seqLate_any _ _).mono ?_; rintro e w' ⟨rfl, rfl⟩) | (go_at_call 75; refine (next_any _ _).mono ?_; rintro e w' ⟨rfl, rfl⟩) | (go_at_call 84; refine (shut_any _ _ _ _ _ _).mono ?_; rintro e w1 ⟨rfl, hb1⟩))
  go_ret2
  exact ⟨rfl, (Below.refl _ _).alloc (Nat.le_refl _) _⟩
set_option maxHeartbeats 400000 in
theorem takes_hear_full (s wt ag : Bool) (c n q : Int) (w : World) (hn0 : 0 ≤ n) (hn1 : n ≤ 255) (hf : farB ((q - n) % 256) = false) (hl : lateB ((q - n) % 256) = false) (hz : ¬ 0 < (q - n) % 256) :
    Calls Try.prog 86 #[.agg #[.bool s, .bool wt, .bool ag, .int .i64 c, .int .i64 n], .int .u8 q, .bool false] w fun e w' => e = .returned (.tuple #[.iface 92 (.agg #[.bool s, .bool true, .bool true, .int .i64 c, .int .i64 n]), .int .i64 4]) ∧ Below w.heap.size w w' := by
  go_enter Try.func86, Try.ntmps86
  go_wp2_with (first | (go_at_call 82; refine (since_any _ _ _).mono ?_; rintro e w' ⟨rfl, rfl⟩) | (go_at_call 83; refine (seqFar_any _ _).mono ?_; rintro e w' ⟨rfl, rfl⟩) | (go_at_call 85; refine (seqLate_any _ _).mono ?_; rintro e w' ⟨rfl, rfl⟩) | (go_at_call 75; refine (next_any _ _).mono ?_; rintro e w' ⟨rfl, rfl⟩) | (go_at_call 84; refine (shut_any _ _ _ _ _ _).mono ?_; rintro e w1 ⟨rfl, hb1⟩))
  go_ret2
  exact ⟨rfl, (Below.refl _ _).alloc (Nat.le_refl _) _⟩
set_option maxHeartbeats 400000 in
theorem takes_hear_take (s wt ag : Bool) (c n q : Int) (w : World) (hn0 : 0 ≤ n) (hn1 : n ≤ 255) (hf : farB ((q - n) % 256) = false) (hl : lateB ((q - n) % 256) = false) (hz : ¬ 0 < (q - n) % 256) :
    Calls Try.prog 86 #[.agg #[.bool s, .bool wt, .bool ag, .int .i64 c, .int .i64 n], .int .u8 q, .bool true] w fun e w' => e = .returned (.tuple #[.iface 93 (.agg #[.bool s, .bool wt, .bool false, .int .i64 c, .int .i64 ((q + 1) % 256)]), .int .i64 0]) ∧ Below w.heap.size w w' := by
  go_enter Try.func86, Try.ntmps86
  go_wp2_with (first | (go_at_call 82; refine (since_any _ _ _).mono ?_; rintro e w' ⟨rfl, rfl⟩) | (go_at_call 83; refine (seqFar_any _ _).mono ?_; rintro e w' ⟨rfl, rfl⟩) | (go_at_call 85; refine (seqLate_any _ _).mono ?_; rintro e w' ⟨rfl, rfl⟩) | (go_at_call 75; refine (next_any _ _).mono ?_; rintro e w' ⟨rfl, rfl⟩) | (go_at_call 84; refine (shut_any _ _ _ _ _ _).mono ?_; rintro e w1 ⟨rfl, hb1⟩))
  go_ret2
  exact ⟨rfl, (Below.refl _ _).alloc (Nat.le_refl _) _⟩
set_option maxHeartbeats 400000 in
theorem farm_any (s wt ag : Bool) (c n : Int) (w : World) :
    Calls Try.prog 77 #[.agg #[.bool s, .bool wt, .bool ag, .int .i64 c, .int .i64 n]] w fun e w' => e = .returned (.agg #[.bool s, .bool wt, .bool ag, .int .i64 c, .int .i64 n]) ∧ Below w.heap.size w w' := by
  go_enter Try.func77, Try.ntmps77
  go_wp2
  refine bodyPost_ret (v := .agg #[.bool s, .bool wt, .bool ag, .int .i64 c, .int .i64 n]) (results_cell_row Try.results77 _ _ (w.heap.size + 1) 24 #[.bool s, .bool wt, .bool ag, .int .i64 c, .int .i64 n] (0, 0) _ rfl ?_ Try.underlying24 rfl cellsFarm) rfl ⟨rfl, ?_⟩
  · exact get_new (by simp)
  · exact ((Below.refl _ _).alloc (Nat.le_refl _) _).alloc (by simp) _
set_option maxHeartbeats 400000 in
theorem counted_any (s wt ag : Bool) (c n : Int) (w : World) (h0 : 0 ≤ c) (h1 : c ≤ 3) :
    Calls Try.prog 41 #[.agg #[.bool s, .bool wt, .bool ag, .int .i64 c, .int .i64 n]] w fun e w' => e = .returned (.agg #[.bool s, .bool wt, .bool ag, .int .i64 ((c + 1) % 4), .int .i64 n]) ∧ Below w.heap.size w w' := by
  go_enter Try.func41, Try.ntmps41
  go_wp2
  refine bodyPost_ret (v := .agg #[.bool s, .bool wt, .bool ag, .int .i64 ((c + 1) % 4), .int .i64 n]) (results_cell_row Try.results41 _ _ (w.heap.size + 1) 24 #[.bool s, .bool wt, .bool ag, .int .i64 ((c + 1) % 4), .int .i64 n] (0, 0) _ rfl ?_ Try.underlying24 rfl cellsFarm) rfl ⟨rfl, ?_⟩
  · exact get_new (by simp)
  · exact ((Below.refl _ _).alloc (Nat.le_refl _) _).alloc (by simp) _
set_option maxHeartbeats 400000 in
theorem keeper_set (s wt ag : Bool) (c n m : Int) (w : World) (h0 : 0 ≤ m) (h1 : m ≤ 255) :
    Calls Try.prog 78 #[.agg #[.bool s, .bool wt, .bool ag, .int .i64 c, .int .i64 n], .int .u8 m] w fun e w' => e = .returned (.iface 93 (.agg #[.bool false, .bool false, .bool false, .int .i64 c, .int .i64 m])) ∧ Below w.heap.size w w' := by
  go_enter Try.func78, Try.ntmps78
  go_wp2
  go_ret
  exact ⟨rfl, (Below.refl _ _).alloc (Nat.le_refl _) _⟩
set_option maxHeartbeats 400000 in
theorem shut_set (s wt ag : Bool) (c n m : Int) (w : World) :
    Calls Try.prog 80 #[.agg #[.bool s, .bool wt, .bool ag, .int .i64 c, .int .i64 n], .int .u8 m] w fun e w' => e = .returned (.iface 91 (.agg #[.bool s, .bool wt, .bool ag, .int .i64 c, .int .i64 n])) ∧ Below w.heap.size w w' := by
  go_enter Try.func80, Try.ntmps80
  go_wp2
  go_ret
  exact ⟨rfl, (Below.refl _ _).alloc (Nat.le_refl _) _⟩
end Go.Proofs.Yteogiiealhganaa
