/- The contracts of CltuRead, both sides. -/
import Derived.Test.YteeneiogghldgaaCltS
import Derived.Test.YteeneiogghldgaaCltB
namespace Go.Proofs.Yteeneiogghldgaa
open Go.ChangeShapes Go.WideShapes Go.ChangeAt Go.RowKit
set_option linter.unusedVariables false
def preQ (d : ByteArray) : Bool := decide (2 ≤ (d.size : Int)) && ((d.extract 0 2).toList == [235, 144])
set_option maxHeartbeats 400000 in
theorem hasPrefixQ (d : ByteArray) (w : World) (hd : d.size ≤ maxLen) :
    Calls Try.prog 83 #[.string d, .string ⟨#[235, 144]⟩] w fun e w' => e = .returned (.bool (preQ d)) ∧ w' = w := by
  unfold maxLen at hd
  by_cases h : 2 ≤ (d.size : Int)
  · have HX : Hid (preQ d = ((d.extract 0 2).toList == [235, 144])) := by show preQ d = _; simp [preQ, h]
    go_enter Try.func83, Try.ntmps83
    go_wp2
    go_ret
    exact ⟨by rw [HX.out]; rfl, rfl⟩
  · have HX : Hid (preQ d = false) := by show preQ d = _; simp [preQ, h]
    go_enter Try.func83, Try.ntmps83
    go_wp2
    go_ret
    exact ⟨by rw [HX.out]; rfl, rfl⟩
set_option maxHeartbeats 400000 in
theorem cutSQ_yes (d : ByteArray) (w : World) (hd : d.size ≤ maxLen) (h : preQ d = true) (h2 : 2 ≤ (d.size : Int)) :
    Calls Try.prog 74 #[.string d, .string ⟨#[235, 144]⟩] w fun e w' => e = .returned (.tuple #[.string (d.extract 2 d.size), .bool true]) ∧ w' = w := by
  have hm := hd
  unfold maxLen at hm
  go_enter Try.func74, Try.ntmps74
  go_wp2_with (go_at_call 83; refine (hasPrefixQ _ _ hd).mono ?_; rintro e w' ⟨rfl, rfl⟩)
  go_ret2
  exact ⟨rfl, rfl⟩
set_option maxHeartbeats 400000 in
theorem cutSQ_no (d : ByteArray) (w : World) (hd : d.size ≤ maxLen) (h : preQ d = false) :
    Calls Try.prog 74 #[.string d, .string ⟨#[235, 144]⟩] w fun e w' => e = .returned (.tuple #[.string (d), .bool false]) ∧ w' = w := by
  have hm := hd
  unfold maxLen at hm
  go_enter Try.func74, Try.ntmps74
  go_wp2_with (go_at_call 83; refine (hasPrefixQ _ _ hd).mono ?_; rintro e w' ⟨rfl, rfl⟩)
  go_ret2
  exact ⟨rfl, rfl⟩
set_option maxHeartbeats 400000 in
theorem cutQ_yes (d : ByteArray) (w : World) (hd : d.size ≤ maxLen) (h : preQ d = true) (h2 : 2 ≤ (d.size : Int)) :
    Calls Try.prog 60 #[.string d, .string ⟨#[235, 144]⟩] w fun e w' => e = .returned (.tuple #[.string (d.extract 2 d.size), .bool true]) ∧ w' = w := by
  have hm := hd
  unfold maxLen at hm
  go_enter Try.func60, Try.ntmps60
  go_wp2_with (go_at_call 74; refine (cutSQ_yes _ _ hd h h2).mono ?_; rintro e w' ⟨rfl, rfl⟩)
  go_ret2
  exact ⟨rfl, rfl⟩
set_option maxHeartbeats 400000 in
theorem cutQ_no (d : ByteArray) (w : World) (hd : d.size ≤ maxLen) (h : preQ d = false) :
    Calls Try.prog 60 #[.string d, .string ⟨#[235, 144]⟩] w fun e w' => e = .returned (.tuple #[.string (d), .bool false]) ∧ w' = w := by
  have hm := hd
  unfold maxLen at hm
  go_enter Try.func60, Try.ntmps60
  go_wp2_with (go_at_call 74; refine (cutSQ_no _ _ hd h).mono ?_; rintro e w' ⟨rfl, rfl⟩)
  go_ret2
  exact ⟨rfl, rfl⟩
set_option maxHeartbeats 1000000 in
theorem implCltuRead_no (t : ByteArray) (w : World) (hs : t.size ≤ maxLen) (h : preQ t = false) :
    Calls Try.prog 32 #[.string t] w fun e w' => e = .returned (.string ⟨#[]⟩) ∧ Below w.heap.size w w' := by
  go_enter Try.func32, Try.ntmps32
  go_wp2_with (go_at_call 60; refine (cutQ_no _ _ hs h).mono ?_; rintro e w' ⟨rfl, rfl⟩)
  go_ret
  exact ⟨rfl, Below.refl _ _⟩
set_option maxHeartbeats 1000000 in
theorem implCltuRead_yes (t : ByteArray) (k : Nat) (w : World) (hs : t.size ≤ 1073741824) (h : preQ t = true) (hk : stopB (t.extract 2 t.size) k) :
    Calls Try.prog 32 #[.string t] w fun e w' => e = .returned (.string (getB (t.extract 2 t.size) k)) ∧ Below w.heap.size w w' := by
  have hm : t.size ≤ maxLen := by unfold maxLen; omega
  have h2 : 2 ≤ (t.size : Int) := by simp [preQ] at h; omega
  have hx : (t.extract 2 t.size).size ≤ 1073741824 := by rw [ByteArray.size_extract]; omega
  have H : Hid (∀ w, Calls Try.prog 30 #[.string (t.extract 2 t.size)] w fun e w' => e = .returned (.tuple #[.string (getB (t.extract 2 t.size) k), .int .i64 (8 * k : Nat)]) ∧ Below w.heap.size w w') := fun w => (implCltuGet_any _ w hx).mono fun e w' ⟨j, hj, he, hb⟩ => by obtain rfl := stopB_one hj hk; exact ⟨he, hb⟩
  clear hk hx
  generalize getB (t.extract 2 t.size) k = q at *
  go_enter Try.func32, Try.ntmps32
  go_wp2_with (first | (go_at_call 60; refine (cutQ_yes _ _ hm h h2).mono ?_; rintro e w' ⟨rfl, rfl⟩) | (go_at_call 30; refine (H.out _).mono ?_; rintro e w' ⟨rfl, hb⟩))
  go_ret
  exact ⟨rfl, hb⟩
set_option maxHeartbeats 1000000 in
theorem l2Start_any (w : World) : Calls Try.prog 53 #[] w fun e w' => e = .returned (.string ⟨#[235, 144]⟩) ∧ w' = w := by
  go_enter Try.func53, Try.ntmps53
  go_wp2
  go_ret
  exact ⟨rfl, rfl⟩
set_option maxHeartbeats 1000000 in
theorem l2Starts0 (t : ByteArray) (w : World) (hs : t.size ≤ maxLen) :
    Calls Try.prog 59 #[.string t, .int .i64 0] w fun e w' => e = .returned (.bool (preQ t)) ∧ ∃ n, w' = w.drewN n := by
  unfold maxLen at hs
  by_cases h : 2 ≤ t.size
  · have hi : (2 : Int) ≤ (t.size : Int) := by omega
    have HX : Hid (preQ t = ((t.extract 0 2).toList == [235, 144])) := by show _ = _; simp [preQ, hi]
    go_enter Try.func59, Try.ntmps59
    go_wp2_with fail
    go_quiet ((go_at_call 53; exact Calls.quiet_of_same (l2Start_any _)))
    go_wp2_with fail
    go_ret
    exact ⟨by rw [HX.out]; rfl, nq, rfl⟩
  · have hd : decide ((2 : Int) ≤ (t.size : Int)) = false := by simp; omega
    have HP : Hid (preQ t = false) := by show _ = _; simp [preQ]; omega
    go_enter Try.func59, Try.ntmps59
    go_wp2_with fail
    go_quiet (fail)
    go_wp2_with fail
    go_ret
    exact ⟨by rw [HP.out]; rfl, nq, rfl⟩
set_option maxHeartbeats 1000000 in
theorem specCltuRead_no (t : ByteArray) (w : World) (hs : t.size ≤ maxLen) (h : preQ t = false) :
    Calls Try.prog 31 #[.string t] w fun e w' => e = .returned (.string ⟨#[]⟩) ∧ Below w.heap.size w w' := by
  go_enter Try.func31, Try.ntmps31
  go_wp2_with (go_at_call 59; refine (l2Starts0 _ _ hs).mono ?_; rintro e w' ⟨rfl, n1, rfl⟩)
  go_ret
  exact ⟨rfl, belowN (Below.refl _ _) _⟩
set_option maxHeartbeats 1000000 in
theorem specCltuRead_yes (t : ByteArray) (k : Nat) (w : World) (hs : t.size ≤ 1073741824) (h : preQ t = true) (hk : stopB (t.extract 2 t.size) k) :
    Calls Try.prog 31 #[.string t] w fun e w' => e = .returned (.string (getB (t.extract 2 t.size) k)) ∧ Below w.heap.size w w' := by
  have hm : t.size ≤ maxLen := by unfold maxLen; omega
  have h2 : 2 ≤ (t.size : Int) := by simp [preQ] at h; omega
  have hx : (t.extract 2 t.size).size ≤ 1073741824 := by rw [ByteArray.size_extract]; omega
  have H : Hid (∀ w, Calls Try.prog 29 #[.string (t.extract 2 t.size)] w fun e w' => e = .returned (.tuple #[.string (getB (t.extract 2 t.size) k), .int .i64 (8 * k : Nat)]) ∧ Below w.heap.size w w') := fun w => (specCltuGet_any _ w hx).mono fun e w' ⟨j, hj, he, hb⟩ => by obtain rfl := stopB_one hj hk; exact ⟨he, hb⟩
  clear hk hx
  generalize getB (t.extract 2 t.size) k = q at *
  go_enter Try.func31, Try.ntmps31
  go_wp2_with (first | (go_at_call 59; refine (l2Starts0 _ _ hm).mono ?_; rintro e w' ⟨rfl, n1, rfl⟩) | (go_at_call 29; refine (H.out _).mono ?_; rintro e w' ⟨rfl, hb⟩))
  go_ret
  exact ⟨rfl, (belowN (Below.refl w.heap.size w) n1).trans hb⟩
end Go.Proofs.Yteeneiogghldgaa
