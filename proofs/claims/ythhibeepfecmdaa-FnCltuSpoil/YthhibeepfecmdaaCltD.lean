/- The contracts of CltuRead, both sides. -/
import Derived.Test.YthhibeepfecmdaaCltS
import Derived.Test.YthhibeepfecmdaaCltB
namespace Go.Proofs.Ythhibeepfecmdaa
open Go.ChangeShapes Go.WideShapes Go.ChangeAt Go.RowKit
set_option linter.unusedVariables false
def preQ (d : ByteArray) : Bool := decide (2 ≤ (d.size : Int)) && ((d.extract 0 2).toList == [235, 144])
set_option maxHeartbeats 400000 in
theorem hasPrefixQ (d : ByteArray) (w : World) (hd : d.size ≤ maxLen) :
    Calls Try.prog 168 #[.string d, .string ⟨#[235, 144]⟩] w fun e w' => e = .returned (.bool (preQ d)) ∧ w' = w := by
  unfold maxLen at hd
  by_cases h : 2 ≤ (d.size : Int)
  · have HX : Hid (preQ d = ((d.extract 0 2).toList == [235, 144])) := by show preQ d = _; simp [preQ, h]
    go_enter Try.func168, Try.ntmps168
    go_wp2
    go_ret
    exact ⟨by rw [HX.out]; rfl, rfl⟩
  · have HX : Hid (preQ d = false) := by show preQ d = _; simp [preQ, h]
    go_enter Try.func168, Try.ntmps168
    go_wp2
    go_ret
    exact ⟨by rw [HX.out]; rfl, rfl⟩
set_option maxHeartbeats 400000 in
theorem cutSQ_yes (d : ByteArray) (w : World) (hd : d.size ≤ maxLen) (h : preQ d = true) (h2 : 2 ≤ (d.size : Int)) :
    Calls Try.prog 140 #[.string d, .string ⟨#[235, 144]⟩] w fun e w' => e = .returned (.tuple #[.string (d.extract 2 d.size), .bool true]) ∧ w' = w := by
  have hm := hd
  unfold maxLen at hm
  go_enter Try.func140, Try.ntmps140
  go_wp2_with (go_at_call 168; refine (hasPrefixQ _ _ hd).mono ?_; rintro e w' ⟨rfl, rfl⟩)
  go_ret2
  exact ⟨rfl, rfl⟩
set_option maxHeartbeats 400000 in
theorem cutSQ_no (d : ByteArray) (w : World) (hd : d.size ≤ maxLen) (h : preQ d = false) :
    Calls Try.prog 140 #[.string d, .string ⟨#[235, 144]⟩] w fun e w' => e = .returned (.tuple #[.string (d), .bool false]) ∧ w' = w := by
  have hm := hd
  unfold maxLen at hm
  go_enter Try.func140, Try.ntmps140
  go_wp2_with (go_at_call 168; refine (hasPrefixQ _ _ hd).mono ?_; rintro e w' ⟨rfl, rfl⟩)
  go_ret2
  exact ⟨rfl, rfl⟩
set_option maxHeartbeats 400000 in
theorem cutQ_yes (d : ByteArray) (w : World) (hd : d.size ≤ maxLen) (h : preQ d = true) (h2 : 2 ≤ (d.size : Int)) :
    Calls Try.prog 76 #[.string d, .string ⟨#[235, 144]⟩] w fun e w' => e = .returned (.tuple #[.string (d.extract 2 d.size), .bool true]) ∧ w' = w := by
  have hm := hd
  unfold maxLen at hm
  go_enter Try.func76, Try.ntmps76
  go_wp2_with (go_at_call 140; refine (cutSQ_yes _ _ hd h h2).mono ?_; rintro e w' ⟨rfl, rfl⟩)
  go_ret2
  exact ⟨rfl, rfl⟩
set_option maxHeartbeats 400000 in
theorem cutQ_no (d : ByteArray) (w : World) (hd : d.size ≤ maxLen) (h : preQ d = false) :
    Calls Try.prog 76 #[.string d, .string ⟨#[235, 144]⟩] w fun e w' => e = .returned (.tuple #[.string (d), .bool false]) ∧ w' = w := by
  have hm := hd
  unfold maxLen at hm
  go_enter Try.func76, Try.ntmps76
  go_wp2_with (go_at_call 140; refine (cutSQ_no _ _ hd h).mono ?_; rintro e w' ⟨rfl, rfl⟩)
  go_ret2
  exact ⟨rfl, rfl⟩
set_option maxHeartbeats 1000000 in
theorem implCltuRead_no (t : ByteArray) (w : World) (hs : t.size ≤ maxLen) (h : preQ t = false) :
    Calls Try.prog 18 #[.string t] w fun e w' => e = .returned (.string ⟨#[]⟩) ∧ Below w.heap.size w w' := by
  go_enter Try.func18, Try.ntmps18
  go_wp2_with (go_at_call 76; refine (cutQ_no _ _ hs h).mono ?_; rintro e w' ⟨rfl, rfl⟩)
  go_ret
  exact ⟨rfl, Below.refl _ _⟩
set_option maxHeartbeats 1000000 in
theorem implCltuRead_yes (t : ByteArray) (k : Nat) (w : World) (hs : t.size ≤ 1073741824) (h : preQ t = true) (hk : stopB (t.extract 2 t.size) k) :
    Calls Try.prog 18 #[.string t] w fun e w' => e = .returned (.string (getB (t.extract 2 t.size) k)) ∧ Below w.heap.size w w' := by
  have hm : t.size ≤ maxLen := by unfold maxLen; omega
  have h2 : 2 ≤ (t.size : Int) := by simp [preQ] at h; omega
  have hx : (t.extract 2 t.size).size ≤ 1073741824 := by rw [ByteArray.size_extract]; omega
  have H : Hid (∀ w, Calls Try.prog 20 #[.string (t.extract 2 t.size)] w fun e w' => e = .returned (.tuple #[.string (getB (t.extract 2 t.size) k), .int .i64 (8 * k : Nat)]) ∧ Below w.heap.size w w') := fun w => (implCltuGet_any _ w hx).mono fun e w' ⟨j, hj, he, hb⟩ => by obtain rfl := stopB_one hj hk; exact ⟨he, hb⟩
  clear hk hx
  generalize getB (t.extract 2 t.size) k = q at *
  go_enter Try.func18, Try.ntmps18
  go_wp2_with (first | (go_at_call 76; refine (cutQ_yes _ _ hm h h2).mono ?_; rintro e w' ⟨rfl, rfl⟩) | (go_at_call 20; refine (H.out _).mono ?_; rintro e w' ⟨rfl, hb⟩))
  go_ret
  exact ⟨rfl, hb⟩
set_option maxHeartbeats 1000000 in
theorem l2Start_any (w : World) : Calls Try.prog 73 #[] w fun e w' => e = .returned (.string ⟨#[235, 144]⟩) ∧ w' = w := by
  go_enter Try.func73, Try.ntmps73
  go_wp2
  go_ret
  exact ⟨rfl, rfl⟩
end Go.Proofs.Ythhibeepfecmdaa
