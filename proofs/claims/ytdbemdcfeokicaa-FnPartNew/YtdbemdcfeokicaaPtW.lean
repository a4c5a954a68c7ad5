/- PartOk, both sides. -/
import Derived.Test.YtdbemdcfeokicaaStPart
import Derived.Test.YtdbemdcfeokicaaPgW
import Derived.Test.YtdbemdcfeokicaaVlW
namespace Go.Proofs.Ytdbemdcfeokicaa
open Go.ChangeShapes Go.WideShapes Go.ChangeAt Go.RowKit
set_option linter.unusedVariables false

def partB (n0 : Nat) (g0_0 g0_1 g0_2 : Nat → Int) (n1 : Nat) (g1 : Nat → Int) (v2 : Int) (n4 : Nat) (g4 : Nat → Int) : Bool :=
  progB n0 g0_0 g0_1 g0_2 && (decide ((n1 : Int) = 8) && (inL 0 9999 g1 n1 && (inB v2 0 ((n0 : Int) - 1) && (decide ((n4 : Int) ≤ 4) && inL 0 9999 g4 n4))))
set_option maxRecDepth 100000 in
set_option maxHeartbeats 8000000 in
theorem specPartOk_any (a0 : Option Addr) (n0 p0 : Nat) (g0_0 : Nat → Int) (g0_1 : Nat → Int) (g0_2 : Nat → Int) (a1 : Option Addr) (n1 p1 : Nat) (g1 : Nat → Int) (v2 : Int) (v3 : Bool) (a4 : Option Addr) (n4 p4 : Nat) (g4 : Nat → Int) (w : World) (hn0 : n0 ≤ 1048576) (hn1 : n1 ≤ 1048576) (hn4 : n4 ≤ 1048576) (h0 : OpS w a0 n0 g0_0 g0_1 g0_2) (h1 : IntS w a1 n1 g1) (h4 : IntS w a4 n4 g4) :
    Calls Try.prog 42 #[.agg #[.slice a0 n0 p0, .slice a1 n1 p1, .int .i64 v2, .bool v3, .slice a4 n4 p4]] w fun e w' => e = .returned (.bool (partB n0 g0_0 g0_1 g0_2 n1 g1 v2 n4 g4)) ∧ Below w.heap.size w w' := by
  have HB0 : Hid (Below w.heap.size w (w.alloc (.cells #[.slice a0 n0 p0, .slice a1 n1 p1, .int .i64 v2, .bool v3, .slice a4 n4 p4] 54))) := (Below.refl _ _).alloc (Nat.le_refl _) _
  have HA0 : Hid (OpS (w.alloc (.cells #[.slice a0 n0 p0, .slice a1 n1 p1, .int .i64 v2, .bool v3, .slice a4 n4 p4] 54)) a0 n0 g0_0 g0_1 g0_2) := h0.alloc _
  have HA1 : Hid (IntS (w.alloc (.cells #[.slice a0 n0 p0, .slice a1 n1 p1, .int .i64 v2, .bool v3, .slice a4 n4 p4] 54)) a1 n1 g1) := h1.alloc _
  have HA4 : Hid (IntS (w.alloc (.cells #[.slice a0 n0 p0, .slice a1 n1 p1, .int .i64 v2, .bool v3, .slice a4 n4 p4] 54)) a4 n4 g4) := h4.alloc _
  have HG : Hid ((w.alloc (.cells #[.slice a0 n0 p0, .slice a1 n1 p1, .int .i64 v2, .bool v3, .slice a4 n4 p4] 54)).heap[w.heap.size]? = some (.cells #[.slice a0 n0 p0, .slice a1 n1 p1, .int .i64 v2, .bool v3, .slice a4 n4 p4] 54)) := get_new rfl
  clear h0 h1 h4
  go_enter Try.func42, Try.ntmps42
  go_wp2_with fail
  refine (specProgOk_any a0 n0 p0 g0_0 g0_1 g0_2 _ hn0 HA0.out).mono ?_
  rintro e w1 ⟨rfl, hb1⟩
  have HB1 : Hid (Below w.heap.size w w1) := HB0.out.trans (hb1.mono HB0.out.size)
  have H1 : Hid (IntS w1 a1 n1 g1) := HA1.out.below hb1
  have H4 : Hid (IntS w1 a4 n4 g4) := HA4.out.below hb1
  have hg1 : w1.heap[w.heap.size]? = some (.cells #[.slice a0 n0 p0, .slice a1 n1 p1, .int .i64 v2, .bool v3, .slice a4 n4 p4] 54) := get_below hb1 HG.out (size_of_get HG.out)
  obtain ⟨k0, k1, k2, k3, k4⟩ := cells5_of hg1
  clear hb1 hg1
  have hfold : Hid (partB n0 g0_0 g0_1 g0_2 n1 g1 v2 n4 g4 = (progB n0 g0_0 g0_1 g0_2 && (decide ((n1 : Int) = 8) && (inL 0 9999 g1 n1 && (inB v2 0 ((n0 : Int) - 1) && (decide ((n4 : Int) ≤ 4) && inL 0 9999 g4 n4)))))) := rfl
  cases hp : progB n0 g0_0 g0_1 g0_2
  · have HE : Hid (partB n0 g0_0 g0_1 g0_2 n1 g1 v2 n4 g4 = false) := by show _ = _; rw [hfold.out, hp]; simp
    go_wp2_with (first | (go_at_call 82; refine (l1In_any _ _ _ _).mono ?_; rintro e w' ⟨rfl, rfl⟩) | (go_at_call_of 111 (Value.slice a1 n1 p1); refine (l10Values_any a1 n1 p1 g1 _ (by unfold maxLen; omega) H1.out).mono ?_; rintro e w' ⟨rfl, rfl⟩) | (go_at_call_of 111 (Value.slice a4 n4 p4); refine (l10Values_any a4 n4 p4 g4 _ (by unfold maxLen; omega) H4.out).mono ?_; rintro e w' ⟨rfl, rfl⟩))
    go_ret
    exact ⟨by rw [HE.out]; rfl, HB1.out⟩
  by_cases h8 : (n1 : Int) = 8
  rotate_left
  · have HE : Hid (partB n0 g0_0 g0_1 g0_2 n1 g1 v2 n4 g4 = false) := by show _ = _; rw [hfold.out]; simp [hp, h8]
    go_wp2_with (first | (go_at_call 82; refine (l1In_any _ _ _ _).mono ?_; rintro e w' ⟨rfl, rfl⟩) | (go_at_call_of 111 (Value.slice a1 n1 p1); refine (l10Values_any a1 n1 p1 g1 _ (by unfold maxLen; omega) H1.out).mono ?_; rintro e w' ⟨rfl, rfl⟩) | (go_at_call_of 111 (Value.slice a4 n4 p4); refine (l10Values_any a4 n4 p4 g4 _ (by unfold maxLen; omega) H4.out).mono ?_; rintro e w' ⟨rfl, rfl⟩))
    go_ret
    exact ⟨by rw [HE.out]; rfl, HB1.out⟩
  cases hv : inL 0 9999 g1 n1
  · have HE : Hid (partB n0 g0_0 g0_1 g0_2 n1 g1 v2 n4 g4 = false) := by show _ = _; rw [hfold.out, hv]; simp [hp, h8]
    go_wp2_with (first | (go_at_call 82; refine (l1In_any _ _ _ _).mono ?_; rintro e w' ⟨rfl, rfl⟩) | (go_at_call_of 111 (Value.slice a1 n1 p1); refine (l10Values_any a1 n1 p1 g1 _ (by unfold maxLen; omega) H1.out).mono ?_; rintro e w' ⟨rfl, rfl⟩) | (go_at_call_of 111 (Value.slice a4 n4 p4); refine (l10Values_any a4 n4 p4 g4 _ (by unfold maxLen; omega) H4.out).mono ?_; rintro e w' ⟨rfl, rfl⟩))
    go_ret
    exact ⟨by rw [HE.out]; rfl, HB1.out⟩
  cases ha : inB v2 0 ((n0 : Int) - 1)
  · have HE : Hid (partB n0 g0_0 g0_1 g0_2 n1 g1 v2 n4 g4 = false) := by show _ = _; rw [hfold.out, ha]; simp [hp, h8, hv]
    go_wp2_with (first | (go_at_call 82; refine (l1In_any _ _ _ _).mono ?_; rintro e w' ⟨rfl, rfl⟩) | (go_at_call_of 111 (Value.slice a1 n1 p1); refine (l10Values_any a1 n1 p1 g1 _ (by unfold maxLen; omega) H1.out).mono ?_; rintro e w' ⟨rfl, rfl⟩) | (go_at_call_of 111 (Value.slice a4 n4 p4); refine (l10Values_any a4 n4 p4 g4 _ (by unfold maxLen; omega) H4.out).mono ?_; rintro e w' ⟨rfl, rfl⟩))
    go_ret
    exact ⟨by rw [HE.out]; rfl, HB1.out⟩
  by_cases h4 : (n4 : Int) ≤ 4
  rotate_left
  · have HE : Hid (partB n0 g0_0 g0_1 g0_2 n1 g1 v2 n4 g4 = false) := by show _ = _; rw [hfold.out]; simp [hp, h8, hv, ha, h4]
    go_wp2_with (first | (go_at_call 82; refine (l1In_any _ _ _ _).mono ?_; rintro e w' ⟨rfl, rfl⟩) | (go_at_call_of 111 (Value.slice a1 n1 p1); refine (l10Values_any a1 n1 p1 g1 _ (by unfold maxLen; omega) H1.out).mono ?_; rintro e w' ⟨rfl, rfl⟩) | (go_at_call_of 111 (Value.slice a4 n4 p4); refine (l10Values_any a4 n4 p4 g4 _ (by unfold maxLen; omega) H4.out).mono ?_; rintro e w' ⟨rfl, rfl⟩))
    go_ret
    exact ⟨by rw [HE.out]; rfl, HB1.out⟩
  cases hw : inL 0 9999 g4 n4
  · have HE : Hid (partB n0 g0_0 g0_1 g0_2 n1 g1 v2 n4 g4 = false) := by show _ = _; rw [hfold.out, hw]; simp [hp, h8, hv, ha, h4]
    go_wp2_with (first | (go_at_call 82; refine (l1In_any _ _ _ _).mono ?_; rintro e w' ⟨rfl, rfl⟩) | (go_at_call_of 111 (Value.slice a1 n1 p1); refine (l10Values_any a1 n1 p1 g1 _ (by unfold maxLen; omega) H1.out).mono ?_; rintro e w' ⟨rfl, rfl⟩) | (go_at_call_of 111 (Value.slice a4 n4 p4); refine (l10Values_any a4 n4 p4 g4 _ (by unfold maxLen; omega) H4.out).mono ?_; rintro e w' ⟨rfl, rfl⟩))
    go_ret
    exact ⟨by rw [HE.out]; rfl, HB1.out⟩
  have HE : Hid (partB n0 g0_0 g0_1 g0_2 n1 g1 v2 n4 g4 = true) := by show _ = _; rw [hfold.out]; simp [hp, h8, hv, ha, h4, hw]
  go_wp2_with (first | (go_at_call 82; refine (l1In_any _ _ _ _).mono ?_; rintro e w' ⟨rfl, rfl⟩) | (go_at_call_of 111 (Value.slice a1 n1 p1); refine (l10Values_any a1 n1 p1 g1 _ (by unfold maxLen; omega) H1.out).mono ?_; rintro e w' ⟨rfl, rfl⟩) | (go_at_call_of 111 (Value.slice a4 n4 p4); refine (l10Values_any a4 n4 p4 g4 _ (by unfold maxLen; omega) H4.out).mono ?_; rintro e w' ⟨rfl, rfl⟩))
  go_ret
  exact ⟨by rw [HE.out]; rfl, HB1.out⟩
set_option maxRecDepth 100000 in
set_option maxHeartbeats 8000000 in
theorem implPartOk_any (a0 : Option Addr) (n0 p0 : Nat) (g0_0 : Nat → Int) (g0_1 : Nat → Int) (g0_2 : Nat → Int) (a1 : Option Addr) (n1 p1 : Nat) (g1 : Nat → Int) (v2 : Int) (v3 : Bool) (a4 : Option Addr) (n4 p4 : Nat) (g4 : Nat → Int) (w : World) (hn0 : n0 ≤ 1048576) (hn1 : n1 ≤ 1048576) (hn4 : n4 ≤ 1048576) (h0 : OpS w a0 n0 g0_0 g0_1 g0_2) (h1 : IntS w a1 n1 g1) (h4 : IntS w a4 n4 g4) :
    Calls Try.prog 38 #[.agg #[.slice a0 n0 p0, .slice a1 n1 p1, .int .i64 v2, .bool v3, .slice a4 n4 p4]] w fun e w' => e = .returned (.bool (partB n0 g0_0 g0_1 g0_2 n1 g1 v2 n4 g4)) ∧ Below w.heap.size w w' := by
  have HB0 : Hid (Below w.heap.size w (w.alloc (.cells #[.slice a0 n0 p0, .slice a1 n1 p1, .int .i64 v2, .bool v3, .slice a4 n4 p4] 54))) := (Below.refl _ _).alloc (Nat.le_refl _) _
  have HA0 : Hid (OpS (w.alloc (.cells #[.slice a0 n0 p0, .slice a1 n1 p1, .int .i64 v2, .bool v3, .slice a4 n4 p4] 54)) a0 n0 g0_0 g0_1 g0_2) := h0.alloc _
  have HA1 : Hid (IntS (w.alloc (.cells #[.slice a0 n0 p0, .slice a1 n1 p1, .int .i64 v2, .bool v3, .slice a4 n4 p4] 54)) a1 n1 g1) := h1.alloc _
  have HA4 : Hid (IntS (w.alloc (.cells #[.slice a0 n0 p0, .slice a1 n1 p1, .int .i64 v2, .bool v3, .slice a4 n4 p4] 54)) a4 n4 g4) := h4.alloc _
  have HG : Hid ((w.alloc (.cells #[.slice a0 n0 p0, .slice a1 n1 p1, .int .i64 v2, .bool v3, .slice a4 n4 p4] 54)).heap[w.heap.size]? = some (.cells #[.slice a0 n0 p0, .slice a1 n1 p1, .int .i64 v2, .bool v3, .slice a4 n4 p4] 54)) := get_new rfl
  clear h0 h1 h4
  go_enter Try.func38, Try.ntmps38
  go_wp2_with fail
  refine (implProgOk_any a0 n0 p0 g0_0 g0_1 g0_2 _ hn0 HA0.out).mono ?_
  rintro e w1 ⟨rfl, hb1⟩
  have HB1 : Hid (Below w.heap.size w w1) := HB0.out.trans (hb1.mono HB0.out.size)
  have H1 : Hid (IntS w1 a1 n1 g1) := HA1.out.below hb1
  have H4 : Hid (IntS w1 a4 n4 g4) := HA4.out.below hb1
  have hg1 : w1.heap[w.heap.size]? = some (.cells #[.slice a0 n0 p0, .slice a1 n1 p1, .int .i64 v2, .bool v3, .slice a4 n4 p4] 54) := get_below hb1 HG.out (size_of_get HG.out)
  obtain ⟨k0, k1, k2, k3, k4⟩ := cells5_of hg1
  clear hb1 hg1
  have hfold : Hid (partB n0 g0_0 g0_1 g0_2 n1 g1 v2 n4 g4 = (progB n0 g0_0 g0_1 g0_2 && (decide ((n1 : Int) = 8) && (inL 0 9999 g1 n1 && (inB v2 0 ((n0 : Int) - 1) && (decide ((n4 : Int) ≤ 4) && inL 0 9999 g4 n4)))))) := rfl
  cases hp : progB n0 g0_0 g0_1 g0_2
  · have HE : Hid (partB n0 g0_0 g0_1 g0_2 n1 g1 v2 n4 g4 = false) := by show _ = _; rw [hfold.out, hp]; simp
    go_wp2_with (first | (go_at_call 85; refine (upTo_anyU _ _ _).mono ?_; rintro e w' ⟨rfl, rfl⟩) | (go_at_call_of 106 (Value.slice a1 n1 p1); refine (valuesOk_any a1 n1 p1 g1 _ (by unfold maxLen; omega) H1.out).mono ?_; rintro e w' ⟨rfl, rfl⟩) | (go_at_call_of 106 (Value.slice a4 n4 p4); refine (valuesOk_any a4 n4 p4 g4 _ (by unfold maxLen; omega) H4.out).mono ?_; rintro e w' ⟨rfl, rfl⟩))
    go_ret
    exact ⟨by rw [HE.out]; rfl, HB1.out⟩
  by_cases h8 : (n1 : Int) = 8
  rotate_left
  · have HE : Hid (partB n0 g0_0 g0_1 g0_2 n1 g1 v2 n4 g4 = false) := by show _ = _; rw [hfold.out]; simp [hp, h8]
    go_wp2_with (first | (go_at_call 85; refine (upTo_anyU _ _ _).mono ?_; rintro e w' ⟨rfl, rfl⟩) | (go_at_call_of 106 (Value.slice a1 n1 p1); refine (valuesOk_any a1 n1 p1 g1 _ (by unfold maxLen; omega) H1.out).mono ?_; rintro e w' ⟨rfl, rfl⟩) | (go_at_call_of 106 (Value.slice a4 n4 p4); refine (valuesOk_any a4 n4 p4 g4 _ (by unfold maxLen; omega) H4.out).mono ?_; rintro e w' ⟨rfl, rfl⟩))
    go_ret
    exact ⟨by rw [HE.out]; rfl, HB1.out⟩
  cases hv : inL 0 9999 g1 n1
  · have HE : Hid (partB n0 g0_0 g0_1 g0_2 n1 g1 v2 n4 g4 = false) := by show _ = _; rw [hfold.out, hv]; simp [hp, h8]
    go_wp2_with (first | (go_at_call 85; refine (upTo_anyU _ _ _).mono ?_; rintro e w' ⟨rfl, rfl⟩) | (go_at_call_of 106 (Value.slice a1 n1 p1); refine (valuesOk_any a1 n1 p1 g1 _ (by unfold maxLen; omega) H1.out).mono ?_; rintro e w' ⟨rfl, rfl⟩) | (go_at_call_of 106 (Value.slice a4 n4 p4); refine (valuesOk_any a4 n4 p4 g4 _ (by unfold maxLen; omega) H4.out).mono ?_; rintro e w' ⟨rfl, rfl⟩))
    go_ret
    exact ⟨by rw [HE.out]; rfl, HB1.out⟩
  cases ha : inB v2 0 ((n0 : Int) - 1)
  · have HE : Hid (partB n0 g0_0 g0_1 g0_2 n1 g1 v2 n4 g4 = false) := by show _ = _; rw [hfold.out, ha]; simp [hp, h8, hv]
    go_wp2_with (first | (go_at_call 85; refine (upTo_anyU _ _ _).mono ?_; rintro e w' ⟨rfl, rfl⟩) | (go_at_call_of 106 (Value.slice a1 n1 p1); refine (valuesOk_any a1 n1 p1 g1 _ (by unfold maxLen; omega) H1.out).mono ?_; rintro e w' ⟨rfl, rfl⟩) | (go_at_call_of 106 (Value.slice a4 n4 p4); refine (valuesOk_any a4 n4 p4 g4 _ (by unfold maxLen; omega) H4.out).mono ?_; rintro e w' ⟨rfl, rfl⟩))
    go_ret
    exact ⟨by rw [HE.out]; rfl, HB1.out⟩
  by_cases h4 : (n4 : Int) ≤ 4
  rotate_left
  · have HE : Hid (partB n0 g0_0 g0_1 g0_2 n1 g1 v2 n4 g4 = false) := by show _ = _; rw [hfold.out]; simp [hp, h8, hv, ha, h4]
    go_wp2_with (first | (go_at_call 85; refine (upTo_anyU _ _ _).mono ?_; rintro e w' ⟨rfl, rfl⟩) | (go_at_call_of 106 (Value.slice a1 n1 p1); refine (valuesOk_any a1 n1 p1 g1 _ (by unfold maxLen; omega) H1.out).mono ?_; rintro e w' ⟨rfl, rfl⟩) | (go_at_call_of 106 (Value.slice a4 n4 p4); refine (valuesOk_any a4 n4 p4 g4 _ (by unfold maxLen; omega) H4.out).mono ?_; rintro e w' ⟨rfl, rfl⟩))
    go_ret
    exact ⟨by rw [HE.out]; rfl, HB1.out⟩
  cases hw : inL 0 9999 g4 n4
  · have HE : Hid (partB n0 g0_0 g0_1 g0_2 n1 g1 v2 n4 g4 = false) := by show _ = _; rw [hfold.out, hw]; simp [hp, h8, hv, ha, h4]
    go_wp2_with (first | (go_at_call 85; refine (upTo_anyU _ _ _).mono ?_; rintro e w' ⟨rfl, rfl⟩) | (go_at_call_of 106 (Value.slice a1 n1 p1); refine (valuesOk_any a1 n1 p1 g1 _ (by unfold maxLen; omega) H1.out).mono ?_; rintro e w' ⟨rfl, rfl⟩) | (go_at_call_of 106 (Value.slice a4 n4 p4); refine (valuesOk_any a4 n4 p4 g4 _ (by unfold maxLen; omega) H4.out).mono ?_; rintro e w' ⟨rfl, rfl⟩))
    go_ret
    exact ⟨by rw [HE.out]; rfl, HB1.out⟩
  have HE : Hid (partB n0 g0_0 g0_1 g0_2 n1 g1 v2 n4 g4 = true) := by show _ = _; rw [hfold.out]; simp [hp, h8, hv, ha, h4, hw]
  go_wp2_with (first | (go_at_call 85; refine (upTo_anyU _ _ _).mono ?_; rintro e w' ⟨rfl, rfl⟩) | (go_at_call_of 106 (Value.slice a1 n1 p1); refine (valuesOk_any a1 n1 p1 g1 _ (by unfold maxLen; omega) H1.out).mono ?_; rintro e w' ⟨rfl, rfl⟩) | (go_at_call_of 106 (Value.slice a4 n4 p4); refine (valuesOk_any a4 n4 p4 g4 _ (by unfold maxLen; omega) H4.out).mono ?_; rintro e w' ⟨rfl, rfl⟩))
  go_ret
  exact ⟨by rw [HE.out]; rfl, HB1.out⟩
end Go.Proofs.Ytdbemdcfeokicaa
