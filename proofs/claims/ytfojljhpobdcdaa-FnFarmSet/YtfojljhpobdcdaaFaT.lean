/- The contract of impl.FarmHear: one that takes the next frame. -/
import Derived.Test.YtfojljhpobdcdaaFaM
namespace Go.Proofs.Ytfojljhpobdcdaa
open Go.ChangeShapes Go.WideShapes Go.ChangeAt Go.RowKit
set_option linter.unusedVariables false

set_option maxRecDepth 100000 in
set_option maxHeartbeats 1000000 in
theorem hear_takes_far (ag room : Bool) (c n cr v q : Int) (d : ByteArray) (w : World) (hd : d.size ≤ maxLen) (hf : faOk false ag c n = true) (hx : frOk false false cr v q d = true) (hn0 : 0 ≤ n) (hn1 : n ≤ 255) (hq0 : 0 ≤ q) (hq1 : q ≤ 255) (hfar : farB ((q - n) % 256) = true) :
    Calls Try.prog 9 #[.agg #[.bool false, .bool false, .bool ag, .int .i64 c, .int .i64 n], .agg #[.bool false, .bool false, .int .i64 cr, .int .i64 v, .int .i64 q, .string d], .bool room] w fun e w' => e = .returned (.tuple #[.agg #[.bool true, .bool false, .bool ag, .int .i64 c, .int .i64 n], .int .i64 3]) ∧ Below w.heap.size w w' := by
  have hm := m_taking_hear false false ag c n
  have hr := m_shut_farm (true) (false) (ag) (c) (n)
  simp [hearName, farmName] at hm hr
  have ht1 := ta_og q
  have ht2 := ta_oo q
  have HS : Hid (Below (w.heap.size + 3) (((w.alloc (.cells #[.bool false, .bool false, .bool ag, .int .i64 c, .int .i64 n] 24)).alloc (.cells #[.bool false, .bool false, .int .i64 cr, .int .i64 v, .int .i64 q, .string d] 26)).alloc (.cells #[.bool false, .bool false, .bool false, .int .i64 0, .int .i64 0] 24)) (((w.alloc (.cells #[.bool false, .bool false, .bool ag, .int .i64 c, .int .i64 n] 24)).alloc (.cells #[.bool false, .bool false, .int .i64 cr, .int .i64 v, .int .i64 q, .string d] 26)).alloc (.cells #[.bool false, .bool false, .bool false, .int .i64 0, .int .i64 0] 24))) := Below.refl _ _
  go_enter Try.func9, Try.ntmps9
  go_wp2_with fail
  refine (implFarmOk_any _ _ _ _ _ _).mono ?_
  rintro e w1 ⟨rfl, hb1⟩
  have HS : Hid (Below (w.heap.size + 3) (((w.alloc (.cells #[.bool false, .bool false, .bool ag, .int .i64 c, .int .i64 n] 24)).alloc (.cells #[.bool false, .bool false, .int .i64 cr, .int .i64 v, .int .i64 q, .string d] 26)).alloc (.cells #[.bool false, .bool false, .bool false, .int .i64 0, .int .i64 0] 24)) w1) := (by first | exact hidA HS hb1 | exact hidB HS hb1)
  obtain ⟨hc1, hf1⟩ := bk HS.out
  clear hb1
  go_wp2_with fail
  refine (implFrameOk_any _ _ _ _ _ _ _ hd).mono ?_
  rintro e w2 ⟨rfl, hb2⟩
  have HS : Hid (Below (w.heap.size + 3) (((w.alloc (.cells #[.bool false, .bool false, .bool ag, .int .i64 c, .int .i64 n] 24)).alloc (.cells #[.bool false, .bool false, .int .i64 cr, .int .i64 v, .int .i64 q, .string d] 26)).alloc (.cells #[.bool false, .bool false, .bool false, .int .i64 0, .int .i64 0] 24)) w2) := (by first | exact hidA HS hb2 | exact hidB HS hb2)
  obtain ⟨hc2, hf2⟩ := bk HS.out
  clear hb2
  try clear hc1 hf1
  go_wp2_with fail
  refine (kind_order _ _ _ _ _).mono ?_
  rintro e w3 ⟨rfl, hb3⟩
  have HS : Hid (Below (w.heap.size + 3) (((w.alloc (.cells #[.bool false, .bool false, .bool ag, .int .i64 c, .int .i64 n] 24)).alloc (.cells #[.bool false, .bool false, .int .i64 cr, .int .i64 v, .int .i64 q, .string d] 26)).alloc (.cells #[.bool false, .bool false, .bool false, .int .i64 0, .int .i64 0] 24)) w3) := (by first | exact hidA HS hb3 | exact hidB HS hb3)
  obtain ⟨hc3, hf3⟩ := bk HS.out
  clear hb3
  try clear hc2 hf2
  go_wp2_with fail
  have HG : Hid (w3.heap[w.heap.size]? = some (.cells #[.bool false, .bool false, .bool ag, .int .i64 c, .int .i64 n] 24)) := get_below HS.out (get_alloc (get_alloc (get_new rfl) (by simp)) (by simp; omega)) (by omega)
  have hz3 : w.heap.size + 3 ≤ w3.heap.size := by have := HS.out.size; simp at this; omega
  obtain ⟨k0, k1, k2, k3, k4⟩ := cells5_of (w := (w3.alloc (.cells #[.int .i64 q] 53))) (get_alloc HG.out (by omega))
  have k5 : (w3.alloc (.cells #[.int .i64 q] 53)).cell? ⟨w3.heap.size, 0, none⟩ = some (.int .i64 q) := cell_get (get_new rfl) rfl
  have hu : IntKind.u8.wrap q = q := u8_id q hq0 hq1
  clear hc3 hf3
  go_region_held2 (fun W => Below (w3.heap.size + 1) (w3.alloc (.cells #[.int .i64 q] 53)) W ∧ W.cell? ⟨w.heap.size, 0, none⟩ = some (.bool false) ∧ W.cell? ⟨w.heap.size, 1, none⟩ = some (.bool false) ∧ W.cell? ⟨w.heap.size, 2, none⟩ = some (.bool ag) ∧ W.cell? ⟨w.heap.size, 3, none⟩ = some (.int .i64 c) ∧ W.cell? ⟨w.heap.size, 4, none⟩ = some (.int .i64 n) ∧ W.cell? ⟨w3.heap.size, 0, none⟩ = some (.int .i64 q)) (first | assumption | exact ⟨Below.refl _ _, k0, k1, k2, k3, k4, k5⟩ | exact ⟨(Below.refl _ _).drew, k0, k1, k2, k3, k4, k5⟩) ((first | (go_at_call 27; refine (standing_takes _ _ _ _).mono ?_; rintro e w8 ⟨rfl, hb8⟩; have HK := keep6 (by assumption) hb8; clear hb8) | (go_at_call 73; refine (takes_hear_far _ _ _ _ _ _ _ _ hn0 hn1 hfar).mono ?_; rintro e w8 ⟨rfl, hb8⟩; have HK := keep6 (by assumption) hb8; clear hb8)))
  go_wp2_with fail
  refine (farm_any _ _ _ _ _ _).mono ?_
  rintro e w9 ⟨rfl, hb9⟩
  have hz8 : w3.heap.size + 1 ≤ w8.heap.size := by have := HK.1.size; simp at this; omega
  have HS9 : Hid (Below (w.heap.size + 3) (((w.alloc (.cells #[.bool false, .bool false, .bool ag, .int .i64 c, .int .i64 n] 24)).alloc (.cells #[.bool false, .bool false, .int .i64 cr, .int .i64 v, .int .i64 q, .string d] 26)).alloc (.cells #[.bool false, .bool false, .bool false, .int .i64 0, .int .i64 0] 24)) w9) := ((HS.out.alloc hz3 _).trans (HK.1.mono (by omega))).trans (hb9.mono (by omega))
  obtain ⟨hc9, hf9⟩ := bk HS9.out
  clear hb9 k0 k1 k2 k3 k4 k5
  go_wp2_with fail
  refine bodyPost_ret (v := .tuple #[.agg #[.bool true, .bool false, .bool ag, .int .i64 c, .int .i64 n], .int .i64 3]) (results_row_tmp Try.results9 _ _ (w.heap.size + 2) 24 #[.bool true, .bool false, .bool ag, .int .i64 c, .int .i64 n] (0, 0) _ rfl ?_ Try.underlying24 rfl cellsFarm _ rfl) rfl ⟨rfl, ?_⟩
  · exact get_set (get_set (get_set (get_set (get_set (get_below HS9.out (get_new (by simp)) (by omega)) rfl) rfl) rfl) rfl) rfl
  · exact belowS (belowS (belowS (belowS (belowS (((((Below.refl _ _).alloc (Nat.le_refl _) _).alloc (by simp) _).alloc (by simp <;> omega) _).trans (HS9.out.mono (by omega))) (by omega)) (by omega)) (by omega)) (by omega)) (by omega)
set_option maxRecDepth 100000 in
set_option maxHeartbeats 1000000 in
theorem hear_takes_late (ag room : Bool) (c n cr v q : Int) (d : ByteArray) (w : World) (hd : d.size ≤ maxLen) (hf : faOk false ag c n = true) (hx : frOk false false cr v q d = true) (hn0 : 0 ≤ n) (hn1 : n ≤ 255) (hq0 : 0 ≤ q) (hq1 : q ≤ 255) (hfar : farB ((q - n) % 256) = false) (hl : lateB ((q - n) % 256) = true) :
    Calls Try.prog 9 #[.agg #[.bool false, .bool false, .bool ag, .int .i64 c, .int .i64 n], .agg #[.bool false, .bool false, .int .i64 cr, .int .i64 v, .int .i64 q, .string d], .bool room] w fun e w' => e = .returned (.tuple #[.agg #[.bool false, .bool false, .bool ag, .int .i64 c, .int .i64 n], .int .i64 1]) ∧ Below w.heap.size w w' := by
  have hm := m_taking_hear false false ag c n
  have hr := m_taking_farm (false) (false) (ag) (c) (n)
  simp [hearName, farmName] at hm hr
  have ht1 := ta_og q
  have ht2 := ta_oo q
  have HS : Hid (Below (w.heap.size + 3) (((w.alloc (.cells #[.bool false, .bool false, .bool ag, .int .i64 c, .int .i64 n] 24)).alloc (.cells #[.bool false, .bool false, .int .i64 cr, .int .i64 v, .int .i64 q, .string d] 26)).alloc (.cells #[.bool false, .bool false, .bool false, .int .i64 0, .int .i64 0] 24)) (((w.alloc (.cells #[.bool false, .bool false, .bool ag, .int .i64 c, .int .i64 n] 24)).alloc (.cells #[.bool false, .bool false, .int .i64 cr, .int .i64 v, .int .i64 q, .string d] 26)).alloc (.cells #[.bool false, .bool false, .bool false, .int .i64 0, .int .i64 0] 24))) := Below.refl _ _
  go_enter Try.func9, Try.ntmps9
  go_wp2_with fail
  refine (implFarmOk_any _ _ _ _ _ _).mono ?_
  rintro e w1 ⟨rfl, hb1⟩
  have HS : Hid (Below (w.heap.size + 3) (((w.alloc (.cells #[.bool false, .bool false, .bool ag, .int .i64 c, .int .i64 n] 24)).alloc (.cells #[.bool false, .bool false, .int .i64 cr, .int .i64 v, .int .i64 q, .string d] 26)).alloc (.cells #[.bool false, .bool false, .bool false, .int .i64 0, .int .i64 0] 24)) w1) := (by first | exact hidA HS hb1 | exact hidB HS hb1)
  obtain ⟨hc1, hf1⟩ := bk HS.out
  clear hb1
  go_wp2_with fail
  refine (implFrameOk_any _ _ _ _ _ _ _ hd).mono ?_
  rintro e w2 ⟨rfl, hb2⟩
  have HS : Hid (Below (w.heap.size + 3) (((w.alloc (.cells #[.bool false, .bool false, .bool ag, .int .i64 c, .int .i64 n] 24)).alloc (.cells #[.bool false, .bool false, .int .i64 cr, .int .i64 v, .int .i64 q, .string d] 26)).alloc (.cells #[.bool false, .bool false, .bool false, .int .i64 0, .int .i64 0] 24)) w2) := (by first | exact hidA HS hb2 | exact hidB HS hb2)
  obtain ⟨hc2, hf2⟩ := bk HS.out
  clear hb2
  try clear hc1 hf1
  go_wp2_with fail
  refine (kind_order _ _ _ _ _).mono ?_
  rintro e w3 ⟨rfl, hb3⟩
  have HS : Hid (Below (w.heap.size + 3) (((w.alloc (.cells #[.bool false, .bool false, .bool ag, .int .i64 c, .int .i64 n] 24)).alloc (.cells #[.bool false, .bool false, .int .i64 cr, .int .i64 v, .int .i64 q, .string d] 26)).alloc (.cells #[.bool false, .bool false, .bool false, .int .i64 0, .int .i64 0] 24)) w3) := (by first | exact hidA HS hb3 | exact hidB HS hb3)
  obtain ⟨hc3, hf3⟩ := bk HS.out
  clear hb3
  try clear hc2 hf2
  go_wp2_with fail
  have HG : Hid (w3.heap[w.heap.size]? = some (.cells #[.bool false, .bool false, .bool ag, .int .i64 c, .int .i64 n] 24)) := get_below HS.out (get_alloc (get_alloc (get_new rfl) (by simp)) (by simp; omega)) (by omega)
  have hz3 : w.heap.size + 3 ≤ w3.heap.size := by have := HS.out.size; simp at this; omega
  obtain ⟨k0, k1, k2, k3, k4⟩ := cells5_of (w := (w3.alloc (.cells #[.int .i64 q] 53))) (get_alloc HG.out (by omega))
  have k5 : (w3.alloc (.cells #[.int .i64 q] 53)).cell? ⟨w3.heap.size, 0, none⟩ = some (.int .i64 q) := cell_get (get_new rfl) rfl
  have hu : IntKind.u8.wrap q = q := u8_id q hq0 hq1
  clear hc3 hf3
  go_region_held2 (fun W => Below (w3.heap.size + 1) (w3.alloc (.cells #[.int .i64 q] 53)) W ∧ W.cell? ⟨w.heap.size, 0, none⟩ = some (.bool false) ∧ W.cell? ⟨w.heap.size, 1, none⟩ = some (.bool false) ∧ W.cell? ⟨w.heap.size, 2, none⟩ = some (.bool ag) ∧ W.cell? ⟨w.heap.size, 3, none⟩ = some (.int .i64 c) ∧ W.cell? ⟨w.heap.size, 4, none⟩ = some (.int .i64 n) ∧ W.cell? ⟨w3.heap.size, 0, none⟩ = some (.int .i64 q)) (first | assumption | exact ⟨Below.refl _ _, k0, k1, k2, k3, k4, k5⟩ | exact ⟨(Below.refl _ _).drew, k0, k1, k2, k3, k4, k5⟩) ((first | (go_at_call 27; refine (standing_takes _ _ _ _).mono ?_; rintro e w8 ⟨rfl, hb8⟩; have HK := keep6 (by assumption) hb8; clear hb8) | (go_at_call 73; refine (takes_hear_late _ _ _ _ _ _ _ _ hn0 hn1 hfar hl).mono ?_; rintro e w8 ⟨rfl, hb8⟩; have HK := keep6 (by assumption) hb8; clear hb8)))
  go_wp2_with fail
  refine (farm_any _ _ _ _ _ _).mono ?_
  rintro e w9 ⟨rfl, hb9⟩
  have hz8 : w3.heap.size + 1 ≤ w8.heap.size := by have := HK.1.size; simp at this; omega
  have HS9 : Hid (Below (w.heap.size + 3) (((w.alloc (.cells #[.bool false, .bool false, .bool ag, .int .i64 c, .int .i64 n] 24)).alloc (.cells #[.bool false, .bool false, .int .i64 cr, .int .i64 v, .int .i64 q, .string d] 26)).alloc (.cells #[.bool false, .bool false, .bool false, .int .i64 0, .int .i64 0] 24)) w9) := ((HS.out.alloc hz3 _).trans (HK.1.mono (by omega))).trans (hb9.mono (by omega))
  obtain ⟨hc9, hf9⟩ := bk HS9.out
  clear hb9 k0 k1 k2 k3 k4 k5
  go_wp2_with fail
  refine bodyPost_ret (v := .tuple #[.agg #[.bool false, .bool false, .bool ag, .int .i64 c, .int .i64 n], .int .i64 1]) (results_row_tmp Try.results9 _ _ (w.heap.size + 2) 24 #[.bool false, .bool false, .bool ag, .int .i64 c, .int .i64 n] (0, 0) _ rfl ?_ Try.underlying24 rfl cellsFarm _ rfl) rfl ⟨rfl, ?_⟩
  · exact get_set (get_set (get_set (get_set (get_set (get_below HS9.out (get_new (by simp)) (by omega)) rfl) rfl) rfl) rfl) rfl
  · exact belowS (belowS (belowS (belowS (belowS (((((Below.refl _ _).alloc (Nat.le_refl _) _).alloc (by simp) _).alloc (by simp <;> omega) _).trans (HS9.out.mono (by omega))) (by omega)) (by omega)) (by omega)) (by omega)) (by omega)
set_option maxRecDepth 100000 in
set_option maxHeartbeats 1000000 in
theorem hear_takes_early (ag room : Bool) (c n cr v q : Int) (d : ByteArray) (w : World) (hd : d.size ≤ maxLen) (hf : faOk false ag c n = true) (hx : frOk false false cr v q d = true) (hn0 : 0 ≤ n) (hn1 : n ≤ 255) (hq0 : 0 ≤ q) (hq1 : q ≤ 255) (hfar : farB ((q - n) % 256) = false) (hl : lateB ((q - n) % 256) = false) (hz : 0 < (q - n) % 256) :
    Calls Try.prog 9 #[.agg #[.bool false, .bool false, .bool ag, .int .i64 c, .int .i64 n], .agg #[.bool false, .bool false, .int .i64 cr, .int .i64 v, .int .i64 q, .string d], .bool room] w fun e w' => e = .returned (.tuple #[.agg #[.bool false, .bool false, .bool true, .int .i64 c, .int .i64 n], .int .i64 2]) ∧ Below w.heap.size w w' := by
  have hm := m_taking_hear false false ag c n
  have hr := m_taking_farm (false) (false) (true) (c) (n)
  simp [hearName, farmName] at hm hr
  have ht1 := ta_og q
  have ht2 := ta_oo q
  have HS : Hid (Below (w.heap.size + 3) (((w.alloc (.cells #[.bool false, .bool false, .bool ag, .int .i64 c, .int .i64 n] 24)).alloc (.cells #[.bool false, .bool false, .int .i64 cr, .int .i64 v, .int .i64 q, .string d] 26)).alloc (.cells #[.bool false, .bool false, .bool false, .int .i64 0, .int .i64 0] 24)) (((w.alloc (.cells #[.bool false, .bool false, .bool ag, .int .i64 c, .int .i64 n] 24)).alloc (.cells #[.bool false, .bool false, .int .i64 cr, .int .i64 v, .int .i64 q, .string d] 26)).alloc (.cells #[.bool false, .bool false, .bool false, .int .i64 0, .int .i64 0] 24))) := Below.refl _ _
  go_enter Try.func9, Try.ntmps9
  go_wp2_with fail
  refine (implFarmOk_any _ _ _ _ _ _).mono ?_
  rintro e w1 ⟨rfl, hb1⟩
  have HS : Hid (Below (w.heap.size + 3) (((w.alloc (.cells #[.bool false, .bool false, .bool ag, .int .i64 c, .int .i64 n] 24)).alloc (.cells #[.bool false, .bool false, .int .i64 cr, .int .i64 v, .int .i64 q, .string d] 26)).alloc (.cells #[.bool false, .bool false, .bool false, .int .i64 0, .int .i64 0] 24)) w1) := (by first | exact hidA HS hb1 | exact hidB HS hb1)
  obtain ⟨hc1, hf1⟩ := bk HS.out
  clear hb1
  go_wp2_with fail
  refine (implFrameOk_any _ _ _ _ _ _ _ hd).mono ?_
  rintro e w2 ⟨rfl, hb2⟩
  have HS : Hid (Below (w.heap.size + 3) (((w.alloc (.cells #[.bool false, .bool false, .bool ag, .int .i64 c, .int .i64 n] 24)).alloc (.cells #[.bool false, .bool false, .int .i64 cr, .int .i64 v, .int .i64 q, .string d] 26)).alloc (.cells #[.bool false, .bool false, .bool false, .int .i64 0, .int .i64 0] 24)) w2) := (by first | exact hidA HS hb2 | exact hidB HS hb2)
  obtain ⟨hc2, hf2⟩ := bk HS.out
  clear hb2
  try clear hc1 hf1
  go_wp2_with fail
  refine (kind_order _ _ _ _ _).mono ?_
  rintro e w3 ⟨rfl, hb3⟩
  have HS : Hid (Below (w.heap.size + 3) (((w.alloc (.cells #[.bool false, .bool false, .bool ag, .int .i64 c, .int .i64 n] 24)).alloc (.cells #[.bool false, .bool false, .int .i64 cr, .int .i64 v, .int .i64 q, .string d] 26)).alloc (.cells #[.bool false, .bool false, .bool false, .int .i64 0, .int .i64 0] 24)) w3) := (by first | exact hidA HS hb3 | exact hidB HS hb3)
  obtain ⟨hc3, hf3⟩ := bk HS.out
  clear hb3
  try clear hc2 hf2
  go_wp2_with fail
  have HG : Hid (w3.heap[w.heap.size]? = some (.cells #[.bool false, .bool false, .bool ag, .int .i64 c, .int .i64 n] 24)) := get_below HS.out (get_alloc (get_alloc (get_new rfl) (by simp)) (by simp; omega)) (by omega)
  have hz3 : w.heap.size + 3 ≤ w3.heap.size := by have := HS.out.size; simp at this; omega
  obtain ⟨k0, k1, k2, k3, k4⟩ := cells5_of (w := (w3.alloc (.cells #[.int .i64 q] 53))) (get_alloc HG.out (by omega))
  have k5 : (w3.alloc (.cells #[.int .i64 q] 53)).cell? ⟨w3.heap.size, 0, none⟩ = some (.int .i64 q) := cell_get (get_new rfl) rfl
  have hu : IntKind.u8.wrap q = q := u8_id q hq0 hq1
  clear hc3 hf3
  go_region_held2 (fun W => Below (w3.heap.size + 1) (w3.alloc (.cells #[.int .i64 q] 53)) W ∧ W.cell? ⟨w.heap.size, 0, none⟩ = some (.bool false) ∧ W.cell? ⟨w.heap.size, 1, none⟩ = some (.bool false) ∧ W.cell? ⟨w.heap.size, 2, none⟩ = some (.bool ag) ∧ W.cell? ⟨w.heap.size, 3, none⟩ = some (.int .i64 c) ∧ W.cell? ⟨w.heap.size, 4, none⟩ = some (.int .i64 n) ∧ W.cell? ⟨w3.heap.size, 0, none⟩ = some (.int .i64 q)) (first | assumption | exact ⟨Below.refl _ _, k0, k1, k2, k3, k4, k5⟩ | exact ⟨(Below.refl _ _).drew, k0, k1, k2, k3, k4, k5⟩) ((first | (go_at_call 27; refine (standing_takes _ _ _ _).mono ?_; rintro e w8 ⟨rfl, hb8⟩; have HK := keep6 (by assumption) hb8; clear hb8) | (go_at_call 73; refine (takes_hear_early _ _ _ _ _ _ _ _ hn0 hn1 hfar hl hz).mono ?_; rintro e w8 ⟨rfl, hb8⟩; have HK := keep6 (by assumption) hb8; clear hb8)))
  go_wp2_with fail
  refine (farm_any _ _ _ _ _ _).mono ?_
  rintro e w9 ⟨rfl, hb9⟩
  have hz8 : w3.heap.size + 1 ≤ w8.heap.size := by have := HK.1.size; simp at this; omega
  have HS9 : Hid (Below (w.heap.size + 3) (((w.alloc (.cells #[.bool false, .bool false, .bool ag, .int .i64 c, .int .i64 n] 24)).alloc (.cells #[.bool false, .bool false, .int .i64 cr, .int .i64 v, .int .i64 q, .string d] 26)).alloc (.cells #[.bool false, .bool false, .bool false, .int .i64 0, .int .i64 0] 24)) w9) := ((HS.out.alloc hz3 _).trans (HK.1.mono (by omega))).trans (hb9.mono (by omega))
  obtain ⟨hc9, hf9⟩ := bk HS9.out
  clear hb9 k0 k1 k2 k3 k4 k5
  go_wp2_with fail
  refine bodyPost_ret (v := .tuple #[.agg #[.bool false, .bool false, .bool true, .int .i64 c, .int .i64 n], .int .i64 2]) (results_row_tmp Try.results9 _ _ (w.heap.size + 2) 24 #[.bool false, .bool false, .bool true, .int .i64 c, .int .i64 n] (0, 0) _ rfl ?_ Try.underlying24 rfl cellsFarm _ rfl) rfl ⟨rfl, ?_⟩
  · exact get_set (get_set (get_set (get_set (get_set (get_below HS9.out (get_new (by simp)) (by omega)) rfl) rfl) rfl) rfl) rfl
  · exact belowS (belowS (belowS (belowS (belowS (((((Below.refl _ _).alloc (Nat.le_refl _) _).alloc (by simp) _).alloc (by simp <;> omega) _).trans (HS9.out.mono (by omega))) (by omega)) (by omega)) (by omega)) (by omega)) (by omega)
set_option maxRecDepth 100000 in
set_option maxHeartbeats 1000000 in
theorem hear_takes_full (ag : Bool) (c n cr v q : Int) (d : ByteArray) (w : World) (hd : d.size ≤ maxLen) (hf : faOk false ag c n = true) (hx : frOk false false cr v q d = true) (hn0 : 0 ≤ n) (hn1 : n ≤ 255) (hq0 : 0 ≤ q) (hq1 : q ≤ 255) (hfar : farB ((q - n) % 256) = false) (hl : lateB ((q - n) % 256) = false) (hz : ¬ 0 < (q - n) % 256) :
    Calls Try.prog 9 #[.agg #[.bool false, .bool false, .bool ag, .int .i64 c, .int .i64 n], .agg #[.bool false, .bool false, .int .i64 cr, .int .i64 v, .int .i64 q, .string d], .bool false] w fun e w' => e = .returned (.tuple #[.agg #[.bool false, .bool true, .bool true, .int .i64 c, .int .i64 n], .int .i64 4]) ∧ Below w.heap.size w w' := by
  have hm := m_taking_hear false false ag c n
  have hr := m_waiting_farm (false) (true) (true) (c) (n)
  simp [hearName, farmName] at hm hr
  have ht1 := ta_og q
  have ht2 := ta_oo q
  have HS : Hid (Below (w.heap.size + 3) (((w.alloc (.cells #[.bool false, .bool false, .bool ag, .int .i64 c, .int .i64 n] 24)).alloc (.cells #[.bool false, .bool false, .int .i64 cr, .int .i64 v, .int .i64 q, .string d] 26)).alloc (.cells #[.bool false, .bool false, .bool false, .int .i64 0, .int .i64 0] 24)) (((w.alloc (.cells #[.bool false, .bool false, .bool ag, .int .i64 c, .int .i64 n] 24)).alloc (.cells #[.bool false, .bool false, .int .i64 cr, .int .i64 v, .int .i64 q, .string d] 26)).alloc (.cells #[.bool false, .bool false, .bool false, .int .i64 0, .int .i64 0] 24))) := Below.refl _ _
  go_enter Try.func9, Try.ntmps9
  go_wp2_with fail
  refine (implFarmOk_any _ _ _ _ _ _).mono ?_
  rintro e w1 ⟨rfl, hb1⟩
  have HS : Hid (Below (w.heap.size + 3) (((w.alloc (.cells #[.bool false, .bool false, .bool ag, .int .i64 c, .int .i64 n] 24)).alloc (.cells #[.bool false, .bool false, .int .i64 cr, .int .i64 v, .int .i64 q, .string d] 26)).alloc (.cells #[.bool false, .bool false, .bool false, .int .i64 0, .int .i64 0] 24)) w1) := (by first | exact hidA HS hb1 | exact hidB HS hb1)
  obtain ⟨hc1, hf1⟩ := bk HS.out
  clear hb1
  go_wp2_with fail
  refine (implFrameOk_any _ _ _ _ _ _ _ hd).mono ?_
  rintro e w2 ⟨rfl, hb2⟩
  have HS : Hid (Below (w.heap.size + 3) (((w.alloc (.cells #[.bool false, .bool false, .bool ag, .int .i64 c, .int .i64 n] 24)).alloc (.cells #[.bool false, .bool false, .int .i64 cr, .int .i64 v, .int .i64 q, .string d] 26)).alloc (.cells #[.bool false, .bool false, .bool false, .int .i64 0, .int .i64 0] 24)) w2) := (by first | exact hidA HS hb2 | exact hidB HS hb2)
  obtain ⟨hc2, hf2⟩ := bk HS.out
  clear hb2
  try clear hc1 hf1
  go_wp2_with fail
  refine (kind_order _ _ _ _ _).mono ?_
  rintro e w3 ⟨rfl, hb3⟩
  have HS : Hid (Below (w.heap.size + 3) (((w.alloc (.cells #[.bool false, .bool false, .bool ag, .int .i64 c, .int .i64 n] 24)).alloc (.cells #[.bool false, .bool false, .int .i64 cr, .int .i64 v, .int .i64 q, .string d] 26)).alloc (.cells #[.bool false, .bool false, .bool false, .int .i64 0, .int .i64 0] 24)) w3) := (by first | exact hidA HS hb3 | exact hidB HS hb3)
  obtain ⟨hc3, hf3⟩ := bk HS.out
  clear hb3
  try clear hc2 hf2
  go_wp2_with fail
  have HG : Hid (w3.heap[w.heap.size]? = some (.cells #[.bool false, .bool false, .bool ag, .int .i64 c, .int .i64 n] 24)) := get_below HS.out (get_alloc (get_alloc (get_new rfl) (by simp)) (by simp; omega)) (by omega)
  have hz3 : w.heap.size + 3 ≤ w3.heap.size := by have := HS.out.size; simp at this; omega
  obtain ⟨k0, k1, k2, k3, k4⟩ := cells5_of (w := (w3.alloc (.cells #[.int .i64 q] 53))) (get_alloc HG.out (by omega))
  have k5 : (w3.alloc (.cells #[.int .i64 q] 53)).cell? ⟨w3.heap.size, 0, none⟩ = some (.int .i64 q) := cell_get (get_new rfl) rfl
  have hu : IntKind.u8.wrap q = q := u8_id q hq0 hq1
  clear hc3 hf3
  go_region_held2 (fun W => Below (w3.heap.size + 1) (w3.alloc (.cells #[.int .i64 q] 53)) W ∧ W.cell? ⟨w.heap.size, 0, none⟩ = some (.bool false) ∧ W.cell? ⟨w.heap.size, 1, none⟩ = some (.bool false) ∧ W.cell? ⟨w.heap.size, 2, none⟩ = some (.bool ag) ∧ W.cell? ⟨w.heap.size, 3, none⟩ = some (.int .i64 c) ∧ W.cell? ⟨w.heap.size, 4, none⟩ = some (.int .i64 n) ∧ W.cell? ⟨w3.heap.size, 0, none⟩ = some (.int .i64 q)) (first | assumption | exact ⟨Below.refl _ _, k0, k1, k2, k3, k4, k5⟩ | exact ⟨(Below.refl _ _).drew, k0, k1, k2, k3, k4, k5⟩) ((first | (go_at_call 27; refine (standing_takes _ _ _ _).mono ?_; rintro e w8 ⟨rfl, hb8⟩; have HK := keep6 (by assumption) hb8; clear hb8) | (go_at_call 73; refine (takes_hear_full _ _ _ _ _ _ _ hn0 hn1 hfar hl (by omega)).mono ?_; rintro e w8 ⟨rfl, hb8⟩; have HK := keep6 (by assumption) hb8; clear hb8)))
  go_wp2_with fail
  refine (farm_any _ _ _ _ _ _).mono ?_
  rintro e w9 ⟨rfl, hb9⟩
  have hz8 : w3.heap.size + 1 ≤ w8.heap.size := by have := HK.1.size; simp at this; omega
  have HS9 : Hid (Below (w.heap.size + 3) (((w.alloc (.cells #[.bool false, .bool false, .bool ag, .int .i64 c, .int .i64 n] 24)).alloc (.cells #[.bool false, .bool false, .int .i64 cr, .int .i64 v, .int .i64 q, .string d] 26)).alloc (.cells #[.bool false, .bool false, .bool false, .int .i64 0, .int .i64 0] 24)) w9) := ((HS.out.alloc hz3 _).trans (HK.1.mono (by omega))).trans (hb9.mono (by omega))
  obtain ⟨hc9, hf9⟩ := bk HS9.out
  clear hb9 k0 k1 k2 k3 k4 k5
  go_wp2_with fail
  refine bodyPost_ret (v := .tuple #[.agg #[.bool false, .bool true, .bool true, .int .i64 c, .int .i64 n], .int .i64 4]) (results_row_tmp Try.results9 _ _ (w.heap.size + 2) 24 #[.bool false, .bool true, .bool true, .int .i64 c, .int .i64 n] (0, 0) _ rfl ?_ Try.underlying24 rfl cellsFarm _ rfl) rfl ⟨rfl, ?_⟩
  · exact get_set (get_set (get_set (get_set (get_set (get_below HS9.out (get_new (by simp)) (by omega)) rfl) rfl) rfl) rfl) rfl
  · exact belowS (belowS (belowS (belowS (belowS (((((Below.refl _ _).alloc (Nat.le_refl _) _).alloc (by simp) _).alloc (by simp <;> omega) _).trans (HS9.out.mono (by omega))) (by omega)) (by omega)) (by omega)) (by omega)) (by omega)
set_option maxRecDepth 100000 in
set_option maxHeartbeats 1000000 in
theorem hear_takes_take (ag : Bool) (c n cr v q : Int) (d : ByteArray) (w : World) (hd : d.size ≤ maxLen) (hf : faOk false ag c n = true) (hx : frOk false false cr v q d = true) (hn0 : 0 ≤ n) (hn1 : n ≤ 255) (hq0 : 0 ≤ q) (hq1 : q ≤ 255) (hfar : farB ((q - n) % 256) = false) (hl : lateB ((q - n) % 256) = false) (hz : ¬ 0 < (q - n) % 256) :
    Calls Try.prog 9 #[.agg #[.bool false, .bool false, .bool ag, .int .i64 c, .int .i64 n], .agg #[.bool false, .bool false, .int .i64 cr, .int .i64 v, .int .i64 q, .string d], .bool true] w fun e w' => e = .returned (.tuple #[.agg #[.bool false, .bool false, .bool false, .int .i64 c, .int .i64 ((q + 1) % 256)], .int .i64 0]) ∧ Below w.heap.size w w' := by
  have hm := m_taking_hear false false ag c n
  have hr := m_taking_farm (false) (false) (false) (c) (((q + 1) % 256))
  simp [hearName, farmName] at hm hr
  have ht1 := ta_og q
  have ht2 := ta_oo q
  have HS : Hid (Below (w.heap.size + 3) (((w.alloc (.cells #[.bool false, .bool false, .bool ag, .int .i64 c, .int .i64 n] 24)).alloc (.cells #[.bool false, .bool false, .int .i64 cr, .int .i64 v, .int .i64 q, .string d] 26)).alloc (.cells #[.bool false, .bool false, .bool false, .int .i64 0, .int .i64 0] 24)) (((w.alloc (.cells #[.bool false, .bool false, .bool ag, .int .i64 c, .int .i64 n] 24)).alloc (.cells #[.bool false, .bool false, .int .i64 cr, .int .i64 v, .int .i64 q, .string d] 26)).alloc (.cells #[.bool false, .bool false, .bool false, .int .i64 0, .int .i64 0] 24))) := Below.refl _ _
  go_enter Try.func9, Try.ntmps9
  go_wp2_with fail
  refine (implFarmOk_any _ _ _ _ _ _).mono ?_
  rintro e w1 ⟨rfl, hb1⟩
  have HS : Hid (Below (w.heap.size + 3) (((w.alloc (.cells #[.bool false, .bool false, .bool ag, .int .i64 c, .int .i64 n] 24)).alloc (.cells #[.bool false, .bool false, .int .i64 cr, .int .i64 v, .int .i64 q, .string d] 26)).alloc (.cells #[.bool false, .bool false, .bool false, .int .i64 0, .int .i64 0] 24)) w1) := (by first | exact hidA HS hb1 | exact hidB HS hb1)
  obtain ⟨hc1, hf1⟩ := bk HS.out
  clear hb1
  go_wp2_with fail
  refine (implFrameOk_any _ _ _ _ _ _ _ hd).mono ?_
  rintro e w2 ⟨rfl, hb2⟩
  have HS : Hid (Below (w.heap.size + 3) (((w.alloc (.cells #[.bool false, .bool false, .bool ag, .int .i64 c, .int .i64 n] 24)).alloc (.cells #[.bool false, .bool false, .int .i64 cr, .int .i64 v, .int .i64 q, .string d] 26)).alloc (.cells #[.bool false, .bool false, .bool false, .int .i64 0, .int .i64 0] 24)) w2) := (by first | exact hidA HS hb2 | exact hidB HS hb2)
  obtain ⟨hc2, hf2⟩ := bk HS.out
  clear hb2
  try clear hc1 hf1
  go_wp2_with fail
  refine (kind_order _ _ _ _ _).mono ?_
  rintro e w3 ⟨rfl, hb3⟩
  have HS : Hid (Below (w.heap.size + 3) (((w.alloc (.cells #[.bool false, .bool false, .bool ag, .int .i64 c, .int .i64 n] 24)).alloc (.cells #[.bool false, .bool false, .int .i64 cr, .int .i64 v, .int .i64 q, .string d] 26)).alloc (.cells #[.bool false, .bool false, .bool false, .int .i64 0, .int .i64 0] 24)) w3) := (by first | exact hidA HS hb3 | exact hidB HS hb3)
  obtain ⟨hc3, hf3⟩ := bk HS.out
  clear hb3
  try clear hc2 hf2
  go_wp2_with fail
  have HG : Hid (w3.heap[w.heap.size]? = some (.cells #[.bool false, .bool false, .bool ag, .int .i64 c, .int .i64 n] 24)) := get_below HS.out (get_alloc (get_alloc (get_new rfl) (by simp)) (by simp; omega)) (by omega)
  have hz3 : w.heap.size + 3 ≤ w3.heap.size := by have := HS.out.size; simp at this; omega
  obtain ⟨k0, k1, k2, k3, k4⟩ := cells5_of (w := (w3.alloc (.cells #[.int .i64 q] 53))) (get_alloc HG.out (by omega))
  have k5 : (w3.alloc (.cells #[.int .i64 q] 53)).cell? ⟨w3.heap.size, 0, none⟩ = some (.int .i64 q) := cell_get (get_new rfl) rfl
  have hu : IntKind.u8.wrap q = q := u8_id q hq0 hq1
  clear hc3 hf3
  go_region_held2 (fun W => Below (w3.heap.size + 1) (w3.alloc (.cells #[.int .i64 q] 53)) W ∧ W.cell? ⟨w.heap.size, 0, none⟩ = some (.bool false) ∧ W.cell? ⟨w.heap.size, 1, none⟩ = some (.bool false) ∧ W.cell? ⟨w.heap.size, 2, none⟩ = some (.bool ag) ∧ W.cell? ⟨w.heap.size, 3, none⟩ = some (.int .i64 c) ∧ W.cell? ⟨w.heap.size, 4, none⟩ = some (.int .i64 n) ∧ W.cell? ⟨w3.heap.size, 0, none⟩ = some (.int .i64 q)) (first | assumption | exact ⟨Below.refl _ _, k0, k1, k2, k3, k4, k5⟩ | exact ⟨(Below.refl _ _).drew, k0, k1, k2, k3, k4, k5⟩) ((first | (go_at_call 27; refine (standing_takes _ _ _ _).mono ?_; rintro e w8 ⟨rfl, hb8⟩; have HK := keep6 (by assumption) hb8; clear hb8) | (go_at_call 73; refine (takes_hear_take _ _ _ _ _ _ _ hn0 hn1 hfar hl (by omega)).mono ?_; rintro e w8 ⟨rfl, hb8⟩; have HK := keep6 (by assumption) hb8; clear hb8)))
  go_wp2_with fail
  refine (farm_any _ _ _ _ _ _).mono ?_
  rintro e w9 ⟨rfl, hb9⟩
  have hz8 : w3.heap.size + 1 ≤ w8.heap.size := by have := HK.1.size; simp at this; omega
  have HS9 : Hid (Below (w.heap.size + 3) (((w.alloc (.cells #[.bool false, .bool false, .bool ag, .int .i64 c, .int .i64 n] 24)).alloc (.cells #[.bool false, .bool false, .int .i64 cr, .int .i64 v, .int .i64 q, .string d] 26)).alloc (.cells #[.bool false, .bool false, .bool false, .int .i64 0, .int .i64 0] 24)) w9) := ((HS.out.alloc hz3 _).trans (HK.1.mono (by omega))).trans (hb9.mono (by omega))
  obtain ⟨hc9, hf9⟩ := bk HS9.out
  clear hb9 k0 k1 k2 k3 k4 k5
  go_wp2_with fail
  refine bodyPost_ret (v := .tuple #[.agg #[.bool false, .bool false, .bool false, .int .i64 c, .int .i64 ((q + 1) % 256)], .int .i64 0]) (results_row_tmp Try.results9 _ _ (w.heap.size + 2) 24 #[.bool false, .bool false, .bool false, .int .i64 c, .int .i64 ((q + 1) % 256)] (0, 0) _ rfl ?_ Try.underlying24 rfl cellsFarm _ rfl) rfl ⟨rfl, ?_⟩
  · exact get_set (get_set (get_set (get_set (get_set (get_below HS9.out (get_new (by simp)) (by omega)) rfl) rfl) rfl) rfl) rfl
  · exact belowS (belowS (belowS (belowS (belowS (((((Below.refl _ _).alloc (Nat.le_refl _) _).alloc (by simp) _).alloc (by simp <;> omega) _).trans (HS9.out.mono (by omega))) (by omega)) (by omega)) (by omega)) (by omega)) (by omega)
end Go.Proofs.Ytfojljhpobdcdaa
