/- The contract of impl.FarmHear at frames that govern. -/
import Derived.Test.YtfojljhpobdcdaaFaM
import Derived.Test.YtfojljhpobdcdaaFaO
namespace Go.Proofs.Ytfojljhpobdcdaa
open Go.ChangeShapes Go.WideShapes Go.ChangeAt Go.RowKit
set_option linter.unusedVariables false

set_option maxRecDepth 100000 in
set_option maxHeartbeats 1000000 in
theorem impl_gov_open (s wt ag room : Bool) (c n cr v q : Int) (w : World) (hf : faOk wt ag c n = true) (hx : frOk true true cr v q ⟨#[0]⟩ = true) (h0 : 0 ≤ c) (h3 : c ≤ 3) :
    Calls Try.prog 9 #[.agg #[.bool s, .bool wt, .bool ag, .int .i64 c, .int .i64 n], .agg #[.bool true, .bool true, .int .i64 cr, .int .i64 v, .int .i64 q, .string ⟨#[0]⟩], .bool room] w fun e w' => e = .returned (.tuple #[.agg #[.bool false, .bool false, .bool false, .int .i64 ((c + 1) % 4), .int .i64 n], .int .i64 7]) ∧ Below w.heap.size w w' := by
  have ht1 := ta_gg ⟨#[0]⟩
  have HS : Hid (Below (w.heap.size + 3) (((w.alloc (.cells #[.bool s, .bool wt, .bool ag, .int .i64 c, .int .i64 n] 24)).alloc (.cells #[.bool true, .bool true, .int .i64 cr, .int .i64 v, .int .i64 q, .string ⟨#[0]⟩] 26)).alloc (.cells #[.bool false, .bool false, .bool false, .int .i64 0, .int .i64 0] 24)) (((w.alloc (.cells #[.bool s, .bool wt, .bool ag, .int .i64 c, .int .i64 n] 24)).alloc (.cells #[.bool true, .bool true, .int .i64 cr, .int .i64 v, .int .i64 q, .string ⟨#[0]⟩] 26)).alloc (.cells #[.bool false, .bool false, .bool false, .int .i64 0, .int .i64 0] 24))) := Below.refl _ _
  go_enter Try.func9, Try.ntmps9
  go_wp2_with fail
  refine (implFarmOk_any _ _ _ _ _ _).mono ?_
  rintro e w1 ⟨rfl, hb1⟩
  have HS : Hid (Below (w.heap.size + 3) (((w.alloc (.cells #[.bool s, .bool wt, .bool ag, .int .i64 c, .int .i64 n] 24)).alloc (.cells #[.bool true, .bool true, .int .i64 cr, .int .i64 v, .int .i64 q, .string ⟨#[0]⟩] 26)).alloc (.cells #[.bool false, .bool false, .bool false, .int .i64 0, .int .i64 0] 24)) w1) := (by first | exact hidA HS hb1 | exact hidB HS hb1)
  obtain ⟨hc1, hf1⟩ := bk HS.out
  clear hb1
  go_wp2_with fail
  refine (implFrameOk_any _ _ _ _ _ _ _ (by show 1 ≤ maxLen; unfold maxLen; omega)).mono ?_
  rintro e w2 ⟨rfl, hb2⟩
  have HS : Hid (Below (w.heap.size + 3) (((w.alloc (.cells #[.bool s, .bool wt, .bool ag, .int .i64 c, .int .i64 n] 24)).alloc (.cells #[.bool true, .bool true, .int .i64 cr, .int .i64 v, .int .i64 q, .string ⟨#[0]⟩] 26)).alloc (.cells #[.bool false, .bool false, .bool false, .int .i64 0, .int .i64 0] 24)) w2) := (by first | exact hidA HS hb2 | exact hidB HS hb2)
  obtain ⟨hc2, hf2⟩ := bk HS.out
  clear hb2
  try clear hc1 hf1
  go_wp2_with fail
  refine (kind_govern _ _ _ _ _ _).mono ?_
  rintro e w3 ⟨rfl, hb3⟩
  have HS : Hid (Below (w.heap.size + 3) (((w.alloc (.cells #[.bool s, .bool wt, .bool ag, .int .i64 c, .int .i64 n] 24)).alloc (.cells #[.bool true, .bool true, .int .i64 cr, .int .i64 v, .int .i64 q, .string ⟨#[0]⟩] 26)).alloc (.cells #[.bool false, .bool false, .bool false, .int .i64 0, .int .i64 0] 24)) w3) := (by first | exact hidA HS hb3 | exact hidB HS hb3)
  obtain ⟨hc3, hf3⟩ := bk HS.out
  clear hb3
  try clear hc2 hf2
  have hz3 : w.heap.size + 3 ≤ w3.heap.size := by have := HS.out.size; simp at this; omega
  have hy0 : w.heap.size < w3.heap.size := by omega
  have hy1 : w.heap.size + 1 < w3.heap.size := by omega
  have hy2 : w.heap.size + 1 + 1 < w3.heap.size := by omega
  have HS : Hid (Below (w.heap.size + 3) (((w.alloc (.cells #[.bool s, .bool wt, .bool ag, .int .i64 c, .int .i64 n] 24)).alloc (.cells #[.bool true, .bool true, .int .i64 cr, .int .i64 v, .int .i64 q, .string ⟨#[0]⟩] 26)).alloc (.cells #[.bool false, .bool false, .bool false, .int .i64 0, .int .i64 0] 24)) (w3.alloc (.cells #[.string ⟨#[0]⟩] 50))) := HS.out.alloc hz3 _
  go_wp2_with fail
  refine (order_open _ _ _ _ _ _ h0 h3).mono ?_
  rintro e w4 ⟨rfl, hb4⟩
  have HS : Hid (Below (w.heap.size + 3) (((w.alloc (.cells #[.bool s, .bool wt, .bool ag, .int .i64 c, .int .i64 n] 24)).alloc (.cells #[.bool true, .bool true, .int .i64 cr, .int .i64 v, .int .i64 q, .string ⟨#[0]⟩] 26)).alloc (.cells #[.bool false, .bool false, .bool false, .int .i64 0, .int .i64 0] 24)) w4) := (by first | exact hidA HS hb4 | exact hidB HS hb4)
  obtain ⟨hc4, hf4⟩ := bk HS.out
  clear hb4
  try clear hc3 hf3
  go_wp2_with fail
  refine bodyPost_ret (v := .tuple #[.agg #[.bool false, .bool false, .bool false, .int .i64 ((c + 1) % 4), .int .i64 n], .int .i64 7]) (results_row_tmp Try.results9 _ _ (w.heap.size + 2) 24 #[.bool false, .bool false, .bool false, .int .i64 ((c + 1) % 4), .int .i64 n] (0, 0) _ rfl ?_ Try.underlying24 rfl cellsFarm _ rfl) rfl ⟨rfl, ?_⟩
  · exact get_set (get_set (get_set (get_set (get_set (get_below HS.out (get_new (by simp)) (by omega)) rfl) rfl) rfl) rfl) rfl
  · exact belowS (belowS (belowS (belowS (belowS (((((Below.refl _ _).alloc (Nat.le_refl _) _).alloc (by simp) _).alloc (by simp <;> omega) _).trans (HS.out.mono (by omega))) (by omega)) (by omega)) (by omega)) (by omega)) (by omega)
set_option maxRecDepth 100000 in
set_option maxHeartbeats 1000000 in
theorem impl_gov_set_shut (wt ag room : Bool) (c n cr v q : Int) (x : UInt8) (w : World) (hf : faOk wt ag c n = true) (hx : frOk true true cr v q ⟨#[130, 0, x]⟩ = true) (h0 : 0 ≤ c) (h3 : c ≤ 3) :
    Calls Try.prog 9 #[.agg #[.bool true, .bool wt, .bool ag, .int .i64 c, .int .i64 n], .agg #[.bool true, .bool true, .int .i64 cr, .int .i64 v, .int .i64 q, .string ⟨#[130, 0, x]⟩], .bool room] w fun e w' => e = .returned (.tuple #[.agg #[.bool true, .bool wt, .bool ag, .int .i64 ((c + 1) % 4), .int .i64 n], .int .i64 7]) ∧ Below w.heap.size w w' := by
  have ht1 := ta_gg ⟨#[130, 0, x]⟩
  have HS : Hid (Below (w.heap.size + 3) (((w.alloc (.cells #[.bool true, .bool wt, .bool ag, .int .i64 c, .int .i64 n] 24)).alloc (.cells #[.bool true, .bool true, .int .i64 cr, .int .i64 v, .int .i64 q, .string ⟨#[130, 0, x]⟩] 26)).alloc (.cells #[.bool false, .bool false, .bool false, .int .i64 0, .int .i64 0] 24)) (((w.alloc (.cells #[.bool true, .bool wt, .bool ag, .int .i64 c, .int .i64 n] 24)).alloc (.cells #[.bool true, .bool true, .int .i64 cr, .int .i64 v, .int .i64 q, .string ⟨#[130, 0, x]⟩] 26)).alloc (.cells #[.bool false, .bool false, .bool false, .int .i64 0, .int .i64 0] 24))) := Below.refl _ _
  go_enter Try.func9, Try.ntmps9
  go_wp2_with fail
  refine (implFarmOk_any _ _ _ _ _ _).mono ?_
  rintro e w1 ⟨rfl, hb1⟩
  have HS : Hid (Below (w.heap.size + 3) (((w.alloc (.cells #[.bool true, .bool wt, .bool ag, .int .i64 c, .int .i64 n] 24)).alloc (.cells #[.bool true, .bool true, .int .i64 cr, .int .i64 v, .int .i64 q, .string ⟨#[130, 0, x]⟩] 26)).alloc (.cells #[.bool false, .bool false, .bool false, .int .i64 0, .int .i64 0] 24)) w1) := (by first | exact hidA HS hb1 | exact hidB HS hb1)
  obtain ⟨hc1, hf1⟩ := bk HS.out
  clear hb1
  go_wp2_with fail
  refine (implFrameOk_any _ _ _ _ _ _ _ (by show 3 ≤ maxLen; unfold maxLen; omega)).mono ?_
  rintro e w2 ⟨rfl, hb2⟩
  have HS : Hid (Below (w.heap.size + 3) (((w.alloc (.cells #[.bool true, .bool wt, .bool ag, .int .i64 c, .int .i64 n] 24)).alloc (.cells #[.bool true, .bool true, .int .i64 cr, .int .i64 v, .int .i64 q, .string ⟨#[130, 0, x]⟩] 26)).alloc (.cells #[.bool false, .bool false, .bool false, .int .i64 0, .int .i64 0] 24)) w2) := (by first | exact hidA HS hb2 | exact hidB HS hb2)
  obtain ⟨hc2, hf2⟩ := bk HS.out
  clear hb2
  try clear hc1 hf1
  go_wp2_with fail
  refine (kind_govern _ _ _ _ _ _).mono ?_
  rintro e w3 ⟨rfl, hb3⟩
  have HS : Hid (Below (w.heap.size + 3) (((w.alloc (.cells #[.bool true, .bool wt, .bool ag, .int .i64 c, .int .i64 n] 24)).alloc (.cells #[.bool true, .bool true, .int .i64 cr, .int .i64 v, .int .i64 q, .string ⟨#[130, 0, x]⟩] 26)).alloc (.cells #[.bool false, .bool false, .bool false, .int .i64 0, .int .i64 0] 24)) w3) := (by first | exact hidA HS hb3 | exact hidB HS hb3)
  obtain ⟨hc3, hf3⟩ := bk HS.out
  clear hb3
  try clear hc2 hf2
  have hz3 : w.heap.size + 3 ≤ w3.heap.size := by have := HS.out.size; simp at this; omega
  have hy0 : w.heap.size < w3.heap.size := by omega
  have hy1 : w.heap.size + 1 < w3.heap.size := by omega
  have hy2 : w.heap.size + 1 + 1 < w3.heap.size := by omega
  have HS : Hid (Below (w.heap.size + 3) (((w.alloc (.cells #[.bool true, .bool wt, .bool ag, .int .i64 c, .int .i64 n] 24)).alloc (.cells #[.bool true, .bool true, .int .i64 cr, .int .i64 v, .int .i64 q, .string ⟨#[130, 0, x]⟩] 26)).alloc (.cells #[.bool false, .bool false, .bool false, .int .i64 0, .int .i64 0] 24)) (w3.alloc (.cells #[.string ⟨#[130, 0, x]⟩] 50))) := HS.out.alloc hz3 _
  go_wp2_with fail
  refine (order_set_shut _ _ _ _ _ _ h0 h3).mono ?_
  rintro e w4 ⟨rfl, hb4⟩
  have HS : Hid (Below (w.heap.size + 3) (((w.alloc (.cells #[.bool true, .bool wt, .bool ag, .int .i64 c, .int .i64 n] 24)).alloc (.cells #[.bool true, .bool true, .int .i64 cr, .int .i64 v, .int .i64 q, .string ⟨#[130, 0, x]⟩] 26)).alloc (.cells #[.bool false, .bool false, .bool false, .int .i64 0, .int .i64 0] 24)) w4) := (by first | exact hidA HS hb4 | exact hidB HS hb4)
  obtain ⟨hc4, hf4⟩ := bk HS.out
  clear hb4
  try clear hc3 hf3
  go_wp2_with fail
  refine bodyPost_ret (v := .tuple #[.agg #[.bool true, .bool wt, .bool ag, .int .i64 ((c + 1) % 4), .int .i64 n], .int .i64 7]) (results_row_tmp Try.results9 _ _ (w.heap.size + 2) 24 #[.bool true, .bool wt, .bool ag, .int .i64 ((c + 1) % 4), .int .i64 n] (0, 0) _ rfl ?_ Try.underlying24 rfl cellsFarm _ rfl) rfl ⟨rfl, ?_⟩
  · exact get_set (get_set (get_set (get_set (get_set (get_below HS.out (get_new (by simp)) (by omega)) rfl) rfl) rfl) rfl) rfl
  · exact belowS (belowS (belowS (belowS (belowS (((((Below.refl _ _).alloc (Nat.le_refl _) _).alloc (by simp) _).alloc (by simp <;> omega) _).trans (HS.out.mono (by omega))) (by omega)) (by omega)) (by omega)) (by omega)) (by omega)
set_option maxRecDepth 100000 in
set_option maxHeartbeats 1000000 in
theorem impl_gov_set_waits (ag room : Bool) (c n cr v q : Int) (x : UInt8) (w : World) (hf : faOk true ag c n = true) (hx : frOk true true cr v q ⟨#[130, 0, x]⟩ = true) (h0 : 0 ≤ c) (h3 : c ≤ 3) :
    Calls Try.prog 9 #[.agg #[.bool false, .bool true, .bool ag, .int .i64 c, .int .i64 n], .agg #[.bool true, .bool true, .int .i64 cr, .int .i64 v, .int .i64 q, .string ⟨#[130, 0, x]⟩], .bool room] w fun e w' => e = .returned (.tuple #[.agg #[.bool false, .bool false, .bool false, .int .i64 ((c + 1) % 4), .int .i64 (x.toNat : Int)], .int .i64 7]) ∧ Below w.heap.size w w' := by
  have ht1 := ta_gg ⟨#[130, 0, x]⟩
  have HS : Hid (Below (w.heap.size + 3) (((w.alloc (.cells #[.bool false, .bool true, .bool ag, .int .i64 c, .int .i64 n] 24)).alloc (.cells #[.bool true, .bool true, .int .i64 cr, .int .i64 v, .int .i64 q, .string ⟨#[130, 0, x]⟩] 26)).alloc (.cells #[.bool false, .bool false, .bool false, .int .i64 0, .int .i64 0] 24)) (((w.alloc (.cells #[.bool false, .bool true, .bool ag, .int .i64 c, .int .i64 n] 24)).alloc (.cells #[.bool true, .bool true, .int .i64 cr, .int .i64 v, .int .i64 q, .string ⟨#[130, 0, x]⟩] 26)).alloc (.cells #[.bool false, .bool false, .bool false, .int .i64 0, .int .i64 0] 24))) := Below.refl _ _
  go_enter Try.func9, Try.ntmps9
  go_wp2_with fail
  refine (implFarmOk_any _ _ _ _ _ _).mono ?_
  rintro e w1 ⟨rfl, hb1⟩
  have HS : Hid (Below (w.heap.size + 3) (((w.alloc (.cells #[.bool false, .bool true, .bool ag, .int .i64 c, .int .i64 n] 24)).alloc (.cells #[.bool true, .bool true, .int .i64 cr, .int .i64 v, .int .i64 q, .string ⟨#[130, 0, x]⟩] 26)).alloc (.cells #[.bool false, .bool false, .bool false, .int .i64 0, .int .i64 0] 24)) w1) := (by first | exact hidA HS hb1 | exact hidB HS hb1)
  obtain ⟨hc1, hf1⟩ := bk HS.out
  clear hb1
  go_wp2_with fail
  refine (implFrameOk_any _ _ _ _ _ _ _ (by show 3 ≤ maxLen; unfold maxLen; omega)).mono ?_
  rintro e w2 ⟨rfl, hb2⟩
  have HS : Hid (Below (w.heap.size + 3) (((w.alloc (.cells #[.bool false, .bool true, .bool ag, .int .i64 c, .int .i64 n] 24)).alloc (.cells #[.bool true, .bool true, .int .i64 cr, .int .i64 v, .int .i64 q, .string ⟨#[130, 0, x]⟩] 26)).alloc (.cells #[.bool false, .bool false, .bool false, .int .i64 0, .int .i64 0] 24)) w2) := (by first | exact hidA HS hb2 | exact hidB HS hb2)
  obtain ⟨hc2, hf2⟩ := bk HS.out
  clear hb2
  try clear hc1 hf1
  go_wp2_with fail
  refine (kind_govern _ _ _ _ _ _).mono ?_
  rintro e w3 ⟨rfl, hb3⟩
  have HS : Hid (Below (w.heap.size + 3) (((w.alloc (.cells #[.bool false, .bool true, .bool ag, .int .i64 c, .int .i64 n] 24)).alloc (.cells #[.bool true, .bool true, .int .i64 cr, .int .i64 v, .int .i64 q, .string ⟨#[130, 0, x]⟩] 26)).alloc (.cells #[.bool false, .bool false, .bool false, .int .i64 0, .int .i64 0] 24)) w3) := (by first | exact hidA HS hb3 | exact hidB HS hb3)
  obtain ⟨hc3, hf3⟩ := bk HS.out
  clear hb3
  try clear hc2 hf2
  have hz3 : w.heap.size + 3 ≤ w3.heap.size := by have := HS.out.size; simp at this; omega
  have hy0 : w.heap.size < w3.heap.size := by omega
  have hy1 : w.heap.size + 1 < w3.heap.size := by omega
  have hy2 : w.heap.size + 1 + 1 < w3.heap.size := by omega
  have HS : Hid (Below (w.heap.size + 3) (((w.alloc (.cells #[.bool false, .bool true, .bool ag, .int .i64 c, .int .i64 n] 24)).alloc (.cells #[.bool true, .bool true, .int .i64 cr, .int .i64 v, .int .i64 q, .string ⟨#[130, 0, x]⟩] 26)).alloc (.cells #[.bool false, .bool false, .bool false, .int .i64 0, .int .i64 0] 24)) (w3.alloc (.cells #[.string ⟨#[130, 0, x]⟩] 50))) := HS.out.alloc hz3 _
  go_wp2_with fail
  refine (order_set_waits _ _ _ _ _ h0 h3).mono ?_
  rintro e w4 ⟨rfl, hb4⟩
  have HS : Hid (Below (w.heap.size + 3) (((w.alloc (.cells #[.bool false, .bool true, .bool ag, .int .i64 c, .int .i64 n] 24)).alloc (.cells #[.bool true, .bool true, .int .i64 cr, .int .i64 v, .int .i64 q, .string ⟨#[130, 0, x]⟩] 26)).alloc (.cells #[.bool false, .bool false, .bool false, .int .i64 0, .int .i64 0] 24)) w4) := (by first | exact hidA HS hb4 | exact hidB HS hb4)
  obtain ⟨hc4, hf4⟩ := bk HS.out
  clear hb4
  try clear hc3 hf3
  go_wp2_with fail
  refine bodyPost_ret (v := .tuple #[.agg #[.bool false, .bool false, .bool false, .int .i64 ((c + 1) % 4), .int .i64 (x.toNat : Int)], .int .i64 7]) (results_row_tmp Try.results9 _ _ (w.heap.size + 2) 24 #[.bool false, .bool false, .bool false, .int .i64 ((c + 1) % 4), .int .i64 (x.toNat : Int)] (0, 0) _ rfl ?_ Try.underlying24 rfl cellsFarm _ rfl) rfl ⟨rfl, ?_⟩
  · exact get_set (get_set (get_set (get_set (get_set (get_below HS.out (get_new (by simp)) (by omega)) rfl) rfl) rfl) rfl) rfl
  · exact belowS (belowS (belowS (belowS (belowS (((((Below.refl _ _).alloc (Nat.le_refl _) _).alloc (by simp) _).alloc (by simp <;> omega) _).trans (HS.out.mono (by omega))) (by omega)) (by omega)) (by omega)) (by omega)) (by omega)
set_option maxRecDepth 100000 in
set_option maxHeartbeats 1000000 in
theorem impl_gov_set_takes (ag room : Bool) (c n cr v q : Int) (x : UInt8) (w : World) (hf : faOk false ag c n = true) (hx : frOk true true cr v q ⟨#[130, 0, x]⟩ = true) (h0 : 0 ≤ c) (h3 : c ≤ 3) :
    Calls Try.prog 9 #[.agg #[.bool false, .bool false, .bool ag, .int .i64 c, .int .i64 n], .agg #[.bool true, .bool true, .int .i64 cr, .int .i64 v, .int .i64 q, .string ⟨#[130, 0, x]⟩], .bool room] w fun e w' => e = .returned (.tuple #[.agg #[.bool false, .bool false, .bool false, .int .i64 ((c + 1) % 4), .int .i64 (x.toNat : Int)], .int .i64 7]) ∧ Below w.heap.size w w' := by
  have ht1 := ta_gg ⟨#[130, 0, x]⟩
  have HS : Hid (Below (w.heap.size + 3) (((w.alloc (.cells #[.bool false, .bool false, .bool ag, .int .i64 c, .int .i64 n] 24)).alloc (.cells #[.bool true, .bool true, .int .i64 cr, .int .i64 v, .int .i64 q, .string ⟨#[130, 0, x]⟩] 26)).alloc (.cells #[.bool false, .bool false, .bool false, .int .i64 0, .int .i64 0] 24)) (((w.alloc (.cells #[.bool false, .bool false, .bool ag, .int .i64 c, .int .i64 n] 24)).alloc (.cells #[.bool true, .bool true, .int .i64 cr, .int .i64 v, .int .i64 q, .string ⟨#[130, 0, x]⟩] 26)).alloc (.cells #[.bool false, .bool false, .bool false, .int .i64 0, .int .i64 0] 24))) := Below.refl _ _
  go_enter Try.func9, Try.ntmps9
  go_wp2_with fail
  refine (implFarmOk_any _ _ _ _ _ _).mono ?_
  rintro e w1 ⟨rfl, hb1⟩
  have HS : Hid (Below (w.heap.size + 3) (((w.alloc (.cells #[.bool false, .bool false, .bool ag, .int .i64 c, .int .i64 n] 24)).alloc (.cells #[.bool true, .bool true, .int .i64 cr, .int .i64 v, .int .i64 q, .string ⟨#[130, 0, x]⟩] 26)).alloc (.cells #[.bool false, .bool false, .bool false, .int .i64 0, .int .i64 0] 24)) w1) := (by first | exact hidA HS hb1 | exact hidB HS hb1)
  obtain ⟨hc1, hf1⟩ := bk HS.out
  clear hb1
  go_wp2_with fail
  refine (implFrameOk_any _ _ _ _ _ _ _ (by show 3 ≤ maxLen; unfold maxLen; omega)).mono ?_
  rintro e w2 ⟨rfl, hb2⟩
  have HS : Hid (Below (w.heap.size + 3) (((w.alloc (.cells #[.bool false, .bool false, .bool ag, .int .i64 c, .int .i64 n] 24)).alloc (.cells #[.bool true, .bool true, .int .i64 cr, .int .i64 v, .int .i64 q, .string ⟨#[130, 0, x]⟩] 26)).alloc (.cells #[.bool false, .bool false, .bool false, .int .i64 0, .int .i64 0] 24)) w2) := (by first | exact hidA HS hb2 | exact hidB HS hb2)
  obtain ⟨hc2, hf2⟩ := bk HS.out
  clear hb2
  try clear hc1 hf1
  go_wp2_with fail
  refine (kind_govern _ _ _ _ _ _).mono ?_
  rintro e w3 ⟨rfl, hb3⟩
  have HS : Hid (Below (w.heap.size + 3) (((w.alloc (.cells #[.bool false, .bool false, .bool ag, .int .i64 c, .int .i64 n] 24)).alloc (.cells #[.bool true, .bool true, .int .i64 cr, .int .i64 v, .int .i64 q, .string ⟨#[130, 0, x]⟩] 26)).alloc (.cells #[.bool false, .bool false, .bool false, .int .i64 0, .int .i64 0] 24)) w3) := (by first | exact hidA HS hb3 | exact hidB HS hb3)
  obtain ⟨hc3, hf3⟩ := bk HS.out
  clear hb3
  try clear hc2 hf2
  have hz3 : w.heap.size + 3 ≤ w3.heap.size := by have := HS.out.size; simp at this; omega
  have hy0 : w.heap.size < w3.heap.size := by omega
  have hy1 : w.heap.size + 1 < w3.heap.size := by omega
  have hy2 : w.heap.size + 1 + 1 < w3.heap.size := by omega
  have HS : Hid (Below (w.heap.size + 3) (((w.alloc (.cells #[.bool false, .bool false, .bool ag, .int .i64 c, .int .i64 n] 24)).alloc (.cells #[.bool true, .bool true, .int .i64 cr, .int .i64 v, .int .i64 q, .string ⟨#[130, 0, x]⟩] 26)).alloc (.cells #[.bool false, .bool false, .bool false, .int .i64 0, .int .i64 0] 24)) (w3.alloc (.cells #[.string ⟨#[130, 0, x]⟩] 50))) := HS.out.alloc hz3 _
  go_wp2_with fail
  refine (order_set_takes _ _ _ _ _ h0 h3).mono ?_
  rintro e w4 ⟨rfl, hb4⟩
  have HS : Hid (Below (w.heap.size + 3) (((w.alloc (.cells #[.bool false, .bool false, .bool ag, .int .i64 c, .int .i64 n] 24)).alloc (.cells #[.bool true, .bool true, .int .i64 cr, .int .i64 v, .int .i64 q, .string ⟨#[130, 0, x]⟩] 26)).alloc (.cells #[.bool false, .bool false, .bool false, .int .i64 0, .int .i64 0] 24)) w4) := (by first | exact hidA HS hb4 | exact hidB HS hb4)
  obtain ⟨hc4, hf4⟩ := bk HS.out
  clear hb4
  try clear hc3 hf3
  go_wp2_with fail
  refine bodyPost_ret (v := .tuple #[.agg #[.bool false, .bool false, .bool false, .int .i64 ((c + 1) % 4), .int .i64 (x.toNat : Int)], .int .i64 7]) (results_row_tmp Try.results9 _ _ (w.heap.size + 2) 24 #[.bool false, .bool false, .bool false, .int .i64 ((c + 1) % 4), .int .i64 (x.toNat : Int)] (0, 0) _ rfl ?_ Try.underlying24 rfl cellsFarm _ rfl) rfl ⟨rfl, ?_⟩
  · exact get_set (get_set (get_set (get_set (get_set (get_below HS.out (get_new (by simp)) (by omega)) rfl) rfl) rfl) rfl) rfl
  · exact belowS (belowS (belowS (belowS (belowS (((((Below.refl _ _).alloc (Nat.le_refl _) _).alloc (by simp) _).alloc (by simp <;> omega) _).trans (HS.out.mono (by omega))) (by omega)) (by omega)) (by omega)) (by omega)) (by omega)
set_option maxRecDepth 100000 in
set_option maxHeartbeats 1000000 in
theorem impl_gov_bad_pre (s wt ag room : Bool) (c n cr v q : Int) (d : ByteArray) (w : World) (hd : d.size ≤ maxLen) (hf : faOk wt ag c n = true) (hx : frOk true true cr v q d = true) (h0 : 0 ≤ c) (h3 : c ≤ 3) (k0 : (d.toList == [0]) = false) (kp : preB d = true) (ks : (d.size : Int) ≠ 3) :
    Calls Try.prog 9 #[.agg #[.bool s, .bool wt, .bool ag, .int .i64 c, .int .i64 n], .agg #[.bool true, .bool true, .int .i64 cr, .int .i64 v, .int .i64 q, .string d], .bool room] w fun e w' => e = .returned (.tuple #[.agg #[.bool s, .bool wt, .bool ag, .int .i64 c, .int .i64 n], .int .i64 6]) ∧ Below w.heap.size w w' := by
  have ht1 := ta_gg d
  have hk := order_bad_pre s wt ag c n d
  have HK : Hid _ := hk
  clear hk
  have K0 : Hid _ := k0
  have KP : Hid _ := kp
  have KS : Hid _ := ks
  clear k0 kp ks
  have HS : Hid (Below (w.heap.size + 3) (((w.alloc (.cells #[.bool s, .bool wt, .bool ag, .int .i64 c, .int .i64 n] 24)).alloc (.cells #[.bool true, .bool true, .int .i64 cr, .int .i64 v, .int .i64 q, .string d] 26)).alloc (.cells #[.bool false, .bool false, .bool false, .int .i64 0, .int .i64 0] 24)) (((w.alloc (.cells #[.bool s, .bool wt, .bool ag, .int .i64 c, .int .i64 n] 24)).alloc (.cells #[.bool true, .bool true, .int .i64 cr, .int .i64 v, .int .i64 q, .string d] 26)).alloc (.cells #[.bool false, .bool false, .bool false, .int .i64 0, .int .i64 0] 24))) := Below.refl _ _
  go_enter Try.func9, Try.ntmps9
  go_wp2_with fail
  refine (implFarmOk_any _ _ _ _ _ _).mono ?_
  rintro e w1 ⟨rfl, hb1⟩
  have HS : Hid (Below (w.heap.size + 3) (((w.alloc (.cells #[.bool s, .bool wt, .bool ag, .int .i64 c, .int .i64 n] 24)).alloc (.cells #[.bool true, .bool true, .int .i64 cr, .int .i64 v, .int .i64 q, .string d] 26)).alloc (.cells #[.bool false, .bool false, .bool false, .int .i64 0, .int .i64 0] 24)) w1) := (by first | exact hidA HS hb1 | exact hidB HS hb1)
  obtain ⟨hc1, hf1⟩ := bk HS.out
  clear hb1
  go_wp2_with fail
  refine (implFrameOk_any _ _ _ _ _ _ _ hd).mono ?_
  rintro e w2 ⟨rfl, hb2⟩
  have HS : Hid (Below (w.heap.size + 3) (((w.alloc (.cells #[.bool s, .bool wt, .bool ag, .int .i64 c, .int .i64 n] 24)).alloc (.cells #[.bool true, .bool true, .int .i64 cr, .int .i64 v, .int .i64 q, .string d] 26)).alloc (.cells #[.bool false, .bool false, .bool false, .int .i64 0, .int .i64 0] 24)) w2) := (by first | exact hidA HS hb2 | exact hidB HS hb2)
  obtain ⟨hc2, hf2⟩ := bk HS.out
  clear hb2
  try clear hc1 hf1
  go_wp2_with fail
  refine (kind_govern _ _ _ _ _ _).mono ?_
  rintro e w3 ⟨rfl, hb3⟩
  have HS : Hid (Below (w.heap.size + 3) (((w.alloc (.cells #[.bool s, .bool wt, .bool ag, .int .i64 c, .int .i64 n] 24)).alloc (.cells #[.bool true, .bool true, .int .i64 cr, .int .i64 v, .int .i64 q, .string d] 26)).alloc (.cells #[.bool false, .bool false, .bool false, .int .i64 0, .int .i64 0] 24)) w3) := (by first | exact hidA HS hb3 | exact hidB HS hb3)
  obtain ⟨hc3, hf3⟩ := bk HS.out
  clear hb3
  try clear hc2 hf2
  have hz3 : w.heap.size + 3 ≤ w3.heap.size := by have := HS.out.size; simp at this; omega
  have hy0 : w.heap.size < w3.heap.size := by omega
  have hy1 : w.heap.size + 1 < w3.heap.size := by omega
  have hy2 : w.heap.size + 1 + 1 < w3.heap.size := by omega
  have HS : Hid (Below (w.heap.size + 3) (((w.alloc (.cells #[.bool s, .bool wt, .bool ag, .int .i64 c, .int .i64 n] 24)).alloc (.cells #[.bool true, .bool true, .int .i64 cr, .int .i64 v, .int .i64 q, .string d] 26)).alloc (.cells #[.bool false, .bool false, .bool false, .int .i64 0, .int .i64 0] 24)) (w3.alloc (.cells #[.string d] 50))) := HS.out.alloc hz3 _
  go_wp2_with fail
  refine (HK.out _ hd K0.out KP.out KS.out).mono ?_
  rintro e w4 ⟨rfl, hb4⟩
  have HS : Hid (Below (w.heap.size + 3) (((w.alloc (.cells #[.bool s, .bool wt, .bool ag, .int .i64 c, .int .i64 n] 24)).alloc (.cells #[.bool true, .bool true, .int .i64 cr, .int .i64 v, .int .i64 q, .string d] 26)).alloc (.cells #[.bool false, .bool false, .bool false, .int .i64 0, .int .i64 0] 24)) w4) := (by first | exact hidA HS hb4 | exact hidB HS hb4)
  obtain ⟨hc4, hf4⟩ := bk HS.out
  clear hb4
  try clear hc3 hf3
  go_wp2_with fail
  refine bodyPost_ret (v := .tuple #[.agg #[.bool s, .bool wt, .bool ag, .int .i64 c, .int .i64 n], .int .i64 6]) (results_row_tmp Try.results9 _ _ (w.heap.size + 2) 24 #[.bool s, .bool wt, .bool ag, .int .i64 c, .int .i64 n] (0, 0) _ rfl ?_ Try.underlying24 rfl cellsFarm _ rfl) rfl ⟨rfl, ?_⟩
  · exact get_set (get_set (get_set (get_set (get_set (get_below HS.out (get_new (by simp)) (by omega)) rfl) rfl) rfl) rfl) rfl
  · exact belowS (belowS (belowS (belowS (belowS (((((Below.refl _ _).alloc (Nat.le_refl _) _).alloc (by simp) _).alloc (by simp <;> omega) _).trans (HS.out.mono (by omega))) (by omega)) (by omega)) (by omega)) (by omega)) (by omega)
set_option maxRecDepth 100000 in
set_option maxHeartbeats 1000000 in
theorem impl_gov_bad_not (s wt ag room : Bool) (c n cr v q : Int) (d : ByteArray) (w : World) (hd : d.size ≤ maxLen) (hf : faOk wt ag c n = true) (hx : frOk true true cr v q d = true) (h0 : 0 ≤ c) (h3 : c ≤ 3) (k0 : (d.toList == [0]) = false) (kp : preB d = false) :
    Calls Try.prog 9 #[.agg #[.bool s, .bool wt, .bool ag, .int .i64 c, .int .i64 n], .agg #[.bool true, .bool true, .int .i64 cr, .int .i64 v, .int .i64 q, .string d], .bool room] w fun e w' => e = .returned (.tuple #[.agg #[.bool s, .bool wt, .bool ag, .int .i64 c, .int .i64 n], .int .i64 6]) ∧ Below w.heap.size w w' := by
  have ht1 := ta_gg d
  have K0 : Hid _ := k0
  have KP : Hid _ := kp
  clear k0 kp
  have HS : Hid (Below (w.heap.size + 3) (((w.alloc (.cells #[.bool s, .bool wt, .bool ag, .int .i64 c, .int .i64 n] 24)).alloc (.cells #[.bool true, .bool true, .int .i64 cr, .int .i64 v, .int .i64 q, .string d] 26)).alloc (.cells #[.bool false, .bool false, .bool false, .int .i64 0, .int .i64 0] 24)) (((w.alloc (.cells #[.bool s, .bool wt, .bool ag, .int .i64 c, .int .i64 n] 24)).alloc (.cells #[.bool true, .bool true, .int .i64 cr, .int .i64 v, .int .i64 q, .string d] 26)).alloc (.cells #[.bool false, .bool false, .bool false, .int .i64 0, .int .i64 0] 24))) := Below.refl _ _
  go_enter Try.func9, Try.ntmps9
  go_wp2_with fail
  refine (implFarmOk_any _ _ _ _ _ _).mono ?_
  rintro e w1 ⟨rfl, hb1⟩
  have HS : Hid (Below (w.heap.size + 3) (((w.alloc (.cells #[.bool s, .bool wt, .bool ag, .int .i64 c, .int .i64 n] 24)).alloc (.cells #[.bool true, .bool true, .int .i64 cr, .int .i64 v, .int .i64 q, .string d] 26)).alloc (.cells #[.bool false, .bool false, .bool false, .int .i64 0, .int .i64 0] 24)) w1) := (by first | exact hidA HS hb1 | exact hidB HS hb1)
  obtain ⟨hc1, hf1⟩ := bk HS.out
  clear hb1
  go_wp2_with fail
  refine (implFrameOk_any _ _ _ _ _ _ _ hd).mono ?_
  rintro e w2 ⟨rfl, hb2⟩
  have HS : Hid (Below (w.heap.size + 3) (((w.alloc (.cells #[.bool s, .bool wt, .bool ag, .int .i64 c, .int .i64 n] 24)).alloc (.cells #[.bool true, .bool true, .int .i64 cr, .int .i64 v, .int .i64 q, .string d] 26)).alloc (.cells #[.bool false, .bool false, .bool false, .int .i64 0, .int .i64 0] 24)) w2) := (by first | exact hidA HS hb2 | exact hidB HS hb2)
  obtain ⟨hc2, hf2⟩ := bk HS.out
  clear hb2
  try clear hc1 hf1
  go_wp2_with fail
  refine (kind_govern _ _ _ _ _ _).mono ?_
  rintro e w3 ⟨rfl, hb3⟩
  have HS : Hid (Below (w.heap.size + 3) (((w.alloc (.cells #[.bool s, .bool wt, .bool ag, .int .i64 c, .int .i64 n] 24)).alloc (.cells #[.bool true, .bool true, .int .i64 cr, .int .i64 v, .int .i64 q, .string d] 26)).alloc (.cells #[.bool false, .bool false, .bool false, .int .i64 0, .int .i64 0] 24)) w3) := (by first | exact hidA HS hb3 | exact hidB HS hb3)
  obtain ⟨hc3, hf3⟩ := bk HS.out
  clear hb3
  try clear hc2 hf2
  have hz3 : w.heap.size + 3 ≤ w3.heap.size := by have := HS.out.size; simp at this; omega
  have hy0 : w.heap.size < w3.heap.size := by omega
  have hy1 : w.heap.size + 1 < w3.heap.size := by omega
  have hy2 : w.heap.size + 1 + 1 < w3.heap.size := by omega
  have HS : Hid (Below (w.heap.size + 3) (((w.alloc (.cells #[.bool s, .bool wt, .bool ag, .int .i64 c, .int .i64 n] 24)).alloc (.cells #[.bool true, .bool true, .int .i64 cr, .int .i64 v, .int .i64 q, .string d] 26)).alloc (.cells #[.bool false, .bool false, .bool false, .int .i64 0, .int .i64 0] 24)) (w3.alloc (.cells #[.string d] 50))) := HS.out.alloc hz3 _
  go_wp2_with fail
  refine (order_bad_not _ _ _ _ _ _ _ hd K0.out KP.out).mono ?_
  rintro e w4 ⟨rfl, hb4⟩
  have HS : Hid (Below (w.heap.size + 3) (((w.alloc (.cells #[.bool s, .bool wt, .bool ag, .int .i64 c, .int .i64 n] 24)).alloc (.cells #[.bool true, .bool true, .int .i64 cr, .int .i64 v, .int .i64 q, .string d] 26)).alloc (.cells #[.bool false, .bool false, .bool false, .int .i64 0, .int .i64 0] 24)) w4) := (by first | exact hidA HS hb4 | exact hidB HS hb4)
  obtain ⟨hc4, hf4⟩ := bk HS.out
  clear hb4
  try clear hc3 hf3
  go_wp2_with fail
  refine bodyPost_ret (v := .tuple #[.agg #[.bool s, .bool wt, .bool ag, .int .i64 c, .int .i64 n], .int .i64 6]) (results_row_tmp Try.results9 _ _ (w.heap.size + 2) 24 #[.bool s, .bool wt, .bool ag, .int .i64 c, .int .i64 n] (0, 0) _ rfl ?_ Try.underlying24 rfl cellsFarm _ rfl) rfl ⟨rfl, ?_⟩
  · exact get_set (get_set (get_set (get_set (get_set (get_below HS.out (get_new (by simp)) (by omega)) rfl) rfl) rfl) rfl) rfl
  · exact belowS (belowS (belowS (belowS (belowS (((((Below.refl _ _).alloc (Nat.le_refl _) _).alloc (by simp) _).alloc (by simp <;> omega) _).trans (HS.out.mono (by omega))) (by omega)) (by omega)) (by omega)) (by omega)) (by omega)
end Go.Proofs.Ytfojljhpobdcdaa
