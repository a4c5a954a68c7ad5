/- The contracts of spec.l4Mod, l4Govern, l4Order and spec.FarmHear. -/
import Derived.Test.YtfojljhpobdcdaaFaH
import Derived.Deep.RegionWith
namespace Go.Proofs.Ytfojljhpobdcdaa
open Go.ChangeShapes Go.WideShapes Go.ChangeAt Go.RowKit
set_option linter.unusedVariables false

theorem mod_shift (n : Int) (h : -512 ≤ n) : (n + 512) % 256 = n % 256 := by omega
theorem l4Mod_any (n : Int) (w : World) (h0 : -512 ≤ n) (h1 : n ≤ 1000000) :
    Calls Try.prog 22 #[.int .i64 n] w fun e w' => e = .returned (.int .i64 (n % 256)) ∧ w' = w := by
  have H : Hid ((n + 512) % 256 = n % 256) := mod_shift n h0
  go_enter Try.func22, Try.ntmps22
  go_wp2
  go_ret
  exact ⟨ret_int (by first | exact H.out | simpa using H.out), rfl⟩
theorem extS (x : UInt8) : (⟨#[130, 0, x]⟩ : ByteArray).extract 0 2 = ⟨#[130, 0]⟩ := by apply ByteArray.ext; simp
set_option maxHeartbeats 1000000 in
theorem gov_open (s wt ag : Bool) (c n : Int) (w : World) (h0 : 0 ≤ c) (h3 : c ≤ 3) :
    Calls Try.prog 29 #[.agg #[.bool s, .bool wt, .bool ag, .int .i64 c, .int .i64 n], .string ⟨#[0]⟩] w fun e w' => e = .returned (.tuple #[.agg #[.bool false, .bool false, .bool false, .int .i64 ((c + 1) % 4), .int .i64 n], .int .i64 7]) ∧ Below w.heap.size w w' := by
  go_enter Try.func29, Try.ntmps29
  go_wp2_with fail
  refine bodyPost_ret (v := .tuple #[.agg #[.bool false, .bool false, .bool false, .int .i64 ((c + 1) % 4), .int .i64 n], .int .i64 7]) (results_row_tmp Try.results29 _ _ (w.heap.size + 1) 24 #[.bool false, .bool false, .bool false, .int .i64 ((c + 1) % 4), .int .i64 n] (0, 0) _ rfl ?_ Try.underlying24 rfl cellsFarm _ rfl) rfl ⟨rfl, ?_⟩
  · exact get_alloc (get_new (by simp)) (by simp)
  · exact ((((Below.refl _ _).alloc (Nat.le_refl _) _).alloc (by simp) _).alloc (by simp <;> omega) _)
set_option maxHeartbeats 1000000 in
theorem gov_set_shut (wt ag : Bool) (c n : Int) (x : UInt8) (w : World) (h0 : 0 ≤ c) (h3 : c ≤ 3) :
    Calls Try.prog 29 #[.agg #[.bool true, .bool wt, .bool ag, .int .i64 c, .int .i64 n], .string ⟨#[130, 0, x]⟩] w fun e w' => e = .returned (.tuple #[.agg #[.bool true, .bool wt, .bool ag, .int .i64 ((c + 1) % 4), .int .i64 n], .int .i64 7]) ∧ Below w.heap.size w w' := by
  have he := extS x
  have hx2 : ((⟨#[130, 0, x]⟩ : ByteArray)[2]'(by show 2 < 3; omega)).toNat < 256 := UInt8.toNat_lt _
  go_enter Try.func29, Try.ntmps29
  go_wp2_with fail
  refine bodyPost_ret (v := .tuple #[.agg #[.bool true, .bool wt, .bool ag, .int .i64 ((c + 1) % 4), .int .i64 n], .int .i64 7]) (results_row_tmp Try.results29 _ _ (w.heap.size + 1) 24 #[.bool true, .bool wt, .bool ag, .int .i64 ((c + 1) % 4), .int .i64 n] (0, 0) _ rfl ?_ Try.underlying24 rfl cellsFarm _ rfl) rfl ⟨rfl, ?_⟩
  · exact get_alloc (get_new (by simp)) (by simp)
  · exact ((((Below.refl _ _).alloc (Nat.le_refl _) _).alloc (by simp) _).alloc (by simp <;> omega) _)
set_option maxHeartbeats 1000000 in
theorem gov_set (wt ag : Bool) (c n : Int) (x : UInt8) (w : World) (h0 : 0 ≤ c) (h3 : c ≤ 3) :
    Calls Try.prog 29 #[.agg #[.bool false, .bool wt, .bool ag, .int .i64 c, .int .i64 n], .string ⟨#[130, 0, x]⟩] w fun e w' => e = .returned (.tuple #[.agg #[.bool false, .bool false, .bool false, .int .i64 ((c + 1) % 4), .int .i64 (x.toNat : Int)], .int .i64 7]) ∧ Below w.heap.size w w' := by
  have he := extS x
  have hx2 : ((⟨#[130, 0, x]⟩ : ByteArray)[2]'(by show 2 < 3; omega)).toNat < 256 := UInt8.toNat_lt _
  go_enter Try.func29, Try.ntmps29
  go_wp2_with fail
  refine bodyPost_ret (v := .tuple #[.agg #[.bool false, .bool false, .bool false, .int .i64 ((c + 1) % 4), .int .i64 (x.toNat : Int)], .int .i64 7]) (results_row_tmp Try.results29 _ _ (w.heap.size + 1) 24 #[.bool false, .bool false, .bool false, .int .i64 ((c + 1) % 4), .int .i64 (x.toNat : Int)] (0, 0) _ rfl ?_ Try.underlying24 rfl cellsFarm _ rfl) rfl ⟨rfl, ?_⟩
  · exact get_alloc (get_new (by simp)) (by simp)
  · exact ((((Below.refl _ _).alloc (Nat.le_refl _) _).alloc (by simp) _).alloc (by simp <;> omega) _)
set_option maxHeartbeats 1000000 in
theorem gov_bad_size (s wt ag : Bool) (c n : Int) (d : ByteArray) (w : World) (h0 : 0 ≤ c) (h3 : c ≤ 3) (hd : d.size ≤ maxLen) (h1 : (d.toList == [0]) = false) (h2 : ((d.size : Int) == 3) = false) :
    Calls Try.prog 29 #[.agg #[.bool s, .bool wt, .bool ag, .int .i64 c, .int .i64 n], .string d] w fun e w' => e = .returned (.tuple #[.agg #[.bool s, .bool wt, .bool ag, .int .i64 c, .int .i64 n], .int .i64 6]) ∧ Below w.heap.size w w' := by
  unfold maxLen at hd
  go_enter Try.func29, Try.ntmps29
  go_wp2_with fail
  refine bodyPost_ret (v := .tuple #[.agg #[.bool s, .bool wt, .bool ag, .int .i64 c, .int .i64 n], .int .i64 6]) (results_row_tmp Try.results29 _ _ (w.heap.size + 1) 24 #[.bool s, .bool wt, .bool ag, .int .i64 c, .int .i64 n] (0, 0) _ rfl ?_ Try.underlying24 rfl cellsFarm _ rfl) rfl ⟨rfl, ?_⟩
  · exact get_alloc (get_new (by simp)) (by simp)
  · exact ((((Below.refl _ _).alloc (Nat.le_refl _) _).alloc (by simp) _).alloc (by simp <;> omega) _)
set_option maxHeartbeats 1000000 in
theorem gov_bad_head (s wt ag : Bool) (c n : Int) (d : ByteArray) (w : World) (h0 : 0 ≤ c) (h3 : c ≤ 3) (hd : d.size ≤ maxLen) (h1 : (d.toList == [0]) = false) (h2 : (d.size : Int) = 3) (h4 : ((d.extract 0 2).toList == [130, 0]) = false) :
    Calls Try.prog 29 #[.agg #[.bool s, .bool wt, .bool ag, .int .i64 c, .int .i64 n], .string d] w fun e w' => e = .returned (.tuple #[.agg #[.bool s, .bool wt, .bool ag, .int .i64 c, .int .i64 n], .int .i64 6]) ∧ Below w.heap.size w w' := by
  unfold maxLen at hd
  go_enter Try.func29, Try.ntmps29
  go_wp2_with fail
  refine bodyPost_ret (v := .tuple #[.agg #[.bool s, .bool wt, .bool ag, .int .i64 c, .int .i64 n], .int .i64 6]) (results_row_tmp Try.results29 _ _ (w.heap.size + 1) 24 #[.bool s, .bool wt, .bool ag, .int .i64 c, .int .i64 n] (0, 0) _ rfl ?_ Try.underlying24 rfl cellsFarm _ rfl) rfl ⟨rfl, ?_⟩
  · exact get_alloc (get_new (by simp)) (by simp)
  · exact ((((Below.refl _ _).alloc (Nat.le_refl _) _).alloc (by simp) _).alloc (by simp <;> omega) _)
theorem far_yes {a : Int} (h : farB a = true) : 8 ≤ a ∧ a ≤ 247 := by simp [farB, lateB] at h; omega
theorem late_yes {a : Int} (h : lateB a = true) : 247 < a := by simpa [lateB] using h
theorem near_yes {a : Int} (h : farB a = false) (k : lateB a = false) : a < 8 := by simp [farB, lateB] at h k; omega
set_option maxHeartbeats 1000000 in
theorem ord_shut (wt ag room : Bool) (c n q : Int) (w : World) (hn0 : 0 ≤ n) (hn1 : n ≤ 255) (hq0 : 0 ≤ q) (hq1 : q ≤ 255) :
    Calls Try.prog 30 #[.agg #[.bool true, .bool wt, .bool ag, .int .i64 c, .int .i64 n], .int .i64 q, .bool room] w fun e w' => e = .returned (.tuple #[.agg #[.bool true, .bool wt, .bool ag, .int .i64 c, .int .i64 n], .int .i64 5]) ∧ Below w.heap.size w w' := by
  go_enter Try.func30, Try.ntmps30
  go_wp2_with (go_at_call 22; refine (l4Mod_any _ _ (by omega) (by omega)).mono ?_; rintro e w1 ⟨rfl, rfl⟩)
  refine bodyPost_ret (v := .tuple #[.agg #[.bool true, .bool wt, .bool ag, .int .i64 c, .int .i64 n], .int .i64 5]) (results_row_tmp Try.results30 _ _ (w.heap.size + 1) 24 #[.bool true, .bool wt, .bool ag, .int .i64 c, .int .i64 n] (0, 0) _ rfl ?_ Try.underlying24 rfl cellsFarm _ rfl) rfl ⟨rfl, ?_⟩
  · exact get_new (by simp)
  · exact (((Below.refl _ _).alloc (Nat.le_refl _) _).alloc (by simp) _)
set_option maxHeartbeats 1000000 in
theorem ord_far (wt ag room : Bool) (c n q : Int) (w : World) (hn0 : 0 ≤ n) (hn1 : n ≤ 255) (hq0 : 0 ≤ q) (hq1 : q ≤ 255) (hfar : farB ((q - n) % 256) = true) :
    Calls Try.prog 30 #[.agg #[.bool false, .bool wt, .bool ag, .int .i64 c, .int .i64 n], .int .i64 q, .bool room] w fun e w' => e = .returned (.tuple #[.agg #[.bool true, .bool wt, .bool ag, .int .i64 c, .int .i64 n], .int .i64 3]) ∧ Below w.heap.size w w' := by
  obtain ⟨hA, hB⟩ := far_yes hfar
  clear hfar
  go_enter Try.func30, Try.ntmps30
  go_wp2_with (go_at_call 22; refine (l4Mod_any _ _ (by omega) (by omega)).mono ?_; rintro e w1 ⟨rfl, rfl⟩)
  refine bodyPost_ret (v := .tuple #[.agg #[.bool true, .bool wt, .bool ag, .int .i64 c, .int .i64 n], .int .i64 3]) (results_row_tmp Try.results30 _ _ (w.heap.size + 1) 24 #[.bool true, .bool wt, .bool ag, .int .i64 c, .int .i64 n] (0, 0) _ rfl ?_ Try.underlying24 rfl cellsFarm _ rfl) rfl ⟨rfl, ?_⟩
  · exact get_new (by simp)
  · exact (((Below.refl _ _).alloc (Nat.le_refl _) _).alloc (by simp) _)
set_option maxHeartbeats 1000000 in
theorem ord_late (wt ag room : Bool) (c n q : Int) (w : World) (hn0 : 0 ≤ n) (hn1 : n ≤ 255) (hq0 : 0 ≤ q) (hq1 : q ≤ 255) (hfar : farB ((q - n) % 256) = false) (hl : lateB ((q - n) % 256) = true) :
    Calls Try.prog 30 #[.agg #[.bool false, .bool wt, .bool ag, .int .i64 c, .int .i64 n], .int .i64 q, .bool room] w fun e w' => e = .returned (.tuple #[.agg #[.bool false, .bool wt, .bool ag, .int .i64 c, .int .i64 n], .int .i64 1]) ∧ Below w.heap.size w w' := by
  have hA := late_yes hl
  have hB : 8 ≤ (q - n) % 256 := by omega
  have hC : ¬ (q - n) % 256 ≤ 247 := by omega
  clear hfar hl
  go_enter Try.func30, Try.ntmps30
  go_wp2_with (go_at_call 22; refine (l4Mod_any _ _ (by omega) (by omega)).mono ?_; rintro e w1 ⟨rfl, rfl⟩)
  refine bodyPost_ret (v := .tuple #[.agg #[.bool false, .bool wt, .bool ag, .int .i64 c, .int .i64 n], .int .i64 1]) (results_row_tmp Try.results30 _ _ (w.heap.size + 1) 24 #[.bool false, .bool wt, .bool ag, .int .i64 c, .int .i64 n] (0, 0) _ rfl ?_ Try.underlying24 rfl cellsFarm _ rfl) rfl ⟨rfl, ?_⟩
  · exact get_new (by simp)
  · exact (((Below.refl _ _).alloc (Nat.le_refl _) _).alloc (by simp) _)
set_option maxHeartbeats 1000000 in
theorem ord_waits (ag room : Bool) (c n q : Int) (w : World) (hn0 : 0 ≤ n) (hn1 : n ≤ 255) (hq0 : 0 ≤ q) (hq1 : q ≤ 255) (hfar : farB ((q - n) % 256) = false) (hl : lateB ((q - n) % 256) = false) :
    Calls Try.prog 30 #[.agg #[.bool false, .bool true, .bool ag, .int .i64 c, .int .i64 n], .int .i64 q, .bool room] w fun e w' => e = .returned (.tuple #[.agg #[.bool false, .bool true, .bool ag, .int .i64 c, .int .i64 n], .int .i64 4]) ∧ Below w.heap.size w w' := by
  have hA := near_yes hfar hl
  have hB : ¬ 8 ≤ (q - n) % 256 := by omega
  have hC : ¬ 247 < (q - n) % 256 := by omega
  clear hfar hl
  go_enter Try.func30, Try.ntmps30
  go_wp2_with (go_at_call 22; refine (l4Mod_any _ _ (by omega) (by omega)).mono ?_; rintro e w1 ⟨rfl, rfl⟩)
  refine bodyPost_ret (v := .tuple #[.agg #[.bool false, .bool true, .bool ag, .int .i64 c, .int .i64 n], .int .i64 4]) (results_row_tmp Try.results30 _ _ (w.heap.size + 1) 24 #[.bool false, .bool true, .bool ag, .int .i64 c, .int .i64 n] (0, 0) _ rfl ?_ Try.underlying24 rfl cellsFarm _ rfl) rfl ⟨rfl, ?_⟩
  · exact get_new (by simp)
  · exact (((Below.refl _ _).alloc (Nat.le_refl _) _).alloc (by simp) _)
set_option maxHeartbeats 1000000 in
theorem ord_early (ag room : Bool) (c n q : Int) (w : World) (hn0 : 0 ≤ n) (hn1 : n ≤ 255) (hq0 : 0 ≤ q) (hq1 : q ≤ 255) (hfar : farB ((q - n) % 256) = false) (hl : lateB ((q - n) % 256) = false) (hz : 0 < (q - n) % 256) :
    Calls Try.prog 30 #[.agg #[.bool false, .bool false, .bool ag, .int .i64 c, .int .i64 n], .int .i64 q, .bool room] w fun e w' => e = .returned (.tuple #[.agg #[.bool false, .bool false, .bool true, .int .i64 c, .int .i64 n], .int .i64 2]) ∧ Below w.heap.size w w' := by
  have hA := near_yes hfar hl
  have hB : ¬ 8 ≤ (q - n) % 256 := by omega
  have hC : ¬ 247 < (q - n) % 256 := by omega
  clear hfar hl
  go_enter Try.func30, Try.ntmps30
  go_wp2_with (go_at_call 22; refine (l4Mod_any _ _ (by omega) (by omega)).mono ?_; rintro e w1 ⟨rfl, rfl⟩)
  refine bodyPost_ret (v := .tuple #[.agg #[.bool false, .bool false, .bool true, .int .i64 c, .int .i64 n], .int .i64 2]) (results_row_tmp Try.results30 _ _ (w.heap.size + 1) 24 #[.bool false, .bool false, .bool true, .int .i64 c, .int .i64 n] (0, 0) _ rfl ?_ Try.underlying24 rfl cellsFarm _ rfl) rfl ⟨rfl, ?_⟩
  · exact get_new (by simp)
  · exact (((Below.refl _ _).alloc (Nat.le_refl _) _).alloc (by simp) _)
set_option maxHeartbeats 1000000 in
theorem ord_full (ag : Bool) (c n q : Int) (w : World) (hn0 : 0 ≤ n) (hn1 : n ≤ 255) (hq0 : 0 ≤ q) (hq1 : q ≤ 255) (hfar : farB ((q - n) % 256) = false) (hl : lateB ((q - n) % 256) = false) (hz : ¬ 0 < (q - n) % 256) :
    Calls Try.prog 30 #[.agg #[.bool false, .bool false, .bool ag, .int .i64 c, .int .i64 n], .int .i64 q, .bool false] w fun e w' => e = .returned (.tuple #[.agg #[.bool false, .bool true, .bool true, .int .i64 c, .int .i64 n], .int .i64 4]) ∧ Below w.heap.size w w' := by
  have hA := near_yes hfar hl
  have hB : ¬ 8 ≤ (q - n) % 256 := by omega
  have hC : ¬ 247 < (q - n) % 256 := by omega
  clear hfar hl
  go_enter Try.func30, Try.ntmps30
  go_wp2_with (go_at_call 22; refine (l4Mod_any _ _ (by omega) (by omega)).mono ?_; rintro e w1 ⟨rfl, rfl⟩)
  refine bodyPost_ret (v := .tuple #[.agg #[.bool false, .bool true, .bool true, .int .i64 c, .int .i64 n], .int .i64 4]) (results_row_tmp Try.results30 _ _ (w.heap.size + 1) 24 #[.bool false, .bool true, .bool true, .int .i64 c, .int .i64 n] (0, 0) _ rfl ?_ Try.underlying24 rfl cellsFarm _ rfl) rfl ⟨rfl, ?_⟩
  · exact get_new (by simp)
  · exact (((Below.refl _ _).alloc (Nat.le_refl _) _).alloc (by simp) _)
set_option maxHeartbeats 1000000 in
theorem ord_take (ag : Bool) (c n q : Int) (w : World) (hn0 : 0 ≤ n) (hn1 : n ≤ 255) (hq0 : 0 ≤ q) (hq1 : q ≤ 255) (hfar : farB ((q - n) % 256) = false) (hl : lateB ((q - n) % 256) = false) (hz : ¬ 0 < (q - n) % 256) :
    Calls Try.prog 30 #[.agg #[.bool false, .bool false, .bool ag, .int .i64 c, .int .i64 n], .int .i64 q, .bool true] w fun e w' => e = .returned (.tuple #[.agg #[.bool false, .bool false, .bool false, .int .i64 c, .int .i64 ((n + 1) % 256)], .int .i64 0]) ∧ Below w.heap.size w w' := by
  have hA := near_yes hfar hl
  have hB : ¬ 8 ≤ (q - n) % 256 := by omega
  have hC : ¬ 247 < (q - n) % 256 := by omega
  clear hfar hl
  go_enter Try.func30, Try.ntmps30
  go_wp2_with (go_at_call 22; refine (l4Mod_any _ _ (by omega) (by omega)).mono ?_; rintro e w1 ⟨rfl, rfl⟩)
  refine bodyPost_ret (v := .tuple #[.agg #[.bool false, .bool false, .bool false, .int .i64 c, .int .i64 ((n + 1) % 256)], .int .i64 0]) (results_row_tmp Try.results30 _ _ (w.heap.size + 1) 24 #[.bool false, .bool false, .bool false, .int .i64 c, .int .i64 ((n + 1) % 256)] (0, 0) _ rfl ?_ Try.underlying24 rfl cellsFarm _ rfl) rfl ⟨rfl, ?_⟩
  · exact get_new (by simp)
  · exact (((Below.refl _ _).alloc (Nat.le_refl _) _).alloc (by simp) _)
end Go.Proofs.Ytfojljhpobdcdaa
