/- The contracts of strings.CutPrefix and of impl.farmOrder. -/
import Derived.Test.YtfojljhpobdcdaaFaH
import Derived.Deep.RegionWith
namespace Go.Proofs.Ytfojljhpobdcdaa
open Go.ChangeShapes Go.WideShapes Go.ChangeAt Go.RowKit
set_option linter.unusedVariables false

def preB (d : ByteArray) : Bool := decide (2 ≤ (d.size : Int)) && ((d.extract 0 2).toList == [130, 0])
set_option maxHeartbeats 400000 in
theorem hasPrefix_any (d : ByteArray) (w : World) (hd : d.size ≤ maxLen) :
    Calls Try.prog 44 #[.string d, .string ⟨#[130, 0]⟩] w fun e w' => e = .returned (.bool (preB d)) ∧ w' = w := by
  unfold maxLen at hd
  by_cases h : 2 ≤ (d.size : Int)
  · have HX : Hid (preB d = ((d.extract 0 2).toList == [130, 0])) := by show preB d = _; simp [preB, h]
    go_enter Try.func44, Try.ntmps44
    go_wp2
    go_ret
    exact ⟨by rw [HX.out]; rfl, rfl⟩
  · have HX : Hid (preB d = false) := by show preB d = _; simp [preB, h]
    go_enter Try.func44, Try.ntmps44
    go_wp2
    go_ret
    exact ⟨by rw [HX.out]; rfl, rfl⟩
set_option maxHeartbeats 400000 in
theorem cutS_yes (d : ByteArray) (w : World) (hd : d.size ≤ maxLen) (h : preB d = true) (h2 : 2 ≤ (d.size : Int)) :
    Calls Try.prog 43 #[.string d, .string ⟨#[130, 0]⟩] w fun e w' => e = .returned (.tuple #[.string (d.extract 2 d.size), .bool true]) ∧ w' = w := by
  have hm := hd
  unfold maxLen at hm
  go_enter Try.func43, Try.ntmps43
  go_wp2_with (go_at_call 44; refine (hasPrefix_any _ _ hd).mono ?_; rintro e w' ⟨rfl, rfl⟩)
  go_ret2
  exact ⟨rfl, rfl⟩
set_option maxHeartbeats 400000 in
theorem cutS_no (d : ByteArray) (w : World) (hd : d.size ≤ maxLen) (h : preB d = false) :
    Calls Try.prog 43 #[.string d, .string ⟨#[130, 0]⟩] w fun e w' => e = .returned (.tuple #[.string (d), .bool false]) ∧ w' = w := by
  have hm := hd
  unfold maxLen at hm
  go_enter Try.func43, Try.ntmps43
  go_wp2_with (go_at_call 44; refine (hasPrefix_any _ _ hd).mono ?_; rintro e w' ⟨rfl, rfl⟩)
  go_ret2
  exact ⟨rfl, rfl⟩
set_option maxHeartbeats 400000 in
theorem cut_yes (d : ByteArray) (w : World) (hd : d.size ≤ maxLen) (h : preB d = true) (h2 : 2 ≤ (d.size : Int)) :
    Calls Try.prog 41 #[.string d, .string ⟨#[130, 0]⟩] w fun e w' => e = .returned (.tuple #[.string (d.extract 2 d.size), .bool true]) ∧ w' = w := by
  have hm := hd
  unfold maxLen at hm
  go_enter Try.func41, Try.ntmps41
  go_wp2_with (go_at_call 43; refine (cutS_yes _ _ hd h h2).mono ?_; rintro e w' ⟨rfl, rfl⟩)
  go_ret2
  exact ⟨rfl, rfl⟩
set_option maxHeartbeats 400000 in
theorem cut_no (d : ByteArray) (w : World) (hd : d.size ≤ maxLen) (h : preB d = false) :
    Calls Try.prog 41 #[.string d, .string ⟨#[130, 0]⟩] w fun e w' => e = .returned (.tuple #[.string (d), .bool false]) ∧ w' = w := by
  have hm := hd
  unfold maxLen at hm
  go_enter Try.func41, Try.ntmps41
  go_wp2_with (go_at_call 43; refine (cutS_no _ _ hd h).mono ?_; rintro e w' ⟨rfl, rfl⟩)
  go_ret2
  exact ⟨rfl, rfl⟩
set_option maxHeartbeats 1000000 in
theorem order_open (s wt ag : Bool) (c n : Int) (w : World) (h0 : 0 ≤ c) (h1 : c ≤ 3) :
    Calls Try.prog 26 #[.agg #[.bool s, .bool wt, .bool ag, .int .i64 c, .int .i64 n], .string ⟨#[0]⟩] w fun e w' => e = .returned (.tuple #[.agg #[.bool false, .bool false, .bool false, .int .i64 ((c + 1) % 4), .int .i64 n], .int .i64 7]) ∧ Below w.heap.size w w' := by
  go_enter Try.func26, Try.ntmps26
  go_wp2_with fail
  refine (counted_any _ _ _ _ _ _ h0 h1).mono ?_
  rintro e w1 ⟨rfl, hb1⟩
  have HB : Hid (Below w.heap.size w w1) := (((Below.refl _ _).alloc (Nat.le_refl _) _).alloc (by simp) _).trans (hb1.mono (by simp; omega))
  have HG : Hid (w1.heap[w.heap.size + 1]? = some (.cells #[.bool false, .bool false, .bool false, .int .i64 0, .int .i64 0] 24)) := get_below hb1 (get_new (by simp)) (by simp)
  obtain ⟨hc, hf⟩ := bcell0 hb1
  have hz : w.heap.size + 1 < w1.heap.size := by have := hb1.size; simp at this; omega
  clear hb1
  go_wp2_with fail
  refine bodyPost_ret (v := .tuple #[.agg #[.bool false, .bool false, .bool false, .int .i64 ((c + 1) % 4), .int .i64 n], .int .i64 7]) (results_row_tmp Try.results26 _ _ (w.heap.size + 1) 24 #[.bool false, .bool false, .bool false, .int .i64 ((c + 1) % 4), .int .i64 n] (0, 0) _ rfl ?_ Try.underlying24 rfl cellsFarm _ rfl) rfl ⟨rfl, ?_⟩
  · exact get_set (get_set (get_set (get_set (get_set (HG.out) rfl) rfl) rfl) rfl) rfl
  · exact belowS (belowS (belowS (belowS (belowS (HB.out) (by omega)) (by omega)) (by omega)) (by omega)) (by omega)
set_option maxHeartbeats 1000000 in
theorem order_bad_pre (s wt ag : Bool) (c n : Int) (d : ByteArray) (w : World) (hd : d.size ≤ maxLen) (hx : (d.toList == [0]) = false) (hp : preB d = true) (hs : (d.size : Int) ≠ 3) :
    Calls Try.prog 26 #[.agg #[.bool s, .bool wt, .bool ag, .int .i64 c, .int .i64 n], .string d] w fun e w' => e = .returned (.tuple #[.agg #[.bool s, .bool wt, .bool ag, .int .i64 c, .int .i64 n], .int .i64 6]) ∧ Below w.heap.size w w' := by
  have h2 : 2 ≤ (d.size : Int) := by simp [preB] at hp; omega
  have hm := hd
  unfold maxLen at hm
  have hq : ((((d.extract 2 d.size).size : Nat) : Int) != 1) = true := by rw [ByteArray.size_extract, bne_iff_ne]; omega
  have hq' : (((d.size - 2 : Nat) : Int) != 1) = true := by rw [bne_iff_ne]; omega
  go_enter Try.func26, Try.ntmps26
  go_wp2_with fail
  refine (cut_yes _ _ hd hp h2).mono ?_
  rintro e w1 ⟨rfl, rfl⟩
  go_wp2_with fail
  refine bodyPost_ret (v := .tuple #[.agg #[.bool s, .bool wt, .bool ag, .int .i64 c, .int .i64 n], .int .i64 6]) (results_row_tmp Try.results26 _ _ (w.heap.size + 1) 24 #[.bool s, .bool wt, .bool ag, .int .i64 c, .int .i64 n] (0, 0) _ rfl ?_ Try.underlying24 rfl cellsFarm _ rfl) rfl ⟨rfl, ?_⟩
  · exact get_new (by simp)
  · exact ((Below.refl _ _).alloc (Nat.le_refl _) _).alloc (by simp) _
set_option maxHeartbeats 1000000 in
theorem order_bad_not (s wt ag : Bool) (c n : Int) (d : ByteArray) (w : World) (hd : d.size ≤ maxLen) (hx : (d.toList == [0]) = false) (hp : preB d = false) :
    Calls Try.prog 26 #[.agg #[.bool s, .bool wt, .bool ag, .int .i64 c, .int .i64 n], .string d] w fun e w' => e = .returned (.tuple #[.agg #[.bool s, .bool wt, .bool ag, .int .i64 c, .int .i64 n], .int .i64 6]) ∧ Below w.heap.size w w' := by
  go_enter Try.func26, Try.ntmps26
  go_wp2_with fail
  refine (cut_no _ _ hd hp).mono ?_
  rintro e w1 ⟨rfl, rfl⟩
  go_wp2_with fail
  refine bodyPost_ret (v := .tuple #[.agg #[.bool s, .bool wt, .bool ag, .int .i64 c, .int .i64 n], .int .i64 6]) (results_row_tmp Try.results26 _ _ (w.heap.size + 1) 24 #[.bool s, .bool wt, .bool ag, .int .i64 c, .int .i64 n] (0, 0) _ rfl ?_ Try.underlying24 rfl cellsFarm _ rfl) rfl ⟨rfl, ?_⟩
  · exact get_new (by simp)
  · exact ((Below.refl _ _).alloc (Nat.le_refl _) _).alloc (by simp) _
theorem ext02 (x : UInt8) : (⟨#[130, 0, x]⟩ : ByteArray).extract 0 2 = ⟨#[130, 0]⟩ := by apply ByteArray.ext; simp
theorem ext23 (x : UInt8) : (⟨#[130, 0, x]⟩ : ByteArray).extract 2 3 = ⟨#[x]⟩ := by apply ByteArray.ext; simp
set_option maxHeartbeats 400000 in
theorem hasPrefix_set (x : UInt8) (w : World) :
    Calls Try.prog 44 #[.string ⟨#[130, 0, x]⟩, .string ⟨#[130, 0]⟩] w fun e w' => e = .returned (.bool true) ∧ w' = w := by
  have he := ext02 x
  go_enter Try.func44, Try.ntmps44
  go_wp2
  go_ret
  exact ⟨rfl, rfl⟩
set_option maxHeartbeats 400000 in
theorem cutS_set (x : UInt8) (w : World) :
    Calls Try.prog 43 #[.string ⟨#[130, 0, x]⟩, .string ⟨#[130, 0]⟩] w fun e w' => e = .returned (.tuple #[.string ⟨#[x]⟩, .bool true]) ∧ w' = w := by
  have he := ext23 x
  go_enter Try.func43, Try.ntmps43
  go_wp2_with (go_at_call 44; refine (hasPrefix_set _ _).mono ?_; rintro e w' ⟨rfl, rfl⟩)
  go_ret2
  exact ⟨rfl, rfl⟩
set_option maxHeartbeats 400000 in
theorem cut_set (x : UInt8) (w : World) :
    Calls Try.prog 41 #[.string ⟨#[130, 0, x]⟩, .string ⟨#[130, 0]⟩] w fun e w' => e = .returned (.tuple #[.string ⟨#[x]⟩, .bool true]) ∧ w' = w := by
  go_enter Try.func41, Try.ntmps41
  go_wp2_with (go_at_call 43; refine (cutS_set _ _).mono ?_; rintro e w' ⟨rfl, rfl⟩)
  go_ret2
  exact ⟨rfl, rfl⟩
set_option maxRecDepth 100000 in
set_option maxHeartbeats 1000000 in
theorem order_set_shut (wt ag : Bool) (c n : Int) (x : UInt8) (w : World) (h0 : 0 ≤ c) (h1 : c ≤ 3) :
    Calls Try.prog 26 #[.agg #[.bool true, .bool wt, .bool ag, .int .i64 c, .int .i64 n], .string ⟨#[130, 0, x]⟩] w fun e w' => e = .returned (.tuple #[.agg #[.bool true, .bool wt, .bool ag, .int .i64 ((c + 1) % 4), .int .i64 n], .int .i64 7]) ∧ Below w.heap.size w w' := by
  have hx := x.toNat_lt
  have hn := nil_shut true wt ag c n
  have hm := m_shut_set true wt ag c n
  have hr := m_shut_farm true wt ag c n
  simp [setName, farmName] at hn hm hr
  have HS : Hid (Below (w.heap.size + 2) ((w.alloc (.cells #[.bool true, .bool wt, .bool ag, .int .i64 c, .int .i64 n] 24)).alloc (.cells #[.bool false, .bool false, .bool false, .int .i64 0, .int .i64 0] 24)) ((w.alloc (.cells #[.bool true, .bool wt, .bool ag, .int .i64 c, .int .i64 n] 24)).alloc (.cells #[.bool false, .bool false, .bool false, .int .i64 0, .int .i64 0] 24))) := Below.refl _ _
  go_enter Try.func26, Try.ntmps26
  go_wp2_with fail
  refine (cut_set _ _).mono ?_
  rintro e w1 ⟨rfl, rfl⟩
  go_wp2_with fail
  go_region_with ((first | (go_at_call 27; refine (standing_shut _ _ _ _ _).mono ?_; rintro e w8 ⟨rfl, hb8⟩; obtain ⟨hc8, hf8⟩ := bcell0 hb8; have hz8 : w.heap.size + 1 < w8.heap.size := (by have := hb8.size; (try simp at this); omega); have HS : Hid (Below (w.heap.size + 2) ((w.alloc (.cells #[.bool true, .bool wt, .bool ag, .int .i64 c, .int .i64 n] 24)).alloc (.cells #[.bool false, .bool false, .bool false, .int .i64 0, .int .i64 0] 24)) w8) := (by first | exact hidA HS hb8 | exact hidB HS hb8); clear hb8) | (go_at_call 67; refine (shut_set _ _ _ _ _ _ _).mono ?_; rintro e w8 ⟨rfl, hb8⟩; obtain ⟨hc8, hf8⟩ := bcell0 hb8; have hz8 : w.heap.size + 1 < w8.heap.size := (by have := hb8.size; (try simp at this); omega); have HS : Hid (Below (w.heap.size + 2) ((w.alloc (.cells #[.bool true, .bool wt, .bool ag, .int .i64 c, .int .i64 n] 24)).alloc (.cells #[.bool false, .bool false, .bool false, .int .i64 0, .int .i64 0] 24)) w8) := (by first | exact hidA HS hb8 | exact hidB HS hb8); clear hb8) | (go_at_call 64; refine (farm_any _ _ _ _ _ _).mono ?_; rintro e w8 ⟨rfl, hb8⟩; obtain ⟨hc8, hf8⟩ := bcell0 hb8; have hz8 : w.heap.size + 1 < w8.heap.size := (by have := hb8.size; (try simp at this); omega); have HS : Hid (Below (w.heap.size + 2) ((w.alloc (.cells #[.bool true, .bool wt, .bool ag, .int .i64 c, .int .i64 n] 24)).alloc (.cells #[.bool false, .bool false, .bool false, .int .i64 0, .int .i64 0] 24)) w8) := (by first | exact hidA HS hb8 | exact hidB HS hb8); clear hb8) | (go_at_call 28; refine (counted_any _ _ _ _ _ _ h0 h1).mono ?_; rintro e w8 ⟨rfl, hb8⟩; obtain ⟨hc8, hf8⟩ := bcell0 hb8; have hz8 : w.heap.size + 1 < w8.heap.size := (by have := hb8.size; (try simp at this); omega); have HS : Hid (Below (w.heap.size + 2) ((w.alloc (.cells #[.bool true, .bool wt, .bool ag, .int .i64 c, .int .i64 n] 24)).alloc (.cells #[.bool false, .bool false, .bool false, .int .i64 0, .int .i64 0] 24)) w8) := (by first | exact hidA HS hb8 | exact hidB HS hb8); clear hb8)))
  all_goals
    go_wp2_with fail
    refine bodyPost_ret (v := .tuple #[.agg #[.bool true, .bool wt, .bool ag, .int .i64 ((c + 1) % 4), .int .i64 n], .int .i64 7]) (results_row_tmp Try.results26 _ _ (w.heap.size + 1) 24 #[.bool true, .bool wt, .bool ag, .int .i64 ((c + 1) % 4), .int .i64 n] (0, 0) _ rfl ?_ Try.underlying24 rfl cellsFarm _ rfl) rfl ⟨rfl, ?_⟩
    · exact get_set (get_set (get_set (get_set (get_set (get_below HS.out (get_new (by simp)) (by omega)) rfl) rfl) rfl) rfl) rfl
    · exact belowS (belowS (belowS (belowS (belowS ((((Below.refl _ _).alloc (Nat.le_refl _) _).alloc (by simp) _).trans (HS.out.mono (by omega))) (by omega)) (by omega)) (by omega)) (by omega)) (by omega)
set_option maxRecDepth 100000 in
set_option maxHeartbeats 1000000 in
theorem order_set_waits (ag : Bool) (c n : Int) (x : UInt8) (w : World) (h0 : 0 ≤ c) (h1 : c ≤ 3) :
    Calls Try.prog 26 #[.agg #[.bool false, .bool true, .bool ag, .int .i64 c, .int .i64 n], .string ⟨#[130, 0, x]⟩] w fun e w' => e = .returned (.tuple #[.agg #[.bool false, .bool false, .bool false, .int .i64 ((c + 1) % 4), .int .i64 (x.toNat : Int)], .int .i64 7]) ∧ Below w.heap.size w w' := by
  have hx := x.toNat_lt
  have hn := nil_waiting false true ag c n
  have hm := m_waiting_set false true ag c n
  have hr := m_taking_farm false false false c x.toNat
  simp [setName, farmName] at hn hm hr
  have HS : Hid (Below (w.heap.size + 2) ((w.alloc (.cells #[.bool false, .bool true, .bool ag, .int .i64 c, .int .i64 n] 24)).alloc (.cells #[.bool false, .bool false, .bool false, .int .i64 0, .int .i64 0] 24)) ((w.alloc (.cells #[.bool false, .bool true, .bool ag, .int .i64 c, .int .i64 n] 24)).alloc (.cells #[.bool false, .bool false, .bool false, .int .i64 0, .int .i64 0] 24))) := Below.refl _ _
  go_enter Try.func26, Try.ntmps26
  go_wp2_with fail
  refine (cut_set _ _).mono ?_
  rintro e w1 ⟨rfl, rfl⟩
  go_wp2_with fail
  go_region_with ((first | (go_at_call 27; refine (standing_waits _ _ _ _).mono ?_; rintro e w8 ⟨rfl, hb8⟩; obtain ⟨hc8, hf8⟩ := bcell0 hb8; have hz8 : w.heap.size + 1 < w8.heap.size := (by have := hb8.size; (try simp at this); omega); have HS : Hid (Below (w.heap.size + 2) ((w.alloc (.cells #[.bool false, .bool true, .bool ag, .int .i64 c, .int .i64 n] 24)).alloc (.cells #[.bool false, .bool false, .bool false, .int .i64 0, .int .i64 0] 24)) w8) := (by first | exact hidA HS hb8 | exact hidB HS hb8); clear hb8) | (go_at_call 65; refine (keeper_set _ _ _ _ _ (x.toNat : Int) _ (by omega) (by omega)).mono ?_; rintro e w8 ⟨rfl, hb8⟩; obtain ⟨hc8, hf8⟩ := bcell0 hb8; have hz8 : w.heap.size + 1 < w8.heap.size := (by have := hb8.size; (try simp at this); omega); have HS : Hid (Below (w.heap.size + 2) ((w.alloc (.cells #[.bool false, .bool true, .bool ag, .int .i64 c, .int .i64 n] 24)).alloc (.cells #[.bool false, .bool false, .bool false, .int .i64 0, .int .i64 0] 24)) w8) := (by first | exact hidA HS hb8 | exact hidB HS hb8); clear hb8) | (go_at_call 64; refine (farm_any _ _ _ _ _ _).mono ?_; rintro e w8 ⟨rfl, hb8⟩; obtain ⟨hc8, hf8⟩ := bcell0 hb8; have hz8 : w.heap.size + 1 < w8.heap.size := (by have := hb8.size; (try simp at this); omega); have HS : Hid (Below (w.heap.size + 2) ((w.alloc (.cells #[.bool false, .bool true, .bool ag, .int .i64 c, .int .i64 n] 24)).alloc (.cells #[.bool false, .bool false, .bool false, .int .i64 0, .int .i64 0] 24)) w8) := (by first | exact hidA HS hb8 | exact hidB HS hb8); clear hb8) | (go_at_call 28; refine (counted_any _ _ _ _ _ _ h0 h1).mono ?_; rintro e w8 ⟨rfl, hb8⟩; obtain ⟨hc8, hf8⟩ := bcell0 hb8; have hz8 : w.heap.size + 1 < w8.heap.size := (by have := hb8.size; (try simp at this); omega); have HS : Hid (Below (w.heap.size + 2) ((w.alloc (.cells #[.bool false, .bool true, .bool ag, .int .i64 c, .int .i64 n] 24)).alloc (.cells #[.bool false, .bool false, .bool false, .int .i64 0, .int .i64 0] 24)) w8) := (by first | exact hidA HS hb8 | exact hidB HS hb8); clear hb8)))
  all_goals
    go_wp2_with fail
    refine bodyPost_ret (v := .tuple #[.agg #[.bool false, .bool false, .bool false, .int .i64 ((c + 1) % 4), .int .i64 (x.toNat : Int)], .int .i64 7]) (results_row_tmp Try.results26 _ _ (w.heap.size + 1) 24 #[.bool false, .bool false, .bool false, .int .i64 ((c + 1) % 4), .int .i64 (x.toNat : Int)] (0, 0) _ rfl ?_ Try.underlying24 rfl cellsFarm _ rfl) rfl ⟨rfl, ?_⟩
    · exact get_set (get_set (get_set (get_set (get_set (get_below HS.out (get_new (by simp)) (by omega)) rfl) rfl) rfl) rfl) rfl
    · exact belowS (belowS (belowS (belowS (belowS ((((Below.refl _ _).alloc (Nat.le_refl _) _).alloc (by simp) _).trans (HS.out.mono (by omega))) (by omega)) (by omega)) (by omega)) (by omega)) (by omega)
set_option maxRecDepth 100000 in
set_option maxHeartbeats 1000000 in
theorem order_set_takes (ag : Bool) (c n : Int) (x : UInt8) (w : World) (h0 : 0 ≤ c) (h1 : c ≤ 3) :
    Calls Try.prog 26 #[.agg #[.bool false, .bool false, .bool ag, .int .i64 c, .int .i64 n], .string ⟨#[130, 0, x]⟩] w fun e w' => e = .returned (.tuple #[.agg #[.bool false, .bool false, .bool false, .int .i64 ((c + 1) % 4), .int .i64 (x.toNat : Int)], .int .i64 7]) ∧ Below w.heap.size w w' := by
  have hx := x.toNat_lt
  have hn := nil_taking false false ag c n
  have hm := m_taking_set false false ag c n
  have hr := m_taking_farm false false false c x.toNat
  simp [setName, farmName] at hn hm hr
  have HS : Hid (Below (w.heap.size + 2) ((w.alloc (.cells #[.bool false, .bool false, .bool ag, .int .i64 c, .int .i64 n] 24)).alloc (.cells #[.bool false, .bool false, .bool false, .int .i64 0, .int .i64 0] 24)) ((w.alloc (.cells #[.bool false, .bool false, .bool ag, .int .i64 c, .int .i64 n] 24)).alloc (.cells #[.bool false, .bool false, .bool false, .int .i64 0, .int .i64 0] 24))) := Below.refl _ _
  go_enter Try.func26, Try.ntmps26
  go_wp2_with fail
  refine (cut_set _ _).mono ?_
  rintro e w1 ⟨rfl, rfl⟩
  go_wp2_with fail
  go_region_with ((first | (go_at_call 27; refine (standing_takes _ _ _ _).mono ?_; rintro e w8 ⟨rfl, hb8⟩; obtain ⟨hc8, hf8⟩ := bcell0 hb8; have hz8 : w.heap.size + 1 < w8.heap.size := (by have := hb8.size; (try simp at this); omega); have HS : Hid (Below (w.heap.size + 2) ((w.alloc (.cells #[.bool false, .bool false, .bool ag, .int .i64 c, .int .i64 n] 24)).alloc (.cells #[.bool false, .bool false, .bool false, .int .i64 0, .int .i64 0] 24)) w8) := (by first | exact hidA HS hb8 | exact hidB HS hb8); clear hb8) | (go_at_call 65; refine (keeper_set _ _ _ _ _ (x.toNat : Int) _ (by omega) (by omega)).mono ?_; rintro e w8 ⟨rfl, hb8⟩; obtain ⟨hc8, hf8⟩ := bcell0 hb8; have hz8 : w.heap.size + 1 < w8.heap.size := (by have := hb8.size; (try simp at this); omega); have HS : Hid (Below (w.heap.size + 2) ((w.alloc (.cells #[.bool false, .bool false, .bool ag, .int .i64 c, .int .i64 n] 24)).alloc (.cells #[.bool false, .bool false, .bool false, .int .i64 0, .int .i64 0] 24)) w8) := (by first | exact hidA HS hb8 | exact hidB HS hb8); clear hb8) | (go_at_call 64; refine (farm_any _ _ _ _ _ _).mono ?_; rintro e w8 ⟨rfl, hb8⟩; obtain ⟨hc8, hf8⟩ := bcell0 hb8; have hz8 : w.heap.size + 1 < w8.heap.size := (by have := hb8.size; (try simp at this); omega); have HS : Hid (Below (w.heap.size + 2) ((w.alloc (.cells #[.bool false, .bool false, .bool ag, .int .i64 c, .int .i64 n] 24)).alloc (.cells #[.bool false, .bool false, .bool false, .int .i64 0, .int .i64 0] 24)) w8) := (by first | exact hidA HS hb8 | exact hidB HS hb8); clear hb8) | (go_at_call 28; refine (counted_any _ _ _ _ _ _ h0 h1).mono ?_; rintro e w8 ⟨rfl, hb8⟩; obtain ⟨hc8, hf8⟩ := bcell0 hb8; have hz8 : w.heap.size + 1 < w8.heap.size := (by have := hb8.size; (try simp at this); omega); have HS : Hid (Below (w.heap.size + 2) ((w.alloc (.cells #[.bool false, .bool false, .bool ag, .int .i64 c, .int .i64 n] 24)).alloc (.cells #[.bool false, .bool false, .bool false, .int .i64 0, .int .i64 0] 24)) w8) := (by first | exact hidA HS hb8 | exact hidB HS hb8); clear hb8)))
  all_goals
    go_wp2_with fail
    refine bodyPost_ret (v := .tuple #[.agg #[.bool false, .bool false, .bool false, .int .i64 ((c + 1) % 4), .int .i64 (x.toNat : Int)], .int .i64 7]) (results_row_tmp Try.results26 _ _ (w.heap.size + 1) 24 #[.bool false, .bool false, .bool false, .int .i64 ((c + 1) % 4), .int .i64 (x.toNat : Int)] (0, 0) _ rfl ?_ Try.underlying24 rfl cellsFarm _ rfl) rfl ⟨rfl, ?_⟩
    · exact get_set (get_set (get_set (get_set (get_set (get_below HS.out (get_new (by simp)) (by omega)) rfl) rfl) rfl) rfl) rfl
    · exact belowS (belowS (belowS (belowS (belowS ((((Below.refl _ _).alloc (Nat.le_refl _) _).alloc (by simp) _).trans (HS.out.mono (by omega))) (by omega)) (by omega)) (by omega)) (by omega)) (by omega)
end Go.Proofs.Ytfojljhpobdcdaa
