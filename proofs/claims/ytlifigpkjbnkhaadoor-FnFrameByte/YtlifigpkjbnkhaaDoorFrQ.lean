/- The contract of spec.l3Put and of both sides' FramePut. -/
import Derived.Test.YtlifigpkjbnkhaaDoorFrP
namespace Go.Proofs.YtlifigpkjbnkhaaDoor
open Go.ChangeShapes Go.WideShapes Go.ChangeAt Go.RowKit
set_option linter.unusedVariables false

set_option maxRecDepth 100000 in
set_option maxHeartbeats 4000000 in
theorem l3Put_tt (c v q : Int) (d : ByteArray) (w : World) (hd : d.size ≤ maxLen) (hc0 : 0 ≤ c) (hc1 : c ≤ 1023) (hv0 : 0 ≤ v) (hv1 : v ≤ 63) (hq0 : 0 ≤ q) (hq1 : q ≤ 255) (hs0 : 1 ≤ d.size) (hs1 : d.size ≤ 53) :
    Calls Tryd.prog 27 #[.agg #[.bool true, .bool true, .int .i64 c, .int .i64 v, .int .i64 q, .string d]] w fun e w' => e = .returned (.string (frW (frT (c + 12288) (v * 1024 + d.size + 6) q d))) ∧ Below w.heap.size w w' := by
  have hm := hd
  unfold maxLen at hm
  go_enter Tryd.func27, Tryd.ntmps27
  go_wp2_with fail
  have HB0 : Hid (Below w.heap.size w (w.alloc (.cells #[.bool true, .bool true, .int .i64 c, .int .i64 v, .int .i64 q, .string d] 23))) := ((Below.refl _ _).alloc (Nat.le_refl _) _)
  obtain ⟨k0, k1, k2, k3, k4, k5⟩ := cells6_of (w := (w.alloc (.cells #[.bool true, .bool true, .int .i64 c, .int .i64 v, .int .i64 q, .string d] 23))) (get_new rfl)
  generalize (w.alloc (.cells #[.bool true, .bool true, .int .i64 c, .int .i64 v, .int .i64 q, .string d] 23)) = wr at *
  have HD : Below wr.heap.size wr wr.drew ∧ wr.drew.cell? ⟨w.heap.size, 0, none⟩ = some (.bool true) ∧ wr.drew.cell? ⟨w.heap.size, 1, none⟩ = some (.bool true) ∧ wr.drew.cell? ⟨w.heap.size, 2, none⟩ = some (.int .i64 c) ∧ wr.drew.cell? ⟨w.heap.size, 3, none⟩ = some (.int .i64 v) ∧ wr.drew.cell? ⟨w.heap.size, 4, none⟩ = some (.int .i64 q) ∧ wr.drew.cell? ⟨w.heap.size, 5, none⟩ = some (.string d) := ⟨(Below.refl _ _).drew, k0, k1, k2, k3, k4, k5⟩
  clear k0 k1 k2 k3 k4 k5
  go_region_held2 (fun W => Below wr.heap.size wr W ∧ W.cell? ⟨w.heap.size, 0, none⟩ = some (.bool true) ∧ W.cell? ⟨w.heap.size, 1, none⟩ = some (.bool true) ∧ W.cell? ⟨w.heap.size, 2, none⟩ = some (.int .i64 c) ∧ W.cell? ⟨w.heap.size, 3, none⟩ = some (.int .i64 v) ∧ W.cell? ⟨w.heap.size, 4, none⟩ = some (.int .i64 q) ∧ W.cell? ⟨w.heap.size, 5, none⟩ = some (.string d)) (first | with_reducible assumption) ((first | (go_at_call 37; refine (l3Flag_if _ _).mono ?_; rintro e w8 ⟨rfl, rfl⟩)))
  go_wp2_with fail
  have HD2 : Below wr.heap.size wr wr.drew.drew ∧ wr.drew.drew.cell? ⟨w.heap.size, 0, none⟩ = some (.bool true) ∧ wr.drew.drew.cell? ⟨w.heap.size, 1, none⟩ = some (.bool true) ∧ wr.drew.drew.cell? ⟨w.heap.size, 2, none⟩ = some (.int .i64 c) ∧ wr.drew.drew.cell? ⟨w.heap.size, 3, none⟩ = some (.int .i64 v) ∧ wr.drew.drew.cell? ⟨w.heap.size, 4, none⟩ = some (.int .i64 q) ∧ wr.drew.drew.cell? ⟨w.heap.size, 5, none⟩ = some (.string d) := ⟨HD.1.drew, HD.2⟩
  have hqb : (9223372036854775807 < 5 + d.size) = False := by simp; omega
  go_region_held2 (fun W => Below wr.heap.size wr W ∧ W.cell? ⟨w.heap.size, 0, none⟩ = some (.bool true) ∧ W.cell? ⟨w.heap.size, 1, none⟩ = some (.bool true) ∧ W.cell? ⟨w.heap.size, 2, none⟩ = some (.int .i64 c) ∧ W.cell? ⟨w.heap.size, 3, none⟩ = some (.int .i64 v) ∧ W.cell? ⟨w.heap.size, 4, none⟩ = some (.int .i64 q) ∧ W.cell? ⟨w.heap.size, 5, none⟩ = some (.string d)) (first | with_reducible assumption) ((first | (go_at_call_of 36 (Value.int IntKind.i64 2); have HB := HX1; clear HB; (try simp (discharger := omega) only [wrap_id]); refine (l1Put2 _ _ (by omega) (by omega)).mono ?_; rintro e w8 ⟨x2, y2, HX2, rfl, hb8⟩; have HK := keepC6 (by with_reducible assumption) hb8; clear hb8) | (go_at_call_of 36 (Value.int IntKind.i64 2); (try simp (discharger := omega) only [wrap_id]); refine (l1Put2 _ _ (by omega) (by omega)).mono ?_; rintro e w8 ⟨x1, y1, HX1, rfl, hb8⟩; have HK := keepC6 (by with_reducible assumption) hb8; clear hb8) | (go_at_call_of 36 (Value.int IntKind.i64 1); refine (l1Put1 _ _ (by omega) (by omega)).mono ?_; rintro e w8 ⟨z, HZ, rfl, hb8⟩; have HK := keepC6 (by with_reducible assumption) hb8; clear hb8)))
  go_wp2_with fail
  rw [frT_eq (h := c + 12288) (m := v * 1024 + d.size + 6) (q := q) HX1.out HX2.out HZ.out (by omega) (by omega)]
  have ht : (frT (c + 12288) (v * 1024 + d.size + 6) q d).size ≤ maxLen := by rw [frT_size]; unfold maxLen; omega
  have hz := frT_size (c + 12288) (v * 1024 + d.size + 6) q d
  have hcr := crc_lt (frT (c + 12288) (v * 1024 + d.size + 6) q d)
  generalize hT : frT (c + 12288) (v * 1024 + d.size + 6) q d = T at *
  have HT : Hid _ := hT
  clear hT
  refine (specCrc16_any _ _ ht).mono ?_
  rintro e w9 ⟨rfl, rfl⟩
  have HE : Hid (∀ x y : UInt8, (x = hiB (crcTo T T.size : Nat) ∧ y = loB (crcTo T T.size : Nat)) → (T ++ ⟨#[x, y]⟩ : ByteArray) = frW T) := fun x y e => frW_eq e
  generalize hN : crcTo T T.size = M at *
  clear hN
  go_wp2_with fail
  refine (l1Put2 _ _ (by omega) (by omega)).mono ?_
  rintro e w10 ⟨x3, y3, HX3, rfl, hb10⟩
  have HB : Hid (Below w.heap.size w w10) := (HB0.out.trans (HK.1.mono HB0.out.size)).trans (hb10.mono (Nat.le_trans HB0.out.size HK.1.size))
  clear hb10
  go_wp2_with fail
  go_ret
  exact ⟨ret_str ((HE.out _ _ HX3.out).trans (by rw [HT.out])), HB.out⟩
set_option maxRecDepth 100000 in
set_option maxHeartbeats 4000000 in
theorem l3Put_tf (c v q : Int) (d : ByteArray) (w : World) (hd : d.size ≤ maxLen) (hc0 : 0 ≤ c) (hc1 : c ≤ 1023) (hv0 : 0 ≤ v) (hv1 : v ≤ 63) (hq0 : 0 ≤ q) (hq1 : q ≤ 255) (hs0 : 1 ≤ d.size) (hs1 : d.size ≤ 53) :
    Calls Tryd.prog 27 #[.agg #[.bool true, .bool false, .int .i64 c, .int .i64 v, .int .i64 q, .string d]] w fun e w' => e = .returned (.string (frW (frT (c + 8192) (v * 1024 + d.size + 6) q d))) ∧ Below w.heap.size w w' := by
  have hm := hd
  unfold maxLen at hm
  go_enter Tryd.func27, Tryd.ntmps27
  go_wp2_with fail
  have HB0 : Hid (Below w.heap.size w (w.alloc (.cells #[.bool true, .bool false, .int .i64 c, .int .i64 v, .int .i64 q, .string d] 23))) := ((Below.refl _ _).alloc (Nat.le_refl _) _)
  obtain ⟨k0, k1, k2, k3, k4, k5⟩ := cells6_of (w := (w.alloc (.cells #[.bool true, .bool false, .int .i64 c, .int .i64 v, .int .i64 q, .string d] 23))) (get_new rfl)
  generalize (w.alloc (.cells #[.bool true, .bool false, .int .i64 c, .int .i64 v, .int .i64 q, .string d] 23)) = wr at *
  have HD : Below wr.heap.size wr wr.drew ∧ wr.drew.cell? ⟨w.heap.size, 0, none⟩ = some (.bool true) ∧ wr.drew.cell? ⟨w.heap.size, 1, none⟩ = some (.bool false) ∧ wr.drew.cell? ⟨w.heap.size, 2, none⟩ = some (.int .i64 c) ∧ wr.drew.cell? ⟨w.heap.size, 3, none⟩ = some (.int .i64 v) ∧ wr.drew.cell? ⟨w.heap.size, 4, none⟩ = some (.int .i64 q) ∧ wr.drew.cell? ⟨w.heap.size, 5, none⟩ = some (.string d) := ⟨(Below.refl _ _).drew, k0, k1, k2, k3, k4, k5⟩
  clear k0 k1 k2 k3 k4 k5
  go_region_held2 (fun W => Below wr.heap.size wr W ∧ W.cell? ⟨w.heap.size, 0, none⟩ = some (.bool true) ∧ W.cell? ⟨w.heap.size, 1, none⟩ = some (.bool false) ∧ W.cell? ⟨w.heap.size, 2, none⟩ = some (.int .i64 c) ∧ W.cell? ⟨w.heap.size, 3, none⟩ = some (.int .i64 v) ∧ W.cell? ⟨w.heap.size, 4, none⟩ = some (.int .i64 q) ∧ W.cell? ⟨w.heap.size, 5, none⟩ = some (.string d)) (first | with_reducible assumption) ((first | (go_at_call 37; refine (l3Flag_if _ _).mono ?_; rintro e w8 ⟨rfl, rfl⟩)))
  go_wp2_with fail
  have HD2 : Below wr.heap.size wr wr.drew.drew ∧ wr.drew.drew.cell? ⟨w.heap.size, 0, none⟩ = some (.bool true) ∧ wr.drew.drew.cell? ⟨w.heap.size, 1, none⟩ = some (.bool false) ∧ wr.drew.drew.cell? ⟨w.heap.size, 2, none⟩ = some (.int .i64 c) ∧ wr.drew.drew.cell? ⟨w.heap.size, 3, none⟩ = some (.int .i64 v) ∧ wr.drew.drew.cell? ⟨w.heap.size, 4, none⟩ = some (.int .i64 q) ∧ wr.drew.drew.cell? ⟨w.heap.size, 5, none⟩ = some (.string d) := ⟨HD.1.drew, HD.2⟩
  have hqb : (9223372036854775807 < 5 + d.size) = False := by simp; omega
  go_region_held2 (fun W => Below wr.heap.size wr W ∧ W.cell? ⟨w.heap.size, 0, none⟩ = some (.bool true) ∧ W.cell? ⟨w.heap.size, 1, none⟩ = some (.bool false) ∧ W.cell? ⟨w.heap.size, 2, none⟩ = some (.int .i64 c) ∧ W.cell? ⟨w.heap.size, 3, none⟩ = some (.int .i64 v) ∧ W.cell? ⟨w.heap.size, 4, none⟩ = some (.int .i64 q) ∧ W.cell? ⟨w.heap.size, 5, none⟩ = some (.string d)) (first | with_reducible assumption) ((first | (go_at_call_of 36 (Value.int IntKind.i64 2); have HB := HX1; clear HB; (try simp (discharger := omega) only [wrap_id]); refine (l1Put2 _ _ (by omega) (by omega)).mono ?_; rintro e w8 ⟨x2, y2, HX2, rfl, hb8⟩; have HK := keepC6 (by with_reducible assumption) hb8; clear hb8) | (go_at_call_of 36 (Value.int IntKind.i64 2); (try simp (discharger := omega) only [wrap_id]); refine (l1Put2 _ _ (by omega) (by omega)).mono ?_; rintro e w8 ⟨x1, y1, HX1, rfl, hb8⟩; have HK := keepC6 (by with_reducible assumption) hb8; clear hb8) | (go_at_call_of 36 (Value.int IntKind.i64 1); refine (l1Put1 _ _ (by omega) (by omega)).mono ?_; rintro e w8 ⟨z, HZ, rfl, hb8⟩; have HK := keepC6 (by with_reducible assumption) hb8; clear hb8)))
  go_wp2_with fail
  rw [frT_eq (h := c + 8192) (m := v * 1024 + d.size + 6) (q := q) HX1.out HX2.out HZ.out (by omega) (by omega)]
  have ht : (frT (c + 8192) (v * 1024 + d.size + 6) q d).size ≤ maxLen := by rw [frT_size]; unfold maxLen; omega
  have hz := frT_size (c + 8192) (v * 1024 + d.size + 6) q d
  have hcr := crc_lt (frT (c + 8192) (v * 1024 + d.size + 6) q d)
  generalize hT : frT (c + 8192) (v * 1024 + d.size + 6) q d = T at *
  have HT : Hid _ := hT
  clear hT
  refine (specCrc16_any _ _ ht).mono ?_
  rintro e w9 ⟨rfl, rfl⟩
  have HE : Hid (∀ x y : UInt8, (x = hiB (crcTo T T.size : Nat) ∧ y = loB (crcTo T T.size : Nat)) → (T ++ ⟨#[x, y]⟩ : ByteArray) = frW T) := fun x y e => frW_eq e
  generalize hN : crcTo T T.size = M at *
  clear hN
  go_wp2_with fail
  refine (l1Put2 _ _ (by omega) (by omega)).mono ?_
  rintro e w10 ⟨x3, y3, HX3, rfl, hb10⟩
  have HB : Hid (Below w.heap.size w w10) := (HB0.out.trans (HK.1.mono HB0.out.size)).trans (hb10.mono (Nat.le_trans HB0.out.size HK.1.size))
  clear hb10
  go_wp2_with fail
  go_ret
  exact ⟨ret_str ((HE.out _ _ HX3.out).trans (by rw [HT.out])), HB.out⟩
set_option maxRecDepth 100000 in
set_option maxHeartbeats 4000000 in
theorem l3Put_ff (c v q : Int) (d : ByteArray) (w : World) (hd : d.size ≤ maxLen) (hc0 : 0 ≤ c) (hc1 : c ≤ 1023) (hv0 : 0 ≤ v) (hv1 : v ≤ 63) (hq0 : 0 ≤ q) (hq1 : q ≤ 255) (hs0 : 1 ≤ d.size) (hs1 : d.size ≤ 53) :
    Calls Tryd.prog 27 #[.agg #[.bool false, .bool false, .int .i64 c, .int .i64 v, .int .i64 q, .string d]] w fun e w' => e = .returned (.string (frW (frT (c + 0) (v * 1024 + d.size + 6) q d))) ∧ Below w.heap.size w w' := by
  have hm := hd
  unfold maxLen at hm
  go_enter Tryd.func27, Tryd.ntmps27
  go_wp2_with fail
  have HB0 : Hid (Below w.heap.size w (w.alloc (.cells #[.bool false, .bool false, .int .i64 c, .int .i64 v, .int .i64 q, .string d] 23))) := ((Below.refl _ _).alloc (Nat.le_refl _) _)
  obtain ⟨k0, k1, k2, k3, k4, k5⟩ := cells6_of (w := (w.alloc (.cells #[.bool false, .bool false, .int .i64 c, .int .i64 v, .int .i64 q, .string d] 23))) (get_new rfl)
  generalize (w.alloc (.cells #[.bool false, .bool false, .int .i64 c, .int .i64 v, .int .i64 q, .string d] 23)) = wr at *
  have HD : Below wr.heap.size wr wr.drew ∧ wr.drew.cell? ⟨w.heap.size, 0, none⟩ = some (.bool false) ∧ wr.drew.cell? ⟨w.heap.size, 1, none⟩ = some (.bool false) ∧ wr.drew.cell? ⟨w.heap.size, 2, none⟩ = some (.int .i64 c) ∧ wr.drew.cell? ⟨w.heap.size, 3, none⟩ = some (.int .i64 v) ∧ wr.drew.cell? ⟨w.heap.size, 4, none⟩ = some (.int .i64 q) ∧ wr.drew.cell? ⟨w.heap.size, 5, none⟩ = some (.string d) := ⟨(Below.refl _ _).drew, k0, k1, k2, k3, k4, k5⟩
  clear k0 k1 k2 k3 k4 k5
  go_region_held2 (fun W => Below wr.heap.size wr W ∧ W.cell? ⟨w.heap.size, 0, none⟩ = some (.bool false) ∧ W.cell? ⟨w.heap.size, 1, none⟩ = some (.bool false) ∧ W.cell? ⟨w.heap.size, 2, none⟩ = some (.int .i64 c) ∧ W.cell? ⟨w.heap.size, 3, none⟩ = some (.int .i64 v) ∧ W.cell? ⟨w.heap.size, 4, none⟩ = some (.int .i64 q) ∧ W.cell? ⟨w.heap.size, 5, none⟩ = some (.string d)) (first | with_reducible assumption) ((first | (go_at_call 37; refine (l3Flag_if _ _).mono ?_; rintro e w8 ⟨rfl, rfl⟩)))
  go_wp2_with fail
  have HD2 : Below wr.heap.size wr wr.drew.drew ∧ wr.drew.drew.cell? ⟨w.heap.size, 0, none⟩ = some (.bool false) ∧ wr.drew.drew.cell? ⟨w.heap.size, 1, none⟩ = some (.bool false) ∧ wr.drew.drew.cell? ⟨w.heap.size, 2, none⟩ = some (.int .i64 c) ∧ wr.drew.drew.cell? ⟨w.heap.size, 3, none⟩ = some (.int .i64 v) ∧ wr.drew.drew.cell? ⟨w.heap.size, 4, none⟩ = some (.int .i64 q) ∧ wr.drew.drew.cell? ⟨w.heap.size, 5, none⟩ = some (.string d) := ⟨HD.1.drew, HD.2⟩
  have hqb : (9223372036854775807 < 5 + d.size) = False := by simp; omega
  go_region_held2 (fun W => Below wr.heap.size wr W ∧ W.cell? ⟨w.heap.size, 0, none⟩ = some (.bool false) ∧ W.cell? ⟨w.heap.size, 1, none⟩ = some (.bool false) ∧ W.cell? ⟨w.heap.size, 2, none⟩ = some (.int .i64 c) ∧ W.cell? ⟨w.heap.size, 3, none⟩ = some (.int .i64 v) ∧ W.cell? ⟨w.heap.size, 4, none⟩ = some (.int .i64 q) ∧ W.cell? ⟨w.heap.size, 5, none⟩ = some (.string d)) (first | with_reducible assumption) ((first | (go_at_call_of 36 (Value.int IntKind.i64 2); have HB := HX1; clear HB; (try simp (discharger := omega) only [wrap_id]); refine (l1Put2 _ _ (by omega) (by omega)).mono ?_; rintro e w8 ⟨x2, y2, HX2, rfl, hb8⟩; have HK := keepC6 (by with_reducible assumption) hb8; clear hb8) | (go_at_call_of 36 (Value.int IntKind.i64 2); (try simp (discharger := omega) only [wrap_id]); refine (l1Put2 _ _ (by omega) (by omega)).mono ?_; rintro e w8 ⟨x1, y1, HX1, rfl, hb8⟩; have HK := keepC6 (by with_reducible assumption) hb8; clear hb8) | (go_at_call_of 36 (Value.int IntKind.i64 1); refine (l1Put1 _ _ (by omega) (by omega)).mono ?_; rintro e w8 ⟨z, HZ, rfl, hb8⟩; have HK := keepC6 (by with_reducible assumption) hb8; clear hb8)))
  go_wp2_with fail
  rw [frT_eq (h := c + 0) (m := v * 1024 + d.size + 6) (q := q) HX1.out HX2.out HZ.out (by omega) (by omega)]
  have ht : (frT (c + 0) (v * 1024 + d.size + 6) q d).size ≤ maxLen := by rw [frT_size]; unfold maxLen; omega
  have hz := frT_size (c + 0) (v * 1024 + d.size + 6) q d
  have hcr := crc_lt (frT (c + 0) (v * 1024 + d.size + 6) q d)
  generalize hT : frT (c + 0) (v * 1024 + d.size + 6) q d = T at *
  have HT : Hid _ := hT
  clear hT
  refine (specCrc16_any _ _ ht).mono ?_
  rintro e w9 ⟨rfl, rfl⟩
  have HE : Hid (∀ x y : UInt8, (x = hiB (crcTo T T.size : Nat) ∧ y = loB (crcTo T T.size : Nat)) → (T ++ ⟨#[x, y]⟩ : ByteArray) = frW T) := fun x y e => frW_eq e
  generalize hN : crcTo T T.size = M at *
  clear hN
  go_wp2_with fail
  refine (l1Put2 _ _ (by omega) (by omega)).mono ?_
  rintro e w10 ⟨x3, y3, HX3, rfl, hb10⟩
  have HB : Hid (Below w.heap.size w w10) := (HB0.out.trans (HK.1.mono HB0.out.size)).trans (hb10.mono (Nat.le_trans HB0.out.size HK.1.size))
  clear hb10
  go_wp2_with fail
  go_ret
  exact ⟨ret_str ((HE.out _ _ HX3.out).trans (by rw [HT.out])), HB.out⟩
def flg (p g : Bool) : Int := if g = true then 12288 else if p = true then 8192 else 0
def frPut (p g : Bool) (c v q : Int) (d : ByteArray) : ByteArray := if frOk p g c v q d = true then frW (frT (c + flg p g) (v * 1024 + d.size + 6) q d) else ⟨#[]⟩
set_option maxHeartbeats 1000000 in
theorem implFramePut_no (p g : Bool) (c v q : Int) (d : ByteArray) (w : World) (hd : d.size ≤ maxLen) (h : frOk p g c v q d = false) :
    Calls Tryd.prog 20 #[.agg #[.bool p, .bool g, .int .i64 c, .int .i64 v, .int .i64 q, .string d]] w fun e w' => e = .returned (.string ⟨#[]⟩) ∧ Below w.heap.size w w' := by
  have HS : Hid (Below (w.heap.size + 1) (w.alloc (.cells #[.bool p, .bool g, .int .i64 c, .int .i64 v, .int .i64 q, .string d] 23)) (w.alloc (.cells #[.bool p, .bool g, .int .i64 c, .int .i64 v, .int .i64 q, .string d] 23))) := Below.refl _ _
  go_enter Tryd.func20, Tryd.ntmps20
  go_wp2_with fail
  refine (implFrameOk_any _ _ _ _ _ _ _ hd).mono ?_
  rintro e w1 ⟨rfl, hb1⟩
  have HS : Hid (Below (w.heap.size + 1) (w.alloc (.cells #[.bool p, .bool g, .int .i64 c, .int .i64 v, .int .i64 q, .string d] 23)) w1) := (by first | exact hidA HS hb1 | exact hidB HS hb1)
  obtain ⟨hc1, hf1⟩ := bk HS.out
  clear hb1
  go_wp2_with fail
  go_ret
  exact ⟨rfl, ((Below.refl _ _).alloc (Nat.le_refl _) _).trans (HS.out.mono (by omega))⟩
set_option maxHeartbeats 1000000 in
theorem specFramePut_no (p g : Bool) (c v q : Int) (d : ByteArray) (w : World) (hd : d.size ≤ maxLen) (h : frOk p g c v q d = false) :
    Calls Tryd.prog 21 #[.agg #[.bool p, .bool g, .int .i64 c, .int .i64 v, .int .i64 q, .string d]] w fun e w' => e = .returned (.string ⟨#[]⟩) ∧ Below w.heap.size w w' := by
  have HS : Hid (Below (w.heap.size + 1) (w.alloc (.cells #[.bool p, .bool g, .int .i64 c, .int .i64 v, .int .i64 q, .string d] 23)) (w.alloc (.cells #[.bool p, .bool g, .int .i64 c, .int .i64 v, .int .i64 q, .string d] 23))) := Below.refl _ _
  go_enter Tryd.func21, Tryd.ntmps21
  go_wp2_with fail
  refine (specFrameOk_any _ _ _ _ _ _ _ hd).mono ?_
  rintro e w1 ⟨rfl, hb1⟩
  have HS : Hid (Below (w.heap.size + 1) (w.alloc (.cells #[.bool p, .bool g, .int .i64 c, .int .i64 v, .int .i64 q, .string d] 23)) w1) := (by first | exact hidA HS hb1 | exact hidB HS hb1)
  obtain ⟨hc1, hf1⟩ := bk HS.out
  clear hb1
  go_wp2_with fail
  go_ret
  exact ⟨rfl, ((Below.refl _ _).alloc (Nat.le_refl _) _).trans (HS.out.mono (by omega))⟩
set_option maxHeartbeats 1000000 in
theorem specFramePut_yes (p g : Bool) (c v q : Int) (d : ByteArray) (w : World) (hd : d.size ≤ maxLen) (h : frOk p g c v q d = true) (r : ByteArray) (H : Hid (∀ W, Calls Tryd.prog 27 #[.agg #[.bool p, .bool g, .int .i64 c, .int .i64 v, .int .i64 q, .string d]] W fun e w' => e = .returned (.string r) ∧ Below W.heap.size W w')) :
    Calls Tryd.prog 21 #[.agg #[.bool p, .bool g, .int .i64 c, .int .i64 v, .int .i64 q, .string d]] w fun e w' => e = .returned (.string r) ∧ Below w.heap.size w w' := by
  have HS : Hid (Below (w.heap.size + 1) (w.alloc (.cells #[.bool p, .bool g, .int .i64 c, .int .i64 v, .int .i64 q, .string d] 23)) (w.alloc (.cells #[.bool p, .bool g, .int .i64 c, .int .i64 v, .int .i64 q, .string d] 23))) := Below.refl _ _
  go_enter Tryd.func21, Tryd.ntmps21
  go_wp2_with fail
  refine (specFrameOk_any _ _ _ _ _ _ _ hd).mono ?_
  rintro e w1 ⟨rfl, hb1⟩
  have HS : Hid (Below (w.heap.size + 1) (w.alloc (.cells #[.bool p, .bool g, .int .i64 c, .int .i64 v, .int .i64 q, .string d] 23)) w1) := (by first | exact hidA HS hb1 | exact hidB HS hb1)
  obtain ⟨hc1, hf1⟩ := bk HS.out
  clear hb1
  go_wp2_with fail
  refine (H.out _).mono ?_
  rintro e w2 ⟨rfl, hb2⟩
  have HS : Hid (Below (w.heap.size + 1) (w.alloc (.cells #[.bool p, .bool g, .int .i64 c, .int .i64 v, .int .i64 q, .string d] 23)) w2) := (by first | exact hidA HS hb2 | exact hidB HS hb2)
  obtain ⟨hc2, hf2⟩ := bk HS.out
  clear hb2
  try clear hc1 hf1
  go_wp2_with fail
  go_ret
  exact ⟨rfl, ((Below.refl _ _).alloc (Nat.le_refl _) _).trans (HS.out.mono (by omega))⟩
theorem implFramePut_any (p g : Bool) (c v q : Int) (d : ByteArray) (w : World) (hd : d.size ≤ maxLen) :
    Calls Tryd.prog 20 #[.agg #[.bool p, .bool g, .int .i64 c, .int .i64 v, .int .i64 q, .string d]] w fun e w' => e = .returned (.string (frPut p g c v q d)) ∧ Below w.heap.size w w' := by
  unfold frPut
  cases h : frOk p g c v q d
  · rw [if_neg (by decide)]; exact implFramePut_no p g c v q d w hd h
  · rw [if_pos rfl]
    obtain ⟨h0, h1, h2, h3, h4, h5, h6, h7, h8⟩ := frOk_all h
    cases g
    · cases p
      · exact framePut_o c v q d w hd h h0 h1 h2 h3 h4 h5 h6 h7
      · exact framePut_p c v q d w hd h h0 h1 h2 h3 h4 h5 h6 h7
    · have hp := h8 rfl
      subst hp
      exact framePut_g c v q d w hd h h0 h1 h2 h3 h4 h5 h6 h7
theorem specFramePut_any (p g : Bool) (c v q : Int) (d : ByteArray) (w : World) (hd : d.size ≤ maxLen) :
    Calls Tryd.prog 21 #[.agg #[.bool p, .bool g, .int .i64 c, .int .i64 v, .int .i64 q, .string d]] w fun e w' => e = .returned (.string (frPut p g c v q d)) ∧ Below w.heap.size w w' := by
  unfold frPut
  cases h : frOk p g c v q d
  · rw [if_neg (by decide)]; exact specFramePut_no p g c v q d w hd h
  · rw [if_pos rfl]
    obtain ⟨h0, h1, h2, h3, h4, h5, h6, h7, h8⟩ := frOk_all h
    cases g
    · cases p
      · exact specFramePut_yes false false c v q d w hd h _ (fun W => l3Put_ff c v q d W hd h0 h1 h2 h3 h4 h5 h6 h7)
      · exact specFramePut_yes true false c v q d w hd h _ (fun W => l3Put_tf c v q d W hd h0 h1 h2 h3 h4 h5 h6 h7)
    · have hp := h8 rfl
      subst hp
      exact specFramePut_yes true true c v q d w hd h _ (fun W => l3Put_tt c v q d W hd h0 h1 h2 h3 h4 h5 h6 h7)
end Go.Proofs.YtlifigpkjbnkhaaDoor
