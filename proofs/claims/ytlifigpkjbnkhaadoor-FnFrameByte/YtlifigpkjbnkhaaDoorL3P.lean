/- spec.l3Put at any two flags, data of any size up to 53. -/
import Derived.Test.YtlifigpkjbnkhaaDoorFrQ
namespace Go.Proofs.YtlifigpkjbnkhaaDoor
open Go.ChangeShapes Go.WideShapes Go.ChangeAt Go.RowKit
set_option linter.unusedVariables false
set_option maxRecDepth 100000 in
set_option maxHeartbeats 4000000 in
theorem l3Put0_tt (c v q : Int) (d : ByteArray) (w : World) (hd : d.size ≤ maxLen) (hc0 : 0 ≤ c) (hc1 : c ≤ 1023) (hv0 : 0 ≤ v) (hv1 : v ≤ 63) (hq0 : 0 ≤ q) (hq1 : q ≤ 255) (hs1 : d.size ≤ 53) :
    Calls Tryd.prog 27 #[.agg #[.bool true, .bool true, .int .i64 c, .int .i64 v, .int .i64 q, .string d]] w fun e w' => e = .returned (.string (frW (frT (c + 12288) (v * 1024 + d.size + 6) q d))) ∧ Below w.heap.size w w' := by
  have hm := hd
  unfold maxLen at hm
  go_enter Tryd.func27, Tryd.ntmps27
  go_wp2_with fail
  have HB0 : Hid (Below w.heap.size w (w.alloc (.cells #[.bool true, .bool true, .int .i64 c, .int .i64 v, .int .i64 q, .string d] 23))) := ((Below.refl _ _).alloc (Nat.le_refl _) _)
  obtain ⟨k0, k1, k2, k3, k4, k5⟩ := cells6_of (w := (w.alloc (.cells #[.bool true, .bool true, .int .i64 c, .int .i64 v, .int .i64 q, .string d] 23))) (get_new rfl)
  generalize (w.alloc (.cells #[.bool true, .bool true, .int .i64 c, .int .i64 v, .int .i64 q, .string d] 23)) = wr at *
  have HD : Below wr.heap.size wr wr.drew ∧ wr.drew.cell? ⟨w.heap.size, 0, none⟩ = some (.bool true) ∧ wr.drew.cell? ⟨w.heap.size, 1, none⟩ = some (.bool true) ∧ wr.drew.cell? ⟨w.heap.size, 2, none⟩ = some (.int .i64 c) ∧ wr.drew.cell? ⟨w.heap.size, 3, none⟩ = some (.int .i64 v) ∧ wr.drew.cell? ⟨w.heap.size, 4, none⟩ = some (.int .i64 q) ∧ wr.drew.cell? ⟨w.heap.size, 5, none⟩ = some (.string d) := ⟨(Below.refl _ _).drew, k0, k1, k2, k3, k4, k5⟩
  clear k0 k1 k2 k3 k4 k5
  go_region_held2 (fun W => Below wr.heap.size wr W ∧ W.cell? ⟨w.heap.size, 0, none⟩ = some (.bool true) ∧ W.cell? ⟨w.heap.size, 1, none⟩ = some (.bool true) ∧ W.cell? ⟨w.heap.size, 2, none⟩ = some (.int .i64 c) ∧ W.cell? ⟨w.heap.size, 3, none⟩ = some (.int .i64 v) ∧ W.cell? ⟨w.heap.size, 4, none⟩ = some (.int .i64 q) ∧ W.cell? ⟨w.heap.size, 5, none⟩ = some (.string d)) (first | with_reducible assumption) ((first | (go_at_call 37; refine (l3Flag_if _ _).mono ?_; rintro e w8 ⟨rfl, rfl⟩)))
  go_wp2_with fail
  have HD2 : Below wr.heap.size wr wr.drew.drew ∧ wr.drew.drew.cell? ⟨w.heap.size, 0, none⟩ = some (.bool true) ∧ wr.drew.drew.cell? ⟨w.heap.size, 1, none⟩ = some (.bool true) ∧ wr.drew.drew.cell? ⟨w.heap.size, 2, none⟩ = some (.int .i64 c) ∧ wr.drew.drew.cell? ⟨w.heap.size, 3, none⟩ = some (.int .i64 v) ∧ wr.drew.drew.cell? ⟨w.heap.size, 4, none⟩ = some (.int .i64 q) ∧ wr.drew.drew.cell? ⟨w.heap.size, 5, none⟩ = some (.string d) := ⟨HD.1.drew, HD.2⟩
  have hqb : (9223372036854775807 < 5 + d.size) = False := by simp; omega
  go_region_held2 (fun W => Below wr.heap.size wr W ∧ W.cell? ⟨w.heap.size, 0, none⟩ = some (.bool true) ∧ W.cell? ⟨w.heap.size, 1, none⟩ = some (.bool true) ∧ W.cell? ⟨w.heap.size, 2, none⟩ = some (.int .i64 c) ∧ W.cell? ⟨w.heap.size, 3, none⟩ = some (.int .i64 v) ∧ W.cell? ⟨w.heap.size, 4, none⟩ = some (.int .i64 q) ∧ W.cell? ⟨w.heap.size, 5, none⟩ = some (.string d)) (first | with_reducible assumption) ((first | (go_at_call_of 36 (Value.int IntKind.i64 2); have HB := HX1; clear HB; (try simp (discharger := omega) only [wrap_id]); refine (l1Put2 _ _ (by omega) (by omega)).mono ?_; rintro e w8 ⟨x2, y2, HX2, rfl, hb8⟩; have HK := keepC6 (by with_reducible assumption) hb8; clear hb8) | (go_at_call_of 36 (Value.int IntKind.i64 2); (try simp (discharger := omega) only [wrap_id]); refine (l1Put2 _ _ (by omega) (by omega)).mono ?_; rintro e w8 ⟨x1, y1, HX1, rfl, hb8⟩; have HK := keepC6 (by with_reducible assumption) hb8; clear hb8) | (go_at_call_of 36 (Value.int IntKind.i64 1); refine (l1Put1 _ _ (by omega) (by omega)).mono ?_; rintro e w8 ⟨z, HZ, rfl, hb8⟩; have HK := keepC6 (by with_reducible assumption) hb8; clear hb8)))
  go_wp2_with fail
  rw [frT_eq (h := c + 12288) (m := v * 1024 + d.size + 6) (q := q) HX1.out HX2.out HZ.out (by omega) (by omega)]
  have ht : (frT (c + 12288) (v * 1024 + d.size + 6) q d).size ≤ maxLen := by rw [frT_size]; unfold maxLen; omega
  have hz := frT_size (c + 12288) (v * 1024 + d.size + 6) q d
  have hcr := crc_lt (frT (c + 12288) (v * 1024 + d.size + 6) q d)
  generalize hT : frT (c + 12288) (v * 1024 + d.size + 6) q d = T at *
  have HT : Hid _ := hT
  clear hT
  refine (specCrc16_any _ _ ht).mono ?_
  rintro e w9 ⟨rfl, rfl⟩
  have HE : Hid (∀ x y : UInt8, (x = hiB (crcTo T T.size : Nat) ∧ y = loB (crcTo T T.size : Nat)) → (T ++ ⟨#[x, y]⟩ : ByteArray) = frW T) := fun x y e => frW_eq e
  generalize hN : crcTo T T.size = M at *
  clear hN
  go_wp2_with fail
  refine (l1Put2 _ _ (by omega) (by omega)).mono ?_
  rintro e w10 ⟨x3, y3, HX3, rfl, hb10⟩
  have HB : Hid (Below w.heap.size w w10) := (HB0.out.trans (HK.1.mono HB0.out.size)).trans (hb10.mono (Nat.le_trans HB0.out.size HK.1.size))
  clear hb10
  go_wp2_with fail
  go_ret
  exact ⟨ret_str ((HE.out _ _ HX3.out).trans (by rw [HT.out])), HB.out⟩
set_option maxRecDepth 100000 in
set_option maxHeartbeats 4000000 in
theorem l3Put0_tf (c v q : Int) (d : ByteArray) (w : World) (hd : d.size ≤ maxLen) (hc0 : 0 ≤ c) (hc1 : c ≤ 1023) (hv0 : 0 ≤ v) (hv1 : v ≤ 63) (hq0 : 0 ≤ q) (hq1 : q ≤ 255) (hs1 : d.size ≤ 53) :
    Calls Tryd.prog 27 #[.agg #[.bool true, .bool false, .int .i64 c, .int .i64 v, .int .i64 q, .string d]] w fun e w' => e = .returned (.string (frW (frT (c + 8192) (v * 1024 + d.size + 6) q d))) ∧ Below w.heap.size w w' := by
  have hm := hd
  unfold maxLen at hm
  go_enter Tryd.func27, Tryd.ntmps27
  go_wp2_with fail
  have HB0 : Hid (Below w.heap.size w (w.alloc (.cells #[.bool true, .bool false, .int .i64 c, .int .i64 v, .int .i64 q, .string d] 23))) := ((Below.refl _ _).alloc (Nat.le_refl _) _)
  obtain ⟨k0, k1, k2, k3, k4, k5⟩ := cells6_of (w := (w.alloc (.cells #[.bool true, .bool false, .int .i64 c, .int .i64 v, .int .i64 q, .string d] 23))) (get_new rfl)
  generalize (w.alloc (.cells #[.bool true, .bool false, .int .i64 c, .int .i64 v, .int .i64 q, .string d] 23)) = wr at *
  have HD : Below wr.heap.size wr wr.drew ∧ wr.drew.cell? ⟨w.heap.size, 0, none⟩ = some (.bool true) ∧ wr.drew.cell? ⟨w.heap.size, 1, none⟩ = some (.bool false) ∧ wr.drew.cell? ⟨w.heap.size, 2, none⟩ = some (.int .i64 c) ∧ wr.drew.cell? ⟨w.heap.size, 3, none⟩ = some (.int .i64 v) ∧ wr.drew.cell? ⟨w.heap.size, 4, none⟩ = some (.int .i64 q) ∧ wr.drew.cell? ⟨w.heap.size, 5, none⟩ = some (.string d) := ⟨(Below.refl _ _).drew, k0, k1, k2, k3, k4, k5⟩
  clear k0 k1 k2 k3 k4 k5
  go_region_held2 (fun W => Below wr.heap.size wr W ∧ W.cell? ⟨w.heap.size, 0, none⟩ = some (.bool true) ∧ W.cell? ⟨w.heap.size, 1, none⟩ = some (.bool false) ∧ W.cell? ⟨w.heap.size, 2, none⟩ = some (.int .i64 c) ∧ W.cell? ⟨w.heap.size, 3, none⟩ = some (.int .i64 v) ∧ W.cell? ⟨w.heap.size, 4, none⟩ = some (.int .i64 q) ∧ W.cell? ⟨w.heap.size, 5, none⟩ = some (.string d)) (first | with_reducible assumption) ((first | (go_at_call 37; refine (l3Flag_if _ _).mono ?_; rintro e w8 ⟨rfl, rfl⟩)))
  go_wp2_with fail
  have HD2 : Below wr.heap.size wr wr.drew.drew ∧ wr.drew.drew.cell? ⟨w.heap.size, 0, none⟩ = some (.bool true) ∧ wr.drew.drew.cell? ⟨w.heap.size, 1, none⟩ = some (.bool false) ∧ wr.drew.drew.cell? ⟨w.heap.size, 2, none⟩ = some (.int .i64 c) ∧ wr.drew.drew.cell? ⟨w.heap.size, 3, none⟩ = some (.int .i64 v) ∧ wr.drew.drew.cell? ⟨w.heap.size, 4, none⟩ = some (.int .i64 q) ∧ wr.drew.drew.cell? ⟨w.heap.size, 5, none⟩ = some (.string d) := ⟨HD.1.drew, HD.2⟩
  have hqb : (9223372036854775807 < 5 + d.size) = False := by simp; omega
  go_region_held2 (fun W => Below wr.heap.size wr W ∧ W.cell? ⟨w.heap.size, 0, none⟩ = some (.bool true) ∧ W.cell? ⟨w.heap.size, 1, none⟩ = some (.bool false) ∧ W.cell? ⟨w.heap.size, 2, none⟩ = some (.int .i64 c) ∧ W.cell? ⟨w.heap.size, 3, none⟩ = some (.int .i64 v) ∧ W.cell? ⟨w.heap.size, 4, none⟩ = some (.int .i64 q) ∧ W.cell? ⟨w.heap.size, 5, none⟩ = some (.string d)) (first | with_reducible assumption) ((first | (go_at_call_of 36 (Value.int IntKind.i64 2); have HB := HX1; clear HB; (try simp (discharger := omega) only [wrap_id]); refine (l1Put2 _ _ (by omega) (by omega)).mono ?_; rintro e w8 ⟨x2, y2, HX2, rfl, hb8⟩; have HK := keepC6 (by with_reducible assumption) hb8; clear hb8) | (go_at_call_of 36 (Value.int IntKind.i64 2); (try simp (discharger := omega) only [wrap_id]); refine (l1Put2 _ _ (by omega) (by omega)).mono ?_; rintro e w8 ⟨x1, y1, HX1, rfl, hb8⟩; have HK := keepC6 (by with_reducible assumption) hb8; clear hb8) | (go_at_call_of 36 (Value.int IntKind.i64 1); refine (l1Put1 _ _ (by omega) (by omega)).mono ?_; rintro e w8 ⟨z, HZ, rfl, hb8⟩; have HK := keepC6 (by with_reducible assumption) hb8; clear hb8)))
  go_wp2_with fail
  rw [frT_eq (h := c + 8192) (m := v * 1024 + d.size + 6) (q := q) HX1.out HX2.out HZ.out (by omega) (by omega)]
  have ht : (frT (c + 8192) (v * 1024 + d.size + 6) q d).size ≤ maxLen := by rw [frT_size]; unfold maxLen; omega
  have hz := frT_size (c + 8192) (v * 1024 + d.size + 6) q d
  have hcr := crc_lt (frT (c + 8192) (v * 1024 + d.size + 6) q d)
  generalize hT : frT (c + 8192) (v * 1024 + d.size + 6) q d = T at *
  have HT : Hid _ := hT
  clear hT
  refine (specCrc16_any _ _ ht).mono ?_
  rintro e w9 ⟨rfl, rfl⟩
  have HE : Hid (∀ x y : UInt8, (x = hiB (crcTo T T.size : Nat) ∧ y = loB (crcTo T T.size : Nat)) → (T ++ ⟨#[x, y]⟩ : ByteArray) = frW T) := fun x y e => frW_eq e
  generalize hN : crcTo T T.size = M at *
  clear hN
  go_wp2_with fail
  refine (l1Put2 _ _ (by omega) (by omega)).mono ?_
  rintro e w10 ⟨x3, y3, HX3, rfl, hb10⟩
  have HB : Hid (Below w.heap.size w w10) := (HB0.out.trans (HK.1.mono HB0.out.size)).trans (hb10.mono (Nat.le_trans HB0.out.size HK.1.size))
  clear hb10
  go_wp2_with fail
  go_ret
  exact ⟨ret_str ((HE.out _ _ HX3.out).trans (by rw [HT.out])), HB.out⟩
set_option maxRecDepth 100000 in
set_option maxHeartbeats 4000000 in
theorem l3Put0_ft (c v q : Int) (d : ByteArray) (w : World) (hd : d.size ≤ maxLen) (hc0 : 0 ≤ c) (hc1 : c ≤ 1023) (hv0 : 0 ≤ v) (hv1 : v ≤ 63) (hq0 : 0 ≤ q) (hq1 : q ≤ 255) (hs1 : d.size ≤ 53) :
    Calls Tryd.prog 27 #[.agg #[.bool false, .bool true, .int .i64 c, .int .i64 v, .int .i64 q, .string d]] w fun e w' => e = .returned (.string (frW (frT (c + 4096) (v * 1024 + d.size + 6) q d))) ∧ Below w.heap.size w w' := by
  have hm := hd
  unfold maxLen at hm
  go_enter Tryd.func27, Tryd.ntmps27
  go_wp2_with fail
  have HB0 : Hid (Below w.heap.size w (w.alloc (.cells #[.bool false, .bool true, .int .i64 c, .int .i64 v, .int .i64 q, .string d] 23))) := ((Below.refl _ _).alloc (Nat.le_refl _) _)
  obtain ⟨k0, k1, k2, k3, k4, k5⟩ := cells6_of (w := (w.alloc (.cells #[.bool false, .bool true, .int .i64 c, .int .i64 v, .int .i64 q, .string d] 23))) (get_new rfl)
  generalize (w.alloc (.cells #[.bool false, .bool true, .int .i64 c, .int .i64 v, .int .i64 q, .string d] 23)) = wr at *
  have HD : Below wr.heap.size wr wr.drew ∧ wr.drew.cell? ⟨w.heap.size, 0, none⟩ = some (.bool false) ∧ wr.drew.cell? ⟨w.heap.size, 1, none⟩ = some (.bool true) ∧ wr.drew.cell? ⟨w.heap.size, 2, none⟩ = some (.int .i64 c) ∧ wr.drew.cell? ⟨w.heap.size, 3, none⟩ = some (.int .i64 v) ∧ wr.drew.cell? ⟨w.heap.size, 4, none⟩ = some (.int .i64 q) ∧ wr.drew.cell? ⟨w.heap.size, 5, none⟩ = some (.string d) := ⟨(Below.refl _ _).drew, k0, k1, k2, k3, k4, k5⟩
  clear k0 k1 k2 k3 k4 k5
  go_region_held2 (fun W => Below wr.heap.size wr W ∧ W.cell? ⟨w.heap.size, 0, none⟩ = some (.bool false) ∧ W.cell? ⟨w.heap.size, 1, none⟩ = some (.bool true) ∧ W.cell? ⟨w.heap.size, 2, none⟩ = some (.int .i64 c) ∧ W.cell? ⟨w.heap.size, 3, none⟩ = some (.int .i64 v) ∧ W.cell? ⟨w.heap.size, 4, none⟩ = some (.int .i64 q) ∧ W.cell? ⟨w.heap.size, 5, none⟩ = some (.string d)) (first | with_reducible assumption) ((first | (go_at_call 37; refine (l3Flag_if _ _).mono ?_; rintro e w8 ⟨rfl, rfl⟩)))
  go_wp2_with fail
  have HD2 : Below wr.heap.size wr wr.drew.drew ∧ wr.drew.drew.cell? ⟨w.heap.size, 0, none⟩ = some (.bool false) ∧ wr.drew.drew.cell? ⟨w.heap.size, 1, none⟩ = some (.bool true) ∧ wr.drew.drew.cell? ⟨w.heap.size, 2, none⟩ = some (.int .i64 c) ∧ wr.drew.drew.cell? ⟨w.heap.size, 3, none⟩ = some (.int .i64 v) ∧ wr.drew.drew.cell? ⟨w.heap.size, 4, none⟩ = some (.int .i64 q) ∧ wr.drew.drew.cell? ⟨w.heap.size, 5, none⟩ = some (.string d) := ⟨HD.1.drew, HD.2⟩
  have hqb : (9223372036854775807 < 5 + d.size) = False := by simp; omega
  go_region_held2 (fun W => Below wr.heap.size wr W ∧ W.cell? ⟨w.heap.size, 0, none⟩ = some (.bool false) ∧ W.cell? ⟨w.heap.size, 1, none⟩ = some (.bool true) ∧ W.cell? ⟨w.heap.size, 2, none⟩ = some (.int .i64 c) ∧ W.cell? ⟨w.heap.size, 3, none⟩ = some (.int .i64 v) ∧ W.cell? ⟨w.heap.size, 4, none⟩ = some (.int .i64 q) ∧ W.cell? ⟨w.heap.size, 5, none⟩ = some (.string d)) (first | with_reducible assumption) ((first | (go_at_call_of 36 (Value.int IntKind.i64 2); have HB := HX1; clear HB; (try simp (discharger := omega) only [wrap_id]); refine (l1Put2 _ _ (by omega) (by omega)).mono ?_; rintro e w8 ⟨x2, y2, HX2, rfl, hb8⟩; have HK := keepC6 (by with_reducible assumption) hb8; clear hb8) | (go_at_call_of 36 (Value.int IntKind.i64 2); (try simp (discharger := omega) only [wrap_id]); refine (l1Put2 _ _ (by omega) (by omega)).mono ?_; rintro e w8 ⟨x1, y1, HX1, rfl, hb8⟩; have HK := keepC6 (by with_reducible assumption) hb8; clear hb8) | (go_at_call_of 36 (Value.int IntKind.i64 1); refine (l1Put1 _ _ (by omega) (by omega)).mono ?_; rintro e w8 ⟨z, HZ, rfl, hb8⟩; have HK := keepC6 (by with_reducible assumption) hb8; clear hb8)))
  go_wp2_with fail
  rw [frT_eq (h := c + 4096) (m := v * 1024 + d.size + 6) (q := q) HX1.out HX2.out HZ.out (by omega) (by omega)]
  have ht : (frT (c + 4096) (v * 1024 + d.size + 6) q d).size ≤ maxLen := by rw [frT_size]; unfold maxLen; omega
  have hz := frT_size (c + 4096) (v * 1024 + d.size + 6) q d
  have hcr := crc_lt (frT (c + 4096) (v * 1024 + d.size + 6) q d)
  generalize hT : frT (c + 4096) (v * 1024 + d.size + 6) q d = T at *
  have HT : Hid _ := hT
  clear hT
  refine (specCrc16_any _ _ ht).mono ?_
  rintro e w9 ⟨rfl, rfl⟩
  have HE : Hid (∀ x y : UInt8, (x = hiB (crcTo T T.size : Nat) ∧ y = loB (crcTo T T.size : Nat)) → (T ++ ⟨#[x, y]⟩ : ByteArray) = frW T) := fun x y e => frW_eq e
  generalize hN : crcTo T T.size = M at *
  clear hN
  go_wp2_with fail
  refine (l1Put2 _ _ (by omega) (by omega)).mono ?_
  rintro e w10 ⟨x3, y3, HX3, rfl, hb10⟩
  have HB : Hid (Below w.heap.size w w10) := (HB0.out.trans (HK.1.mono HB0.out.size)).trans (hb10.mono (Nat.le_trans HB0.out.size HK.1.size))
  clear hb10
  go_wp2_with fail
  go_ret
  exact ⟨ret_str ((HE.out _ _ HX3.out).trans (by rw [HT.out])), HB.out⟩
set_option maxRecDepth 100000 in
set_option maxHeartbeats 4000000 in
theorem l3Put0_ff (c v q : Int) (d : ByteArray) (w : World) (hd : d.size ≤ maxLen) (hc0 : 0 ≤ c) (hc1 : c ≤ 1023) (hv0 : 0 ≤ v) (hv1 : v ≤ 63) (hq0 : 0 ≤ q) (hq1 : q ≤ 255) (hs1 : d.size ≤ 53) :
    Calls Tryd.prog 27 #[.agg #[.bool false, .bool false, .int .i64 c, .int .i64 v, .int .i64 q, .string d]] w fun e w' => e = .returned (.string (frW (frT (c + 0) (v * 1024 + d.size + 6) q d))) ∧ Below w.heap.size w w' := by
  have hm := hd
  unfold maxLen at hm
  go_enter Tryd.func27, Tryd.ntmps27
  go_wp2_with fail
  have HB0 : Hid (Below w.heap.size w (w.alloc (.cells #[.bool false, .bool false, .int .i64 c, .int .i64 v, .int .i64 q, .string d] 23))) := ((Below.refl _ _).alloc (Nat.le_refl _) _)
  obtain ⟨k0, k1, k2, k3, k4, k5⟩ := cells6_of (w := (w.alloc (.cells #[.bool false, .bool false, .int .i64 c, .int .i64 v, .int .i64 q, .string d] 23))) (get_new rfl)
  generalize (w.alloc (.cells #[.bool false, .bool false, .int .i64 c, .int .i64 v, .int .i64 q, .string d] 23)) = wr at *
  have HD : Below wr.heap.size wr wr.drew ∧ wr.drew.cell? ⟨w.heap.size, 0, none⟩ = some (.bool false) ∧ wr.drew.cell? ⟨w.heap.size, 1, none⟩ = some (.bool false) ∧ wr.drew.cell? ⟨w.heap.size, 2, none⟩ = some (.int .i64 c) ∧ wr.drew.cell? ⟨w.heap.size, 3, none⟩ = some (.int .i64 v) ∧ wr.drew.cell? ⟨w.heap.size, 4, none⟩ = some (.int .i64 q) ∧ wr.drew.cell? ⟨w.heap.size, 5, none⟩ = some (.string d) := ⟨(Below.refl _ _).drew, k0, k1, k2, k3, k4, k5⟩
  clear k0 k1 k2 k3 k4 k5
  go_region_held2 (fun W => Below wr.heap.size wr W ∧ W.cell? ⟨w.heap.size, 0, none⟩ = some (.bool false) ∧ W.cell? ⟨w.heap.size, 1, none⟩ = some (.bool false) ∧ W.cell? ⟨w.heap.size, 2, none⟩ = some (.int .i64 c) ∧ W.cell? ⟨w.heap.size, 3, none⟩ = some (.int .i64 v) ∧ W.cell? ⟨w.heap.size, 4, none⟩ = some (.int .i64 q) ∧ W.cell? ⟨w.heap.size, 5, none⟩ = some (.string d)) (first | with_reducible assumption) ((first | (go_at_call 37; refine (l3Flag_if _ _).mono ?_; rintro e w8 ⟨rfl, rfl⟩)))
  go_wp2_with fail
  have HD2 : Below wr.heap.size wr wr.drew.drew ∧ wr.drew.drew.cell? ⟨w.heap.size, 0, none⟩ = some (.bool false) ∧ wr.drew.drew.cell? ⟨w.heap.size, 1, none⟩ = some (.bool false) ∧ wr.drew.drew.cell? ⟨w.heap.size, 2, none⟩ = some (.int .i64 c) ∧ wr.drew.drew.cell? ⟨w.heap.size, 3, none⟩ = some (.int .i64 v) ∧ wr.drew.drew.cell? ⟨w.heap.size, 4, none⟩ = some (.int .i64 q) ∧ wr.drew.drew.cell? ⟨w.heap.size, 5, none⟩ = some (.string d) := ⟨HD.1.drew, HD.2⟩
  have hqb : (9223372036854775807 < 5 + d.size) = False := by simp; omega
  go_region_held2 (fun W => Below wr.heap.size wr W ∧ W.cell? ⟨w.heap.size, 0, none⟩ = some (.bool false) ∧ W.cell? ⟨w.heap.size, 1, none⟩ = some (.bool false) ∧ W.cell? ⟨w.heap.size, 2, none⟩ = some (.int .i64 c) ∧ W.cell? ⟨w.heap.size, 3, none⟩ = some (.int .i64 v) ∧ W.cell? ⟨w.heap.size, 4, none⟩ = some (.int .i64 q) ∧ W.cell? ⟨w.heap.size, 5, none⟩ = some (.string d)) (first | with_reducible assumption) ((first | (go_at_call_of 36 (Value.int IntKind.i64 2); have HB := HX1; clear HB; (try simp (discharger := omega) only [wrap_id]); refine (l1Put2 _ _ (by omega) (by omega)).mono ?_; rintro e w8 ⟨x2, y2, HX2, rfl, hb8⟩; have HK := keepC6 (by with_reducible assumption) hb8; clear hb8) | (go_at_call_of 36 (Value.int IntKind.i64 2); (try simp (discharger := omega) only [wrap_id]); refine (l1Put2 _ _ (by omega) (by omega)).mono ?_; rintro e w8 ⟨x1, y1, HX1, rfl, hb8⟩; have HK := keepC6 (by with_reducible assumption) hb8; clear hb8) | (go_at_call_of 36 (Value.int IntKind.i64 1); refine (l1Put1 _ _ (by omega) (by omega)).mono ?_; rintro e w8 ⟨z, HZ, rfl, hb8⟩; have HK := keepC6 (by with_reducible assumption) hb8; clear hb8)))
  go_wp2_with fail
  rw [frT_eq (h := c + 0) (m := v * 1024 + d.size + 6) (q := q) HX1.out HX2.out HZ.out (by omega) (by omega)]
  have ht : (frT (c + 0) (v * 1024 + d.size + 6) q d).size ≤ maxLen := by rw [frT_size]; unfold maxLen; omega
  have hz := frT_size (c + 0) (v * 1024 + d.size + 6) q d
  have hcr := crc_lt (frT (c + 0) (v * 1024 + d.size + 6) q d)
  generalize hT : frT (c + 0) (v * 1024 + d.size + 6) q d = T at *
  have HT : Hid _ := hT
  clear hT
  refine (specCrc16_any _ _ ht).mono ?_
  rintro e w9 ⟨rfl, rfl⟩
  have HE : Hid (∀ x y : UInt8, (x = hiB (crcTo T T.size : Nat) ∧ y = loB (crcTo T T.size : Nat)) → (T ++ ⟨#[x, y]⟩ : ByteArray) = frW T) := fun x y e => frW_eq e
  generalize hN : crcTo T T.size = M at *
  clear hN
  go_wp2_with fail
  refine (l1Put2 _ _ (by omega) (by omega)).mono ?_
  rintro e w10 ⟨x3, y3, HX3, rfl, hb10⟩
  have HB : Hid (Below w.heap.size w w10) := (HB0.out.trans (HK.1.mono HB0.out.size)).trans (hb10.mono (Nat.le_trans HB0.out.size HK.1.size))
  clear hb10
  go_wp2_with fail
  go_ret
  exact ⟨ret_str ((HE.out _ _ HX3.out).trans (by rw [HT.out])), HB.out⟩
theorem l3Put_some (p g : Bool) (c v q : Int) (d : ByteArray) (w : World) (hc0 : 0 ≤ c) (hc1 : c ≤ 1023) (hv0 : 0 ≤ v) (hv1 : v ≤ 63) (hq0 : 0 ≤ q) (hq1 : q ≤ 255) (hs1 : d.size ≤ 53) :
    Calls Tryd.prog 27 #[.agg #[.bool p, .bool g, .int .i64 c, .int .i64 v, .int .i64 q, .string d]] w fun e w' => ∃ s : ByteArray, s.size ≤ 60 ∧ e = .returned (.string s) ∧ Below w.heap.size w w' := by
  have hd : d.size ≤ maxLen := by unfold maxLen; omega
  have hz : ∀ h m : Int, (frW (frT h m q d)).size ≤ 60 := fun h m => by
    unfold frW
    rw [ByteArray.size_append, frT_size]
    have : ∀ x y : UInt8, (⟨#[x, y]⟩ : ByteArray).size = 2 := fun _ _ => rfl
    rw [this]; omega
  cases p <;> cases g
  · exact (l3Put0_ff c v q d w hd hc0 hc1 hv0 hv1 hq0 hq1 hs1).mono fun e w' ⟨h1, h2⟩ => ⟨_, hz _ _, h1, h2⟩
  · exact (l3Put0_ft c v q d w hd hc0 hc1 hv0 hv1 hq0 hq1 hs1).mono fun e w' ⟨h1, h2⟩ => ⟨_, hz _ _, h1, h2⟩
  · exact (l3Put0_tf c v q d w hd hc0 hc1 hv0 hv1 hq0 hq1 hs1).mono fun e w' ⟨h1, h2⟩ => ⟨_, hz _ _, h1, h2⟩
  · exact (l3Put0_tt c v q d w hd hc0 hc1 hv0 hv1 hq0 hq1 hs1).mono fun e w' ⟨h1, h2⟩ => ⟨_, hz _ _, h1, h2⟩
end Go.Proofs.YtlifigpkjbnkhaaDoor
