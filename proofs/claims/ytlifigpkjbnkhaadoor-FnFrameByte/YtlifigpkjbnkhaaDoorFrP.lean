/- The contracts of FramePut, both sides. -/
import Derived.Test.YtlifigpkjbnkhaaDoorFrK
import Derived.Test.YtlifigpkjbnkhaaDoorFaP
import Derived.Test.YtlifigpkjbnkhaaDoorToFr
import Derived.Test.YtlifigpkjbnkhaaDoorKeep
import Derived.Test.YtlifigpkjbnkhaaDoorCrcI
import Derived.Test.YtlifigpkjbnkhaaDoorCrcS
import Derived.Deep.RegionHeld2
namespace Go.Proofs.YtlifigpkjbnkhaaDoor
open Go.ChangeShapes Go.WideShapes Go.ChangeAt Go.RowKit
set_option linter.unusedVariables false

theorem crc_lt (t : ByteArray) : crcTo t t.size < 65536 := crcTo_lt t t.size
def hiB (n : Int) : UInt8 := UInt8.ofNat (n.toNat / 256)
def loB (n : Int) : UInt8 := UInt8.ofNat n.toNat
theorem numPut2 (n : Int) (w : World) (h0 : 0 ≤ n) (h1 : n ≤ 65535) : Calls Tryd.prog 35 #[.int .i64 n, .int .i64 2] w fun e w' => ∃ x y : UInt8, Hid (x = hiB n ∧ y = loB n) ∧ e = .returned (.string ⟨#[x, y]⟩) ∧ Below w.heap.size w w' :=
  (implNumPut_any n 2 w).mono fun e w' ⟨he, hb⟩ => ⟨hiB n, loB n, ⟨rfl, rfl⟩, by rw [he, putL_yes (by omega) (by omega) h0 (by show n < (65536 : Int); omega)]; simp [pt, hiB, loB], hb⟩
theorem l1Put2 (n : Int) (w : World) (h0 : 0 ≤ n) (h1 : n ≤ 65535) : Calls Tryd.prog 36 #[.int .i64 n, .int .i64 2] w fun e w' => ∃ x y : UInt8, Hid (x = hiB n ∧ y = loB n) ∧ e = .returned (.string ⟨#[x, y]⟩) ∧ Below w.heap.size w w' :=
  (l1Put_any n 2 w h0 (by omega) (by omega) (by omega)).mono fun e w' ⟨he, hb⟩ => ⟨hiB n, loB n, ⟨rfl, rfl⟩, by rw [he]; simp [pt, hiB, loB], hb⟩
/-- The bytes of a frame ahead of its sum. -/
def frT (h m q : Int) (d : ByteArray) : ByteArray := ⟨#[hiB h, loB h]⟩ ++ ⟨#[hiB m, loB m]⟩ ++ ⟨#[loB q]⟩ ++ d
def frW (t : ByteArray) : ByteArray := t ++ ⟨#[hiB (crcTo t t.size : Nat), loB (crcTo t t.size : Nat)]⟩
theorem frT_size (h m q : Int) (d : ByteArray) : (frT h m q d).size = 5 + d.size := by
  unfold frT; simp only [ByteArray.size_append]; rfl
theorem frT_eq {x1 y1 x2 y2 z : UInt8} {h h' m m' q : Int} {d : ByteArray} (e1 : x1 = hiB h' ∧ y1 = loB h') (e2 : x2 = hiB m' ∧ y2 = loB m') (e3 : z = UInt8.ofNat q.toNat) (k1 : h' = h) (k2 : m' = m) :
    (⟨#[x1, y1]⟩ ++ ⟨#[x2, y2]⟩ ++ ⟨#[z]⟩ ++ d : ByteArray) = frT h m q d := by
  obtain ⟨rfl, rfl⟩ := e1; obtain ⟨rfl, rfl⟩ := e2; subst e3 k1 k2; rfl
theorem frW_eq {x y : UInt8} {t : ByteArray} (e : x = hiB (crcTo t t.size : Nat) ∧ y = loB (crcTo t t.size : Nat)) : (t ++ ⟨#[x, y]⟩ : ByteArray) = frW t := by
  obtain ⟨rfl, rfl⟩ := e; rfl
theorem frOk_all {p g : Bool} {c v q : Int} {d : ByteArray} (h : frOk p g c v q d = true) : 0 ≤ c ∧ c ≤ 1023 ∧ 0 ≤ v ∧ v ≤ 63 ∧ 0 ≤ q ∧ q ≤ 255 ∧ 1 ≤ d.size ∧ d.size ≤ 53 ∧ (g = true → p = true) := by
  simp only [frOk, inB, Bool.and_eq_true, decide_eq_true_eq, Bool.or_eq_true, Bool.not_eq_true'] at h
  obtain ⟨⟨⟨⟨⟨h0, h1⟩, h2, h3⟩, h4, h5⟩, h6, h7⟩, h8⟩ := h
  exact ⟨h0, h1, h2, h3, h4, h5, by omega, by omega, fun e => by rcases h8 with h8 | h8 <;> simp_all⟩
set_option maxRecDepth 100000 in
set_option maxHeartbeats 4000000 in
theorem framePut_g (c v q : Int) (d : ByteArray) (w : World) (hd : d.size ≤ maxLen) (h : frOk true true c v q d = true) (hc0 : 0 ≤ c) (hc1 : c ≤ 1023) (hv0 : 0 ≤ v) (hv1 : v ≤ 63) (hq0 : 0 ≤ q) (hq1 : q ≤ 255) (hs0 : 1 ≤ d.size) (hs1 : d.size ≤ 53) :
    Calls Tryd.prog 20 #[.agg #[.bool true, .bool true, .int .i64 c, .int .i64 v, .int .i64 q, .string d]] w fun e w' => e = .returned (.string (frW (frT (c + 12288) (v * 1024 + d.size + 6) q d))) ∧ Below w.heap.size w w' := by
  have hm := hd
  unfold maxLen at hm
  have HS : Hid (Below (w.heap.size + 1) (w.alloc (.cells #[.bool true, .bool true, .int .i64 c, .int .i64 v, .int .i64 q, .string d] 23)) (w.alloc (.cells #[.bool true, .bool true, .int .i64 c, .int .i64 v, .int .i64 q, .string d] 23))) := Below.refl _ _
  go_enter Tryd.func20, Tryd.ntmps20
  go_wp2_with fail
  refine (implFrameOk_any _ _ _ _ _ _ _ hd).mono ?_
  rintro e w1 ⟨rfl, hb1⟩
  have HS : Hid (Below (w.heap.size + 1) (w.alloc (.cells #[.bool true, .bool true, .int .i64 c, .int .i64 v, .int .i64 q, .string d] 23)) w1) := (by first | exact hidA HS hb1 | exact hidB HS hb1)
  obtain ⟨hc1, hf1⟩ := bk HS.out
  clear hb1
  go_wp2_with fail
  obtain ⟨k0, k1, k2, k3, k4, k5⟩ := cells6_of (w := w1) (get_below HS.out (get_new rfl) (by omega))
  have HD : Below w1.heap.size w1 w1.drew ∧ w1.drew.cell? ⟨w.heap.size, 0, none⟩ = some (.bool true) ∧ w1.drew.cell? ⟨w.heap.size, 1, none⟩ = some (.bool true) ∧ w1.drew.cell? ⟨w.heap.size, 2, none⟩ = some (.int .i64 c) ∧ w1.drew.cell? ⟨w.heap.size, 3, none⟩ = some (.int .i64 v) ∧ w1.drew.cell? ⟨w.heap.size, 4, none⟩ = some (.int .i64 q) ∧ w1.drew.cell? ⟨w.heap.size, 5, none⟩ = some (.string d) := ⟨(Below.refl _ _).drew, k0, k1, k2, k3, k4, k5⟩
  have hqb : (9223372036854775807 < 5 + d.size) = False := by simp; omega
  clear k0 k1 k2 k3 k4 k5 hc1 hf1
  go_region_held2 (fun W => Below w1.heap.size w1 W ∧ W.cell? ⟨w.heap.size, 0, none⟩ = some (.bool true) ∧ W.cell? ⟨w.heap.size, 1, none⟩ = some (.bool true) ∧ W.cell? ⟨w.heap.size, 2, none⟩ = some (.int .i64 c) ∧ W.cell? ⟨w.heap.size, 3, none⟩ = some (.int .i64 v) ∧ W.cell? ⟨w.heap.size, 4, none⟩ = some (.int .i64 q) ∧ W.cell? ⟨w.heap.size, 5, none⟩ = some (.string d)) (first | with_reducible assumption) ((first | (go_at_call 44; refine (kind_govern _ _ _ _ _ _).mono ?_; rintro e w8 ⟨rfl, hb8⟩; have HK := keepC6 (by with_reducible assumption) hb8; clear hb8) | (go_at_call 43; refine (flags_g _ _).mono ?_; rintro e w8 ⟨rfl, hb8⟩; have HK := keepC6 (by with_reducible assumption) hb8; clear hb8) | (go_at_call_of 35 (Value.int IntKind.i64 2); have HB := HX1; clear HB; (try simp (discharger := omega) only [wrap_id]); refine (numPut2 _ _ (by omega) (by omega)).mono ?_; rintro e w8 ⟨x2, y2, HX2, rfl, hb8⟩; have HK := keepC6 (by with_reducible assumption) hb8; clear hb8) | (go_at_call_of 35 (Value.int IntKind.i64 2); (try simp (discharger := omega) only [wrap_id]); refine (numPut2 _ _ (by omega) (by omega)).mono ?_; rintro e w8 ⟨x1, y1, HX1, rfl, hb8⟩; have HK := keepC6 (by with_reducible assumption) hb8; clear hb8) | (go_at_call_of 35 (Value.int IntKind.i64 1); refine (numPut1 _ _ (by omega) (by omega)).mono ?_; rintro e w8 ⟨z, HZ, rfl, hb8⟩; have HK := keepC6 (by with_reducible assumption) hb8; clear hb8)))
  go_wp2_with fail
  rw [frT_eq (h := c + 12288) (m := v * 1024 + d.size + 6) (q := q) HX1.out HX2.out HZ.out (by omega) (by omega)]
  have ht : (frT (c + 12288) (v * 1024 + d.size + 6) q d).size ≤ maxLen := by rw [frT_size]; unfold maxLen; omega
  have hz := frT_size (c + 12288) (v * 1024 + d.size + 6) q d
  have hcr := crc_lt (frT (c + 12288) (v * 1024 + d.size + 6) q d)
  generalize hT : frT (c + 12288) (v * 1024 + d.size + 6) q d = T at *
  have HT : Hid _ := hT
  clear hT
  refine (implCrc16_any _ _ ht).mono ?_
  rintro e w9 ⟨rfl, hb9⟩
  have HE : Hid (∀ x y : UInt8, (x = hiB (crcTo T T.size : Nat) ∧ y = loB (crcTo T T.size : Nat)) → (T ++ ⟨#[x, y]⟩ : ByteArray) = frW T) := fun x y e => frW_eq e
  have HK9 := keepC6 HK hb9
  clear hb9
  generalize hN : crcTo T T.size = M at *
  clear hN
  go_wp2_with fail
  refine (numPut2 _ _ (by omega) (by omega)).mono ?_
  rintro e w10 ⟨x3, y3, HX3, rfl, hb10⟩
  have HB : Hid (Below w.heap.size w w10) := ((((Below.refl _ _).alloc (Nat.le_refl _) _).trans (HS.out.mono (by omega))).trans (HK9.1.mono (by have := HS.out.size; simp at this; omega))).trans (hb10.mono (by have := HS.out.size; have := HK9.1.size; simp at *; omega))
  clear hb10
  go_wp2_with fail
  go_ret
  exact ⟨ret_str ((HE.out _ _ HX3.out).trans (by rw [HT.out])), HB.out⟩
set_option maxRecDepth 100000 in
set_option maxHeartbeats 4000000 in
theorem framePut_p (c v q : Int) (d : ByteArray) (w : World) (hd : d.size ≤ maxLen) (h : frOk true false c v q d = true) (hc0 : 0 ≤ c) (hc1 : c ≤ 1023) (hv0 : 0 ≤ v) (hv1 : v ≤ 63) (hq0 : 0 ≤ q) (hq1 : q ≤ 255) (hs0 : 1 ≤ d.size) (hs1 : d.size ≤ 53) :
    Calls Tryd.prog 20 #[.agg #[.bool true, .bool false, .int .i64 c, .int .i64 v, .int .i64 q, .string d]] w fun e w' => e = .returned (.string (frW (frT (c + 8192) (v * 1024 + d.size + 6) q d))) ∧ Below w.heap.size w w' := by
  have hm := hd
  unfold maxLen at hm
  have HS : Hid (Below (w.heap.size + 1) (w.alloc (.cells #[.bool true, .bool false, .int .i64 c, .int .i64 v, .int .i64 q, .string d] 23)) (w.alloc (.cells #[.bool true, .bool false, .int .i64 c, .int .i64 v, .int .i64 q, .string d] 23))) := Below.refl _ _
  go_enter Tryd.func20, Tryd.ntmps20
  go_wp2_with fail
  refine (implFrameOk_any _ _ _ _ _ _ _ hd).mono ?_
  rintro e w1 ⟨rfl, hb1⟩
  have HS : Hid (Below (w.heap.size + 1) (w.alloc (.cells #[.bool true, .bool false, .int .i64 c, .int .i64 v, .int .i64 q, .string d] 23)) w1) := (by first | exact hidA HS hb1 | exact hidB HS hb1)
  obtain ⟨hc1, hf1⟩ := bk HS.out
  clear hb1
  go_wp2_with fail
  obtain ⟨k0, k1, k2, k3, k4, k5⟩ := cells6_of (w := w1) (get_below HS.out (get_new rfl) (by omega))
  have HD : Below w1.heap.size w1 w1.drew ∧ w1.drew.cell? ⟨w.heap.size, 0, none⟩ = some (.bool true) ∧ w1.drew.cell? ⟨w.heap.size, 1, none⟩ = some (.bool false) ∧ w1.drew.cell? ⟨w.heap.size, 2, none⟩ = some (.int .i64 c) ∧ w1.drew.cell? ⟨w.heap.size, 3, none⟩ = some (.int .i64 v) ∧ w1.drew.cell? ⟨w.heap.size, 4, none⟩ = some (.int .i64 q) ∧ w1.drew.cell? ⟨w.heap.size, 5, none⟩ = some (.string d) := ⟨(Below.refl _ _).drew, k0, k1, k2, k3, k4, k5⟩
  have hqb : (9223372036854775807 < 5 + d.size) = False := by simp; omega
  clear k0 k1 k2 k3 k4 k5 hc1 hf1
  go_region_held2 (fun W => Below w1.heap.size w1 W ∧ W.cell? ⟨w.heap.size, 0, none⟩ = some (.bool true) ∧ W.cell? ⟨w.heap.size, 1, none⟩ = some (.bool false) ∧ W.cell? ⟨w.heap.size, 2, none⟩ = some (.int .i64 c) ∧ W.cell? ⟨w.heap.size, 3, none⟩ = some (.int .i64 v) ∧ W.cell? ⟨w.heap.size, 4, none⟩ = some (.int .i64 q) ∧ W.cell? ⟨w.heap.size, 5, none⟩ = some (.string d)) (first | with_reducible assumption) ((first | (go_at_call 44; refine (kind_past _ _ _ _ _).mono ?_; rintro e w8 ⟨rfl, hb8⟩; have HK := keepC6 (by with_reducible assumption) hb8; clear hb8) | (go_at_call 43; refine (flags_p _).mono ?_; rintro e w8 ⟨rfl, hb8⟩; have HK := keepC6 (by with_reducible assumption) hb8; clear hb8) | (go_at_call_of 35 (Value.int IntKind.i64 2); have HB := HX1; clear HB; (try simp (discharger := omega) only [wrap_id]); refine (numPut2 _ _ (by omega) (by omega)).mono ?_; rintro e w8 ⟨x2, y2, HX2, rfl, hb8⟩; have HK := keepC6 (by with_reducible assumption) hb8; clear hb8) | (go_at_call_of 35 (Value.int IntKind.i64 2); (try simp (discharger := omega) only [wrap_id]); refine (numPut2 _ _ (by omega) (by omega)).mono ?_; rintro e w8 ⟨x1, y1, HX1, rfl, hb8⟩; have HK := keepC6 (by with_reducible assumption) hb8; clear hb8) | (go_at_call_of 35 (Value.int IntKind.i64 1); refine (numPut1 _ _ (by omega) (by omega)).mono ?_; rintro e w8 ⟨z, HZ, rfl, hb8⟩; have HK := keepC6 (by with_reducible assumption) hb8; clear hb8)))
  go_wp2_with fail
  rw [frT_eq (h := c + 8192) (m := v * 1024 + d.size + 6) (q := q) HX1.out HX2.out HZ.out (by omega) (by omega)]
  have ht : (frT (c + 8192) (v * 1024 + d.size + 6) q d).size ≤ maxLen := by rw [frT_size]; unfold maxLen; omega
  have hz := frT_size (c + 8192) (v * 1024 + d.size + 6) q d
  have hcr := crc_lt (frT (c + 8192) (v * 1024 + d.size + 6) q d)
  generalize hT : frT (c + 8192) (v * 1024 + d.size + 6) q d = T at *
  have HT : Hid _ := hT
  clear hT
  refine (implCrc16_any _ _ ht).mono ?_
  rintro e w9 ⟨rfl, hb9⟩
  have HE : Hid (∀ x y : UInt8, (x = hiB (crcTo T T.size : Nat) ∧ y = loB (crcTo T T.size : Nat)) → (T ++ ⟨#[x, y]⟩ : ByteArray) = frW T) := fun x y e => frW_eq e
  have HK9 := keepC6 HK hb9
  clear hb9
  generalize hN : crcTo T T.size = M at *
  clear hN
  go_wp2_with fail
  refine (numPut2 _ _ (by omega) (by omega)).mono ?_
  rintro e w10 ⟨x3, y3, HX3, rfl, hb10⟩
  have HB : Hid (Below w.heap.size w w10) := ((((Below.refl _ _).alloc (Nat.le_refl _) _).trans (HS.out.mono (by omega))).trans (HK9.1.mono (by have := HS.out.size; simp at this; omega))).trans (hb10.mono (by have := HS.out.size; have := HK9.1.size; simp at *; omega))
  clear hb10
  go_wp2_with fail
  go_ret
  exact ⟨ret_str ((HE.out _ _ HX3.out).trans (by rw [HT.out])), HB.out⟩
set_option maxRecDepth 100000 in
set_option maxHeartbeats 4000000 in
theorem framePut_o (c v q : Int) (d : ByteArray) (w : World) (hd : d.size ≤ maxLen) (h : frOk false false c v q d = true) (hc0 : 0 ≤ c) (hc1 : c ≤ 1023) (hv0 : 0 ≤ v) (hv1 : v ≤ 63) (hq0 : 0 ≤ q) (hq1 : q ≤ 255) (hs0 : 1 ≤ d.size) (hs1 : d.size ≤ 53) :
    Calls Tryd.prog 20 #[.agg #[.bool false, .bool false, .int .i64 c, .int .i64 v, .int .i64 q, .string d]] w fun e w' => e = .returned (.string (frW (frT (c + 0) (v * 1024 + d.size + 6) q d))) ∧ Below w.heap.size w w' := by
  have hm := hd
  unfold maxLen at hm
  have HS : Hid (Below (w.heap.size + 1) (w.alloc (.cells #[.bool false, .bool false, .int .i64 c, .int .i64 v, .int .i64 q, .string d] 23)) (w.alloc (.cells #[.bool false, .bool false, .int .i64 c, .int .i64 v, .int .i64 q, .string d] 23))) := Below.refl _ _
  go_enter Tryd.func20, Tryd.ntmps20
  go_wp2_with fail
  refine (implFrameOk_any _ _ _ _ _ _ _ hd).mono ?_
  rintro e w1 ⟨rfl, hb1⟩
  have HS : Hid (Below (w.heap.size + 1) (w.alloc (.cells #[.bool false, .bool false, .int .i64 c, .int .i64 v, .int .i64 q, .string d] 23)) w1) := (by first | exact hidA HS hb1 | exact hidB HS hb1)
  obtain ⟨hc1, hf1⟩ := bk HS.out
  clear hb1
  go_wp2_with fail
  obtain ⟨k0, k1, k2, k3, k4, k5⟩ := cells6_of (w := w1) (get_below HS.out (get_new rfl) (by omega))
  have HD : Below w1.heap.size w1 w1.drew ∧ w1.drew.cell? ⟨w.heap.size, 0, none⟩ = some (.bool false) ∧ w1.drew.cell? ⟨w.heap.size, 1, none⟩ = some (.bool false) ∧ w1.drew.cell? ⟨w.heap.size, 2, none⟩ = some (.int .i64 c) ∧ w1.drew.cell? ⟨w.heap.size, 3, none⟩ = some (.int .i64 v) ∧ w1.drew.cell? ⟨w.heap.size, 4, none⟩ = some (.int .i64 q) ∧ w1.drew.cell? ⟨w.heap.size, 5, none⟩ = some (.string d) := ⟨(Below.refl _ _).drew, k0, k1, k2, k3, k4, k5⟩
  have hqb : (9223372036854775807 < 5 + d.size) = False := by simp; omega
  clear k0 k1 k2 k3 k4 k5 hc1 hf1
  go_region_held2 (fun W => Below w1.heap.size w1 W ∧ W.cell? ⟨w.heap.size, 0, none⟩ = some (.bool false) ∧ W.cell? ⟨w.heap.size, 1, none⟩ = some (.bool false) ∧ W.cell? ⟨w.heap.size, 2, none⟩ = some (.int .i64 c) ∧ W.cell? ⟨w.heap.size, 3, none⟩ = some (.int .i64 v) ∧ W.cell? ⟨w.heap.size, 4, none⟩ = some (.int .i64 q) ∧ W.cell? ⟨w.heap.size, 5, none⟩ = some (.string d)) (first | with_reducible assumption) ((first | (go_at_call 44; refine (kind_order _ _ _ _ _).mono ?_; rintro e w8 ⟨rfl, hb8⟩; have HK := keepC6 (by with_reducible assumption) hb8; clear hb8) | (go_at_call 43; refine (flags_o _ _).mono ?_; rintro e w8 ⟨rfl, hb8⟩; have HK := keepC6 (by with_reducible assumption) hb8; clear hb8) | (go_at_call_of 35 (Value.int IntKind.i64 2); have HB := HX1; clear HB; (try simp (discharger := omega) only [wrap_id]); refine (numPut2 _ _ (by omega) (by omega)).mono ?_; rintro e w8 ⟨x2, y2, HX2, rfl, hb8⟩; have HK := keepC6 (by with_reducible assumption) hb8; clear hb8) | (go_at_call_of 35 (Value.int IntKind.i64 2); (try simp (discharger := omega) only [wrap_id]); refine (numPut2 _ _ (by omega) (by omega)).mono ?_; rintro e w8 ⟨x1, y1, HX1, rfl, hb8⟩; have HK := keepC6 (by with_reducible assumption) hb8; clear hb8) | (go_at_call_of 35 (Value.int IntKind.i64 1); refine (numPut1 _ _ (by omega) (by omega)).mono ?_; rintro e w8 ⟨z, HZ, rfl, hb8⟩; have HK := keepC6 (by with_reducible assumption) hb8; clear hb8)))
  go_wp2_with fail
  rw [frT_eq (h := c + 0) (m := v * 1024 + d.size + 6) (q := q) HX1.out HX2.out HZ.out (by omega) (by omega)]
  have ht : (frT (c + 0) (v * 1024 + d.size + 6) q d).size ≤ maxLen := by rw [frT_size]; unfold maxLen; omega
  have hz := frT_size (c + 0) (v * 1024 + d.size + 6) q d
  have hcr := crc_lt (frT (c + 0) (v * 1024 + d.size + 6) q d)
  generalize hT : frT (c + 0) (v * 1024 + d.size + 6) q d = T at *
  have HT : Hid _ := hT
  clear hT
  refine (implCrc16_any _ _ ht).mono ?_
  rintro e w9 ⟨rfl, hb9⟩
  have HE : Hid (∀ x y : UInt8, (x = hiB (crcTo T T.size : Nat) ∧ y = loB (crcTo T T.size : Nat)) → (T ++ ⟨#[x, y]⟩ : ByteArray) = frW T) := fun x y e => frW_eq e
  have HK9 := keepC6 HK hb9
  clear hb9
  generalize hN : crcTo T T.size = M at *
  clear hN
  go_wp2_with fail
  refine (numPut2 _ _ (by omega) (by omega)).mono ?_
  rintro e w10 ⟨x3, y3, HX3, rfl, hb10⟩
  have HB : Hid (Below w.heap.size w w10) := ((((Below.refl _ _).alloc (Nat.le_refl _) _).trans (HS.out.mono (by omega))).trans (HK9.1.mono (by have := HS.out.size; simp at this; omega))).trans (hb10.mono (by have := HS.out.size; have := HK9.1.size; simp at *; omega))
  clear hb10
  go_wp2_with fail
  go_ret
  exact ⟨ret_str ((HE.out _ _ HX3.out).trans (by rw [HT.out])), HB.out⟩
end Go.Proofs.YtlifigpkjbnkhaaDoor
