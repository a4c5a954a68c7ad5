/- spec.l6Cmd, and CmdPut of both sides as one. -/
import Derived.Test.YtccpdadabndleaaDoorCmP
namespace Go.Proofs.YtccpdadabndleaaDoor
open Go.ChangeShapes Go.WideShapes Go.ChangeAt Go.RowKit
set_option linter.unusedVariables false

theorem keep0 {w W W' : World} (h : Below w.heap.size w W) (hb : Below W.heap.size W W') : Below w.heap.size w W' := h.trans (hb.mono h.size)
set_option maxRecDepth 100000 in
set_option maxHeartbeats 4000000 in
theorem l6Cmd_any (a c so sv sb : Int) (d : ByteArray) (w : World) (hd : d.size ≤ maxLen) (ha0 : 0 ≤ a) (ha1 : a ≤ 2047) (hca : 0 ≤ c) (hcc : c ≤ 16383) (ho0 : 0 ≤ so) (ho1 : so ≤ 255) (hv0 : 0 ≤ sv) (hv1 : sv ≤ 255) (hu0 : 0 ≤ sb) (hu1 : sb ≤ 255) (hs1 : d.size ≤ 60) :
    Calls Tryd.prog 77 #[.agg #[.int .i64 a, .int .i64 c, .int .i64 so, .int .i64 sv, .int .i64 sb, .string d]] w fun e w' => e = .returned (.string (cmW (cmT a c so sv sb d))) ∧ Below w.heap.size w w' := by
  have hm := hd
  unfold maxLen at hm
  go_enter Tryd.func77, Tryd.ntmps77
  go_wp2_with fail
  have HB0 : Hid (Below w.heap.size w (w.alloc (.cells #[.int .i64 a, .int .i64 c, .int .i64 so, .int .i64 sv, .int .i64 sb, .string d] 29))) := ((Below.refl _ _).alloc (Nat.le_refl _) _)
  obtain ⟨k0, k1, k2, k3, k4, k5⟩ := cells6_of (w := (w.alloc (.cells #[.int .i64 a, .int .i64 c, .int .i64 so, .int .i64 sv, .int .i64 sb, .string d] 29))) (get_new rfl)
  generalize (w.alloc (.cells #[.int .i64 a, .int .i64 c, .int .i64 so, .int .i64 sv, .int .i64 sb, .string d] 29)) = wr at *
  have HD : Below wr.heap.size wr wr.drew ∧ wr.drew.cell? ⟨w.heap.size, 0, none⟩ = some (.int .i64 a) ∧ wr.drew.cell? ⟨w.heap.size, 1, none⟩ = some (.int .i64 c) ∧ wr.drew.cell? ⟨w.heap.size, 2, none⟩ = some (.int .i64 so) ∧ wr.drew.cell? ⟨w.heap.size, 3, none⟩ = some (.int .i64 sv) ∧ wr.drew.cell? ⟨w.heap.size, 4, none⟩ = some (.int .i64 sb) ∧ wr.drew.cell? ⟨w.heap.size, 5, none⟩ = some (.string d) := ⟨(Below.refl _ _).drew, k0, k1, k2, k3, k4, k5⟩
  have hqb : (9223372036854775807 < 4 + d.size) = False := by simp; omega
  clear k0 k1 k2 k3 k4 k5
  go_region_held2 (fun W => Below wr.heap.size wr W ∧ W.cell? ⟨w.heap.size, 0, none⟩ = some (.int .i64 a) ∧ W.cell? ⟨w.heap.size, 1, none⟩ = some (.int .i64 c) ∧ W.cell? ⟨w.heap.size, 2, none⟩ = some (.int .i64 so) ∧ W.cell? ⟨w.heap.size, 3, none⟩ = some (.int .i64 sv) ∧ W.cell? ⟨w.heap.size, 4, none⟩ = some (.int .i64 sb) ∧ W.cell? ⟨w.heap.size, 5, none⟩ = some (.string d)) (first | with_reducible assumption) ((first | (go_at_call 80; have HB := HY; clear HB; refine (l1Put1 _ _ (by omega) (by omega)).mono ?_; rintro e w8 ⟨z, HZ, rfl, hb8⟩; have HK := keepC6 (by with_reducible assumption) hb8; clear hb8) | (go_at_call 80; have HB := HX; clear HB; refine (l1Put1 _ _ (by omega) (by omega)).mono ?_; rintro e w8 ⟨y, HY, rfl, hb8⟩; have HK := keepC6 (by with_reducible assumption) hb8; clear hb8) | (go_at_call 80; refine (l1Put1 _ _ (by omega) (by omega)).mono ?_; rintro e w8 ⟨x, HX, rfl, hb8⟩; have HK := keepC6 (by with_reducible assumption) hb8; clear hb8)))
  obtain ⟨hB8, k0, k1, k2, k3, k4, k5⟩ := HK
  go_wp2_with fail
  rw [cmS_eq HX.out HY.out HZ.out]
  have hz : (cmS so sv sb d ++ ⟨#[0, 0]⟩ : ByteArray).size = 6 + d.size := by rw [ByteArray.size_append, cmS_size]; show 4 + d.size + 2 = _; omega
  have q1 : (cmS so sv sb d ++ ⟨#[0, 0]⟩ : ByteArray).size ≤ maxLen := by rw [hz]; unfold maxLen; omega
  have q2 : 1 ≤ (cmS so sv sb d ++ ⟨#[0, 0]⟩ : ByteArray).size := by rw [hz]; omega
  have q3 : (cmS so sv sb d ++ ⟨#[0, 0]⟩ : ByteArray).size ≤ 100 := by rw [hz]; omega
  have hps := pk_size (so := so) (sv := sv) (sb := sb) (d := d) ha0 ha1 hca hcc hs1
  have hcut := pk_cut (d := d) ha0 ha1 hca hcc ho0 ho1 hv0 hv1 hu0 hu1 hs1
  have hts := cmT_size (d := d) ha0 ha1 hca hcc ho0 ho1 hv0 hv1 hu0 hu1 hs1
  clear hz
  generalize (cmS so sv sb d ++ ⟨#[0, 0]⟩ : ByteArray) = D at *
  refine (l6Put_true a c D _ q1 ha0 ha1 hca hcc q2 q3).mono ?_
  rintro e w9 ⟨rfl, hb9⟩
  have HB9 : Hid (Below w.heap.size w w9) := (HB0.out.trans (hB8.mono HB0.out.size)).trans (hb9.mono (Nat.le_trans HB0.out.size hB8.size))
  generalize pkW true a c D = P at *
  generalize hT : cmT a c so sv sb d = T at *
  have HT : Hid _ := hT
  have hmx : T.size ≤ maxLen := by rw [hts]; unfold maxLen; omega
  have hcr := crc_lt T
  have e1 : (10 + d.size) = P.size - 2 := by omega
  rw [e1] at hcut
  have g1 : (2 : Int) ≤ (P.size : Int) := by omega
  have g2 : 2 ≤ P.size := by omega
  have g3 : ((P.size : Int) - 2).toNat = P.size - 2 := by omega
  have g4 : (0 : Int) ≤ (P.size : Int) - 2 := by omega
  have g5 : (P.size : Int) - 2 ≤ (P.size : Int) := by omega
  have g6 : P.size - 2 ≤ P.size := by omega
  have g7 : (P.size : Int) ≤ 1000 := by omega
  have g8 : IntKind.i64.wrap ((P.size : Int) - 2) = (P.size : Int) - 2 := wrap_id _ (by omega) (by omega)
  have hqb2 : (9223372036854775807 < T.size + 2) = False := by simp; omega
  have HCUT : Hid (P.extract 0 (P.size - 2) = T) := hcut
  clear hcut
  clear hb9 hT hps hts e1 q1 q2 q3 k0 k1 k2 k3 k4 k5 HX HY HZ
  go_wp2_with fail
  have HDb : Below w.heap.size w w9.drew := HB9.out.drew
  go_region_held2 (fun W => Below w.heap.size w W) (first | with_reducible assumption) ((first | (go_at_call 56; rw [HCUT.out]; refine (specCrc16_any T _ hmx).mono ?_; rintro e wa ⟨rfl, rfl⟩) | (go_at_call 80; refine (l1Put2 _ _ (by omega) (by omega)).mono ?_; rintro e wb ⟨x3, y3, HX3, rfl, hbb⟩; have HKb := keep0 (by with_reducible assumption) hbb; clear hbb)))
  go_wp2_with fail
  go_ret
  exact ⟨ret_str ((cmW_eq HX3.out).trans (by rw [HT.out])), HKb⟩
set_option maxHeartbeats 1000000 in
theorem specCmdPut_yes (a c so sv sb : Int) (d : ByteArray) (w : World) (hd : d.size ≤ maxLen) (h : cmOk a c so sv sb d = true) (r : ByteArray) (H : Hid (∀ W, Calls Tryd.prog 77 #[.agg #[.int .i64 a, .int .i64 c, .int .i64 so, .int .i64 sv, .int .i64 sb, .string d]] W fun e w' => e = .returned (.string r) ∧ Below W.heap.size W w')) :
    Calls Tryd.prog 30 #[.agg #[.int .i64 a, .int .i64 c, .int .i64 so, .int .i64 sv, .int .i64 sb, .string d]] w fun e w' => e = .returned (.string r) ∧ Below w.heap.size w w' := by
  have HS : Hid (Below (w.heap.size + 1) (w.alloc (.cells #[.int .i64 a, .int .i64 c, .int .i64 so, .int .i64 sv, .int .i64 sb, .string d] 29)) (w.alloc (.cells #[.int .i64 a, .int .i64 c, .int .i64 so, .int .i64 sv, .int .i64 sb, .string d] 29))) := Below.refl _ _
  go_enter Tryd.func30, Tryd.ntmps30
  go_wp2_with fail
  refine (specCmdOk_any _ _ _ _ _ _ _ hd).mono ?_
  rintro e w1 ⟨rfl, hb1⟩
  have HS : Hid (Below (w.heap.size + 1) (w.alloc (.cells #[.int .i64 a, .int .i64 c, .int .i64 so, .int .i64 sv, .int .i64 sb, .string d] 29)) w1) := (by first | exact hidA HS hb1 | exact hidB HS hb1)
  obtain ⟨hc1, hf1⟩ := bk HS.out
  clear hb1
  go_wp2_with fail
  refine (H.out _).mono ?_
  rintro e w2 ⟨rfl, hb2⟩
  have HS : Hid (Below (w.heap.size + 1) (w.alloc (.cells #[.int .i64 a, .int .i64 c, .int .i64 so, .int .i64 sv, .int .i64 sb, .string d] 29)) w2) := (by first | exact hidA HS hb2 | exact hidB HS hb2)
  obtain ⟨hc2, hf2⟩ := bk HS.out
  clear hb2
  try clear hc1 hf1
  go_wp2_with fail
  go_ret
  exact ⟨rfl, ((Below.refl _ _).alloc (Nat.le_refl _) _).trans (HS.out.mono (by omega))⟩
def cmPut (a c so sv sb : Int) (d : ByteArray) : ByteArray := if cmOk a c so sv sb d = true then cmW (cmT a c so sv sb d) else ⟨#[]⟩
theorem implCmdPut_any (a c so sv sb : Int) (d : ByteArray) (w : World) (hd : d.size ≤ maxLen) :
    Calls Tryd.prog 29 #[.agg #[.int .i64 a, .int .i64 c, .int .i64 so, .int .i64 sv, .int .i64 sb, .string d]] w fun e w' => e = .returned (.string (cmPut a c so sv sb d)) ∧ Below w.heap.size w w' := by
  unfold cmPut
  cases h : cmOk a c so sv sb d
  · rw [if_neg (by decide)]; exact implCmdPut_no a c so sv sb d w hd h
  · rw [if_pos rfl]
    obtain ⟨h0, h1, h2, h3, h4, h5, h6, h7, h8, h9, h10⟩ := cmOk_all h
    exact implCmdPut_yes a c so sv sb d w hd h h0 h1 h2 h3 h4 h5 h6 h7 h8 h9 h10
theorem specCmdPut_any (a c so sv sb : Int) (d : ByteArray) (w : World) (hd : d.size ≤ maxLen) :
    Calls Tryd.prog 30 #[.agg #[.int .i64 a, .int .i64 c, .int .i64 so, .int .i64 sv, .int .i64 sb, .string d]] w fun e w' => e = .returned (.string (cmPut a c so sv sb d)) ∧ Below w.heap.size w w' := by
  unfold cmPut
  cases h : cmOk a c so sv sb d
  · rw [if_neg (by decide)]; exact specCmdPut_no a c so sv sb d w hd h
  · rw [if_pos rfl]
    obtain ⟨h0, h1, h2, h3, h4, h5, h6, h7, h8, h9, h10⟩ := cmOk_all h
    exact specCmdPut_yes a c so sv sb d w hd h _ (fun W => l6Cmd_any a c so sv sb d W hd h0 h1 h2 h3 h4 h5 h6 h7 h8 h9 h10)
end Go.Proofs.YtccpdadabndleaaDoor
