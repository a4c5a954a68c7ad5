/- The contracts of spec.l6Put and spec.PacketPut; both sides' PacketPut as one. -/
import Derived.Test.YtgejiiaocgacmaaDoorPkP
import Derived.Test.YtgejiiaocgacmaaDoorKeep4
namespace Go.Proofs.YtgejiiaocgacmaaDoor
open Go.ChangeShapes Go.WideShapes Go.ChangeAt Go.RowKit
set_option linter.unusedVariables false

set_option maxRecDepth 100000 in
set_option maxHeartbeats 4000000 in
theorem l6Put_true (a c : Int) (d : ByteArray) (w : World) (hd : d.size ≤ maxLen) (ha0 : 0 ≤ a) (ha1 : a ≤ 2047) (hc0 : 0 ≤ c) (hc1 : c ≤ 16383) (hs0 : 1 ≤ d.size) (hs1 : d.size ≤ 100) :
    Calls Tryd.prog 115 #[.agg #[.bool true, .int .i64 a, .int .i64 c, .string d]] w fun e w' => e = .returned (.string (pkW true a c d)) ∧ Below w.heap.size w w' := by
  have hm := hd
  unfold maxLen at hm
  go_enter Tryd.func115, Tryd.ntmps115
  go_wp2_with fail
  have HB0 : Hid (Below w.heap.size w (w.alloc (.cells #[.bool true, .int .i64 a, .int .i64 c, .string d] 79))) := ((Below.refl _ _).alloc (Nat.le_refl _) _)
  obtain ⟨k0, k1, k2, k3⟩ := cells4_of (w := (w.alloc (.cells #[.bool true, .int .i64 a, .int .i64 c, .string d] 79))) (get_new rfl)
  generalize (w.alloc (.cells #[.bool true, .int .i64 a, .int .i64 c, .string d] 79)) = wr at *
  have HD : Below wr.heap.size wr wr.drew ∧ wr.drew.cell? ⟨w.heap.size, 0, none⟩ = some (.bool true) ∧ wr.drew.cell? ⟨w.heap.size, 1, none⟩ = some (.int .i64 a) ∧ wr.drew.cell? ⟨w.heap.size, 2, none⟩ = some (.int .i64 c) ∧ wr.drew.cell? ⟨w.heap.size, 3, none⟩ = some (.string d) := ⟨(Below.refl _ _).drew, k0, k1, k2, k3⟩
  have hqb : (9223372036854775807 < 6 + d.size) = False := by simp; omega
  clear k0 k1 k2 k3
  go_region_held2 (fun W => Below wr.heap.size wr W ∧ W.cell? ⟨w.heap.size, 0, none⟩ = some (.bool true) ∧ W.cell? ⟨w.heap.size, 1, none⟩ = some (.int .i64 a) ∧ W.cell? ⟨w.heap.size, 2, none⟩ = some (.int .i64 c) ∧ W.cell? ⟨w.heap.size, 3, none⟩ = some (.string d)) (first | with_reducible assumption) ((first | (go_at_call 130; refine (l3Flag_if _ _).mono ?_; rintro e w8 ⟨rfl, rfl⟩) | (go_at_call 71; have HB := HX2; clear HB; (try simp (discharger := omega) only [wrap_id]); refine (l1Put2 _ _ (by omega) (by omega)).mono ?_; rintro e w8 ⟨x3, y3, HX3, rfl, hb8⟩; have HK := keepC4 (by with_reducible assumption) hb8; clear hb8) | (go_at_call 71; have HB := HX1; clear HB; (try simp (discharger := omega) only [wrap_id]); refine (l1Put2 _ _ (by omega) (by omega)).mono ?_; rintro e w8 ⟨x2, y2, HX2, rfl, hb8⟩; have HK := keepC4 (by with_reducible assumption) hb8; clear hb8) | (go_at_call 71; (try simp (discharger := omega) only [wrap_id]); refine (l1Put2 _ _ (by omega) (by omega)).mono ?_; rintro e w8 ⟨x1, y1, HX1, rfl, hb8⟩; have HK := keepC4 (by with_reducible assumption) hb8; clear hb8)))
  go_wp2_with fail
  go_ret
  exact ⟨ret_str (pk_eq HX1.out HX2.out HX3.out (by simp only [mkB]; simp <;> omega) (by omega) (by omega) (by omega) (by omega) (by omega)), HB0.out.trans (HK.1.mono HB0.out.size)⟩
set_option maxRecDepth 100000 in
set_option maxHeartbeats 4000000 in
theorem l6Put_false (a c : Int) (d : ByteArray) (w : World) (hd : d.size ≤ maxLen) (ha0 : 0 ≤ a) (ha1 : a ≤ 2047) (hc0 : 0 ≤ c) (hc1 : c ≤ 16383) (hs0 : 1 ≤ d.size) (hs1 : d.size ≤ 100) :
    Calls Tryd.prog 115 #[.agg #[.bool false, .int .i64 a, .int .i64 c, .string d]] w fun e w' => e = .returned (.string (pkW false a c d)) ∧ Below w.heap.size w w' := by
  have hm := hd
  unfold maxLen at hm
  go_enter Tryd.func115, Tryd.ntmps115
  go_wp2_with fail
  have HB0 : Hid (Below w.heap.size w (w.alloc (.cells #[.bool false, .int .i64 a, .int .i64 c, .string d] 79))) := ((Below.refl _ _).alloc (Nat.le_refl _) _)
  obtain ⟨k0, k1, k2, k3⟩ := cells4_of (w := (w.alloc (.cells #[.bool false, .int .i64 a, .int .i64 c, .string d] 79))) (get_new rfl)
  generalize (w.alloc (.cells #[.bool false, .int .i64 a, .int .i64 c, .string d] 79)) = wr at *
  have HD : Below wr.heap.size wr wr.drew ∧ wr.drew.cell? ⟨w.heap.size, 0, none⟩ = some (.bool false) ∧ wr.drew.cell? ⟨w.heap.size, 1, none⟩ = some (.int .i64 a) ∧ wr.drew.cell? ⟨w.heap.size, 2, none⟩ = some (.int .i64 c) ∧ wr.drew.cell? ⟨w.heap.size, 3, none⟩ = some (.string d) := ⟨(Below.refl _ _).drew, k0, k1, k2, k3⟩
  have hqb : (9223372036854775807 < 6 + d.size) = False := by simp; omega
  clear k0 k1 k2 k3
  go_region_held2 (fun W => Below wr.heap.size wr W ∧ W.cell? ⟨w.heap.size, 0, none⟩ = some (.bool false) ∧ W.cell? ⟨w.heap.size, 1, none⟩ = some (.int .i64 a) ∧ W.cell? ⟨w.heap.size, 2, none⟩ = some (.int .i64 c) ∧ W.cell? ⟨w.heap.size, 3, none⟩ = some (.string d)) (first | with_reducible assumption) ((first | (go_at_call 130; refine (l3Flag_if _ _).mono ?_; rintro e w8 ⟨rfl, rfl⟩) | (go_at_call 71; have HB := HX2; clear HB; (try simp (discharger := omega) only [wrap_id]); refine (l1Put2 _ _ (by omega) (by omega)).mono ?_; rintro e w8 ⟨x3, y3, HX3, rfl, hb8⟩; have HK := keepC4 (by with_reducible assumption) hb8; clear hb8) | (go_at_call 71; have HB := HX1; clear HB; (try simp (discharger := omega) only [wrap_id]); refine (l1Put2 _ _ (by omega) (by omega)).mono ?_; rintro e w8 ⟨x2, y2, HX2, rfl, hb8⟩; have HK := keepC4 (by with_reducible assumption) hb8; clear hb8) | (go_at_call 71; (try simp (discharger := omega) only [wrap_id]); refine (l1Put2 _ _ (by omega) (by omega)).mono ?_; rintro e w8 ⟨x1, y1, HX1, rfl, hb8⟩; have HK := keepC4 (by with_reducible assumption) hb8; clear hb8)))
  go_wp2_with fail
  go_ret
  exact ⟨ret_str (pk_eq HX1.out HX2.out HX3.out (by simp only [mkB]; simp <;> omega) (by omega) (by omega) (by omega) (by omega) (by omega)), HB0.out.trans (HK.1.mono HB0.out.size)⟩
set_option maxHeartbeats 1000000 in
theorem specPacketPut_no (u : Bool) (a c : Int) (d : ByteArray) (w : World) (hd : d.size ≤ maxLen) (h : pkOk a c d = false) :
    Calls Tryd.prog 142 #[.agg #[.bool u, .int .i64 a, .int .i64 c, .string d]] w fun e w' => e = .returned (.string ⟨#[]⟩) ∧ Below w.heap.size w w' := by
  have HS : Hid (Below (w.heap.size + 1) (w.alloc (.cells #[.bool u, .int .i64 a, .int .i64 c, .string d] 79)) (w.alloc (.cells #[.bool u, .int .i64 a, .int .i64 c, .string d] 79))) := Below.refl _ _
  go_enter Tryd.func142, Tryd.ntmps142
  go_wp2_with fail
  refine (specPackOk_any _ _ _ _ _ hd).mono ?_
  rintro e w1 ⟨rfl, hb1⟩
  have HS : Hid (Below (w.heap.size + 1) (w.alloc (.cells #[.bool u, .int .i64 a, .int .i64 c, .string d] 79)) w1) := (by first | exact hidA HS hb1 | exact hidB HS hb1)
  obtain ⟨hc1, hf1⟩ := bk HS.out
  clear hb1
  go_wp2_with fail
  go_ret
  exact ⟨rfl, ((Below.refl _ _).alloc (Nat.le_refl _) _).trans (HS.out.mono (by omega))⟩
set_option maxHeartbeats 1000000 in
theorem specPacketPut_yes (u : Bool) (a c : Int) (d : ByteArray) (w : World) (hd : d.size ≤ maxLen) (h : pkOk a c d = true) (r : ByteArray) (H : Hid (∀ W, Calls Tryd.prog 115 #[.agg #[.bool u, .int .i64 a, .int .i64 c, .string d]] W fun e w' => e = .returned (.string r) ∧ Below W.heap.size W w')) :
    Calls Tryd.prog 142 #[.agg #[.bool u, .int .i64 a, .int .i64 c, .string d]] w fun e w' => e = .returned (.string r) ∧ Below w.heap.size w w' := by
  have HS : Hid (Below (w.heap.size + 1) (w.alloc (.cells #[.bool u, .int .i64 a, .int .i64 c, .string d] 79)) (w.alloc (.cells #[.bool u, .int .i64 a, .int .i64 c, .string d] 79))) := Below.refl _ _
  go_enter Tryd.func142, Tryd.ntmps142
  go_wp2_with fail
  refine (specPackOk_any _ _ _ _ _ hd).mono ?_
  rintro e w1 ⟨rfl, hb1⟩
  have HS : Hid (Below (w.heap.size + 1) (w.alloc (.cells #[.bool u, .int .i64 a, .int .i64 c, .string d] 79)) w1) := (by first | exact hidA HS hb1 | exact hidB HS hb1)
  obtain ⟨hc1, hf1⟩ := bk HS.out
  clear hb1
  go_wp2_with fail
  refine (H.out _).mono ?_
  rintro e w2 ⟨rfl, hb2⟩
  have HS : Hid (Below (w.heap.size + 1) (w.alloc (.cells #[.bool u, .int .i64 a, .int .i64 c, .string d] 79)) w2) := (by first | exact hidA HS hb2 | exact hidB HS hb2)
  obtain ⟨hc2, hf2⟩ := bk HS.out
  clear hb2
  try clear hc1 hf1
  go_wp2_with fail
  go_ret
  exact ⟨rfl, ((Below.refl _ _).alloc (Nat.le_refl _) _).trans (HS.out.mono (by omega))⟩
def pkPut (u : Bool) (a c : Int) (d : ByteArray) : ByteArray := if pkOk a c d = true then pkW u a c d else ⟨#[]⟩
theorem implPacketPut_any (u : Bool) (a c : Int) (d : ByteArray) (w : World) (hd : d.size ≤ maxLen) :
    Calls Tryd.prog 107 #[.agg #[.bool u, .int .i64 a, .int .i64 c, .string d]] w fun e w' => e = .returned (.string (pkPut u a c d)) ∧ Below w.heap.size w w' := by
  unfold pkPut
  cases h : pkOk a c d
  · rw [if_neg (by decide)]; exact implPacketPut_no u a c d w hd h
  · rw [if_pos rfl]
    obtain ⟨h0, h1, h2, h3, h4, h5⟩ := pkOk_all h
    cases u
    · exact implPacketPut_false a c d w hd h h0 h1 h2 h3 h4 h5
    · exact implPacketPut_true a c d w hd h h0 h1 h2 h3 h4 h5
theorem specPacketPut_any (u : Bool) (a c : Int) (d : ByteArray) (w : World) (hd : d.size ≤ maxLen) :
    Calls Tryd.prog 142 #[.agg #[.bool u, .int .i64 a, .int .i64 c, .string d]] w fun e w' => e = .returned (.string (pkPut u a c d)) ∧ Below w.heap.size w w' := by
  unfold pkPut
  cases h : pkOk a c d
  · rw [if_neg (by decide)]; exact specPacketPut_no u a c d w hd h
  · rw [if_pos rfl]
    obtain ⟨h0, h1, h2, h3, h4, h5⟩ := pkOk_all h
    cases u
    · exact specPacketPut_yes false a c d w hd h _ (fun W => l6Put_false a c d W hd h0 h1 h2 h3 h4 h5)
    · exact specPacketPut_yes true a c d w hd h _ (fun W => l6Put_true a c d W hd h0 h1 h2 h3 h4 h5)
end Go.Proofs.YtgejiiaocgacmaaDoor
