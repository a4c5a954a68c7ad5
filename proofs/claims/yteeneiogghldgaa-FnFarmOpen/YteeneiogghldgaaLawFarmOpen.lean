/- Proved: laws.FnFarmOpen returns true at every two slices of bytes (who opens all again changes nothing of what is next), and leaves them as they were. No condition. -/
import Derived.Test.YteeneiogghldgaaDrawO
import Derived.Test.YteeneiogghldgaaFaL
import Derived.Test.YteeneiogghldgaaFarmO
import Derived.Deep.RegionHeld2
import Derived.Deep.RegionWith
namespace Go.Proofs.Yteeneiogghldgaa
open Go.ChangeShapes Go.WideShapes Go.ChangeAt Go.RowKit
set_option linter.unusedVariables false

open Go.ChangeMaps (open_string shut_string)
theorem open_no (c v : Int) (w : World) (h : govB c v ⟨#[0]⟩ = false) : Calls Try.prog 20 #[.int .i64 c, .int .i64 v] w fun e w' => e = .returned (.agg #[.bool false, .bool false, .int .i64 0, .int .i64 0, .int .i64 0, .string ⟨#[]⟩]) ∧ Below w.heap.size w w' := by
  have := specFarmOpen_any c v w
  rw [govV_no h] at this
  exact this
theorem open_yes (c v : Int) (w : World) (h : govB c v ⟨#[0]⟩ = true) : Calls Try.prog 20 #[.int .i64 c, .int .i64 v] w fun e w' => e = .returned (.agg #[.bool true, .bool true, .int .i64 c, .int .i64 v, .int .i64 0, .string ⟨#[0]⟩]) ∧ Below w.heap.size w w' := by
  have := specFarmOpen_any c v w
  rw [govV_yes h] at this
  exact this
theorem specFrameOk_is (p g : Bool) (c v q : Int) (d : ByteArray) (w : World) (hd : d.size ≤ maxLen) (b : Bool) (h : frOk p g c v q d = b) :
    Calls Try.prog 21 #[.agg #[.bool p, .bool g, .int .i64 c, .int .i64 v, .int .i64 q, .string d]] w fun e w' => e = .returned (.bool b) ∧ Below w.heap.size w w' := by
  subst h; exact specFrameOk_any p g c v q d w hd
theorem specFarmOk_is (s wt ag : Bool) (c n : Int) (w : World) (b : Bool) (h : faOk wt ag c n = b) :
    Calls Try.prog 22 #[.agg #[.bool s, .bool wt, .bool ag, .int .i64 c, .int .i64 n]] w fun e w' => e = .returned (.bool b) ∧ Below w.heap.size w w' := by
  subst h; exact specFarmOk_any s wt ag c n w
theorem frZero : frOk false false 0 0 0 ⟨#[]⟩ = false := by
  unfold frOk; rw [show (⟨#[]⟩ : ByteArray).size = 0 from rfl]; decide
theorem emptyLen : (⟨#[]⟩ : ByteArray).size ≤ maxLen := by show 0 ≤ maxLen; unfold maxLen; omega
set_option maxRecDepth 100000 in
set_option maxHeartbeats 4000000 in
theorem FnFarmOpen_walk (a : Option Addr) (len cap : Nat) (zs : List Int) (a1 : Option Addr) (len1 cap1 : Nat) (zs1 : List Int) (w : World) (h : IsRow .u8 w a len cap zs) (h1 : IsRow .u8 w a1 len1 cap1 zs1) :
    Calls Try.prog 4 #[.slice a len cap, .slice a1 len1 cap1] w fun e w' => e = .returned (.bool true) ∧ Below w.heap.size w w' := by
  have H : Hid _ := h
  have H1 : Hid _ := h1
  clear h h1
  by_cases hbig : 1048576 < (len : Int)
  · go_enter Try.func4, Try.ntmps4
    go_wp2_with fail
    go_ret
    exact ⟨rfl, Below.refl _ _⟩
  by_cases hbig1 : 1048576 < (len1 : Int)
  · go_enter Try.func4, Try.ntmps4
    go_wp2_with fail
    go_ret
    exact ⟨rfl, Below.refl _ _⟩
  go_enter Try.func4, Try.ntmps4
  go_wp2_with fail
  refine (DrawFarmOpen_any a len cap zs _ H.out).mono ?_
  rintro e w1 ⟨cr, v, rfl, hb1⟩
  have HB1 : Hid (Below w.heap.size w w1) := hb1
  have HR1 : Hid (IsRow .u8 w1 a1 len1 cap1 zs1) := IsRow.keep H1.out hb1
  clear hb1
  go_wp2_with fail
  refine (DrawFarmOk_any a1 len1 cap1 zs1 _ HR1.out).mono ?_
  rintro e w2 ⟨s, wt, ag, c, n, hn0, hn1, rfl, hb2⟩
  have HB2 : Hid (Below w.heap.size w w2) := HB1.out.trans (hb2.mono HB1.out.size)
  clear hb2
  go_wp2_with fail
  cases h0 : govB cr v ⟨#[0]⟩
  · have H0 : Hid _ := h0
    clear h0
    have HZ : Hid _ := frZero
    have he := emptyLen
    refine (implFarmOpen_any _ _ _).mono ?_
    rintro e w3 ⟨rfl, hb3⟩
    rw [govV_no H0.out]
    have hGf : w3.heap[w2.heap.size]? = some (.cells #[.bool s, .bool wt, .bool ag, .int .i64 c, .int .i64 n] 27) := get_below hb3 (get_new rfl) (by simp)
    have HB3 : Hid (Below w.heap.size w (w3.alloc (.cells #[.bool false, .bool false, .int .i64 0, .int .i64 0, .int .i64 0, .string ⟨#[]⟩] 31))) := ((HB2.out.alloc HB2.out.size _).trans (hb3.mono (by have := HB2.out.size; simp; omega))).alloc (by have := HB2.out.size; have := hb3.size; simp at this; omega) _
    have hGf2 : (w3.alloc (.cells #[.bool false, .bool false, .int .i64 0, .int .i64 0, .int .i64 0, .string ⟨#[]⟩] 31)).heap[w2.heap.size]? = some (.cells #[.bool s, .bool wt, .bool ag, .int .i64 c, .int .i64 n] 27) := get_alloc hGf (size_of_get hGf)
    have hGx2 : (w3.alloc (.cells #[.bool false, .bool false, .int .i64 0, .int .i64 0, .int .i64 0, .string ⟨#[]⟩] 31)).heap[w3.heap.size]? = some (.cells #[.bool false, .bool false, .int .i64 0, .int .i64 0, .int .i64 0, .string ⟨#[]⟩] 31) := get_new rfl
    clear hGf hb3
    go_wp2_with fail
    generalize (w3.alloc (.cells #[.bool false, .bool false, .int .i64 0, .int .i64 0, .int .i64 0, .string ⟨#[]⟩] 31)) = wr at *
    obtain ⟨k0, k1, k2, k3, k4⟩ := cells5_of hGf2
    obtain ⟨j0, j1, j2, j3, j4, j5⟩ := cells6_of hGx2
    have HDwa : Below wr.heap.size wr wr.drew ∧ wr.drew.cell? ⟨w2.heap.size, 0, none⟩ = some (.bool s) ∧ wr.drew.cell? ⟨w2.heap.size, 1, none⟩ = some (.bool wt) ∧ wr.drew.cell? ⟨w2.heap.size, 2, none⟩ = some (.bool ag) ∧ wr.drew.cell? ⟨w2.heap.size, 3, none⟩ = some (.int .i64 c) ∧ wr.drew.cell? ⟨w2.heap.size, 4, none⟩ = some (.int .i64 n) ∧ wr.drew.cell? ⟨w3.heap.size, 0, none⟩ = some (.bool false) ∧ wr.drew.cell? ⟨w3.heap.size, 1, none⟩ = some (.bool false) ∧ wr.drew.cell? ⟨w3.heap.size, 2, none⟩ = some (.int .i64 0) ∧ wr.drew.cell? ⟨w3.heap.size, 3, none⟩ = some (.int .i64 0) ∧ wr.drew.cell? ⟨w3.heap.size, 4, none⟩ = some (.int .i64 0) ∧ wr.drew.cell? ⟨w3.heap.size, 5, none⟩ = some (.string ⟨#[]⟩) := ⟨(Below.refl _ _).drew, k0, k1, k2, k3, k4, j0, j1, j2, j3, j4, j5⟩
    go_region_with ((first | (go_at_call 20; refine (open_no _ _ _ H0.out).mono ?_; rintro e wa ⟨rfl, hb8⟩; have HKa := keepC11 (by with_reducible assumption) hb8; clear hb8; have HKs := HKa; obtain ⟨hBs, q0, q1, q2, q3, q4, q5, q6, q7, q8, q9, q10⟩ := HKs; clear hBs) | (go_at_call 21; refine (specFrameOk_is _ _ _ _ _ _ _ he false HZ.out).mono ?_; rintro e wa ⟨rfl, hb8⟩; have HKa := keepC11 (by with_reducible assumption) hb8; clear hb8; have HKs := HKa; obtain ⟨hBs, q0, q1, q2, q3, q4, q5, q6, q7, q8, q9, q10⟩ := HKs; clear hBs)))
    all_goals
      clear k0 k1 k2 k3 k4 j0 j1 j2 j3 j4 j5
      go_wp2_with fail
      obtain ⟨hBa, k0, k1, k2, k3, k4, j0, j1, j2, j3, j4, j5⟩ := HKa
      have HDwb : Below wa.heap.size wa wa.drew ∧ wa.drew.cell? ⟨w2.heap.size, 0, none⟩ = some (.bool s) ∧ wa.drew.cell? ⟨w2.heap.size, 1, none⟩ = some (.bool wt) ∧ wa.drew.cell? ⟨w2.heap.size, 2, none⟩ = some (.bool ag) ∧ wa.drew.cell? ⟨w2.heap.size, 3, none⟩ = some (.int .i64 c) ∧ wa.drew.cell? ⟨w2.heap.size, 4, none⟩ = some (.int .i64 n) ∧ wa.drew.cell? ⟨w3.heap.size, 0, none⟩ = some (.bool false) ∧ wa.drew.cell? ⟨w3.heap.size, 1, none⟩ = some (.bool false) ∧ wa.drew.cell? ⟨w3.heap.size, 2, none⟩ = some (.int .i64 0) ∧ wa.drew.cell? ⟨w3.heap.size, 3, none⟩ = some (.int .i64 0) ∧ wa.drew.cell? ⟨w3.heap.size, 4, none⟩ = some (.int .i64 0) ∧ wa.drew.cell? ⟨w3.heap.size, 5, none⟩ = some (.string ⟨#[]⟩) := ⟨(Below.refl _ _).drew, k0, k1, k2, k3, k4, j0, j1, j2, j3, j4, j5⟩
      clear k0 k1 k2 k3 k4 j0 j1 j2 j3 j4 j5
      go_region_held2 (fun W => Below wa.heap.size wa W ∧ W.cell? ⟨w2.heap.size, 0, none⟩ = some (.bool s) ∧ W.cell? ⟨w2.heap.size, 1, none⟩ = some (.bool wt) ∧ W.cell? ⟨w2.heap.size, 2, none⟩ = some (.bool ag) ∧ W.cell? ⟨w2.heap.size, 3, none⟩ = some (.int .i64 c) ∧ W.cell? ⟨w2.heap.size, 4, none⟩ = some (.int .i64 n) ∧ W.cell? ⟨w3.heap.size, 0, none⟩ = some (.bool false) ∧ W.cell? ⟨w3.heap.size, 1, none⟩ = some (.bool false) ∧ W.cell? ⟨w3.heap.size, 2, none⟩ = some (.int .i64 0) ∧ W.cell? ⟨w3.heap.size, 3, none⟩ = some (.int .i64 0) ∧ W.cell? ⟨w3.heap.size, 4, none⟩ = some (.int .i64 0) ∧ W.cell? ⟨w3.heap.size, 5, none⟩ = some (.string ⟨#[]⟩)) (first | with_reducible assumption) ((first | (go_at_call 20; refine (open_no _ _ _ H0.out).mono ?_; rintro e wb ⟨rfl, hb8⟩; have HKb := keepC11 (by with_reducible assumption) hb8; clear hb8)))
      go_wp2_with fail
      go_ret
      exact ⟨rfl, (HB3.out.trans (hBa.mono HB3.out.size)).trans (HKb.1.mono (Nat.le_trans HB3.out.size hBa.size))⟩
  · have H0 : Hid _ := h0
    have HZ : Hid (frOk true true cr v 0 ⟨#[0]⟩ = true) := h0
    clear h0
    have he := zero_len
    cases hf : faOk wt ag c n
    · have HF : Hid _ := hf
      clear hf
      refine (implFarmOpen_any _ _ _).mono ?_
      rintro e w3 ⟨rfl, hb3⟩
      rw [govV_yes H0.out]
      have hGf : w3.heap[w2.heap.size]? = some (.cells #[.bool s, .bool wt, .bool ag, .int .i64 c, .int .i64 n] 27) := get_below hb3 (get_new rfl) (by simp)
      have HB3 : Hid (Below w.heap.size w (w3.alloc (.cells #[.bool true, .bool true, .int .i64 cr, .int .i64 v, .int .i64 0, .string ⟨#[0]⟩] 31))) := ((HB2.out.alloc HB2.out.size _).trans (hb3.mono (by have := HB2.out.size; simp; omega))).alloc (by have := HB2.out.size; have := hb3.size; simp at this; omega) _
      have hGf2 : (w3.alloc (.cells #[.bool true, .bool true, .int .i64 cr, .int .i64 v, .int .i64 0, .string ⟨#[0]⟩] 31)).heap[w2.heap.size]? = some (.cells #[.bool s, .bool wt, .bool ag, .int .i64 c, .int .i64 n] 27) := get_alloc hGf (size_of_get hGf)
      have hGx2 : (w3.alloc (.cells #[.bool true, .bool true, .int .i64 cr, .int .i64 v, .int .i64 0, .string ⟨#[0]⟩] 31)).heap[w3.heap.size]? = some (.cells #[.bool true, .bool true, .int .i64 cr, .int .i64 v, .int .i64 0, .string ⟨#[0]⟩] 31) := get_new rfl
      clear hGf hb3
      go_wp2_with fail
      generalize (w3.alloc (.cells #[.bool true, .bool true, .int .i64 cr, .int .i64 v, .int .i64 0, .string ⟨#[0]⟩] 31)) = wr at *
      obtain ⟨k0, k1, k2, k3, k4⟩ := cells5_of hGf2
      obtain ⟨j0, j1, j2, j3, j4, j5⟩ := cells6_of hGx2
      have HDwa : Below wr.heap.size wr wr.drew ∧ wr.drew.cell? ⟨w2.heap.size, 0, none⟩ = some (.bool s) ∧ wr.drew.cell? ⟨w2.heap.size, 1, none⟩ = some (.bool wt) ∧ wr.drew.cell? ⟨w2.heap.size, 2, none⟩ = some (.bool ag) ∧ wr.drew.cell? ⟨w2.heap.size, 3, none⟩ = some (.int .i64 c) ∧ wr.drew.cell? ⟨w2.heap.size, 4, none⟩ = some (.int .i64 n) ∧ wr.drew.cell? ⟨w3.heap.size, 0, none⟩ = some (.bool true) ∧ wr.drew.cell? ⟨w3.heap.size, 1, none⟩ = some (.bool true) ∧ wr.drew.cell? ⟨w3.heap.size, 2, none⟩ = some (.int .i64 cr) ∧ wr.drew.cell? ⟨w3.heap.size, 3, none⟩ = some (.int .i64 v) ∧ wr.drew.cell? ⟨w3.heap.size, 4, none⟩ = some (.int .i64 0) ∧ wr.drew.cell? ⟨w3.heap.size, 5, none⟩ = some (.string ⟨#[0]⟩) := ⟨(Below.refl _ _).drew, k0, k1, k2, k3, k4, j0, j1, j2, j3, j4, j5⟩
      clear k0 k1 k2 k3 k4 j0 j1 j2 j3 j4 j5
      go_region_held2 (fun W => Below wr.heap.size wr W ∧ W.cell? ⟨w2.heap.size, 0, none⟩ = some (.bool s) ∧ W.cell? ⟨w2.heap.size, 1, none⟩ = some (.bool wt) ∧ W.cell? ⟨w2.heap.size, 2, none⟩ = some (.bool ag) ∧ W.cell? ⟨w2.heap.size, 3, none⟩ = some (.int .i64 c) ∧ W.cell? ⟨w2.heap.size, 4, none⟩ = some (.int .i64 n) ∧ W.cell? ⟨w3.heap.size, 0, none⟩ = some (.bool true) ∧ W.cell? ⟨w3.heap.size, 1, none⟩ = some (.bool true) ∧ W.cell? ⟨w3.heap.size, 2, none⟩ = some (.int .i64 cr) ∧ W.cell? ⟨w3.heap.size, 3, none⟩ = some (.int .i64 v) ∧ W.cell? ⟨w3.heap.size, 4, none⟩ = some (.int .i64 0) ∧ W.cell? ⟨w3.heap.size, 5, none⟩ = some (.string ⟨#[0]⟩)) (first | with_reducible assumption) ((first | (go_at_call 20; refine (open_yes _ _ _ H0.out).mono ?_; rintro e wa ⟨rfl, hb8⟩; have HKa := keepC11 (by with_reducible assumption) hb8; clear hb8) | (go_at_call 21; refine (specFrameOk_is _ _ _ _ _ _ _ he true HZ.out).mono ?_; rintro e wa ⟨rfl, hb8⟩; have HKa := keepC11 (by with_reducible assumption) hb8; clear hb8) | (go_at_call 22; refine (specFarmOk_is _ _ _ _ _ _ false HF.out).mono ?_; rintro e wa ⟨rfl, hb8⟩; have HKa := keepC11 (by with_reducible assumption) hb8; clear hb8)))
      go_wp2_with fail
      obtain ⟨hBa, k0, k1, k2, k3, k4, j0, j1, j2, j3, j4, j5⟩ := HKa
      have HDwb : Below wa.heap.size wa wa.drew ∧ wa.drew.cell? ⟨w2.heap.size, 0, none⟩ = some (.bool s) ∧ wa.drew.cell? ⟨w2.heap.size, 1, none⟩ = some (.bool wt) ∧ wa.drew.cell? ⟨w2.heap.size, 2, none⟩ = some (.bool ag) ∧ wa.drew.cell? ⟨w2.heap.size, 3, none⟩ = some (.int .i64 c) ∧ wa.drew.cell? ⟨w2.heap.size, 4, none⟩ = some (.int .i64 n) ∧ wa.drew.cell? ⟨w3.heap.size, 0, none⟩ = some (.bool true) ∧ wa.drew.cell? ⟨w3.heap.size, 1, none⟩ = some (.bool true) ∧ wa.drew.cell? ⟨w3.heap.size, 2, none⟩ = some (.int .i64 cr) ∧ wa.drew.cell? ⟨w3.heap.size, 3, none⟩ = some (.int .i64 v) ∧ wa.drew.cell? ⟨w3.heap.size, 4, none⟩ = some (.int .i64 0) ∧ wa.drew.cell? ⟨w3.heap.size, 5, none⟩ = some (.string ⟨#[0]⟩) := ⟨(Below.refl _ _).drew, k0, k1, k2, k3, k4, j0, j1, j2, j3, j4, j5⟩
      clear k0 k1 k2 k3 k4 j0 j1 j2 j3 j4 j5
      go_region_held2 (fun W => Below wa.heap.size wa W ∧ W.cell? ⟨w2.heap.size, 0, none⟩ = some (.bool s) ∧ W.cell? ⟨w2.heap.size, 1, none⟩ = some (.bool wt) ∧ W.cell? ⟨w2.heap.size, 2, none⟩ = some (.bool ag) ∧ W.cell? ⟨w2.heap.size, 3, none⟩ = some (.int .i64 c) ∧ W.cell? ⟨w2.heap.size, 4, none⟩ = some (.int .i64 n) ∧ W.cell? ⟨w3.heap.size, 0, none⟩ = some (.bool true) ∧ W.cell? ⟨w3.heap.size, 1, none⟩ = some (.bool true) ∧ W.cell? ⟨w3.heap.size, 2, none⟩ = some (.int .i64 cr) ∧ W.cell? ⟨w3.heap.size, 3, none⟩ = some (.int .i64 v) ∧ W.cell? ⟨w3.heap.size, 4, none⟩ = some (.int .i64 0) ∧ W.cell? ⟨w3.heap.size, 5, none⟩ = some (.string ⟨#[0]⟩)) (first | with_reducible assumption) ((first | (go_at_call 20; refine (open_yes _ _ _ H0.out).mono ?_; rintro e wb ⟨rfl, hb8⟩; have HKb := keepC11 (by with_reducible assumption) hb8; clear hb8)))
      go_wp2_with fail
      go_ret
      exact ⟨rfl, (HB3.out.trans (hBa.mono HB3.out.size)).trans (HKb.1.mono (Nat.le_trans HB3.out.size hBa.size))⟩
    · have HF : Hid _ := hf
      clear hf
      refine (implFarmOpen_any _ _ _).mono ?_
      rintro e w3 ⟨rfl, hb3⟩
      rw [govV_yes H0.out]
      have hGf : w3.heap[w2.heap.size]? = some (.cells #[.bool s, .bool wt, .bool ag, .int .i64 c, .int .i64 n] 27) := get_below hb3 (get_new rfl) (by simp)
      have HB3 : Hid (Below w.heap.size w (w3.alloc (.cells #[.bool true, .bool true, .int .i64 cr, .int .i64 v, .int .i64 0, .string ⟨#[0]⟩] 31))) := ((HB2.out.alloc HB2.out.size _).trans (hb3.mono (by have := HB2.out.size; simp; omega))).alloc (by have := HB2.out.size; have := hb3.size; simp at this; omega) _
      have hGf2 : (w3.alloc (.cells #[.bool true, .bool true, .int .i64 cr, .int .i64 v, .int .i64 0, .string ⟨#[0]⟩] 31)).heap[w2.heap.size]? = some (.cells #[.bool s, .bool wt, .bool ag, .int .i64 c, .int .i64 n] 27) := get_alloc hGf (size_of_get hGf)
      have hGx2 : (w3.alloc (.cells #[.bool true, .bool true, .int .i64 cr, .int .i64 v, .int .i64 0, .string ⟨#[0]⟩] 31)).heap[w3.heap.size]? = some (.cells #[.bool true, .bool true, .int .i64 cr, .int .i64 v, .int .i64 0, .string ⟨#[0]⟩] 31) := get_new rfl
      clear hGf hb3
      go_wp2_with fail
      generalize (w3.alloc (.cells #[.bool true, .bool true, .int .i64 cr, .int .i64 v, .int .i64 0, .string ⟨#[0]⟩] 31)) = wr at *
      obtain ⟨k0, k1, k2, k3, k4⟩ := cells5_of hGf2
      obtain ⟨j0, j1, j2, j3, j4, j5⟩ := cells6_of hGx2
      have HDwa : Below wr.heap.size wr wr.drew ∧ wr.drew.cell? ⟨w2.heap.size, 0, none⟩ = some (.bool s) ∧ wr.drew.cell? ⟨w2.heap.size, 1, none⟩ = some (.bool wt) ∧ wr.drew.cell? ⟨w2.heap.size, 2, none⟩ = some (.bool ag) ∧ wr.drew.cell? ⟨w2.heap.size, 3, none⟩ = some (.int .i64 c) ∧ wr.drew.cell? ⟨w2.heap.size, 4, none⟩ = some (.int .i64 n) ∧ wr.drew.cell? ⟨w3.heap.size, 0, none⟩ = some (.bool true) ∧ wr.drew.cell? ⟨w3.heap.size, 1, none⟩ = some (.bool true) ∧ wr.drew.cell? ⟨w3.heap.size, 2, none⟩ = some (.int .i64 cr) ∧ wr.drew.cell? ⟨w3.heap.size, 3, none⟩ = some (.int .i64 v) ∧ wr.drew.cell? ⟨w3.heap.size, 4, none⟩ = some (.int .i64 0) ∧ wr.drew.cell? ⟨w3.heap.size, 5, none⟩ = some (.string ⟨#[0]⟩) := ⟨(Below.refl _ _).drew, k0, k1, k2, k3, k4, j0, j1, j2, j3, j4, j5⟩
      clear k0 k1 k2 k3 k4 j0 j1 j2 j3 j4 j5
      go_region_held2 (fun W => Below wr.heap.size wr W ∧ W.cell? ⟨w2.heap.size, 0, none⟩ = some (.bool s) ∧ W.cell? ⟨w2.heap.size, 1, none⟩ = some (.bool wt) ∧ W.cell? ⟨w2.heap.size, 2, none⟩ = some (.bool ag) ∧ W.cell? ⟨w2.heap.size, 3, none⟩ = some (.int .i64 c) ∧ W.cell? ⟨w2.heap.size, 4, none⟩ = some (.int .i64 n) ∧ W.cell? ⟨w3.heap.size, 0, none⟩ = some (.bool true) ∧ W.cell? ⟨w3.heap.size, 1, none⟩ = some (.bool true) ∧ W.cell? ⟨w3.heap.size, 2, none⟩ = some (.int .i64 cr) ∧ W.cell? ⟨w3.heap.size, 3, none⟩ = some (.int .i64 v) ∧ W.cell? ⟨w3.heap.size, 4, none⟩ = some (.int .i64 0) ∧ W.cell? ⟨w3.heap.size, 5, none⟩ = some (.string ⟨#[0]⟩)) (first | with_reducible assumption) ((first | (go_at_call 20; refine (open_yes _ _ _ H0.out).mono ?_; rintro e wa ⟨rfl, hb8⟩; have HKa := keepC11 (by with_reducible assumption) hb8; clear hb8) | (go_at_call 21; refine (specFrameOk_is _ _ _ _ _ _ _ he true HZ.out).mono ?_; rintro e wa ⟨rfl, hb8⟩; have HKa := keepC11 (by with_reducible assumption) hb8; clear hb8) | (go_at_call 22; refine (specFarmOk_is _ _ _ _ _ _ true HF.out).mono ?_; rintro e wa ⟨rfl, hb8⟩; have HKa := keepC11 (by with_reducible assumption) hb8; clear hb8)))
      go_wp2_with fail
      obtain ⟨hBa, k0, k1, k2, k3, k4, j0, j1, j2, j3, j4, j5⟩ := HKa
      have hh : Hid (∀ W, Calls Try.prog 15 #[.agg #[.bool s, .bool wt, .bool ag, .int .i64 c, .int .i64 n], .agg #[.bool true, .bool true, .int .i64 cr, .int .i64 v, .int .i64 0, .string ⟨#[0]⟩], .bool false] W fun e w' => e = .returned (.tuple #[.agg #[.bool false, .bool false, .bool false, .int .i64 ((c + 1) % 4), .int .i64 n], .int .i64 7]) ∧ Below W.heap.size W w') := by
        intro W
        have h := implFarmHear_any s wt ag c n true true cr v 0 ⟨#[0]⟩ false W he
        rw [fh_open HF.out HZ.out] at h
        exact h
      refine (hh.out _).mono ?_
      rintro e wb ⟨rfl, hbb⟩
      have HKb := keepC11 ⟨hBa, k0, k1, k2, k3, k4, j0, j1, j2, j3, j4, j5⟩ hbb
      clear hbb k0 k1 k2 k3 k4 j0 j1 j2 j3 j4 j5
      obtain ⟨hBb, k0, k1, k2, k3, k4, j0, j1, j2, j3, j4, j5⟩ := HKb
      have hy1 : w2.heap.size < wb.heap.size := block_lt_of_cell k0
      have hy2 : w3.heap.size < wb.heap.size := block_lt_of_cell j0
      have hm : (c + 1) % 4 < 4 := by omega
      obtain ⟨c0, c3, _⟩ := faOk_bounds' HF.out
      go_wp2_with fail
      go_ret
      exact ⟨rfl, (HB3.out.trans (hBb.mono HB3.out.size)).alloc (Nat.le_trans HB3.out.size hBb.size) _⟩
theorem FnFarmOpen_own : ownKnob Try.prog.godebug = none := by kernel_rfl
theorem FnFarmOpen_laidOut : laidOutB Try.prog = true := by kernel_rfl
set_option maxRecDepth 100000 in
theorem FnFarmOpen_lifted (os : Os) (started : os.Started) (H : Type) (enc : TypeId × Value → H) :
    ReturnsInHanded {} Try.checked os 4 .any (Rows.fnFarmOpenSpec.pre6 enc Try.prog Try.f4 Rows.fnFarmOpenRow.domain false) (Rows.fnFarmOpenSpec.post enc Try.prog Try.f4 false true false false) := by
  refine returnsInHanded_of_change (C := Try.checked) FnFarmOpen_own started (by kernel_rfl) Try.func4
    (ChangeSpec.witness6 (enc := enc) (C := Try.checked) false ⟨#[], #[.slice none 0 0, .slice none 0 0], []⟩ 8 (by kernel_rfl) (by kernel_rfl) (by kernel_rfl) (by kernel_rfl)) ?_
  intro W base args ds gs before hval0 hW hcnd _
  have hval : ∀ (j : Nat) t v, Try.f4.params[j]? = some t → args[j]? = some v → Value.okWide Try.prog W .any base t v := hval0
  have hW' := hW
  obtain ⟨p, q, hA0, hV, rfl, hfz, hnd⟩ := hW
  have hA : DataW.TrodAll enc Try.prog W 0 (fun _ => true) true Try.f4.params.toList args.toList ds p := hA0
  rw [Try.params4] at hA hval
  obtain ⟨v0, vs0, d0, ds0, p0, q0, hargs, rfl, rfl, h0, r0⟩ := trodAll_cons hA
  obtain ⟨v1, vs1, d1, ds1, p1, q1, rfl, rfl, rfl, h1, r1⟩ := trodAll_cons r0
  obtain ⟨rfl, rfl, rfl⟩ := trodAll_nil r1
  obtain rfl : args = #[v0, v1] := by cases args; simp_all
  obtain ⟨rfl, rfl⟩ := trodVars_none hV
  obtain ⟨a0, len0, cap0, rfl⟩ := okWide_slice Try.underlying35 (hval 0 35 v0 rfl rfl)
  have k0 := h0
  have lt0 : ∀ x ∈ p0, x.block < W.heap.size := by obtain ⟨m, hm⟩ := k0; exact DataW.trod_lt m _ _ _ hm
  obtain ⟨z0, w0⟩ : ∃ zs, IsRow .u8 W a0 len0 cap0 zs := by
    obtain ⟨fuel, hf⟩ := h0
    rcases open_ints Try.underlying35 Try.underlying5 (by kernel_rfl) hf with ⟨hcs, _⟩ | ⟨x, l, c, zs, hcs, _, hl, hm, hz, _, hcell, hwz⟩
    · simp [Value.cells] at hcs
      obtain ⟨rfl, rfl, rfl⟩ := hcs
      exact ⟨[], .inl ⟨rfl, rfl, rfl, rfl⟩⟩
    · simp [Value.cells] at hcs
      obtain ⟨rfl, rfl, rfl⟩ := hcs
      exact ⟨zs, .inr ⟨_, rfl, hl, hm, by simpa using hz, hcell, hwz⟩⟩
  obtain ⟨a1, len1, cap1, rfl⟩ := okWide_slice Try.underlying35 (hval 1 35 v1 rfl rfl)
  have k1 := h1
  have lt1 : ∀ x ∈ p1, x.block < W.heap.size := by obtain ⟨m, hm⟩ := k1; exact DataW.trod_lt m _ _ _ hm
  obtain ⟨z1, w1⟩ : ∃ zs, IsRow .u8 W a1 len1 cap1 zs := by
    obtain ⟨fuel, hf⟩ := h1
    rcases open_ints Try.underlying35 Try.underlying5 (by kernel_rfl) hf with ⟨hcs, _⟩ | ⟨x, l, c, zs, hcs, _, hl, hm, hz, _, hcell, hwz⟩
    · simp [Value.cells] at hcs
      obtain ⟨rfl, rfl, rfl⟩ := hcs
      exact ⟨[], .inl ⟨rfl, rfl, rfl, rfl⟩⟩
    · simp [Value.cells] at hcs
      obtain ⟨rfl, rfl, rfl⟩ := hcs
      exact ⟨zs, .inr ⟨_, rfl, hl, hm, by simpa using hz, hcell, hwz⟩⟩
  clear hA0 hval0
  refine (FnFarmOpen_walk a0 len0 cap0 z0 a1 len1 cap1 z1 W w0 w1).mono fun e W' ⟨he, bel⟩ => ?_
  subst he
  exact ⟨_, rfl, _, _, _, [], _, [], hW', trodAll_mk1 (shut_bool Try.underlying4 _), (trodAll_cons_mk (Below.trod FnFarmOpen_laidOut (by kernel_rfl) (of_decide_eq_true (by kernel_rfl)) k0 bel lt0) (trodAll_cons_mk (Below.trod FnFarmOpen_laidOut (by kernel_rfl) (of_decide_eq_true (by kernel_rfl)) k1 bel lt1) trodAll_mk0)), rfl, bel.frame _, fun h => by cases h⟩
theorem FnFarmOpen_holds : Rows.FnFarmOpenSaid :=
  OpenClaim.holds_of_wide 4 Try.f4 rfl rfl rfl rfl rfl rfl rfl ⟨rfl, rfl, rfl, rfl, rfl⟩ rfl rfl rfl rfl rfl (by kernel_rfl) Try.func4 (by kernel_rfl)
    (of_decide_eq_true (by kernel_rfl)) (by unfold Func.isWrapper; first | (rw [if_pos (by decide +kernel)]; kernel_rfl) | (rw [if_neg (by decide +kernel)]; exact ⟨rfl, rfl⟩))
    (fun os started H enc _ => FnFarmOpen_lifted os started H enc)
#print axioms FnFarmOpen_holds
end Go.Proofs.Yteeneiogghldgaa
