/- Proved: laws.FnFarmRoom returns true at every slice of bytes (who waited for room takes the next frame when there is), and leaves it as it was. No condition. -/
import Derived.Test.YteeneiogghldgaaDrawG
import Derived.Test.YteeneiogghldgaaFaL
import Derived.Test.YteeneiogghldgaaFaR
import Derived.Deep.RegionHeld2
namespace Go.Proofs.Yteeneiogghldgaa
open Go.ChangeShapes Go.WideShapes Go.ChangeAt Go.RowKit
set_option linter.unusedVariables false

open Go.ChangeMaps (open_string shut_string)
set_option maxRecDepth 100000 in
set_option maxHeartbeats 4000000 in
theorem FnFarmRoom_walk (a : Option Addr) (len cap : Nat) (zs : List Int) (w : World) (h : IsRow .u8 w a len cap zs) :
    Calls Try.prog 5 #[.slice a len cap] w fun e w' => e = .returned (.bool true) ∧ Below w.heap.size w w' := by
  by_cases hbig : 1048576 < (len : Int)
  · go_enter Try.func5, Try.ntmps5
    go_wp2_with fail
    go_ret
    exact ⟨rfl, Below.refl _ _⟩
  have H : Hid _ := h
  clear h
  go_enter Try.func5, Try.ntmps5
  go_wp2_with fail
  refine (DrawFarmRoom_any a len cap zs _ H.out).mono ?_
  rintro e w1 ⟨s, wt, ag, c, n, hn0, hn1, rfl, hb1⟩
  have HB1 : Hid (Below w.heap.size w w1) := hb1
  clear hb1
  cases hf : faOk wt ag c n
  · have hf' := hf
    clear hf
    go_wp2_with fail
    refine (implFarmRoom_no _ _ _ _ _ _ hf').mono ?_
    rintro e w2 ⟨rfl, hb2⟩
    have hGf : w2.heap[w1.heap.size]? = some (.cells #[.bool s, .bool wt, .bool ag, .int .i64 c, .int .i64 n] 27) := get_below hb2 (get_new rfl) (by simp)
    have HB2 : Hid (Below w.heap.size w (w2.alloc (.cells #[.bool false, .bool false, .bool false, .int .i64 0, .int .i64 0] 27))) := ((HB1.out.alloc HB1.out.size _).trans (hb2.mono (by have := HB1.out.size; simp; omega))).alloc (by have := HB1.out.size; have := hb2.size; simp at this; omega) _
    have hGf2 : (w2.alloc (.cells #[.bool false, .bool false, .bool false, .int .i64 0, .int .i64 0] 27)).heap[w1.heap.size]? = some (.cells #[.bool s, .bool wt, .bool ag, .int .i64 c, .int .i64 n] 27) := get_alloc hGf (size_of_get hGf)
    have hGx2 : (w2.alloc (.cells #[.bool false, .bool false, .bool false, .int .i64 0, .int .i64 0] 27)).heap[w2.heap.size]? = some (.cells #[.bool false, .bool false, .bool false, .int .i64 0, .int .i64 0] 27) := get_new rfl
    clear hGf hb2
    go_wp2_with fail
    generalize (w2.alloc (.cells #[.bool false, .bool false, .bool false, .int .i64 0, .int .i64 0] 27)) = wr at *
    obtain ⟨k0, k1, k2, k3, k4⟩ := cells5_of hGf2
    obtain ⟨j0, j1, j2, j3, j4⟩ := cells5_of hGx2
    have HDwa : Below wr.heap.size wr wr.drew ∧ wr.drew.cell? ⟨w1.heap.size, 0, none⟩ = some (.bool s) ∧ wr.drew.cell? ⟨w1.heap.size, 1, none⟩ = some (.bool wt) ∧ wr.drew.cell? ⟨w1.heap.size, 2, none⟩ = some (.bool ag) ∧ wr.drew.cell? ⟨w1.heap.size, 3, none⟩ = some (.int .i64 c) ∧ wr.drew.cell? ⟨w1.heap.size, 4, none⟩ = some (.int .i64 n) ∧ wr.drew.cell? ⟨w2.heap.size, 0, none⟩ = some (.bool false) ∧ wr.drew.cell? ⟨w2.heap.size, 1, none⟩ = some (.bool false) ∧ wr.drew.cell? ⟨w2.heap.size, 2, none⟩ = some (.bool false) ∧ wr.drew.cell? ⟨w2.heap.size, 3, none⟩ = some (.int .i64 0) ∧ wr.drew.cell? ⟨w2.heap.size, 4, none⟩ = some (.int .i64 0) := ⟨(Below.refl _ _).drew, k0, k1, k2, k3, k4, j0, j1, j2, j3, j4⟩
    clear k0 k1 k2 k3 k4 j0 j1 j2 j3 j4
    go_region_held2 (fun W => Below wr.heap.size wr W ∧ W.cell? ⟨w1.heap.size, 0, none⟩ = some (.bool s) ∧ W.cell? ⟨w1.heap.size, 1, none⟩ = some (.bool wt) ∧ W.cell? ⟨w1.heap.size, 2, none⟩ = some (.bool ag) ∧ W.cell? ⟨w1.heap.size, 3, none⟩ = some (.int .i64 c) ∧ W.cell? ⟨w1.heap.size, 4, none⟩ = some (.int .i64 n) ∧ W.cell? ⟨w2.heap.size, 0, none⟩ = some (.bool false) ∧ W.cell? ⟨w2.heap.size, 1, none⟩ = some (.bool false) ∧ W.cell? ⟨w2.heap.size, 2, none⟩ = some (.bool false) ∧ W.cell? ⟨w2.heap.size, 3, none⟩ = some (.int .i64 0) ∧ W.cell? ⟨w2.heap.size, 4, none⟩ = some (.int .i64 0)) (first | with_reducible assumption) ((first | (go_at_call 25; refine (specFarmRoom_no _ _ _ _ _ _ hf').mono ?_; rintro e wa ⟨rfl, hb8⟩; have HKa := keepC10 (by with_reducible assumption) hb8; clear hb8) | (go_at_call 22; refine (specFarmOk_any _ _ _ _ _ _).mono ?_; rintro e wa ⟨rfl, hb8⟩; have HKa := keepC10 (by with_reducible assumption) hb8; clear hb8)))
    go_wp2_with fail
    obtain ⟨hBa, k0, k1, k2, k3, k4, j0, j1, j2, j3, j4⟩ := HKa
    have HDwb : Below wa.heap.size wa wa.drew ∧ wa.drew.cell? ⟨w1.heap.size, 0, none⟩ = some (.bool s) ∧ wa.drew.cell? ⟨w1.heap.size, 1, none⟩ = some (.bool wt) ∧ wa.drew.cell? ⟨w1.heap.size, 2, none⟩ = some (.bool ag) ∧ wa.drew.cell? ⟨w1.heap.size, 3, none⟩ = some (.int .i64 c) ∧ wa.drew.cell? ⟨w1.heap.size, 4, none⟩ = some (.int .i64 n) ∧ wa.drew.cell? ⟨w2.heap.size, 0, none⟩ = some (.bool false) ∧ wa.drew.cell? ⟨w2.heap.size, 1, none⟩ = some (.bool false) ∧ wa.drew.cell? ⟨w2.heap.size, 2, none⟩ = some (.bool false) ∧ wa.drew.cell? ⟨w2.heap.size, 3, none⟩ = some (.int .i64 0) ∧ wa.drew.cell? ⟨w2.heap.size, 4, none⟩ = some (.int .i64 0) := ⟨(Below.refl _ _).drew, k0, k1, k2, k3, k4, j0, j1, j2, j3, j4⟩
    clear k0 k1 k2 k3 k4 j0 j1 j2 j3 j4
    go_region_held2 (fun W => Below wa.heap.size wa W ∧ W.cell? ⟨w1.heap.size, 0, none⟩ = some (.bool s) ∧ W.cell? ⟨w1.heap.size, 1, none⟩ = some (.bool wt) ∧ W.cell? ⟨w1.heap.size, 2, none⟩ = some (.bool ag) ∧ W.cell? ⟨w1.heap.size, 3, none⟩ = some (.int .i64 c) ∧ W.cell? ⟨w1.heap.size, 4, none⟩ = some (.int .i64 n) ∧ W.cell? ⟨w2.heap.size, 0, none⟩ = some (.bool false) ∧ W.cell? ⟨w2.heap.size, 1, none⟩ = some (.bool false) ∧ W.cell? ⟨w2.heap.size, 2, none⟩ = some (.bool false) ∧ W.cell? ⟨w2.heap.size, 3, none⟩ = some (.int .i64 0) ∧ W.cell? ⟨w2.heap.size, 4, none⟩ = some (.int .i64 0)) (first | with_reducible assumption) ((first | (go_at_call 25; refine (specFarmRoom_no _ _ _ _ _ _ hf').mono ?_; rintro e wb ⟨rfl, hb8⟩; have HKb := keepC10 (by with_reducible assumption) hb8; clear hb8)))
    go_wp2_with fail
    go_ret
    exact ⟨rfl, (HB2.out.trans (hBa.mono HB2.out.size)).trans (HKb.1.mono (Nat.le_trans HB2.out.size hBa.size))⟩
  · obtain ⟨c0, c3, m0, m1, _⟩ := faOk_bounds' hf
    have hfx : faOk false ag c n = true := by simp [faOk] at hf ⊢; exact hf.1
    cases s
    · have hh : Hid (∀ W, Calls Try.prog 15 #[.agg #[.bool false, .bool false, .bool ag, .int .i64 c, .int .i64 n], .agg #[.bool false, .bool false, .int .i64 0, .int .i64 0, .int .i64 n, .string ⟨#[100]⟩], .bool true] W fun e w' => e = .returned (.tuple #[.agg #[.bool false, .bool false, .bool false, .int .i64 c, .int .i64 ((n + 1) % 256)], .int .i64 0]) ∧ Below W.heap.size W w') := by
        intro W
        have h := implFarmHear_any false false ag c n false false 0 0 n ⟨#[100]⟩ true W (by show 1 ≤ maxLen; unfold maxLen; omega)
        rw [fh_take hfx (fr_d rfl rfl (fa_parts hf).2)] at h
        exact h
      have hf' := hf
      clear hf
      go_wp2_with fail
      refine (implFarmRoom_yes _ _ _ _ _ _ hf').mono ?_
      rintro e w2 ⟨rfl, hb2⟩
      have hGf : w2.heap[w1.heap.size]? = some (.cells #[.bool false, .bool wt, .bool ag, .int .i64 c, .int .i64 n] 27) := get_below hb2 (get_new rfl) (by simp)
      have HB2 : Hid (Below w.heap.size w (w2.alloc (.cells #[.bool false, .bool false, .bool ag, .int .i64 c, .int .i64 n] 27))) := ((HB1.out.alloc HB1.out.size _).trans (hb2.mono (by have := HB1.out.size; simp; omega))).alloc (by have := HB1.out.size; have := hb2.size; simp at this; omega) _
      have hGf2 : (w2.alloc (.cells #[.bool false, .bool false, .bool ag, .int .i64 c, .int .i64 n] 27)).heap[w1.heap.size]? = some (.cells #[.bool false, .bool wt, .bool ag, .int .i64 c, .int .i64 n] 27) := get_alloc hGf (size_of_get hGf)
      have hGx2 : (w2.alloc (.cells #[.bool false, .bool false, .bool ag, .int .i64 c, .int .i64 n] 27)).heap[w2.heap.size]? = some (.cells #[.bool false, .bool false, .bool ag, .int .i64 c, .int .i64 n] 27) := get_new rfl
      clear hGf hb2
      go_wp2_with fail
      generalize (w2.alloc (.cells #[.bool false, .bool false, .bool ag, .int .i64 c, .int .i64 n] 27)) = wr at *
      obtain ⟨k0, k1, k2, k3, k4⟩ := cells5_of hGf2
      obtain ⟨j0, j1, j2, j3, j4⟩ := cells5_of hGx2
      have HDwa : Below wr.heap.size wr wr.drew ∧ wr.drew.cell? ⟨w1.heap.size, 0, none⟩ = some (.bool false) ∧ wr.drew.cell? ⟨w1.heap.size, 1, none⟩ = some (.bool wt) ∧ wr.drew.cell? ⟨w1.heap.size, 2, none⟩ = some (.bool ag) ∧ wr.drew.cell? ⟨w1.heap.size, 3, none⟩ = some (.int .i64 c) ∧ wr.drew.cell? ⟨w1.heap.size, 4, none⟩ = some (.int .i64 n) ∧ wr.drew.cell? ⟨w2.heap.size, 0, none⟩ = some (.bool false) ∧ wr.drew.cell? ⟨w2.heap.size, 1, none⟩ = some (.bool false) ∧ wr.drew.cell? ⟨w2.heap.size, 2, none⟩ = some (.bool ag) ∧ wr.drew.cell? ⟨w2.heap.size, 3, none⟩ = some (.int .i64 c) ∧ wr.drew.cell? ⟨w2.heap.size, 4, none⟩ = some (.int .i64 n) := ⟨(Below.refl _ _).drew, k0, k1, k2, k3, k4, j0, j1, j2, j3, j4⟩
      clear k0 k1 k2 k3 k4 j0 j1 j2 j3 j4
      go_region_held2 (fun W => Below wr.heap.size wr W ∧ W.cell? ⟨w1.heap.size, 0, none⟩ = some (.bool false) ∧ W.cell? ⟨w1.heap.size, 1, none⟩ = some (.bool wt) ∧ W.cell? ⟨w1.heap.size, 2, none⟩ = some (.bool ag) ∧ W.cell? ⟨w1.heap.size, 3, none⟩ = some (.int .i64 c) ∧ W.cell? ⟨w1.heap.size, 4, none⟩ = some (.int .i64 n) ∧ W.cell? ⟨w2.heap.size, 0, none⟩ = some (.bool false) ∧ W.cell? ⟨w2.heap.size, 1, none⟩ = some (.bool false) ∧ W.cell? ⟨w2.heap.size, 2, none⟩ = some (.bool ag) ∧ W.cell? ⟨w2.heap.size, 3, none⟩ = some (.int .i64 c) ∧ W.cell? ⟨w2.heap.size, 4, none⟩ = some (.int .i64 n)) (first | with_reducible assumption) ((first | (go_at_call 25; refine (specFarmRoom_yes _ _ _ _ _ _ hf').mono ?_; rintro e wa ⟨rfl, hb8⟩; have HKa := keepC10 (by with_reducible assumption) hb8; clear hb8) | (go_at_call 22; refine (specFarmOk_any _ _ _ _ _ _).mono ?_; rintro e wa ⟨rfl, hb8⟩; have HKa := keepC10 (by with_reducible assumption) hb8; clear hb8)))
      go_wp2_with fail
      refine (hh.out _).mono ?_
      rintro e wb ⟨rfl, hbb⟩
      have HKb := keepC10 HKa hbb
      clear hbb
      obtain ⟨hBb, k0, k1, k2, k3, k4, j0, j1, j2, j3, j4⟩ := HKb
      have hy1 : w1.heap.size < wb.heap.size := block_lt_of_cell k0
      have hy2 : w2.heap.size < wb.heap.size := block_lt_of_cell j0
      go_wp2_with fail
      refine (implFarmOk_any _ _ _ _ _ _).mono ?_
      rintro e wc ⟨rfl, hbc⟩
      have HKc := keepC10 (keepA10 ⟨hBb, k0, k1, k2, k3, k4, j0, j1, j2, j3, j4⟩ _) hbc
      clear k0 k1 k2 k3 k4 j0 j1 j2 j3 j4 hbc
      obtain ⟨hBc, k0, k1, k2, k3, k4, j0, j1, j2, j3, j4⟩ := HKc
      go_wp2_with fail
      go_ret
      exact ⟨rfl, HB2.out.trans (hBc.mono HB2.out.size)⟩
    · have hh : Hid (∀ W, Calls Try.prog 15 #[.agg #[.bool true, .bool false, .bool ag, .int .i64 c, .int .i64 n], .agg #[.bool false, .bool false, .int .i64 0, .int .i64 0, .int .i64 n, .string ⟨#[100]⟩], .bool true] W fun e w' => e = .returned (.tuple #[.agg #[.bool true, .bool false, .bool ag, .int .i64 c, .int .i64 n], .int .i64 5]) ∧ Below W.heap.size W w') := by
        intro W
        have h := implFarmHear_any true false ag c n false false 0 0 n ⟨#[100]⟩ true W (by show 1 ≤ maxLen; unfold maxLen; omega)
        rw [fh_shut hfx (fr_d rfl rfl (fa_parts hf).2)] at h
        exact h
      have hf' := hf
      clear hf
      go_wp2_with fail
      refine (implFarmRoom_yes _ _ _ _ _ _ hf').mono ?_
      rintro e w2 ⟨rfl, hb2⟩
      have hGf : w2.heap[w1.heap.size]? = some (.cells #[.bool true, .bool wt, .bool ag, .int .i64 c, .int .i64 n] 27) := get_below hb2 (get_new rfl) (by simp)
      have HB2 : Hid (Below w.heap.size w (w2.alloc (.cells #[.bool true, .bool false, .bool ag, .int .i64 c, .int .i64 n] 27))) := ((HB1.out.alloc HB1.out.size _).trans (hb2.mono (by have := HB1.out.size; simp; omega))).alloc (by have := HB1.out.size; have := hb2.size; simp at this; omega) _
      have hGf2 : (w2.alloc (.cells #[.bool true, .bool false, .bool ag, .int .i64 c, .int .i64 n] 27)).heap[w1.heap.size]? = some (.cells #[.bool true, .bool wt, .bool ag, .int .i64 c, .int .i64 n] 27) := get_alloc hGf (size_of_get hGf)
      have hGx2 : (w2.alloc (.cells #[.bool true, .bool false, .bool ag, .int .i64 c, .int .i64 n] 27)).heap[w2.heap.size]? = some (.cells #[.bool true, .bool false, .bool ag, .int .i64 c, .int .i64 n] 27) := get_new rfl
      clear hGf hb2
      go_wp2_with fail
      generalize (w2.alloc (.cells #[.bool true, .bool false, .bool ag, .int .i64 c, .int .i64 n] 27)) = wr at *
      obtain ⟨k0, k1, k2, k3, k4⟩ := cells5_of hGf2
      obtain ⟨j0, j1, j2, j3, j4⟩ := cells5_of hGx2
      have HDwa : Below wr.heap.size wr wr.drew ∧ wr.drew.cell? ⟨w1.heap.size, 0, none⟩ = some (.bool true) ∧ wr.drew.cell? ⟨w1.heap.size, 1, none⟩ = some (.bool wt) ∧ wr.drew.cell? ⟨w1.heap.size, 2, none⟩ = some (.bool ag) ∧ wr.drew.cell? ⟨w1.heap.size, 3, none⟩ = some (.int .i64 c) ∧ wr.drew.cell? ⟨w1.heap.size, 4, none⟩ = some (.int .i64 n) ∧ wr.drew.cell? ⟨w2.heap.size, 0, none⟩ = some (.bool true) ∧ wr.drew.cell? ⟨w2.heap.size, 1, none⟩ = some (.bool false) ∧ wr.drew.cell? ⟨w2.heap.size, 2, none⟩ = some (.bool ag) ∧ wr.drew.cell? ⟨w2.heap.size, 3, none⟩ = some (.int .i64 c) ∧ wr.drew.cell? ⟨w2.heap.size, 4, none⟩ = some (.int .i64 n) := ⟨(Below.refl _ _).drew, k0, k1, k2, k3, k4, j0, j1, j2, j3, j4⟩
      clear k0 k1 k2 k3 k4 j0 j1 j2 j3 j4
      go_region_held2 (fun W => Below wr.heap.size wr W ∧ W.cell? ⟨w1.heap.size, 0, none⟩ = some (.bool true) ∧ W.cell? ⟨w1.heap.size, 1, none⟩ = some (.bool wt) ∧ W.cell? ⟨w1.heap.size, 2, none⟩ = some (.bool ag) ∧ W.cell? ⟨w1.heap.size, 3, none⟩ = some (.int .i64 c) ∧ W.cell? ⟨w1.heap.size, 4, none⟩ = some (.int .i64 n) ∧ W.cell? ⟨w2.heap.size, 0, none⟩ = some (.bool true) ∧ W.cell? ⟨w2.heap.size, 1, none⟩ = some (.bool false) ∧ W.cell? ⟨w2.heap.size, 2, none⟩ = some (.bool ag) ∧ W.cell? ⟨w2.heap.size, 3, none⟩ = some (.int .i64 c) ∧ W.cell? ⟨w2.heap.size, 4, none⟩ = some (.int .i64 n)) (first | with_reducible assumption) ((first | (go_at_call 25; refine (specFarmRoom_yes _ _ _ _ _ _ hf').mono ?_; rintro e wa ⟨rfl, hb8⟩; have HKa := keepC10 (by with_reducible assumption) hb8; clear hb8) | (go_at_call 22; refine (specFarmOk_any _ _ _ _ _ _).mono ?_; rintro e wa ⟨rfl, hb8⟩; have HKa := keepC10 (by with_reducible assumption) hb8; clear hb8)))
      go_wp2_with fail
      refine (hh.out _).mono ?_
      rintro e wb ⟨rfl, hbb⟩
      have HKb := keepC10 HKa hbb
      clear hbb
      obtain ⟨hBb, k0, k1, k2, k3, k4, j0, j1, j2, j3, j4⟩ := HKb
      have hy1 : w1.heap.size < wb.heap.size := block_lt_of_cell k0
      have hy2 : w2.heap.size < wb.heap.size := block_lt_of_cell j0
      go_wp2_with fail
      refine (implFarmOk_any _ _ _ _ _ _).mono ?_
      rintro e wc ⟨rfl, hbc⟩
      have HKc := keepC10 (keepA10 ⟨hBb, k0, k1, k2, k3, k4, j0, j1, j2, j3, j4⟩ _) hbc
      clear k0 k1 k2 k3 k4 j0 j1 j2 j3 j4 hbc
      obtain ⟨hBc, k0, k1, k2, k3, k4, j0, j1, j2, j3, j4⟩ := HKc
      go_wp2_with fail
      go_ret
      exact ⟨rfl, HB2.out.trans (hBc.mono HB2.out.size)⟩
theorem FnFarmRoom_own : ownKnob Try.prog.godebug = none := by kernel_rfl
theorem FnFarmRoom_laidOut : laidOutB Try.prog = true := by kernel_rfl
set_option maxRecDepth 100000 in
theorem FnFarmRoom_lifted (os : Os) (started : os.Started) (H : Type) (enc : TypeId × Value → H) :
    ReturnsInHanded {} Try.checked os 5 .any (Rows.fnFarmRoomSpec.pre6 enc Try.prog Try.f5 Rows.fnFarmRoomRow.domain false) (Rows.fnFarmRoomSpec.post enc Try.prog Try.f5 false true false false) := by
  refine returnsInHanded_of_change (C := Try.checked) FnFarmRoom_own started (by kernel_rfl) Try.func5
    (ChangeSpec.witness6 (enc := enc) (C := Try.checked) false ⟨#[], #[.slice none 0 0], []⟩ 8 (by kernel_rfl) (by kernel_rfl) (by kernel_rfl) (by kernel_rfl)) ?_
  intro W base args ds gs before hval0 hW hcnd _
  have hval : ∀ (j : Nat) t v, Try.f5.params[j]? = some t → args[j]? = some v → Value.okWide Try.prog W .any base t v := hval0
  have hW' := hW
  obtain ⟨p, q, hA0, hV, rfl, hfz, hnd⟩ := hW
  have hA : DataW.TrodAll enc Try.prog W 0 (fun _ => true) true Try.f5.params.toList args.toList ds p := hA0
  rw [Try.params5] at hA hval
  obtain ⟨v0, vs0, d0, ds0, p0, q0, hargs, rfl, rfl, h0, r0⟩ := trodAll_cons hA
  obtain ⟨rfl, rfl, rfl⟩ := trodAll_nil r0
  obtain rfl : args = #[v0] := by cases args; simp_all
  obtain ⟨rfl, rfl⟩ := trodVars_none hV
  obtain ⟨a0, len0, cap0, rfl⟩ := okWide_slice Try.underlying35 (hval 0 35 v0 rfl rfl)
  have k0 := h0
  have lt0 : ∀ x ∈ p0, x.block < W.heap.size := by obtain ⟨m, hm⟩ := k0; exact DataW.trod_lt m _ _ _ hm
  obtain ⟨z0, w0⟩ : ∃ zs, IsRow .u8 W a0 len0 cap0 zs := by
    obtain ⟨fuel, hf⟩ := h0
    rcases open_ints Try.underlying35 Try.underlying5 (by kernel_rfl) hf with ⟨hcs, _⟩ | ⟨x, l, c, zs, hcs, _, hl, hm, hz, _, hcell, hwz⟩
    · simp [Value.cells] at hcs
      obtain ⟨rfl, rfl, rfl⟩ := hcs
      exact ⟨[], .inl ⟨rfl, rfl, rfl, rfl⟩⟩
    · simp [Value.cells] at hcs
      obtain ⟨rfl, rfl, rfl⟩ := hcs
      exact ⟨zs, .inr ⟨_, rfl, hl, hm, by simpa using hz, hcell, hwz⟩⟩
  clear hA0 hval0
  refine (FnFarmRoom_walk a0 len0 cap0 z0 W w0).mono fun e W' ⟨he, bel⟩ => ?_
  subst he
  exact ⟨_, rfl, _, _, _, [], _, [], hW', trodAll_mk1 (shut_bool Try.underlying4 _), (trodAll_cons_mk (Below.trod FnFarmRoom_laidOut (by kernel_rfl) (of_decide_eq_true (by kernel_rfl)) k0 bel lt0) trodAll_mk0), rfl, bel.frame _, fun h => by cases h⟩
theorem FnFarmRoom_holds : Rows.FnFarmRoomSaid :=
  OpenClaim.holds_of_wide 5 Try.f5 rfl rfl rfl rfl rfl rfl rfl ⟨rfl, rfl, rfl, rfl, rfl⟩ rfl rfl rfl rfl rfl (by kernel_rfl) Try.func5 (by kernel_rfl)
    (of_decide_eq_true (by kernel_rfl)) (by unfold Func.isWrapper; first | (rw [if_pos (by decide +kernel)]; kernel_rfl) | (rw [if_neg (by decide +kernel)]; exact ⟨rfl, rfl⟩))
    (fun os started H enc _ => FnFarmRoom_lifted os started H enc)
#print axioms FnFarmRoom_holds
end Go.Proofs.Yteeneiogghldgaa
