/- Proved: laws.FnExactFarmHear returns true at every Farm, Frame and room (impl.FarmHear answers as spec.FarmHear, every field and the code) and leaves them as they were. No condition. -/
import Derived.Test.YteeneiogghldgaaFaF
import Derived.Test.YteeneiogghldgaaFaR
import Derived.Test.YteeneiogghldgaaToFr
import Derived.Test.YteeneiogghldgaaKeep
import Derived.Test.YteeneiogghldgaaAgg
import Derived.Deep.RegionHeld2
import Derived.Deep.DeepCutAuto
namespace Go.Proofs.Yteeneiogghldgaa
open Go.ChangeShapes Go.WideShapes Go.ChangeAt Go.RowKit
set_option linter.unusedVariables false

open Go.ChangeMaps (open_string shut_string)
set_option maxRecDepth 100000 in
set_option maxHeartbeats 4000000 in
theorem hear_two (s wt ag p g room s' wt' ag' : Bool) (c n cr v q c' n' k : Int) (d : ByteArray) (w : World) (hle : d.size ≤ 1048576) (HP : Hid (∀ W, Calls Try.prog 12 #[.agg #[.bool s, .bool wt, .bool ag, .int .i64 c, .int .i64 n], .agg #[.bool p, .bool g, .int .i64 cr, .int .i64 v, .int .i64 q, .string d], .bool room] W fun e w' => e = .returned (.tuple #[.agg #[.bool s', .bool wt', .bool ag', .int .i64 c', .int .i64 n'], .int .i64 k]) ∧ Below W.heap.size W w')) (HI : Hid (∀ W, Calls Try.prog 15 #[.agg #[.bool s, .bool wt, .bool ag, .int .i64 c, .int .i64 n], .agg #[.bool p, .bool g, .int .i64 cr, .int .i64 v, .int .i64 q, .string d], .bool room] W fun e w' => e = .returned (.tuple #[.agg #[.bool s', .bool wt', .bool ag', .int .i64 c', .int .i64 n'], .int .i64 k]) ∧ Below W.heap.size W w')) :
    Calls Try.prog 3 #[.agg #[.bool s, .bool wt, .bool ag, .int .i64 c, .int .i64 n], .agg #[.bool p, .bool g, .int .i64 cr, .int .i64 v, .int .i64 q, .string d], .bool room] w fun e w' => e = .returned (.bool true) ∧ Below w.heap.size w w' := by
  have hnn : ¬ (1048576 : Int) - d.size < 0 := by omega
  have HS : Hid (Below (w.heap.size + 2) ((w.alloc (.cells #[.bool s, .bool wt, .bool ag, .int .i64 c, .int .i64 n] 23)).alloc (.cells #[.bool p, .bool g, .int .i64 cr, .int .i64 v, .int .i64 q, .string d] 25)) ((w.alloc (.cells #[.bool s, .bool wt, .bool ag, .int .i64 c, .int .i64 n] 23)).alloc (.cells #[.bool p, .bool g, .int .i64 cr, .int .i64 v, .int .i64 q, .string d] 25))) := Below.refl _ _
  go_enter Try.func3, Try.ntmps3
  go_wp2_with fail
  refine (szFrame_fits _ _ _ _ _ _ _ hle).mono ?_
  rintro e w1 ⟨rfl, hb1⟩
  have HS : Hid (Below (w.heap.size + 2) ((w.alloc (.cells #[.bool s, .bool wt, .bool ag, .int .i64 c, .int .i64 n] 23)).alloc (.cells #[.bool p, .bool g, .int .i64 cr, .int .i64 v, .int .i64 q, .string d] 25)) w1) := (by first | exact hidA HS hb1 | exact hidB HS hb1)
  obtain ⟨hc1, hf1⟩ := bk HS.out
  clear hb1
  go_wp2_with fail
  obtain ⟨k0, k1, k2, k3, k4⟩ := cells5_of (w := w1) (get_below HS.out (get_alloc (get_new rfl) (by simp)) (by omega))
  obtain ⟨j0, j1, j2, j3, j4, j5⟩ := cells6_of (w := w1) (get_below HS.out (get_new (g := w.heap.size + 1) (by simp)) (by omega))
  have hz1 : w.heap.size + 2 ≤ w1.heap.size := by have := HS.out.size; simp at this; omega
  clear hc1 hf1
  have HD : Below w1.heap.size w1 w1.drew ∧ w1.drew.cell? ⟨w.heap.size, 0, none⟩ = some (.bool s) ∧ w1.drew.cell? ⟨w.heap.size, 1, none⟩ = some (.bool wt) ∧ w1.drew.cell? ⟨w.heap.size, 2, none⟩ = some (.bool ag) ∧ w1.drew.cell? ⟨w.heap.size, 3, none⟩ = some (.int .i64 c) ∧ w1.drew.cell? ⟨w.heap.size, 4, none⟩ = some (.int .i64 n) ∧ w1.drew.cell? ⟨w.heap.size + 1, 0, none⟩ = some (.bool p) ∧ w1.drew.cell? ⟨w.heap.size + 1, 1, none⟩ = some (.bool g) ∧ w1.drew.cell? ⟨w.heap.size + 1, 2, none⟩ = some (.int .i64 cr) ∧ w1.drew.cell? ⟨w.heap.size + 1, 3, none⟩ = some (.int .i64 v) ∧ w1.drew.cell? ⟨w.heap.size + 1, 4, none⟩ = some (.int .i64 q) ∧ w1.drew.cell? ⟨w.heap.size + 1, 5, none⟩ = some (.string d) := ⟨(Below.refl _ _).drew, k0, k1, k2, k3, k4, j0, j1, j2, j3, j4, j5⟩
  clear k0 k1 k2 k3 k4 j0 j1 j2 j3 j4 j5
  go_cut [8, 9] (fun u0 u1 wx => ∃ b, u0 = .pointer (some ⟨b, 0, none⟩) ∧ u1 = .int .i64 k ∧ w1.heap.size ≤ b ∧ wx.heap[b]? = some (.cells #[.bool s', .bool wt', .bool ag', .int .i64 c', .int .i64 n'] 27) ∧ Below w1.heap.size w1 wx)
  case first =>
    go_region_held2 (fun W => Below w1.heap.size w1 W ∧ W.cell? ⟨w.heap.size, 0, none⟩ = some (.bool s) ∧ W.cell? ⟨w.heap.size, 1, none⟩ = some (.bool wt) ∧ W.cell? ⟨w.heap.size, 2, none⟩ = some (.bool ag) ∧ W.cell? ⟨w.heap.size, 3, none⟩ = some (.int .i64 c) ∧ W.cell? ⟨w.heap.size, 4, none⟩ = some (.int .i64 n) ∧ W.cell? ⟨w.heap.size + 1, 0, none⟩ = some (.bool p) ∧ W.cell? ⟨w.heap.size + 1, 1, none⟩ = some (.bool g) ∧ W.cell? ⟨w.heap.size + 1, 2, none⟩ = some (.int .i64 cr) ∧ W.cell? ⟨w.heap.size + 1, 3, none⟩ = some (.int .i64 v) ∧ W.cell? ⟨w.heap.size + 1, 4, none⟩ = some (.int .i64 q) ∧ W.cell? ⟨w.heap.size + 1, 5, none⟩ = some (.string d)) (first | with_reducible assumption | with_reducible exact keepA11 (by with_reducible assumption) _ | with_reducible exact keepAd11 (by with_reducible assumption) _ | with_reducible exact keepS11 (keepS11 (keepS11 (keepS11 (keepS11 (by with_reducible assumption) (by omega) (by simp <;> omega)) (by omega) (by simp <;> omega)) (by omega) (by simp <;> omega)) (by omega) (by simp <;> omega)) (by omega) (by simp <;> omega)) ((first | (go_at_call 13; refine (toFarm_any _ _ _ _ _ _).mono ?_; rintro e wa ⟨rfl, hba⟩; have HKa := keepC11 (by with_reducible assumption) hba; obtain ⟨hca, hfa⟩ := bcell0 hba; (try have hqaw1 : w1.heap.size < wa.heap.size := (by have := hba.size; (try simp at this); omega)); have HXa : Hid _ := hba; clear hba; have hka : w1.heap.size ≤ wa.heap.size := HKa.1.size) | (go_at_call 14; refine (toFrame_any _ _ _ _ _ _ _).mono ?_; rintro e wb ⟨rfl, hbb⟩; have HKb := keepC11 (by with_reducible assumption) hbb; obtain ⟨hcb, hfb⟩ := bcell0 hbb; (try have hqbw1 : w1.heap.size < wb.heap.size := (by have := hbb.size; (try simp at this); omega)); (try have hqbwa : wa.heap.size < wb.heap.size := (by have := hbb.size; (try simp at this); omega)); have HXb : Hid _ := hbb; clear hbb; have hkb : w1.heap.size ≤ wb.heap.size := HKb.1.size) | (go_at_call 12; refine (HP.out _).mono ?_; rintro e wc ⟨rfl, hbc⟩; have HKc := keepC11 (by with_reducible assumption) hbc; obtain ⟨hcc, hfc⟩ := bcell0 hbc; (try have hqcw1 : w1.heap.size < wc.heap.size := (by have := hbc.size; (try simp at this); omega)); (try have hqcwa : wa.heap.size < wc.heap.size := (by have := hbc.size; (try simp at this); omega)); (try have hqcwb : wb.heap.size < wc.heap.size := (by have := hbc.size; (try simp at this); omega)); have HXc : Hid _ := hbc; clear hbc; have hkc : w1.heap.size ≤ wc.heap.size := HKc.1.size)))
    all_goals
      go_wp2_with fail
      go_meet
      case rel =>
        first
        | (refine ⟨wc.heap.size, ?_, ?_, ?_, ?_, ?_⟩; with_reducible rfl; with_reducible rfl; omega; exact get_new rfl; exact HKc.1.alloc (by omega) _)
        | (refine ⟨wb.heap.size, ?_, ?_, ?_, ?_, ?_⟩; with_reducible rfl; with_reducible rfl; omega; exact get_set (get_set (get_set (get_set (get_set (get_hid HXc (get_new rfl)) rfl) rfl) rfl) rfl) rfl; exact belowS (belowS (belowS (belowS (belowS (HKc.1) (by omega)) (by omega)) (by omega)) (by omega)) (by omega))
        | (refine ⟨wa.heap.size, ?_, ?_, ?_, ?_, ?_⟩; with_reducible rfl; with_reducible rfl; omega; exact get_set (get_set (get_set (get_set (get_set (get_hid HXc (get_hid HXb (get_new rfl))) rfl) rfl) rfl) rfl) rfl; exact belowS (belowS (belowS (belowS (belowS (HKc.1) (by omega)) (by omega)) (by omega)) (by omega)) (by omega))
        | (refine ⟨w1.heap.size, ?_, ?_, ?_, ?_, ?_⟩; with_reducible rfl; with_reducible rfl; omega; exact get_set (get_set (get_set (get_set (get_set (get_hid HXc (get_hid HXb (get_hid HXa (get_newD rfl)))) rfl) rfl) rfl) rfl) rfl; exact belowS (belowS (belowS (belowS (belowS (HKc.1) (by omega)) (by omega)) (by omega)) (by omega)) (by omega))
  case rest =>
    obtain ⟨b1, rfl, rfl, hg1, hG1, hB1⟩ := hcut
    have HG1 : Hid _ := hG1
    have HB1 : Hid _ := hB1
    clear hG1 hB1
    have HS2 : Hid (Below (w.heap.size + 2) ((w.alloc (.cells #[.bool s, .bool wt, .bool ag, .int .i64 c, .int .i64 n] 23)).alloc (.cells #[.bool p, .bool g, .int .i64 cr, .int .i64 v, .int .i64 q, .string d] 25)) wc) := HS.out.trans (HB1.out.mono (by omega))
    obtain ⟨k0, k1, k2, k3, k4⟩ := cells5_of (w := wc) (get_below HS2.out (get_alloc (get_new rfl) (by simp)) (by omega))
    obtain ⟨j0, j1, j2, j3, j4, j5⟩ := cells6_of (w := wc) (get_below HS2.out (get_new (g := w.heap.size + 1) (by simp)) (by omega))
    have hz2 : w.heap.size + 2 ≤ wc.heap.size := by have := HS2.out.size; simp at this; omega
    go_wp2_with fail
    have HDz : Below wc.heap.size wc wc.drew ∧ wc.drew.cell? ⟨w.heap.size, 0, none⟩ = some (.bool s) ∧ wc.drew.cell? ⟨w.heap.size, 1, none⟩ = some (.bool wt) ∧ wc.drew.cell? ⟨w.heap.size, 2, none⟩ = some (.bool ag) ∧ wc.drew.cell? ⟨w.heap.size, 3, none⟩ = some (.int .i64 c) ∧ wc.drew.cell? ⟨w.heap.size, 4, none⟩ = some (.int .i64 n) ∧ wc.drew.cell? ⟨w.heap.size + 1, 0, none⟩ = some (.bool p) ∧ wc.drew.cell? ⟨w.heap.size + 1, 1, none⟩ = some (.bool g) ∧ wc.drew.cell? ⟨w.heap.size + 1, 2, none⟩ = some (.int .i64 cr) ∧ wc.drew.cell? ⟨w.heap.size + 1, 3, none⟩ = some (.int .i64 v) ∧ wc.drew.cell? ⟨w.heap.size + 1, 4, none⟩ = some (.int .i64 q) ∧ wc.drew.cell? ⟨w.heap.size + 1, 5, none⟩ = some (.string d) := ⟨(Below.refl _ _).drew, k0, k1, k2, k3, k4, j0, j1, j2, j3, j4, j5⟩
    clear k0 k1 k2 k3 k4 j0 j1 j2 j3 j4 j5
    go_cut [10, 11] (fun u0 u1 wx => ∃ b, u0 = .pointer (some ⟨b, 0, none⟩) ∧ u1 = .int .i64 k ∧ wc.heap.size ≤ b ∧ wx.heap[b]? = some (.cells #[.bool s', .bool wt', .bool ag', .int .i64 c', .int .i64 n'] 27) ∧ Below wc.heap.size wc wx)
    case first =>
      go_region_held2 (fun W => Below wc.heap.size wc W ∧ W.cell? ⟨w.heap.size, 0, none⟩ = some (.bool s) ∧ W.cell? ⟨w.heap.size, 1, none⟩ = some (.bool wt) ∧ W.cell? ⟨w.heap.size, 2, none⟩ = some (.bool ag) ∧ W.cell? ⟨w.heap.size, 3, none⟩ = some (.int .i64 c) ∧ W.cell? ⟨w.heap.size, 4, none⟩ = some (.int .i64 n) ∧ W.cell? ⟨w.heap.size + 1, 0, none⟩ = some (.bool p) ∧ W.cell? ⟨w.heap.size + 1, 1, none⟩ = some (.bool g) ∧ W.cell? ⟨w.heap.size + 1, 2, none⟩ = some (.int .i64 cr) ∧ W.cell? ⟨w.heap.size + 1, 3, none⟩ = some (.int .i64 v) ∧ W.cell? ⟨w.heap.size + 1, 4, none⟩ = some (.int .i64 q) ∧ W.cell? ⟨w.heap.size + 1, 5, none⟩ = some (.string d)) (first | with_reducible assumption | with_reducible exact keepA11 (by with_reducible assumption) _ | with_reducible exact keepAd11 (by with_reducible assumption) _ | with_reducible exact keepS11 (keepS11 (keepS11 (keepS11 (keepS11 (by with_reducible assumption) (by omega) (by simp <;> omega)) (by omega) (by simp <;> omega)) (by omega) (by simp <;> omega)) (by omega) (by simp <;> omega)) (by omega) (by simp <;> omega)) ((first | (go_at_call 13; refine (toFarm_any _ _ _ _ _ _).mono ?_; rintro e wza ⟨rfl, hbza⟩; have HKza := keepC11 (by with_reducible assumption) hbza; obtain ⟨hcza, hfza⟩ := bcell0 hbza; (try have hqzawc : wc.heap.size < wza.heap.size := (by have := hbza.size; (try simp at this); omega)); have HXza : Hid _ := hbza; clear hbza; have hkza : wc.heap.size ≤ wza.heap.size := HKza.1.size) | (go_at_call 14; refine (toFrame_any _ _ _ _ _ _ _).mono ?_; rintro e wzb ⟨rfl, hbzb⟩; have HKzb := keepC11 (by with_reducible assumption) hbzb; obtain ⟨hczb, hfzb⟩ := bcell0 hbzb; (try have hqzbwc : wc.heap.size < wzb.heap.size := (by have := hbzb.size; (try simp at this); omega)); (try have hqzbwza : wza.heap.size < wzb.heap.size := (by have := hbzb.size; (try simp at this); omega)); have HXzb : Hid _ := hbzb; clear hbzb; have hkzb : wc.heap.size ≤ wzb.heap.size := HKzb.1.size) | (go_at_call 15; refine (HI.out _).mono ?_; rintro e wzc ⟨rfl, hbzc⟩; have HKzc := keepC11 (by with_reducible assumption) hbzc; obtain ⟨hczc, hfzc⟩ := bcell0 hbzc; (try have hqzcwc : wc.heap.size < wzc.heap.size := (by have := hbzc.size; (try simp at this); omega)); (try have hqzcwza : wza.heap.size < wzc.heap.size := (by have := hbzc.size; (try simp at this); omega)); (try have hqzcwzb : wzb.heap.size < wzc.heap.size := (by have := hbzc.size; (try simp at this); omega)); have HXzc : Hid _ := hbzc; clear hbzc; have hkzc : wc.heap.size ≤ wzc.heap.size := HKzc.1.size)))
      all_goals
        go_wp2_with fail
        go_meet
        case rel =>
          first
          | (refine ⟨wzc.heap.size, ?_, ?_, ?_, ?_, ?_⟩; with_reducible rfl; with_reducible rfl; omega; exact get_new rfl; exact HKzc.1.alloc (by omega) _)
          | (refine ⟨wzb.heap.size, ?_, ?_, ?_, ?_, ?_⟩; with_reducible rfl; with_reducible rfl; omega; exact get_set (get_set (get_set (get_set (get_set (get_hid HXzc (get_new rfl)) rfl) rfl) rfl) rfl) rfl; exact belowS (belowS (belowS (belowS (belowS (HKzc.1) (by omega)) (by omega)) (by omega)) (by omega)) (by omega))
          | (refine ⟨wza.heap.size, ?_, ?_, ?_, ?_, ?_⟩; with_reducible rfl; with_reducible rfl; omega; exact get_set (get_set (get_set (get_set (get_set (get_hid HXzc (get_hid HXzb (get_new rfl))) rfl) rfl) rfl) rfl) rfl; exact belowS (belowS (belowS (belowS (belowS (HKzc.1) (by omega)) (by omega)) (by omega)) (by omega)) (by omega))
          | (refine ⟨wc.heap.size, ?_, ?_, ?_, ?_, ?_⟩; with_reducible rfl; with_reducible rfl; omega; exact get_set (get_set (get_set (get_set (get_set (get_hid HXzc (get_hid HXzb (get_hid HXza (get_newD rfl)))) rfl) rfl) rfl) rfl) rfl; exact belowS (belowS (belowS (belowS (belowS (HKzc.1) (by omega)) (by omega)) (by omega)) (by omega)) (by omega))
    case rest =>
      obtain ⟨b2, rfl, rfl, hg2, hG2, hB2⟩ := hcut
      have HB2 : Hid (Below w.heap.size w wc) := ((((Below.refl _ _).alloc (Nat.le_refl _) _).alloc (by simp) _).trans (HS2.out.mono (by omega))).trans (hB2.mono (by omega))
      obtain ⟨q0, q1, q2, q3, q4⟩ := cells5_of (w := wc) hG2
      obtain ⟨p0, p1, p2, p3, p4⟩ := cells5_of (w := wc) (get_below hB2 HG1.out (size_of_get HG1.out))
      clear hG2 hB2
      go_wp2_with fail
      refine (eqFarm_same _ _ _ _ _ _).mono ?_
      rintro e w9 ⟨rfl, hb9⟩
      have HB9 : Hid (Below w.heap.size w w9) := HB2.out.trans (hb9.mono HB2.out.size)
      clear hb9
      go_wp2_with fail
      go_ret
      exact ⟨rfl, HB9.out⟩
set_option maxHeartbeats 1000000 in
theorem FnExactFarmHear_walk (s wt ag : Bool) (c n : Int) (p g : Bool) (cr v q : Int) (d : ByteArray) (room : Bool) (w : World) (_h : True) (hd : d.size ≤ maxLen) :
    Calls Try.prog 3 #[.agg #[.bool s, .bool wt, .bool ag, .int .i64 c, .int .i64 n], .agg #[.bool p, .bool g, .int .i64 cr, .int .i64 v, .int .i64 q, .string d], .bool room] w fun e w' => e = .returned (.bool true) ∧ Below w.heap.size w w' := by
  by_cases hb : 1048576 < d.size
  · have HB0 : Hid (Below w.heap.size w ((w.alloc (.cells #[.bool s, .bool wt, .bool ag, .int .i64 c, .int .i64 n] 23)).alloc (.cells #[.bool p, .bool g, .int .i64 cr, .int .i64 v, .int .i64 q, .string d] 25))) := (((Below.refl _ _).alloc (Nat.le_refl _) _).alloc (by simp) _)
    go_enter Try.func3, Try.ntmps3
    go_wp2_with fail
    refine (szFrame_great _ _ _ _ _ _ _ hd hb).mono ?_
    rintro e w1 ⟨rfl, hb1⟩
    have HB1 : Hid (Below w.heap.size w w1) := HB0.out.trans (hb1.mono (by simp <;> omega))
    clear hb1
    go_wp2_with fail
    go_ret
    exact ⟨rfl, HB1.out⟩
  · have hi := fun W => implFarmHear_any s wt ag c n p g cr v q d room W hd
    have hs := fun W => specFarmHear_any s wt ag c n p g cr v q d room W hd
    generalize fh s wt ag c n p g cr v q d room = t at hi hs
    obtain ⟨s', wt', ag', c', n', k⟩ := t
    exact hear_two s wt ag p g room s' wt' ag' c n cr v q c' n' k d w (by omega) hs hi

theorem FnExactFarmHear_own : ownKnob Try.prog.godebug = none := by kernel_rfl
theorem FnExactFarmHear_laidOut : laidOutB Try.prog = true := by kernel_rfl
set_option maxRecDepth 100000 in
theorem FnExactFarmHear_lifted (os : Os) (started : os.Started) (H : Type) (enc : TypeId × Value → H) :
    ReturnsInHanded {} Try.checked os 3 .any (Rows.fnExactFarmHearSpec.pre6 enc Try.prog Try.f3 Rows.fnExactFarmHearRow.domain false) (Rows.fnExactFarmHearSpec.post enc Try.prog Try.f3 false true false false) := by
  refine returnsInHanded_of_change (C := Try.checked) FnExactFarmHear_own started (by kernel_rfl) Try.func3
    (ChangeSpec.witness6 (enc := enc) (C := Try.checked) false ⟨#[], #[.agg #[.bool false, .bool false, .bool false, .int .i64 0, .int .i64 0], .agg #[.bool false, .bool false, .int .i64 0, .int .i64 0, .int .i64 0, .string ⟨#[]⟩], .bool false], []⟩ 8 (by kernel_rfl) (by kernel_rfl) (by kernel_rfl) (by kernel_rfl)) ?_
  intro W base args ds gs before hval0 hW hcnd _
  have hval : ∀ (j : Nat) t v, Try.f3.params[j]? = some t → args[j]? = some v → Value.okWide Try.prog W .any base t v := hval0
  have hW' := hW
  obtain ⟨p, q, hA0, hV, rfl, hfz, hnd⟩ := hW
  have hA : DataW.TrodAll enc Try.prog W 0 (fun _ => true) true Try.f3.params.toList args.toList ds p := hA0
  rw [Try.params3] at hA hval
  obtain ⟨v0, vs0, d0, ds0, p0, q0, hargs, rfl, rfl, h0, r0⟩ := trodAll_cons hA
  obtain ⟨v1, vs1, d1, ds1, p1, q1, rfl, rfl, rfl, h1, r1⟩ := trodAll_cons r0
  obtain ⟨v2, vs2, d2, ds2, p2, q2, rfl, rfl, rfl, h2, r2⟩ := trodAll_cons r1
  obtain ⟨rfl, rfl, rfl⟩ := trodAll_nil r2
  obtain rfl : args = #[v0, v1, v2] := by cases args; simp_all
  obtain ⟨rfl, rfl⟩ := trodVars_none hV
  have k0 := h0
  have lt0 : ∀ x ∈ p0, x.block < W.heap.size := by obtain ⟨m, hm⟩ := k0; exact DataW.trod_lt m _ _ _ hm
  obtain ⟨x0, y0, z0, c0, n0, rfl, w0⟩ := open_farm (hval 0 23 v0 rfl rfl) h0
  have k1 := h1
  have lt1 : ∀ x ∈ p1, x.block < W.heap.size := by obtain ⟨m, hm⟩ := k1; exact DataW.trod_lt m _ _ _ hm
  obtain ⟨x1, g1, c1, u1, q1, s1, rfl, w1⟩ := open_frame (hval 1 25 v1 rfl rfl) h1
  obtain ⟨a2, rfl, rfl, rfl⟩ := open_bool Try.underlying4 (hval 2 4 v2 rfl rfl) h2
  clear hA0 hval0
  refine (FnExactFarmHear_walk x0 y0 z0 c0 n0 x1 g1 c1 u1 q1 s1 a2 W w0 w1).mono fun e W' ⟨he, bel⟩ => ?_
  subst he
  exact ⟨_, rfl, _, _, _, [], _, [], hW', trodAll_mk1 (shut_bool Try.underlying4 _), (trodAll_cons_mk (Below.trod FnExactFarmHear_laidOut (by kernel_rfl) (of_decide_eq_true (by kernel_rfl)) k0 bel lt0) (trodAll_cons_mk (Below.trod FnExactFarmHear_laidOut (by kernel_rfl) (of_decide_eq_true (by kernel_rfl)) k1 bel lt1) (trodAll_cons_mk (shut_bool Try.underlying4 a2) trodAll_mk0))), rfl, bel.frame _, fun h => by cases h⟩
theorem FnExactFarmHear_holds : Rows.FnExactFarmHearSaid :=
  OpenClaim.holds_of_wide 3 Try.f3 rfl rfl rfl rfl rfl rfl rfl ⟨rfl, rfl, rfl, rfl, rfl⟩ rfl rfl rfl rfl rfl (by kernel_rfl) Try.func3 (by kernel_rfl)
    (of_decide_eq_true (by kernel_rfl)) (by unfold Func.isWrapper; first | (rw [if_pos (by decide +kernel)]; kernel_rfl) | (rw [if_neg (by decide +kernel)]; exact ⟨rfl, rfl⟩))
    (fun os started H enc _ => FnExactFarmHear_lifted os started H enc)
#print axioms FnExactFarmHear_holds
end Go.Proofs.Yteeneiogghldgaa
