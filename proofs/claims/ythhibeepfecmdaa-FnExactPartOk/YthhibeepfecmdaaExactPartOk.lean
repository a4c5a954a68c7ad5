/- Proved: laws.FnExactPartOk returns true at every part (impl.PartOk answers as spec.PartOk, and writes nothing into it), and leaves it as it was. No condition. -/
import Derived.Test.YthhibeepfecmdaaStPart
import Derived.Test.YthhibeepfecmdaaOgPart
import Derived.Test.YthhibeepfecmdaaPtW
import Derived.Test.YthhibeepfecmdaaCellsN
import Derived.Test.YthhibeepfecmdaaKeep
import Derived.Test.YthhibeepfecmdaaFrame
import Derived.Deep.RegionHeld2
namespace Go.Proofs.Ythhibeepfecmdaa
open Go.ChangeShapes Go.WideShapes Go.ChangeAt Go.RowKit
set_option linter.unusedVariables false

open Go.ChangeMaps (open_string shut_string)
set_option maxRecDepth 100000 in
set_option maxHeartbeats 8000000 in
theorem FnExactPartOk_walk (a0 : Option Addr) (n0 p0 : Nat) (g0_0 : Nat → Int) (g0_1 : Nat → Int) (g0_2 : Nat → Int) (a1 : Option Addr) (n1 p1 : Nat) (g1 : Nat → Int) (v2 : Int) (v3 : Bool) (a4 : Option Addr) (n4 p4 : Nat) (g4 : Nat → Int) (w : World) (hx0 : n0 ≤ maxLen) (h0 : OpS w a0 n0 g0_0 g0_1 g0_2) (hx1 : n1 ≤ maxLen) (h1 : IntS w a1 n1 g1) (hx4 : n4 ≤ maxLen) (h4 : IntS w a4 n4 g4) :
    Calls Try.prog 12 #[.agg #[.slice a0 n0 p0, .slice a1 n1 p1, .int .i64 v2, .bool v3, .slice a4 n4 p4]] w fun e w' => e = .returned (.bool true) ∧ Below w.heap.size w w' := by
  have HBL : Hid (Below (w.heap.size + 1) (w.alloc (.cells #[.slice a0 n0 p0, .slice a1 n1 p1, .int .i64 v2, .bool v3, .slice a4 n4 p4] 80)) (w.alloc (.cells #[.slice a0 n0 p0, .slice a1 n1 p1, .int .i64 v2, .bool v3, .slice a4 n4 p4] 80))) := Below.refl _ _
  have HB0 : Hid (Below w.heap.size w (w.alloc (.cells #[.slice a0 n0 p0, .slice a1 n1 p1, .int .i64 v2, .bool v3, .slice a4 n4 p4] 80))) := (Below.refl _ _).alloc (Nat.le_refl _) _
  have HA0 : Hid (OpS w a0 n0 g0_0 g0_1 g0_2) := h0
  have HA1 : Hid (IntS w a1 n1 g1) := h1
  have HA4 : Hid (IntS w a4 n4 g4) := h4
  have HG0 : Hid ((w.alloc (.cells #[.slice a0 n0 p0, .slice a1 n1 p1, .int .i64 v2, .bool v3, .slice a4 n4 p4] 80)).heap[w.heap.size]? = some (.cells #[.slice a0 n0 p0, .slice a1 n1 p1, .int .i64 v2, .bool v3, .slice a4 n4 p4] 80)) := get_new rfl
  clear h0 h1 h4
  go_enter Try.func12, Try.ntmps12
  go_wp2_with fail
  refine (szPartl_any a0 n0 p0 g0_0 g0_1 g0_2 a1 n1 p1 g1 v2 v3 a4 n4 p4 g4 _ _ hx0 hx1 hx4 (HA0.out.below HB0.out) (HA1.out.below HB0.out) (HA4.out.below HB0.out) (by omega) (by omega)).mono ?_
  rintro e w1 ⟨r, hr, hr1, rfl, hb1⟩
  have HB1 : Hid (Below w.heap.size w w1) := HB0.out.trans (hb1.mono HB0.out.size)
  have HG1 : Hid (w1.heap[w.heap.size]? = some (.cells #[.slice a0 n0 p0, .slice a1 n1 p1, .int .i64 v2, .bool v3, .slice a4 n4 p4] 80)) := get_below hb1 HG0.out (size_of_get HG0.out)
  have HR : Hid _ := hr
  clear hr hb1
  by_cases hneg : r < 0
  · go_wp2_with fail
    go_ret
    exact ⟨rfl, HB1.out⟩
  have hms := HR.out (by omega)
  obtain ⟨hm0, hm1, hm4⟩ := hms
  obtain ⟨k0, k1, k2, k3, k4⟩ := cells5_of HG1.out
  have hz : w.heap.size < w1.heap.size := size_of_get HG1.out
  go_wp2_with fail
  refine (toPart_any a0 n0 p0 g0_0 g0_1 g0_2 a1 n1 p1 g1 v2 v3 a4 n4 p4 g4 _ hm0 hm1 hm4 (HA0.out.below HB1.out) (HA1.out.below HB1.out) (HA4.out.below HB1.out)).mono ?_
  rintro e w2 ⟨b2_0, b2_1, b2_4, ho2, rfl, ⟨ht2_0, ht2_1, ht2_4⟩, hb2⟩
  clear k0 k1 k2 k3 k4 hz
  have HB2 : Hid (Below w.heap.size w w2) := HB1.out.trans (hb2.mono HB1.out.size)
  have HG2 : Hid (w2.heap[w.heap.size]? = some (.cells #[.slice a0 n0 p0, .slice a1 n1 p1, .int .i64 v2, .bool v3, .slice a4 n4 p4] 80)) := get_below hb2 HG1.out (size_of_get HG1.out)
  have HT2_0 : Hid (OpS w2 (some ⟨b2_0, 0, none⟩) n0 g0_0 g0_1 g0_2) := ht2_0
  have HT2_1 : Hid (IntS w2 (some ⟨b2_1, 0, none⟩) n1 g1) := ht2_1
  have HT2_4 : Hid (IntS w2 (some ⟨b2_4, 0, none⟩) n4 g4) := ht2_4
  clear hb2 ht2_0 ht2_1 ht2_4
  go_wp2_with fail
  refine (specPartOk_any (some ⟨b2_0, 0, none⟩) n0 n0 g0_0 g0_1 g0_2 (some ⟨b2_1, 0, none⟩) n1 n1 g1 v2 v3 (some ⟨b2_4, 0, none⟩) n4 n4 g4 _ hm0 hm1 hm4 HT2_0.out HT2_1.out HT2_4.out).mono ?_
  rintro e w3 ⟨rfl, hb3⟩
  have HB3 : Hid (Below w.heap.size w w3) := HB2.out.trans (hb3.mono HB2.out.size)
  have HG3 : Hid (w3.heap[w.heap.size]? = some (.cells #[.slice a0 n0 p0, .slice a1 n1 p1, .int .i64 v2, .bool v3, .slice a4 n4 p4] 80)) := get_below hb3 HG2.out (size_of_get HG2.out)
  clear hb3
  obtain ⟨k0, k1, k2, k3, k4⟩ := cells5_of HG3.out
  have hz : w.heap.size < w3.heap.size := size_of_get HG3.out
  go_wp2_with fail
  refine (toPart_any a0 n0 p0 g0_0 g0_1 g0_2 a1 n1 p1 g1 v2 v3 a4 n4 p4 g4 _ hm0 hm1 hm4 (HA0.out.below HB3.out) (HA1.out.below HB3.out) (HA4.out.below HB3.out)).mono ?_
  rintro e w4 ⟨b4_0, b4_1, b4_4, ho4, rfl, ⟨ht4_0, ht4_1, ht4_4⟩, hb4⟩
  clear k0 k1 k2 k3 k4 hz
  have HB4 : Hid (Below w.heap.size w w4) := HB3.out.trans (hb4.mono HB3.out.size)
  have HG4 : Hid (w4.heap[w.heap.size]? = some (.cells #[.slice a0 n0 p0, .slice a1 n1 p1, .int .i64 v2, .bool v3, .slice a4 n4 p4] 80)) := get_below hb4 HG3.out (size_of_get HG3.out)
  have HF4_0 : Hid (OpS (w4.alloc (.cells #[.slice (some ⟨b4_0, 0, none⟩) n0 n0, .slice (some ⟨b4_1, 0, none⟩) n1 n1, .int .i64 v2, .bool v3, .slice (some ⟨b4_4, 0, none⟩) n4 n4] 84)) (some ⟨b4_0, 0, none⟩) n0 g0_0 g0_1 g0_2) := ht4_0.alloc _
  have HF4_1 : Hid (IntS (w4.alloc (.cells #[.slice (some ⟨b4_0, 0, none⟩) n0 n0, .slice (some ⟨b4_1, 0, none⟩) n1 n1, .int .i64 v2, .bool v3, .slice (some ⟨b4_4, 0, none⟩) n4 n4] 84)) (some ⟨b4_1, 0, none⟩) n1 g1) := ht4_1.alloc _
  have HF4_4 : Hid (IntS (w4.alloc (.cells #[.slice (some ⟨b4_0, 0, none⟩) n0 n0, .slice (some ⟨b4_1, 0, none⟩) n1 n1, .int .i64 v2, .bool v3, .slice (some ⟨b4_4, 0, none⟩) n4 n4] 84)) (some ⟨b4_4, 0, none⟩) n4 g4) := ht4_4.alloc _
  have HB5 : Hid (Below w.heap.size w (w4.alloc (.cells #[.slice (some ⟨b4_0, 0, none⟩) n0 n0, .slice (some ⟨b4_1, 0, none⟩) n1 n1, .int .i64 v2, .bool v3, .slice (some ⟨b4_4, 0, none⟩) n4 n4] 84))) := HB4.out.alloc HB4.out.size _
  have HG5 : Hid ((w4.alloc (.cells #[.slice (some ⟨b4_0, 0, none⟩) n0 n0, .slice (some ⟨b4_1, 0, none⟩) n1 n1, .int .i64 v2, .bool v3, .slice (some ⟨b4_4, 0, none⟩) n4 n4] 84)).heap[w.heap.size]? = some (.cells #[.slice a0 n0 p0, .slice a1 n1 p1, .int .i64 v2, .bool v3, .slice a4 n4 p4] 80)) := get_alloc HG4.out (size_of_get HG4.out)
  have HX5 : Hid ((w4.alloc (.cells #[.slice (some ⟨b4_0, 0, none⟩) n0 n0, .slice (some ⟨b4_1, 0, none⟩) n1 n1, .int .i64 v2, .bool v3, .slice (some ⟨b4_4, 0, none⟩) n4 n4] 84)).heap[w4.heap.size]? = some (.cells #[.slice (some ⟨b4_0, 0, none⟩) n0 n0, .slice (some ⟨b4_1, 0, none⟩) n1 n1, .int .i64 v2, .bool v3, .slice (some ⟨b4_4, 0, none⟩) n4 n4] 84)) := get_new rfl
  clear hb4 ht4_0 ht4_1 ht4_4
  go_wp2_with fail
  generalize (w4.alloc (.cells #[.slice (some ⟨b4_0, 0, none⟩) n0 n0, .slice (some ⟨b4_1, 0, none⟩) n1 n1, .int .i64 v2, .bool v3, .slice (some ⟨b4_4, 0, none⟩) n4 n4] 84)) = w5 at *
  refine (implPartOk_any (some ⟨b4_0, 0, none⟩) n0 n0 g0_0 g0_1 g0_2 (some ⟨b4_1, 0, none⟩) n1 n1 g1 v2 v3 (some ⟨b4_4, 0, none⟩) n4 n4 g4 _ hm0 hm1 hm4 HF4_0.out HF4_1.out HF4_4.out).mono ?_
  rintro e w6 ⟨rfl, hb6⟩
  have HB6 : Hid (Below w.heap.size w w6) := HB5.out.trans (hb6.mono HB5.out.size)
  have HG6 : Hid (w6.heap[w.heap.size]? = some (.cells #[.slice a0 n0 p0, .slice a1 n1 p1, .int .i64 v2, .bool v3, .slice a4 n4 p4] 80)) := get_below hb6 HG5.out (size_of_get HG5.out)
  have HF6_0 : Hid (OpS w6 (some ⟨b4_0, 0, none⟩) n0 g0_0 g0_1 g0_2) := HF4_0.out.below hb6
  have HF6_1 : Hid (IntS w6 (some ⟨b4_1, 0, none⟩) n1 g1) := HF4_1.out.below hb6
  have HF6_4 : Hid (IntS w6 (some ⟨b4_4, 0, none⟩) n4 g4) := HF4_4.out.below hb6
  have HX6 : w6.heap[w4.heap.size]? = some (.cells #[.slice (some ⟨b4_0, 0, none⟩) n0 n0, .slice (some ⟨b4_1, 0, none⟩) n1 n1, .int .i64 v2, .bool v3, .slice (some ⟨b4_4, 0, none⟩) n4 n4] 84) := get_below hb6 HX5.out (size_of_get HX5.out)
  clear hb6
  obtain ⟨k0, k1, k2, k3, k4⟩ := cells5_of HG6.out
  obtain ⟨j0, j1, j2, j3, j4⟩ := cells5_of HX6
  go_wp2_with fail
  have HD : Below w6.heap.size w6 w6.drew ∧ w6.drew.cell? ⟨w.heap.size, 0, none⟩ = some (.slice a0 n0 p0) ∧ w6.drew.cell? ⟨w.heap.size, 1, none⟩ = some (.slice a1 n1 p1) ∧ w6.drew.cell? ⟨w.heap.size, 2, none⟩ = some (.int .i64 v2) ∧ w6.drew.cell? ⟨w.heap.size, 3, none⟩ = some (.bool v3) ∧ w6.drew.cell? ⟨w.heap.size, 4, none⟩ = some (.slice a4 n4 p4) ∧ w6.drew.cell? ⟨w4.heap.size, 0, none⟩ = some (.slice (some ⟨b4_0, 0, none⟩) n0 n0) ∧ w6.drew.cell? ⟨w4.heap.size, 1, none⟩ = some (.slice (some ⟨b4_1, 0, none⟩) n1 n1) ∧ w6.drew.cell? ⟨w4.heap.size, 2, none⟩ = some (.int .i64 v2) ∧ w6.drew.cell? ⟨w4.heap.size, 3, none⟩ = some (.bool v3) ∧ w6.drew.cell? ⟨w4.heap.size, 4, none⟩ = some (.slice (some ⟨b4_4, 0, none⟩) n4 n4) := ⟨(Below.refl _ _).drew, k0, k1, k2, k3, k4, j0, j1, j2, j3, j4⟩
  clear k0 k1 k2 k3 k4 j0 j1 j2 j3 j4 HX6
  go_region_held2 (fun W => Below w6.heap.size w6 W ∧ W.cell? ⟨w.heap.size, 0, none⟩ = some (.slice a0 n0 p0) ∧ W.cell? ⟨w.heap.size, 1, none⟩ = some (.slice a1 n1 p1) ∧ W.cell? ⟨w.heap.size, 2, none⟩ = some (.int .i64 v2) ∧ W.cell? ⟨w.heap.size, 3, none⟩ = some (.bool v3) ∧ W.cell? ⟨w.heap.size, 4, none⟩ = some (.slice a4 n4 p4) ∧ W.cell? ⟨w4.heap.size, 0, none⟩ = some (.slice (some ⟨b4_0, 0, none⟩) n0 n0) ∧ W.cell? ⟨w4.heap.size, 1, none⟩ = some (.slice (some ⟨b4_1, 0, none⟩) n1 n1) ∧ W.cell? ⟨w4.heap.size, 2, none⟩ = some (.int .i64 v2) ∧ W.cell? ⟨w4.heap.size, 3, none⟩ = some (.bool v3) ∧ W.cell? ⟨w4.heap.size, 4, none⟩ = some (.slice (some ⟨b4_4, 0, none⟩) n4 n4)) (first | with_reducible assumption) ((first | (go_at_call 55; refine (toPart_any a0 n0 p0 g0_0 g0_1 g0_2 a1 n1 p1 g1 v2 v3 a4 n4 p4 g4 _ hm0 hm1 hm4 (HA0.out.below (HB6.out.trans ((show Below w6.heap.size w6 _ from (Below.refl _ _).drew).mono HB6.out.size))) (HA1.out.below (HB6.out.trans ((show Below w6.heap.size w6 _ from (Below.refl _ _).drew).mono HB6.out.size))) (HA4.out.below (HB6.out.trans ((show Below w6.heap.size w6 _ from (Below.refl _ _).drew).mono HB6.out.size)))).mono ?_; rintro e w8 ⟨b8_0, b8_1, b8_4, ho8, rfl, ⟨ht8_0, ht8_1, ht8_4⟩, hb8⟩; have HK := keepC10 (by with_reducible assumption) hb8; have HT8_0 : Hid _ := ht8_0; have HT8_1 : Hid _ := ht8_1; have HT8_4 : Hid _ := ht8_4; clear ht8_0 ht8_1 ht8_4 hb8) | (go_at_call 57; refine (eqPart_any (some ⟨b4_0, 0, none⟩) n0 n0 g0_0 g0_1 g0_2 (some ⟨b4_1, 0, none⟩) n1 n1 g1 v2 v3 (some ⟨b4_4, 0, none⟩) n4 n4 g4 _ _ _ _ _ _ _ hx0 hx1 hx4 (HF6_0.out.below HK.1) (HF6_1.out.below HK.1) (HF6_4.out.below HK.1) HT8_0.out HT8_1.out HT8_4.out).mono ?_; rintro e w9 ⟨rfl, hb9⟩; have HK9 := keepC10 (by with_reducible assumption) hb9; clear hb9)))
  go_wp2_with fail
  go_ret
  exact ⟨rfl, HB6.out.trans (HK9.1.mono HB6.out.size)⟩
theorem FnExactPartOk_own : ownKnob Try.prog.godebug = none := by kernel_rfl
theorem FnExactPartOk_laidOut : laidOutB Try.prog = true := by kernel_rfl
set_option maxRecDepth 100000 in
theorem FnExactPartOk_lifted (os : Os) (started : os.Started) (H : Type) (enc : TypeId × Value → H) :
    ReturnsInHanded {} Try.checked os 12 .any (Rows.fnExactPartOkSpec.pre6 enc Try.prog Try.f12 Rows.fnExactPartOkRow.domain false) (Rows.fnExactPartOkSpec.post enc Try.prog Try.f12 false true false false) := by
  refine returnsInHanded_of_change (C := Try.checked) FnExactPartOk_own started (by kernel_rfl) Try.func12
    (ChangeSpec.witness6 (enc := enc) (C := Try.checked) false ⟨#[], #[.agg #[.slice none 0 0, .slice none 0 0, .int .i64 0, .bool false, .slice none 0 0]], []⟩ 8 (by kernel_rfl) (by kernel_rfl) (by kernel_rfl) (by kernel_rfl)) ?_
  intro W base args ds gs before hval0 hW hcnd _
  have hval : ∀ (j : Nat) t v, Try.f12.params[j]? = some t → args[j]? = some v → Value.okWide Try.prog W .any base t v := hval0
  have hW' := hW
  obtain ⟨p, q, hA0, hV, rfl, hfz, hnd⟩ := hW
  have hA : DataW.TrodAll enc Try.prog W 0 (fun _ => true) true Try.f12.params.toList args.toList ds p := hA0
  rw [Try.params12] at hA hval
  obtain ⟨v0, vs0, d0, ds0, p0, q0, hargs, rfl, rfl, h0, r0⟩ := trodAll_cons hA
  obtain ⟨rfl, rfl, rfl⟩ := trodAll_nil r0
  obtain rfl : args = #[v0] := by cases args; simp_all
  obtain ⟨rfl, rfl⟩ := trodVars_none hV
  have k0 := h0
  have lt0 : ∀ x ∈ p0, x.block < W.heap.size := by obtain ⟨m, hm⟩ := k0; exact DataW.trod_lt m _ _ _ hm
  obtain ⟨y0a0, y0n0, y0p0, y0g0_0, y0g0_1, y0g0_2, y0a1, y0n1, y0p1, y0g1, y0v2, y0v3, y0a4, y0n4, y0p4, y0g4, rfl, w0_0_n, w0_0_t, w0_1_n, w0_1_t, w0_4_n, w0_4_t⟩ := opens_part (hval 0 80 v0 rfl rfl) h0
  clear hA0 hval0
  refine (FnExactPartOk_walk y0a0 y0n0 y0p0 y0g0_0 y0g0_1 y0g0_2 y0a1 y0n1 y0p1 y0g1 y0v2 y0v3 y0a4 y0n4 y0p4 y0g4 W w0_0_n w0_0_t w0_1_n w0_1_t w0_4_n w0_4_t).mono fun e W' ⟨he, bel⟩ => ?_
  subst he
  exact ⟨_, rfl, _, _, _, [], _, [], hW', trodAll_mk1 (shut_bool Try.underlying4 _), (trodAll_cons_mk (Below.trod FnExactPartOk_laidOut (by kernel_rfl) (of_decide_eq_true (by kernel_rfl)) k0 bel lt0) trodAll_mk0), rfl, bel.frame _, fun h => by cases h⟩
theorem FnExactPartOk_holds : Rows.FnExactPartOkSaid :=
  OpenClaim.holds_of_wide 12 Try.f12 rfl rfl rfl rfl rfl rfl rfl ⟨rfl, rfl, rfl, rfl, rfl⟩ rfl rfl rfl rfl rfl (by kernel_rfl) Try.func12 (by kernel_rfl)
    (of_decide_eq_true (by kernel_rfl)) (by unfold Func.isWrapper; first | (rw [if_pos (by decide +kernel)]; kernel_rfl) | (rw [if_neg (by decide +kernel)]; exact ⟨rfl, rfl⟩))
    (fun os started H enc _ => FnExactPartOk_lifted os started H enc)
#print axioms FnExactPartOk_holds
end Go.Proofs.Ythhibeepfecmdaa
