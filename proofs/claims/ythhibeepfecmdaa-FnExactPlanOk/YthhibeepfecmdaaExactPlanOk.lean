/- Proved: laws.FnExactPlanOk returns true at every plan (impl.PlanOk answers as spec.PlanOk, and writes nothing into it), and leaves it as it was. No condition. -/
import Derived.Test.YthhibeepfecmdaaStPlan
import Derived.Test.YthhibeepfecmdaaOgPlan
import Derived.Test.YthhibeepfecmdaaPlW
import Derived.Test.YthhibeepfecmdaaCellsN
import Derived.Test.YthhibeepfecmdaaKeep
import Derived.Test.YthhibeepfecmdaaFrame
import Derived.Deep.RegionHeld2
namespace Go.Proofs.Ythhibeepfecmdaa
open Go.ChangeShapes Go.WideShapes Go.ChangeAt Go.RowKit
set_option linter.unusedVariables false

open Go.ChangeMaps (open_string shut_string)
set_option maxRecDepth 100000 in
set_option maxHeartbeats 8000000 in
theorem FnExactPlanOk_walk (v0 : Bool) (a1 : Option Addr) (n1 p1 : Nat) (g1_0 : Nat → Int) (g1_1 : Nat → ByteArray) (w : World) (hx1 : n1 ≤ maxLen) (h1 : ItemS w a1 n1 g1_0 g1_1) :
    Calls Try.prog 10 #[.agg #[.bool v0, .slice a1 n1 p1]] w fun e w' => e = .returned (.bool true) ∧ Below w.heap.size w w' := by
  have HBL : Hid (Below (w.heap.size + 1) (w.alloc (.cells #[.bool v0, .slice a1 n1 p1] 62)) (w.alloc (.cells #[.bool v0, .slice a1 n1 p1] 62))) := Below.refl _ _
  have HB0 : Hid (Below w.heap.size w (w.alloc (.cells #[.bool v0, .slice a1 n1 p1] 62))) := (Below.refl _ _).alloc (Nat.le_refl _) _
  have HA1 : Hid (ItemS w a1 n1 g1_0 g1_1) := h1
  have HG0 : Hid ((w.alloc (.cells #[.bool v0, .slice a1 n1 p1] 62)).heap[w.heap.size]? = some (.cells #[.bool v0, .slice a1 n1 p1] 62)) := get_new rfl
  clear h1
  go_enter Try.func10, Try.ntmps10
  go_wp2_with fail
  refine (szPlanl_any v0 a1 n1 p1 g1_0 g1_1 _ _ hx1 (HA1.out.below HB0.out) (by omega) (by omega)).mono ?_
  rintro e w1 ⟨r, hr, hr1, rfl, hb1⟩
  have HB1 : Hid (Below w.heap.size w w1) := HB0.out.trans (hb1.mono HB0.out.size)
  have HG1 : Hid (w1.heap[w.heap.size]? = some (.cells #[.bool v0, .slice a1 n1 p1] 62)) := get_below hb1 HG0.out (size_of_get HG0.out)
  have HR : Hid _ := hr
  clear hr hb1
  by_cases hneg : r < 0
  · go_wp2_with fail
    go_ret
    exact ⟨rfl, HB1.out⟩
  have hm1 := HR.out (by omega)
  obtain ⟨k0, k1⟩ := cells2_of HG1.out
  have hz : w.heap.size < w1.heap.size := size_of_get HG1.out
  go_wp2_with fail
  refine (toPlan_any v0 a1 n1 p1 g1_0 g1_1 _ hm1 (HA1.out.below HB1.out)).mono ?_
  rintro e w2 ⟨b2_1, ho2, rfl, ht2_1, hb2⟩
  clear k0 k1 hz
  have HB2 : Hid (Below w.heap.size w w2) := HB1.out.trans (hb2.mono HB1.out.size)
  have HG2 : Hid (w2.heap[w.heap.size]? = some (.cells #[.bool v0, .slice a1 n1 p1] 62)) := get_below hb2 HG1.out (size_of_get HG1.out)
  have HT2_1 : Hid (ItemS w2 (some ⟨b2_1, 0, none⟩) n1 g1_0 g1_1) := ht2_1
  clear hb2 ht2_1
  go_wp2_with fail
  refine (specPlanOk_any v0 (some ⟨b2_1, 0, none⟩) n1 n1 g1_0 g1_1 _ hm1 HT2_1.out).mono ?_
  rintro e w3 ⟨rfl, hb3⟩
  have HB3 : Hid (Below w.heap.size w w3) := HB2.out.trans (hb3.mono HB2.out.size)
  have HG3 : Hid (w3.heap[w.heap.size]? = some (.cells #[.bool v0, .slice a1 n1 p1] 62)) := get_below hb3 HG2.out (size_of_get HG2.out)
  clear hb3
  obtain ⟨k0, k1⟩ := cells2_of HG3.out
  have hz : w.heap.size < w3.heap.size := size_of_get HG3.out
  go_wp2_with fail
  refine (toPlan_any v0 a1 n1 p1 g1_0 g1_1 _ hm1 (HA1.out.below HB3.out)).mono ?_
  rintro e w4 ⟨b4_1, ho4, rfl, ht4_1, hb4⟩
  clear k0 k1 hz
  have HB4 : Hid (Below w.heap.size w w4) := HB3.out.trans (hb4.mono HB3.out.size)
  have HG4 : Hid (w4.heap[w.heap.size]? = some (.cells #[.bool v0, .slice a1 n1 p1] 62)) := get_below hb4 HG3.out (size_of_get HG3.out)
  have HF4_1 : Hid (ItemS (w4.alloc (.cells #[.bool v0, .slice (some ⟨b4_1, 0, none⟩) n1 n1] 67)) (some ⟨b4_1, 0, none⟩) n1 g1_0 g1_1) := ht4_1.alloc _
  have HB5 : Hid (Below w.heap.size w (w4.alloc (.cells #[.bool v0, .slice (some ⟨b4_1, 0, none⟩) n1 n1] 67))) := HB4.out.alloc HB4.out.size _
  have HG5 : Hid ((w4.alloc (.cells #[.bool v0, .slice (some ⟨b4_1, 0, none⟩) n1 n1] 67)).heap[w.heap.size]? = some (.cells #[.bool v0, .slice a1 n1 p1] 62)) := get_alloc HG4.out (size_of_get HG4.out)
  have HX5 : Hid ((w4.alloc (.cells #[.bool v0, .slice (some ⟨b4_1, 0, none⟩) n1 n1] 67)).heap[w4.heap.size]? = some (.cells #[.bool v0, .slice (some ⟨b4_1, 0, none⟩) n1 n1] 67)) := get_new rfl
  clear hb4 ht4_1
  go_wp2_with fail
  generalize (w4.alloc (.cells #[.bool v0, .slice (some ⟨b4_1, 0, none⟩) n1 n1] 67)) = w5 at *
  refine (implPlanOk_any v0 (some ⟨b4_1, 0, none⟩) n1 n1 g1_0 g1_1 _ hm1 HF4_1.out).mono ?_
  rintro e w6 ⟨rfl, hb6⟩
  have HB6 : Hid (Below w.heap.size w w6) := HB5.out.trans (hb6.mono HB5.out.size)
  have HG6 : Hid (w6.heap[w.heap.size]? = some (.cells #[.bool v0, .slice a1 n1 p1] 62)) := get_below hb6 HG5.out (size_of_get HG5.out)
  have HF6_1 : Hid (ItemS w6 (some ⟨b4_1, 0, none⟩) n1 g1_0 g1_1) := HF4_1.out.below hb6
  have HX6 : w6.heap[w4.heap.size]? = some (.cells #[.bool v0, .slice (some ⟨b4_1, 0, none⟩) n1 n1] 67) := get_below hb6 HX5.out (size_of_get HX5.out)
  clear hb6
  obtain ⟨k0, k1⟩ := cells2_of HG6.out
  obtain ⟨j0, j1⟩ := cells2_of HX6
  go_wp2_with fail
  have HD : Below w6.heap.size w6 w6.drew ∧ w6.drew.cell? ⟨w.heap.size, 0, none⟩ = some (.bool v0) ∧ w6.drew.cell? ⟨w.heap.size, 1, none⟩ = some (.slice a1 n1 p1) ∧ w6.drew.cell? ⟨w4.heap.size, 0, none⟩ = some (.bool v0) ∧ w6.drew.cell? ⟨w4.heap.size, 1, none⟩ = some (.slice (some ⟨b4_1, 0, none⟩) n1 n1) := ⟨(Below.refl _ _).drew, k0, k1, j0, j1⟩
  clear k0 k1 j0 j1 HX6
  go_region_held2 (fun W => Below w6.heap.size w6 W ∧ W.cell? ⟨w.heap.size, 0, none⟩ = some (.bool v0) ∧ W.cell? ⟨w.heap.size, 1, none⟩ = some (.slice a1 n1 p1) ∧ W.cell? ⟨w4.heap.size, 0, none⟩ = some (.bool v0) ∧ W.cell? ⟨w4.heap.size, 1, none⟩ = some (.slice (some ⟨b4_1, 0, none⟩) n1 n1)) (first | with_reducible assumption) ((first | (go_at_call 45; refine (toPlan_any v0 a1 n1 p1 g1_0 g1_1 _ hm1 (HA1.out.below (HB6.out.trans ((show Below w6.heap.size w6 _ from (Below.refl _ _).drew).mono HB6.out.size)))).mono ?_; rintro e w8 ⟨b8_1, ho8, rfl, ht8_1, hb8⟩; have HK := keepC4 (by with_reducible assumption) hb8; have HT8_1 : Hid _ := ht8_1; clear ht8_1 hb8) | (go_at_call 47; refine (eqPlan_any v0 (some ⟨b4_1, 0, none⟩) n1 n1 g1_0 g1_1 _ _ _ hx1 (HF6_1.out.below HK.1) HT8_1.out).mono ?_; rintro e w9 ⟨rfl, hb9⟩; have HK9 := keepC4 (by with_reducible assumption) hb9; clear hb9)))
  go_wp2_with fail
  go_ret
  exact ⟨rfl, HB6.out.trans (HK9.1.mono HB6.out.size)⟩
theorem FnExactPlanOk_own : ownKnob Try.prog.godebug = none := by kernel_rfl
theorem FnExactPlanOk_laidOut : laidOutB Try.prog = true := by kernel_rfl
set_option maxRecDepth 100000 in
theorem FnExactPlanOk_lifted (os : Os) (started : os.Started) (H : Type) (enc : TypeId × Value → H) :
    ReturnsInHanded {} Try.checked os 10 .any (Rows.fnExactPlanOkSpec.pre6 enc Try.prog Try.f10 Rows.fnExactPlanOkRow.domain false) (Rows.fnExactPlanOkSpec.post enc Try.prog Try.f10 false true false false) := by
  refine returnsInHanded_of_change (C := Try.checked) FnExactPlanOk_own started (by kernel_rfl) Try.func10
    (ChangeSpec.witness6 (enc := enc) (C := Try.checked) false ⟨#[], #[.agg #[.bool false, .slice none 0 0]], []⟩ 8 (by kernel_rfl) (by kernel_rfl) (by kernel_rfl) (by kernel_rfl)) ?_
  intro W base args ds gs before hval0 hW hcnd _
  have hval : ∀ (j : Nat) t v, Try.f10.params[j]? = some t → args[j]? = some v → Value.okWide Try.prog W .any base t v := hval0
  have hW' := hW
  obtain ⟨p, q, hA0, hV, rfl, hfz, hnd⟩ := hW
  have hA : DataW.TrodAll enc Try.prog W 0 (fun _ => true) true Try.f10.params.toList args.toList ds p := hA0
  rw [Try.params10] at hA hval
  obtain ⟨v0, vs0, d0, ds0, p0, q0, hargs, rfl, rfl, h0, r0⟩ := trodAll_cons hA
  obtain ⟨rfl, rfl, rfl⟩ := trodAll_nil r0
  obtain rfl : args = #[v0] := by cases args; simp_all
  obtain ⟨rfl, rfl⟩ := trodVars_none hV
  have k0 := h0
  have lt0 : ∀ x ∈ p0, x.block < W.heap.size := by obtain ⟨m, hm⟩ := k0; exact DataW.trod_lt m _ _ _ hm
  obtain ⟨y0v0, y0a1, y0n1, y0p1, y0g1_0, y0g1_1, rfl, w0_1_n, w0_1_t⟩ := opens_plan (hval 0 62 v0 rfl rfl) h0
  clear hA0 hval0
  refine (FnExactPlanOk_walk y0v0 y0a1 y0n1 y0p1 y0g1_0 y0g1_1 W w0_1_n w0_1_t).mono fun e W' ⟨he, bel⟩ => ?_
  subst he
  exact ⟨_, rfl, _, _, _, [], _, [], hW', trodAll_mk1 (shut_bool Try.underlying4 _), (trodAll_cons_mk (Below.trod FnExactPlanOk_laidOut (by kernel_rfl) (of_decide_eq_true (by kernel_rfl)) k0 bel lt0) trodAll_mk0), rfl, bel.frame _, fun h => by cases h⟩
theorem FnExactPlanOk_holds : Rows.FnExactPlanOkSaid :=
  OpenClaim.holds_of_wide 10 Try.f10 rfl rfl rfl rfl rfl rfl rfl ⟨rfl, rfl, rfl, rfl, rfl⟩ rfl rfl rfl rfl rfl (by kernel_rfl) Try.func10 (by kernel_rfl)
    (of_decide_eq_true (by kernel_rfl)) (by unfold Func.isWrapper; first | (rw [if_pos (by decide +kernel)]; kernel_rfl) | (rw [if_neg (by decide +kernel)]; exact ⟨rfl, rfl⟩))
    (fun os started H enc _ => FnExactPlanOk_lifted os started H enc)
#print axioms FnExactPlanOk_holds
end Go.Proofs.Ythhibeepfecmdaa
