/- Proved: laws.FnExactProgOk returns true at every list of ops (impl.ProgOk answers as spec.ProgOk, and writes nothing into it), and leaves it as it was. No condition. -/
import Derived.Test.YthhibeepfecmdaaPgW
import Derived.Test.YthhibeepfecmdaaOpOp
import Derived.Test.YthhibeepfecmdaaFrame
namespace Go.Proofs.Ythhibeepfecmdaa
open Go.ChangeShapes Go.WideShapes Go.ChangeAt Go.RowKit
set_option linter.unusedVariables false

open Go.ChangeMaps (open_string shut_string)
set_option maxRecDepth 100000 in
set_option maxHeartbeats 4000000 in
theorem FnExactProgOk_walk (a : Option Addr) (n cap : Nat) (f0 f1 f2 : Nat → Int) (w : World) (hn : n ≤ maxLen) (h : OpS w a n f0 f1 f2) :
    Calls Try.prog 11 #[.slice a n cap] w fun e w' => e = .returned (.bool true) ∧ Below w.heap.size w w' := by
  have HT : Hid _ := h
  clear h
  obtain ⟨y, hy⟩ : ∃ y, y = progB n f0 f1 f2 := ⟨_, rfl⟩
  have HSP : Hid (∀ (a : Option Addr) (W : World), n ≤ 1048576 → OpS W a n f0 f1 f2 → Calls Try.prog 49 #[.slice a n n] W fun e w' => e = .returned (.bool y) ∧ Below W.heap.size W w') := by
    intro a W hm h
    rw [hy]
    exact specProgOk_any a n n f0 f1 f2 W hm h
  have HIM : Hid (∀ (a : Option Addr) (W : World), n ≤ 1048576 → OpS W a n f0 f1 f2 → Calls Try.prog 51 #[.slice a n n] W fun e w' => e = .returned (.bool y) ∧ Below W.heap.size W w') := by
    intro a W hm h
    rw [hy]
    exact implProgOk_any a n n f0 f1 f2 W hm h
  clear hy
  go_enter Try.func11, Try.ntmps11
  go_wp2_with fail
  refine (szOpS_any a n cap _ hn).mono ?_
  rintro e w1 ⟨r, hr, rfl, rfl⟩
  have HR : Hid _ := hr
  clear hr
  by_cases h0 : r < 0
  · go_wp2_with fail
    go_ret
    exact ⟨rfl, Below.refl _ _⟩
  have hm := HR.out (by omega)
  go_wp2_with fail
  refine (toOpS_any a n cap f0 f1 f2 _ hm HT.out).mono ?_
  rintro e w2 ⟨rfl, ht2, hb2⟩
  have HT2 : Hid _ := ht2
  have HB2 : Hid _ := hb2
  have HA2 : Hid _ := OpS.below HT.out hb2
  clear ht2 hb2
  go_wp2_with fail
  refine Calls.mono (HSP.out _ _ hm HT2.out) ?_
  rintro e w3 ⟨rfl, hb3⟩
  have HB3 : Hid (Below w1.heap.size w1 w3) := HB2.out.trans (hb3.mono HB2.out.size)
  have HA3 : Hid _ := OpS.below HA2.out hb3
  clear hb3
  go_wp2_with fail
  refine (toOpS_any a n cap f0 f1 f2 _ hm HA3.out).mono ?_
  rintro e w4 ⟨rfl, ht4, hb4⟩
  have HB4 : Hid (Below w1.heap.size w1 w4) := HB3.out.trans (hb4.mono HB3.out.size)
  have HA4 : Hid _ := OpS.below HA3.out hb4
  have HT4 : Hid _ := ht4
  clear ht4 hb4
  go_wp2_with fail
  refine Calls.mono (HIM.out _ _ hm HT4.out) ?_
  rintro e w5 ⟨rfl, hb5⟩
  have HB5 : Hid (Below w1.heap.size w1 w5) := HB4.out.trans (hb5.mono HB4.out.size)
  have HA5 : Hid _ := OpS.below HA4.out hb5
  have HT5 : Hid _ := OpS.below HT4.out hb5
  clear hb5
  go_wp2_with fail
  refine (toOpS_any a n cap f0 f1 f2 _ hm HA5.out).mono ?_
  rintro e w6 ⟨rfl, ht6, hb6⟩
  have HB6 : Hid (Below w1.heap.size w1 w6) := HB5.out.trans (hb6.mono HB5.out.size)
  have HT6 : Hid _ := OpS.below HT5.out hb6
  have HU6 : Hid _ := ht6
  clear ht6 hb6
  go_wp2_with fail
  refine (eqOpS_any _ _ n n n f0 f1 f2 _ hn HT6.out HU6.out).mono ?_
  rintro e w7 ⟨rfl, hb7⟩
  have HB7 : Hid (Below w1.heap.size w1 w7) := HB6.out.trans (hb7.mono HB6.out.size)
  clear hb7
  go_wp2_with fail
  go_ret
  exact ⟨rfl, HB7.out⟩
theorem FnExactProgOk_own : ownKnob Try.prog.godebug = none := by kernel_rfl
theorem FnExactProgOk_laidOut : laidOutB Try.prog = true := by kernel_rfl
set_option maxRecDepth 100000 in
theorem FnExactProgOk_lifted (os : Os) (started : os.Started) (H : Type) (enc : TypeId × Value → H) :
    ReturnsInHanded {} Try.checked os 11 .any (Rows.fnExactProgOkSpec.pre6 enc Try.prog Try.f11 Rows.fnExactProgOkRow.domain false) (Rows.fnExactProgOkSpec.post enc Try.prog Try.f11 false true false false) := by
  refine returnsInHanded_of_change (C := Try.checked) FnExactProgOk_own started (by kernel_rfl) Try.func11
    (ChangeSpec.witness6 (enc := enc) (C := Try.checked) false ⟨#[], #[.slice none 0 0], []⟩ 8 (by kernel_rfl) (by kernel_rfl) (by kernel_rfl) (by kernel_rfl)) ?_
  intro W base args ds gs before hval0 hW hcnd _
  have hval : ∀ (j : Nat) t v, Try.f11.params[j]? = some t → args[j]? = some v → Value.okWide Try.prog W .any base t v := hval0
  have hW' := hW
  obtain ⟨p, q, hA0, hV, rfl, hfz, hnd⟩ := hW
  have hA : DataW.TrodAll enc Try.prog W 0 (fun _ => true) true Try.f11.params.toList args.toList ds p := hA0
  rw [Try.params11] at hA hval
  obtain ⟨v0, vs0, d0, ds0, p0, q0, hargs, rfl, rfl, h0, r0⟩ := trodAll_cons hA
  obtain ⟨rfl, rfl, rfl⟩ := trodAll_nil r0
  obtain rfl : args = #[v0] := by cases args; simp_all
  obtain ⟨rfl, rfl⟩ := trodVars_none hV
  have k0 := h0
  have lt0 : ∀ x ∈ p0, x.block < W.heap.size := by obtain ⟨m, hm⟩ := k0; exact DataW.trod_lt m _ _ _ hm
  obtain ⟨a0, n0, cap0, f0_0, f0_1, f0_2, rfl, w0, t0⟩ := open_OpS (hval 0 71 v0 rfl rfl) h0
  clear hA0 hval0
  refine (FnExactProgOk_walk a0 n0 cap0 f0_0 f0_1 f0_2 W w0 t0).mono fun e W' ⟨he, bel⟩ => ?_
  subst he
  exact ⟨_, rfl, _, _, _, [], _, [], hW', trodAll_mk1 (shut_bool Try.underlying4 _), (trodAll_cons_mk (Below.trod FnExactProgOk_laidOut (by kernel_rfl) (of_decide_eq_true (by kernel_rfl)) k0 bel lt0) trodAll_mk0), rfl, bel.frame _, fun h => by cases h⟩
theorem FnExactProgOk_holds : Rows.FnExactProgOkSaid :=
  OpenClaim.holds_of_wide 11 Try.f11 rfl rfl rfl rfl rfl rfl rfl ⟨rfl, rfl, rfl, rfl, rfl⟩ rfl rfl rfl rfl rfl (by kernel_rfl) Try.func11 (by kernel_rfl)
    (of_decide_eq_true (by kernel_rfl)) (by unfold Func.isWrapper; first | (rw [if_pos (by decide +kernel)]; kernel_rfl) | (rw [if_neg (by decide +kernel)]; exact ⟨rfl, rfl⟩))
    (fun os started H enc _ => FnExactProgOk_lifted os started H enc)
#print axioms FnExactProgOk_holds
end Go.Proofs.Ythhibeepfecmdaa
