/- Proved: laws.FnExactFramePut returns true at every Frame (impl.FramePut answers as spec.FramePut) and leaves it as it was. No condition. -/
import Derived.Test.YtjhkekddiikpfaaFrQ
import Derived.Test.YtjhkekddiikpfaaAgg
namespace Go.Proofs.Ytjhkekddiikpfaa
open Go.ChangeShapes Go.WideShapes Go.ChangeAt Go.RowKit
open Go.ChangeMaps (open_string shut_string)
set_option linter.unusedVariables false

set_option maxHeartbeats 1000000 in
theorem FnExactFramePut_walk (p g : Bool) (c v q : Int) (d : ByteArray) (w : World) (hd : d.size ≤ maxLen) :
    Calls Try.prog 5 #[.agg #[.bool p, .bool g, .int .i64 c, .int .i64 v, .int .i64 q, .string d]] w fun e w' => e = .returned (.bool true) ∧ Below w.heap.size w w' := by
  have HB0 : Hid (∀ o, Below w.heap.size w (w.alloc o)) := fun o => (Below.refl _ _).alloc (Nat.le_refl _) o
  by_cases hb : 1048576 < d.size
  · go_enter Try.func5, Try.ntmps5
    go_wp2_with fail
    refine (szFrame_great _ _ _ _ _ _ _ hd hb).mono ?_
    rintro e w1 ⟨rfl, hb1⟩
    have HB1 : Hid (Below w.heap.size w w1) := (HB0.out _).trans (hb1.mono (by simp))
    clear hb1
    go_wp2_with fail
    go_ret
    exact ⟨rfl, HB1.out⟩
  have hle : d.size ≤ 1048576 := by omega
  have hnn : ¬ (1048576 : Int) - d.size < 0 := by omega
  go_enter Try.func5, Try.ntmps5
  go_wp2_with fail
  refine (szFrame_fits _ _ _ _ _ _ _ hle).mono ?_
  rintro e w1 ⟨rfl, hb1⟩
  have HB1 : Hid (Below w.heap.size w w1) := (HB0.out _).trans (hb1.mono (by simp))
  obtain ⟨hc1, hf1⟩ := bcell0 hb1
  have hz1 : w.heap.size < w1.heap.size := by have := hb1.size; simp at this; omega
  have HC : Hid (Below (w.alloc (.cells #[.bool p, .bool g, .int .i64 c, .int .i64 v, .int .i64 q, .string d] 36)).heap.size (w.alloc (.cells #[.bool p, .bool g, .int .i64 c, .int .i64 v, .int .i64 q, .string d] 36)) w1) := hb1
  clear hb1
  go_wp2_with fail
  refine (toFrame_any _ _ _ _ _ _ _).mono ?_
  rintro e w2 ⟨rfl, hb2⟩
  have HB2 : Hid (Below w.heap.size w w2) := HB1.out.trans (hb2.mono HB1.out.size)
  have HC2 : Hid (Below (w.alloc (.cells #[.bool p, .bool g, .int .i64 c, .int .i64 v, .int .i64 q, .string d] 36)).heap.size (w.alloc (.cells #[.bool p, .bool g, .int .i64 c, .int .i64 v, .int .i64 q, .string d] 36)) w2) := HC.out.trans (hb2.mono HC.out.size)
  clear hb2
  go_wp2_with fail
  refine (specFramePut_any _ _ _ _ _ _ _ hd).mono ?_
  rintro e w3 ⟨rfl, hb3⟩
  have HB3 : Hid (Below w.heap.size w w3) := HB2.out.trans (hb3.mono HB2.out.size)
  have hC3 := HC2.out.trans (hb3.mono HC2.out.size)
  obtain ⟨hc3, hf3⟩ := bcell0 hC3
  clear hb3 hC3 hc1 hf1
  go_wp2_with fail
  refine (toFrame_any _ _ _ _ _ _ _).mono ?_
  rintro e w4 ⟨rfl, hb4⟩
  have HB4 : Hid (Below w.heap.size w w4) := HB3.out.trans (hb4.mono HB3.out.size)
  clear hb4 hc3 hf3
  go_wp2_with fail
  refine (implFramePut_any _ _ _ _ _ _ _ hd).mono ?_
  rintro e w5 ⟨rfl, hb5⟩
  have HB5 : Hid (Below w.heap.size w w5) := HB4.out.trans (hb5.mono HB4.out.size)
  clear hb5
  go_wp2_with fail
  go_ret
  exact ⟨rfl, HB5.out⟩

theorem FnExactFramePut_own : ownKnob Try.prog.godebug = none := by kernel_rfl
theorem FnExactFramePut_laidOut : laidOutB Try.prog = true := by kernel_rfl
set_option maxRecDepth 100000 in
theorem FnExactFramePut_lifted (os : Os) (started : os.Started) (H : Type) (enc : TypeId × Value → H) :
    ReturnsInHanded {} Try.checked os 5 .any (Rows.fnExactFramePutSpec.pre6 enc Try.prog Try.f5 Rows.fnExactFramePutRow.domain false) (Rows.fnExactFramePutSpec.post enc Try.prog Try.f5 false true false false) := by
  refine returnsInHanded_of_change (C := Try.checked) FnExactFramePut_own started (by kernel_rfl) Try.func5
    (ChangeSpec.witness6 (enc := enc) (C := Try.checked) false ⟨#[], #[.agg #[.bool false, .bool false, .int .i64 0, .int .i64 0, .int .i64 0, .string ⟨#[]⟩]], []⟩ 8 (by kernel_rfl) (by kernel_rfl) (by kernel_rfl) (by kernel_rfl)) ?_
  intro W base args ds gs before hval0 hW hcnd _
  have hval : ∀ (j : Nat) t v, Try.f5.params[j]? = some t → args[j]? = some v → Value.okWide Try.prog W .any base t v := hval0
  have hW' := hW
  obtain ⟨p, q, hA0, hV, rfl, hfz, hnd⟩ := hW
  have hA : DataW.TrodAll enc Try.prog W 0 (fun _ => true) true Try.f5.params.toList args.toList ds p := hA0
  rw [Try.params5] at hA hval
  obtain ⟨v0, vs0, d0, ds0, p0, q0, hargs, rfl, rfl, h0, r0⟩ := trodAll_cons hA
  obtain ⟨rfl, rfl, rfl⟩ := trodAll_nil r0
  obtain rfl : args = #[v0] := by cases args; simp_all
  obtain ⟨rfl, rfl⟩ := trodVars_none hV
  have k0 := h0
  have lt0 : ∀ x ∈ p0, x.block < W.heap.size := by obtain ⟨m, hm⟩ := k0; exact DataW.trod_lt m _ _ _ hm
  obtain ⟨x0, g0, c0, u0, q0, s0, rfl, w0⟩ := open_frame (hval 0 36 v0 rfl rfl) h0
  clear hA0 hval0
  refine (FnExactFramePut_walk x0 g0 c0 u0 q0 s0 W w0).mono fun e W' ⟨he, bel⟩ => ?_
  subst he
  exact ⟨_, rfl, _, _, _, [], _, [], hW', trodAll_mk1 (shut_bool Try.underlying4 _), (trodAll_cons_mk (Below.trod FnExactFramePut_laidOut (by kernel_rfl) (of_decide_eq_true (by kernel_rfl)) k0 bel lt0) trodAll_mk0), rfl, bel.frame _, fun h => by cases h⟩
theorem FnExactFramePut_holds : Rows.FnExactFramePutSaid :=
  OpenClaim.holds_of_wide 5 Try.f5 rfl rfl rfl rfl rfl rfl rfl ⟨rfl, rfl, rfl, rfl, rfl⟩ rfl rfl rfl rfl rfl (by kernel_rfl) Try.func5 (by kernel_rfl)
    (of_decide_eq_true (by kernel_rfl)) (by unfold Func.isWrapper; first | (rw [if_pos (by decide +kernel)]; kernel_rfl) | (rw [if_neg (by decide +kernel)]; exact ⟨rfl, rfl⟩))
    (fun os started H enc _ => FnExactFramePut_lifted os started H enc)
#print axioms FnExactFramePut_holds
end Go.Proofs.Ytjhkekddiikpfaa
