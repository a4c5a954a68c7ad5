/- Proved: laws.FnExactPartSend returns true at every part and value (impl.PartSend answers as spec.PartSend, writes nothing into the part, and its answer owns its memory), and leaves the part as it was. No condition. -/
import Derived.Test.YthhibeepfecmdaaOwPartSend
import Derived.Test.YthhibeepfecmdaaPsW
import Derived.Test.YthhibeepfecmdaaOgPart
import Derived.Test.YthhibeepfecmdaaFrame
namespace Go.Proofs.Ythhibeepfecmdaa
open Go.ChangeShapes Go.WideShapes Go.ChangeAt Go.RowKit
set_option linter.unusedVariables false

open Go.ChangeMaps (open_string shut_string)
theorem FnExactPartSend_walk (a0 : Option Addr) (n0 p0 : Nat) (g0_0 g0_1 g0_2 : Nat → Int) (a1 : Option Addr) (n1 p1 : Nat) (g1 : Nat → Int) (v2 : Int) (v3 : Bool) (a4 : Option Addr) (n4 p4 : Nat) (g4 : Nat → Int) (val : Int) (w : World) (hx0 : n0 ≤ maxLen) (h0 : OpS w a0 n0 g0_0 g0_1 g0_2) (hx1 : n1 ≤ maxLen) (h1 : IntS w a1 n1 g1) (hx4 : n4 ≤ maxLen) (h4 : IntS w a4 n4 g4) (_wv : (Lit.int IntKind.i64 val).wf = true) :
    Calls Try.prog 13 #[.agg #[.slice a0 n0 p0, .slice a1 n1 p1, .int .i64 v2, .bool v3, .slice a4 n4 p4], .int .i64 val] w fun e w' => e = .returned (.bool true) ∧ Below w.heap.size w w' := by
  cases hp : partB n0 g0_0 g0_1 g0_2 n1 g1 v2 n4 g4
  · refine FnExactPartSend_ow a0 n0 p0 g0_0 g0_1 g0_2 a1 n1 p1 g1 v2 v3 a4 n4 p4 g4 val 0 (fun _ => 0) (fun _ => 0) (fun _ => 0) 0 (fun _ => 0) 0 false 0 (fun _ => 0) false w hx0 h0 hx1 h1 hx4 h4 (by omega) (by omega) (by omega) ?_ ?_
    · intro c0 c1 c4 W m0 m1 m4 p0' p1' p4'
      exact (specPartSend_no (some ⟨c0, 0, none⟩) n0 n0 g0_0 g0_1 g0_2 (some ⟨c1, 0, none⟩) n1 n1 g1 v2 v3 (some ⟨c4, 0, none⟩) n4 n4 g4 val W m0 m1 m4 (fun e => by cases e) (fun e => by cases e) (fun e => by cases e) p0' p1' p4' hp).mono fun e w' ⟨he, hb⟩ => ⟨none, 0, none, 0, none, 0, he, ⟨.inl rfl, .inl rfl, .inl rfl⟩, hb⟩
    · intro c0 c1 c4 W m0 m1 m4 p0' p1' p4'
      exact (implPartSend_no (some ⟨c0, 0, none⟩) n0 n0 g0_0 g0_1 g0_2 (some ⟨c1, 0, none⟩) n1 n1 g1 v2 v3 (some ⟨c4, 0, none⟩) n4 n4 g4 val W m0 m1 m4 (fun e => by cases e) (fun e => by cases e) (fun e => by cases e) p0' p1' p4' hp).mono fun e w' ⟨he, hb⟩ => ⟨none, 0, 0, none, 0, 0, none, 0, 0, he, ⟨.inl rfl, .inl rfl, .inl rfl, .inl rfl, fun h => absurd rfl h, fun h => absurd rfl h, .inl rfl, fun h => absurd rfl h, fun h => absurd rfl h, .inl rfl, fun h => absurd rfl h, fun h => absurd rfl h, fun h => absurd rfl h, fun h => absurd rfl h, fun h => absurd rfl h⟩, hb⟩
  have hq := hp
  simp only [partB, progB, Bool.and_eq_true, inB, decide_eq_true_eq] at hq
  have hm0 : n0 ≤ 16 := by have := hq.1.1.2; omega
  have hm1 : n1 ≤ 16 := by have := hq.2.1; omega
  have hm4 : n4 ≤ 4 := by have := hq.2.2.2.2.1; omega
  clear hq
  by_cases hv : inB val 0 9999 = true ∧ (n4 : Int) < 4
  · refine FnExactPartSend_ow a0 n0 p0 g0_0 g0_1 g0_2 a1 n1 p1 g1 v2 v3 a4 n4 p4 g4 val n0 g0_0 g0_1 g0_2 n1 g1 v2 v3 (n4 + 1) (snoc n4 g4 val) true w hx0 h0 hx1 h1 hx4 h4 (by omega) (by omega) (by omega) ?_ ?_
    · intro c0 c1 c4 W m0 m1 m4 p0' p1' p4'
      exact (specPartSend_yes (some ⟨c0, 0, none⟩) n0 n0 g0_0 g0_1 g0_2 (some ⟨c1, 0, none⟩) n1 n1 g1 v2 v3 (some ⟨c4, 0, none⟩) n4 n4 g4 val W m0 m1 m4 (fun e => by cases e) (fun e => by cases e) (fun e => by cases e) p0' p1' p4' hp hv.1 hv.2).mono fun e w' ⟨b0, c0', b1, c1', b4, c4', he, ⟨k0, k1, k4, d1, d2, d3, h5, h6, h7⟩, hb⟩ => ⟨some ⟨b0, 0, none⟩, c0', some ⟨b1, 0, none⟩, c1', some ⟨b4, 0, none⟩, c4', he, ⟨(own_OpS h5).1, (own_IntS h6).1, (own_IntS h7).1⟩, hb⟩
    · intro c0 c1 c4 W m0 m1 m4 p0' p1' p4'
      exact (implPartSend_yes (some ⟨c0, 0, none⟩) n0 n0 g0_0 g0_1 g0_2 (some ⟨c1, 0, none⟩) n1 n1 g1 v2 v3 (some ⟨c4, 0, none⟩) n4 n4 g4 val W m0 m1 m4 (fun e => by cases e) (fun e => by cases e) (fun e => by cases e) p0' p1' p4' hp hv.1 hv.2).mono fun e w' ⟨b0, c0', b1, c1', b4, c4', he, ⟨k0, k1, k4, d1, d2, d3, h5, h6, h7⟩, hb⟩ => ⟨some ⟨b0, 0, none⟩, c0', b0, some ⟨b1, 0, none⟩, c1', b1, some ⟨b4, 0, none⟩, c4', b4, he, ⟨(own_OpS h5).1, (own_IntS h6).1, (own_IntS h7).1, In.mk _ _ _, fun _ => ⟨k0, (own_OpS h5).2.2⟩, fun _ => (own_OpS h5).2.1, In.mk _ _ _, fun _ => ⟨k1, (own_IntS h6).2.2⟩, fun _ => (own_IntS h6).2.1, In.mk _ _ _, fun _ => ⟨k4, (own_IntS h7).2.2⟩, fun _ => (own_IntS h7).2.1, fun _ _ => d1, fun _ _ => d2, fun _ _ => d3⟩, hb⟩
  · have hw : inB val 0 9999 = false ∨ (inB val 0 9999 = true ∧ (n4 : Int) = 4) := by
      cases hc : inB val 0 9999
      · exact .inl rfl
      · refine .inr ⟨rfl, ?_⟩
        have : ¬ (n4 : Int) < 4 := fun h => hv ⟨hc, h⟩
        omega
    refine FnExactPartSend_ow a0 n0 p0 g0_0 g0_1 g0_2 a1 n1 p1 g1 v2 v3 a4 n4 p4 g4 val n0 g0_0 g0_1 g0_2 n1 g1 v2 v3 n4 g4 false w hx0 h0 hx1 h1 hx4 h4 (by omega) (by omega) (by omega) ?_ ?_
    · intro c0 c1 c4 W m0 m1 m4 p0' p1' p4'
      exact (specPartSend_full (some ⟨c0, 0, none⟩) n0 n0 g0_0 g0_1 g0_2 (some ⟨c1, 0, none⟩) n1 n1 g1 v2 v3 (some ⟨c4, 0, none⟩) n4 n4 g4 val W m0 m1 m4 (fun e => by cases e) (fun e => by cases e) (fun e => by cases e) p0' p1' p4' hp hw).mono fun e w' ⟨b0, c0', b1, c1', b4, c4', he, ⟨k0, k1, k4, d1, d2, d3, h5, h6, h7⟩, hb⟩ => ⟨some ⟨b0, 0, none⟩, c0', some ⟨b1, 0, none⟩, c1', some ⟨b4, 0, none⟩, c4', he, ⟨(own_OpS h5).1, (own_IntS h6).1, (own_IntS h7).1⟩, hb⟩
    · intro c0 c1 c4 W m0 m1 m4 p0' p1' p4'
      exact (implPartSend_full (some ⟨c0, 0, none⟩) n0 n0 g0_0 g0_1 g0_2 (some ⟨c1, 0, none⟩) n1 n1 g1 v2 v3 (some ⟨c4, 0, none⟩) n4 n4 g4 val W m0 m1 m4 (fun e => by cases e) (fun e => by cases e) (fun e => by cases e) p0' p1' p4' hp hw).mono fun e w' ⟨b0, c0', b1, c1', b4, c4', he, ⟨k0, k1, k4, d1, d2, d3, h5, h6, h7⟩, hb⟩ => ⟨some ⟨b0, 0, none⟩, c0', b0, some ⟨b1, 0, none⟩, c1', b1, some ⟨b4, 0, none⟩, c4', b4, he, ⟨(own_OpS h5).1, (own_IntS h6).1, (own_IntS h7).1, In.mk _ _ _, fun _ => ⟨k0, (own_OpS h5).2.2⟩, fun _ => (own_OpS h5).2.1, In.mk _ _ _, fun _ => ⟨k1, (own_IntS h6).2.2⟩, fun _ => (own_IntS h6).2.1, In.mk _ _ _, fun _ => ⟨k4, (own_IntS h7).2.2⟩, fun _ => (own_IntS h7).2.1, fun _ _ => d1, fun _ _ => d2, fun _ _ => d3⟩, hb⟩
theorem FnExactPartSend_own : ownKnob Try.prog.godebug = none := by kernel_rfl
theorem FnExactPartSend_laidOut : laidOutB Try.prog = true := by kernel_rfl
set_option maxRecDepth 100000 in
theorem FnExactPartSend_lifted (os : Os) (started : os.Started) (H : Type) (enc : TypeId × Value → H) :
    ReturnsInHanded {} Try.checked os 13 .any (Rows.fnExactPartSendSpec.pre6 enc Try.prog Try.f13 Rows.fnExactPartSendRow.domain false) (Rows.fnExactPartSendSpec.post enc Try.prog Try.f13 false true false false) := by
  refine returnsInHanded_of_change (C := Try.checked) FnExactPartSend_own started (by kernel_rfl) Try.func13
    (ChangeSpec.witness6 (enc := enc) (C := Try.checked) false ⟨#[], #[.agg #[.slice none 0 0, .slice none 0 0, .int .i64 0, .bool false, .slice none 0 0], .int .i64 0], []⟩ 8 (by kernel_rfl) (by kernel_rfl) (by kernel_rfl) (by kernel_rfl)) ?_
  intro W base args ds gs before hval0 hW hcnd _
  have hval : ∀ (j : Nat) t v, Try.f13.params[j]? = some t → args[j]? = some v → Value.okWide Try.prog W .any base t v := hval0
  have hW' := hW
  obtain ⟨p, q, hA0, hV, rfl, hfz, hnd⟩ := hW
  have hA : DataW.TrodAll enc Try.prog W 0 (fun _ => true) true Try.f13.params.toList args.toList ds p := hA0
  rw [Try.params13] at hA hval
  obtain ⟨v0, vs0, d0, ds0, p0, q0, hargs, rfl, rfl, h0, r0⟩ := trodAll_cons hA
  obtain ⟨v1, vs1, d1, ds1, p1, q1, rfl, rfl, rfl, h1, r1⟩ := trodAll_cons r0
  obtain ⟨rfl, rfl, rfl⟩ := trodAll_nil r1
  obtain rfl : args = #[v0, v1] := by cases args; simp_all
  obtain ⟨rfl, rfl⟩ := trodVars_none hV
  have k0 := h0
  have lt0 : ∀ x ∈ p0, x.block < W.heap.size := by obtain ⟨m, hm⟩ := k0; exact DataW.trod_lt m _ _ _ hm
  obtain ⟨y0a0, y0n0, y0p0, y0g0_0, y0g0_1, y0g0_2, y0a1, y0n1, y0p1, y0g1, y0v2, y0v3, y0a4, y0n4, y0p4, y0g4, rfl, w0_0_n, w0_0_t, w0_1_n, w0_1_t, w0_4_n, w0_4_t⟩ := opens_part (hval 0 80 v0 rfl rfl) h0
  obtain ⟨a1, rfl, rfl, rfl, w1⟩ := open_int Try.underlying3 (hval 1 3 v1 rfl rfl) h1
  clear hA0 hval0
  refine (FnExactPartSend_walk y0a0 y0n0 y0p0 y0g0_0 y0g0_1 y0g0_2 y0a1 y0n1 y0p1 y0g1 y0v2 y0v3 y0a4 y0n4 y0p4 y0g4 a1 W w0_0_n w0_0_t w0_1_n w0_1_t w0_4_n w0_4_t w1).mono fun e W' ⟨he, bel⟩ => ?_
  subst he
  exact ⟨_, rfl, _, _, _, [], _, [], hW', trodAll_mk1 (shut_bool Try.underlying4 _), (trodAll_cons_mk (Below.trod FnExactPartSend_laidOut (by kernel_rfl) (of_decide_eq_true (by kernel_rfl)) k0 bel lt0) (trodAll_cons_mk (shut_int Try.underlying3 w1) trodAll_mk0)), rfl, bel.frame _, fun h => by cases h⟩
theorem FnExactPartSend_holds : Rows.FnExactPartSendSaid :=
  OpenClaim.holds_of_wide 13 Try.f13 rfl rfl rfl rfl rfl rfl rfl ⟨rfl, rfl, rfl, rfl, rfl⟩ rfl rfl rfl rfl rfl (by kernel_rfl) Try.func13 (by kernel_rfl)
    (of_decide_eq_true (by kernel_rfl)) (by unfold Func.isWrapper; first | (rw [if_pos (by decide +kernel)]; kernel_rfl) | (rw [if_neg (by decide +kernel)]; exact ⟨rfl, rfl⟩))
    (fun os started H enc _ => FnExactPartSend_lifted os started H enc)
#print axioms FnExactPartSend_holds
end Go.Proofs.Ythhibeepfecmdaa
