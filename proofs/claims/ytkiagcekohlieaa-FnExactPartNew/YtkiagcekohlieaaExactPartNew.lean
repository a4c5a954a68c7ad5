/- Proved: laws.FnExactPartNew returns true at every list of ops (impl.PartNew answers as spec.PartNew, writes nothing into the list, and its answer owns its memory), and leaves the list as it was. No condition. -/
import Derived.Test.YtkiagcekohlieaaOwPartNew
import Derived.Test.YtkiagcekohlieaaPnS
import Derived.Test.YtkiagcekohlieaaPnI
import Derived.Test.YtkiagcekohlieaaOpOp
import Derived.Test.YtkiagcekohlieaaFrame
namespace Go.Proofs.Ytkiagcekohlieaa
open Go.ChangeShapes Go.WideShapes Go.ChangeAt Go.RowKit
set_option linter.unusedVariables false

open Go.ChangeMaps (open_string shut_string)
theorem FnExactPartNew_walk (a : Option Addr) (n cap : Nat) (f0 f1 f2 : Nat → Int) (w : World) (hn : n ≤ maxLen) (h : OpS w a n f0 f1 f2) :
    Calls Try.prog 3 #[.slice a n cap] w fun e w' => e = .returned (.bool true) ∧ Below w.heap.size w w' := by
  cases hp : progB n f0 f1 f2
  · refine FnExactPartNew_ow a n cap f0 f1 f2 0 (fun _ => 0) (fun _ => 0) (fun _ => 0) 0 (fun _ => 0) 0 false 0 (fun _ => 0) w hn h (by omega) (by omega) (by omega) ?_ ?_
    · intro c W hm hW
      exact (specPartNew_no (some ⟨c, 0, none⟩) n n f0 f1 f2 W hm hW hp).mono fun e w' ⟨he, hb⟩ => ⟨none, 0, none, 0, none, 0, he, ⟨.inl rfl, .inl rfl, .inl rfl⟩, hb⟩
    · intro c W hm hW
      exact (implPartNew_no (some ⟨c, 0, none⟩) n n f0 f1 f2 W hm hW hp).mono fun e w' ⟨he, hb⟩ => ⟨none, 0, 0, none, 0, 0, none, 0, 0, he, ⟨.inl rfl, .inl rfl, .inl rfl, .inl rfl, fun h => absurd rfl h, fun h => absurd rfl h, .inl rfl, fun h => absurd rfl h, fun h => absurd rfl h, .inl rfl, fun h => absurd rfl h, fun h => absurd rfl h, fun h => absurd rfl h, fun h => absurd rfl h, fun h => absurd rfl h⟩, hb⟩
  · by_cases hbig : 1048576 < n
    · exfalso
      simp only [progB, inB, Bool.and_eq_true, decide_eq_true_eq] at hp
      omega
    refine FnExactPartNew_ow a n cap f0 f1 f2 n f0 f1 f2 8 (fun _ => 0) 0 false 0 (fun _ => 0) w hn h (by omega) (by omega) (by omega) ?_ ?_
    · intro c W hm hW
      exact specPartNew_yes c n f0 f1 f2 W hm hW hp
    · intro c W hm hW
      exact (implPartNew_yes c n f0 f1 f2 W hm hW hp).mono fun e w' ⟨b, p, m, he, ⟨h1, h2, h3, h4, h5, h6, h7, h8, h9⟩, hb⟩ => ⟨some ⟨b, 0, none⟩, p, b, some ⟨m, 0, none⟩, 8, m, none, 0, 0, he, ⟨h1, h2, .inl rfl, In.mk _ _ _, fun _ => ⟨h3, h4⟩, fun _ => h8, In.mk _ _ _, fun _ => ⟨h5, h6⟩, fun _ => h9, .inl rfl, fun h => absurd rfl h, fun h => absurd rfl h, fun _ _ => h7, fun _ h => absurd rfl h, fun _ h => absurd rfl h⟩, hb⟩
theorem FnExactPartNew_own : ownKnob Try.prog.godebug = none := by kernel_rfl
theorem FnExactPartNew_laidOut : laidOutB Try.prog = true := by kernel_rfl
set_option maxRecDepth 100000 in
theorem FnExactPartNew_lifted (os : Os) (started : os.Started) (H : Type) (enc : TypeId × Value → H) :
    ReturnsInHanded {} Try.checked os 3 .any (Rows.fnExactPartNewSpec.pre6 enc Try.prog Try.f3 Rows.fnExactPartNewRow.domain false) (Rows.fnExactPartNewSpec.post enc Try.prog Try.f3 false true false false) := by
  refine returnsInHanded_of_change (C := Try.checked) FnExactPartNew_own started (by kernel_rfl) Try.func3
    (ChangeSpec.witness6 (enc := enc) (C := Try.checked) false ⟨#[], #[.slice none 0 0], []⟩ 8 (by kernel_rfl) (by kernel_rfl) (by kernel_rfl) (by kernel_rfl)) ?_
  intro W base args ds gs before hval0 hW hcnd _
  have hval : ∀ (j : Nat) t v, Try.f3.params[j]? = some t → args[j]? = some v → Value.okWide Try.prog W .any base t v := hval0
  have hW' := hW
  obtain ⟨p, q, hA0, hV, rfl, hfz, hnd⟩ := hW
  have hA : DataW.TrodAll enc Try.prog W 0 (fun _ => true) true Try.f3.params.toList args.toList ds p := hA0
  rw [Try.params3] at hA hval
  obtain ⟨v0, vs0, d0, ds0, p0, q0, hargs, rfl, rfl, h0, r0⟩ := trodAll_cons hA
  obtain ⟨rfl, rfl, rfl⟩ := trodAll_nil r0
  obtain rfl : args = #[v0] := by cases args; simp_all
  obtain ⟨rfl, rfl⟩ := trodVars_none hV
  have k0 := h0
  have lt0 : ∀ x ∈ p0, x.block < W.heap.size := by obtain ⟨m, hm⟩ := k0; exact DataW.trod_lt m _ _ _ hm
  obtain ⟨a0, n0, cap0, f0_0, f0_1, f0_2, rfl, w0, t0⟩ := open_OpS (hval 0 22 v0 rfl rfl) h0
  clear hA0 hval0
  refine (FnExactPartNew_walk a0 n0 cap0 f0_0 f0_1 f0_2 W w0 t0).mono fun e W' ⟨he, bel⟩ => ?_
  subst he
  exact ⟨_, rfl, _, _, _, [], _, [], hW', trodAll_mk1 (shut_bool Try.underlying4 _), (trodAll_cons_mk (Below.trod FnExactPartNew_laidOut (by kernel_rfl) (of_decide_eq_true (by kernel_rfl)) k0 bel lt0) trodAll_mk0), rfl, bel.frame _, fun h => by cases h⟩
theorem FnExactPartNew_holds : Rows.FnExactPartNewSaid :=
  OpenClaim.holds_of_wide 3 Try.f3 rfl rfl rfl rfl rfl rfl rfl ⟨rfl, rfl, rfl, rfl, rfl⟩ rfl rfl rfl rfl rfl (by kernel_rfl) Try.func3 (by kernel_rfl)
    (of_decide_eq_true (by kernel_rfl)) (by unfold Func.isWrapper; first | (rw [if_pos (by decide +kernel)]; kernel_rfl) | (rw [if_neg (by decide +kernel)]; exact ⟨rfl, rfl⟩))
    (fun os started H enc _ => FnExactPartNew_lifted os started H enc)
#print axioms FnExactPartNew_holds
end Go.Proofs.Ytkiagcekohlieaa
