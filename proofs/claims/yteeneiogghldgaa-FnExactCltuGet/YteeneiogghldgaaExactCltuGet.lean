/- Proved: laws.FnExactCltuGet returns true at every text (impl.CltuGet answers as spec.CltuGet, the text and how many bytes) and leaves it as it was. No condition. -/
import Derived.Test.YteeneiogghldgaaCltS
import Derived.Test.YteeneiogghldgaaFrame
namespace Go.Proofs.Yteeneiogghldgaa
open Go.ChangeShapes Go.WideShapes Go.ChangeAt Go.RowKit
open Go.ChangeMaps (open_string shut_string)
set_option linter.unusedVariables false
theorem cltuGet_both (t : ByteArray) (hs : t.size ≤ 1073741824) : ∃ k, stopB t k := by
  have key : ∀ n, (∃ k, stopB t k) ∨ (∀ j, j < n → goodB t j = true) := by
    intro n
    induction n with
    | zero => exact .inr fun j hj => by omega
    | succ n ih =>
      rcases ih with h | h
      · exact .inl h
      · by_cases h9 : n ≤ 9
        · cases hg : goodB t n
          · exact .inl ⟨n, ⟨h9, h⟩, .inl hg⟩
          · by_cases e : n = 9
            · exact .inl ⟨n, ⟨h9, h⟩, .inr e⟩
            · refine .inr fun j hj => ?_
              rcases Nat.lt_or_ge j n with q | q
              · exact h j q
              · obtain rfl : j = n := by omega
                exact hg
        · exact .inl ⟨9, ⟨Nat.le_refl _, fun j hj => h j (by omega)⟩, .inr rfl⟩
  rcases key 10 with h | h
  · exact h
  · exact ⟨9, ⟨Nat.le_refl _, fun j hj => h j (by omega)⟩, .inr rfl⟩
set_option maxHeartbeats 1000000 in
theorem FnExactCltuGet_walk (s : ByteArray) (w : World) (hs : s.size ≤ maxLen) :
    Calls Try.prog 7 #[.string s] w fun e w' => e = .returned (.bool true) ∧ Below w.heap.size w w' := by
  unfold maxLen at hs
  by_cases hbig : 1048576 < (s.size : Int)
  · go_enter Try.func7, Try.ntmps7
    go_wp2_with fail
    go_ret
    exact ⟨rfl, Below.refl _ _⟩
  have hm : s.size ≤ 1073741824 := by omega
  obtain ⟨k, hk⟩ := cltuGet_both s hm
  have H1 : Hid (∀ w, Calls Try.prog 29 #[.string s] w fun e w' => e = .returned (.tuple #[.string (getB s k), .int .i64 (8 * k : Nat)]) ∧ Below w.heap.size w w') := fun w => (specCltuGet_any s w hm).mono fun e w' ⟨j, hj, he, hb⟩ => by obtain rfl := stopB_one hj hk; exact ⟨he, hb⟩
  have H2 : Hid (∀ w, Calls Try.prog 30 #[.string s] w fun e w' => e = .returned (.tuple #[.string (getB s k), .int .i64 (8 * k : Nat)]) ∧ Below w.heap.size w w') := fun w => (implCltuGet_any s w hm).mono fun e w' ⟨j, hj, he, hb⟩ => by obtain rfl := stopB_one hj hk; exact ⟨he, hb⟩
  clear hk
  generalize getB s k = q at *
  generalize ((8 * k : Nat) : Int) = m at *
  go_enter Try.func7, Try.ntmps7
  go_wp2_with fail
  refine (H1.out _).mono ?_
  rintro e w1 ⟨rfl, hb1⟩
  have HB1 : Hid _ := hb1
  clear hb1
  go_wp2_with fail
  refine (H2.out _).mono ?_
  rintro e w2 ⟨rfl, hb2⟩
  have HB2 : Hid (Below w.heap.size w w2) := HB1.out.trans (hb2.mono HB1.out.size)
  clear hb2
  go_wp2_with fail
  go_ret
  exact ⟨rfl, HB2.out⟩

theorem FnExactCltuGet_own : ownKnob Try.prog.godebug = none := by kernel_rfl
set_option maxRecDepth 100000 in
theorem FnExactCltuGet_lifted (os : Os) (started : os.Started) (H : Type) (enc : TypeId × Value → H) :
    ReturnsInHanded {} Try.checked os 7 .any (Rows.fnExactCltuGetSpec.pre6 enc Try.prog Try.f7 Rows.fnExactCltuGetRow.domain false) (Rows.fnExactCltuGetSpec.post enc Try.prog Try.f7 false true false false) := by
  refine returnsInHanded_of_change (C := Try.checked) FnExactCltuGet_own started (by kernel_rfl) Try.func7
    (ChangeSpec.witness6 (enc := enc) (C := Try.checked) false ⟨#[], #[.string ⟨#[]⟩], []⟩ 8 (by kernel_rfl) (by kernel_rfl) (by kernel_rfl) (by kernel_rfl)) ?_
  intro W base args ds gs before hval0 hW hcnd _
  have hval : ∀ (j : Nat) t v, Try.f7.params[j]? = some t → args[j]? = some v → Value.okWide Try.prog W .any base t v := hval0
  have hW' := hW
  obtain ⟨p, q, hA0, hV, rfl, hfz, hnd⟩ := hW
  have hA : DataW.TrodAll enc Try.prog W 0 (fun _ => true) true Try.f7.params.toList args.toList ds p := hA0
  rw [Try.params7] at hA hval
  obtain ⟨v0, vs0, d0, ds0, p0, q0, hargs, rfl, rfl, h0, r0⟩ := trodAll_cons hA
  obtain ⟨rfl, rfl, rfl⟩ := trodAll_nil r0
  obtain rfl : args = #[v0] := by cases args; simp_all
  obtain ⟨rfl, rfl⟩ := trodVars_none hV
  obtain ⟨a0, rfl, rfl, rfl, w0⟩ := open_string Try.underlying9 (hval 0 9 v0 rfl rfl) h0
  clear hA0 hval0
  refine (FnExactCltuGet_walk a0 W w0).mono fun e W' ⟨he, bel⟩ => ?_
  subst he
  exact ⟨_, rfl, _, _, _, [], _, [], hW', trodAll_mk1 (shut_bool Try.underlying4 _), (trodAll_cons_mk (shut_string Try.underlying9 w0) trodAll_mk0), rfl, bel.frame _, fun h => by cases h⟩
theorem FnExactCltuGet_holds : Rows.FnExactCltuGetSaid :=
  OpenClaim.holds_of_wide 7 Try.f7 rfl rfl rfl rfl rfl rfl rfl ⟨rfl, rfl, rfl, rfl, rfl⟩ rfl rfl rfl rfl rfl (by kernel_rfl) Try.func7 (by kernel_rfl)
    (of_decide_eq_true (by kernel_rfl)) (by unfold Func.isWrapper; first | (rw [if_pos (by decide +kernel)]; kernel_rfl) | (rw [if_neg (by decide +kernel)]; exact ⟨rfl, rfl⟩))
    (fun os started H enc _ => FnExactCltuGet_lifted os started H enc)
#print axioms FnExactCltuGet_holds
end Go.Proofs.Yteeneiogghldgaa
