/- Proved: laws.FnCltuBack returns true at every slice of bytes (what is sent in code blocks is read back, with what fills the last block, and nothing where no start is), and leaves it as it was. No condition. -/
import Derived.Test.YthhibeepfecmdaaDrawV
import Derived.Test.YthhibeepfecmdaaCltW
import Derived.Test.YthhibeepfecmdaaCltQ
import Derived.Test.YthhibeepfecmdaaFrame
namespace Go.Proofs.Ythhibeepfecmdaa
open Go.ChangeShapes Go.WideShapes Go.ChangeAt Go.RowKit
open Go.ChangeMaps (open_string shut_string)
set_option linter.unusedVariables false
set_option maxRecDepth 100000 in
set_option maxHeartbeats 4000000 in
theorem FnCltuBack_walk (a : Option Addr) (len cap : Nat) (zs : List Int) (w : World) (h : IsRow .u8 w a len cap zs) :
    Calls Try.prog 3 #[.slice a len cap] w fun e w' => e = .returned (.bool true) ∧ Below w.heap.size w w' := by
  have H : Hid _ := h
  clear h
  by_cases hbig : 1048576 < (len : Int)
  · go_enter Try.func3, Try.ntmps3
    go_wp2_with fail
    go_ret
    exact ⟨rfl, Below.refl _ _⟩
  go_enter Try.func3, Try.ntmps3
  go_wp2_with fail
  refine (DrawCltuPut_any a len cap zs _ H.out).mono ?_
  rintro e w1 ⟨s, hs, rfl, hb1⟩
  have HB1 : Hid _ := hb1
  clear hb1
  have hsm : s.size ≤ maxLen := by unfold maxLen; omega
  by_cases hno : s.size < 1 ∨ 63 < s.size
  · have HN : Hid _ := hno
    clear hno
    go_wp2_with fail
    refine (implCltuPut_no s _ HN.out hsm).mono ?_
    rintro e w2 ⟨rfl, hb2⟩
    have HB2 : Hid (Below w.heap.size w w2) := HB1.out.trans (hb2.mono HB1.out.size)
    clear hb2
    go_wp2_with fail
    refine (specCltuPut_no s _ HN.out).mono ?_
    rintro e w3 ⟨rfl, hb3⟩
    have HB3 : Hid (Below w.heap.size w w3) := HB2.out.trans (hb3.mono HB2.out.size)
    clear hb3
    go_wp2_with fail
    refine (specCltuPut_no s _ HN.out).mono ?_
    rintro e w4 ⟨rfl, hb4⟩
    have HB4 : Hid (Below w.heap.size w w4) := HB3.out.trans (hb4.mono HB3.out.size)
    clear hb4
    go_wp2_with fail
    go_ret
    exact ⟨rfl, HB4.out⟩
  have h1 : 1 ≤ s.size := by omega
  have h63 : s.size ≤ 63 := by omega
  obtain ⟨K, hK⟩ : ∃ K, K = (s.size + 6) / 7 := ⟨_, rfl⟩
  have hK9 : K ≤ 9 := by omega
  have hKa : s.size ≤ 7 * K := by omega
  have hKb : 7 * K < s.size + 7 := by omega
  have HP : Hid (∀ w, Calls Try.prog 16 #[.string s] w fun e w' => e = .returned (.string (cltB s K)) ∧ Below w.heap.size w w') := by rw [hK]; exact fun w => implCltuPut_any s w h1 h63
  have HS : Hid (∀ w, Calls Try.prog 17 #[.string s] w fun e w' => e = .returned (.string (cltB s K)) ∧ Below w.heap.size w w') := by rw [hK]; exact fun w => specCltuPut_any s w h1 h63
  have hxs : (cltB s K).size = 10 + 8 * K := cltB_size s K
  have HR : Hid (∀ w, Calls Try.prog 18 #[.string (cltB s K)] w fun e w' => e = .returned (.string (padAll s K)) ∧ Below w.heap.size w w') := by
    intro w
    have hk := stop_rest s hK9
    rw [← clt_rest s K] at hk
    have := implCltuRead_yes (cltB s K) K w (by omega) (pre_clt s K) hk
    rw [clt_rest s K, getB_rest s hKb K (Nat.le_refl _)] at this
    exact this
  have HX : Hid (∀ w, Calls Try.prog 18 #[.string (⟨#[120]⟩ ++ cltB s K)] w fun e w' => e = .returned (.string ⟨#[]⟩) ∧ Below w.heap.size w w') := fun w => implCltuRead_no _ w (by unfold maxLen; rw [ByteArray.size_append]; show 1 + _ ≤ _; omega) (pre_x _)
  have hts : (padAll s K).size = 7 * K := padAll_size s hKa
  have hth : (padAll s K).extract 0 s.size = s := padAll_head s hKa
  have HTB : Hid (∀ i, s.size ≤ i → i < 7 * K → byteAt (padAll s K) i = 85) := fun i h1 h2 => padAll_byte s hKa h1 h2
  have hne : (cltB s K).toList.isEmpty = false := by
    rw [ByteArray.toList_eq]
    have : bL (cltB s K) ≠ [] := fun e => by have := congrArg List.length e; rw [bL_len, hxs] at this; simp at this
    simpa using this
  clear hK
  generalize cltB s K = x at *
  generalize padAll s K = t at *
  go_wp2_with fail
  refine (HP.out _).mono ?_
  rintro e w2 ⟨rfl, hb2⟩
  have HB2 : Hid (Below w.heap.size w w2) := HB1.out.trans (hb2.mono HB1.out.size)
  clear hb2
  go_wp2_with fail
  refine (HS.out _).mono ?_
  rintro e w3 ⟨rfl, hb3⟩
  have HB3 : Hid (Below w.heap.size w w3) := HB2.out.trans (hb3.mono HB2.out.size)
  clear hb3
  go_wp2_with fail
  refine (HR.out _).mono ?_
  rintro e w4 ⟨rfl, hb4⟩
  have HB4 : Hid (Below w.heap.size w w4) := HB3.out.trans (hb4.mono HB3.out.size)
  clear hb4
  have hA : ¬ 7 * (K : Int) < (s.size : Int) := by omega
  have hB : 7 * (K : Int) % 7 = 0 := by omega
  have hC : ¬ (s.size : Int) + 7 ≤ 7 * (K : Int) := by omega
  have hD : 7 * (K : Int) / 7 = K := by omega
  have hE : (10 + 8 * (K : Int) == 10 + (K : Int) * 8) = true := by rw [beq_iff_eq]; omega
  have HTH : Hid _ := hth
  clear hne
  go_wp2_with fail
  go_loop [6] (fun i => ∃ k : Nat, s.size ≤ k ∧ k ≤ 7 * K ∧ i = .int .i64 k) (fun i => 7 * K - (intOf i).toNat)
  case atStart => exact ⟨s.size, Nat.le_refl _, hKa, rfl⟩
  case round =>
    obtain ⟨k, hk1, hk2, rfl⟩ := hrel
    by_cases hlt : k < 7 * K
    · have hkt : k < t.size := by omega
      have hbk : t[k].toNat = 85 := by rw [byteAt_eq t k hkt]; exact HTB.out k hk1 hlt
      have hki : (k : Int) < 7 * (K : Int) := by omega
      clear hth hxs
      go_wp2_with fail
      exact ⟨⟨k + 1, by omega, by omega, by go_num⟩, by simp [intOf]; omega⟩
    · have hki : ¬ (k : Int) < 7 * (K : Int) := by omega
      have hxl : (⟨#[120]⟩ : ByteArray).size = 1 := rfl
      clear hth
      go_wp2_with fail
      refine (HX.out _).mono ?_
      rintro e w5 ⟨rfl, hb5⟩
      have HB5 : Hid (Below w.heap.size w w5) := HB4.out.trans (hb5.mono HB4.out.size)
      clear hb5
      go_wp2_with fail
      go_ret
      exact ⟨rfl, HB5.out⟩
theorem FnCltuBack_own : ownKnob Try.prog.godebug = none := by kernel_rfl
theorem FnCltuBack_laidOut : laidOutB Try.prog = true := by kernel_rfl
set_option maxRecDepth 100000 in
theorem FnCltuBack_lifted (os : Os) (started : os.Started) (H : Type) (enc : TypeId × Value → H) :
    ReturnsInHanded {} Try.checked os 3 .any (Rows.fnCltuBackSpec.pre6 enc Try.prog Try.f3 Rows.fnCltuBackRow.domain false) (Rows.fnCltuBackSpec.post enc Try.prog Try.f3 false true false false) := by
  refine returnsInHanded_of_change (C := Try.checked) FnCltuBack_own started (by kernel_rfl) Try.func3
    (ChangeSpec.witness6 (enc := enc) (C := Try.checked) false ⟨#[], #[.slice none 0 0], []⟩ 8 (by kernel_rfl) (by kernel_rfl) (by kernel_rfl) (by kernel_rfl)) ?_
  intro W base args ds gs before hval0 hW hcnd _
  have hval : ∀ (j : Nat) t v, Try.f3.params[j]? = some t → args[j]? = some v → Value.okWide Try.prog W .any base t v := hval0
  have hW' := hW
  obtain ⟨p, q, hA0, hV, rfl, hfz, hnd⟩ := hW
  have hA : DataW.TrodAll enc Try.prog W 0 (fun _ => true) true Try.f3.params.toList args.toList ds p := hA0
  rw [Try.params3] at hA hval
  obtain ⟨v0, vs0, d0, ds0, p0, q0, hargs, rfl, rfl, h0, r0⟩ := trodAll_cons hA
  obtain ⟨rfl, rfl, rfl⟩ := trodAll_nil r0
  obtain rfl : args = #[v0] := by cases args; simp_all
  obtain ⟨rfl, rfl⟩ := trodVars_none hV
  obtain ⟨a0, len0, cap0, rfl⟩ := okWide_slice Try.underlying22 (hval 0 22 v0 rfl rfl)
  have k0 := h0
  have lt0 : ∀ x ∈ p0, x.block < W.heap.size := by obtain ⟨m, hm⟩ := k0; exact DataW.trod_lt m _ _ _ hm
  obtain ⟨z0, w0⟩ : ∃ zs, IsRow .u8 W a0 len0 cap0 zs := by
    obtain ⟨fuel, hf⟩ := h0
    rcases open_ints Try.underlying22 Try.underlying5 (by kernel_rfl) hf with ⟨hcs, _⟩ | ⟨x, l, c, zs, hcs, _, hl, hm, hz, _, hcell, hwz⟩
    · simp [Value.cells] at hcs
      obtain ⟨rfl, rfl, rfl⟩ := hcs
      exact ⟨[], .inl ⟨rfl, rfl, rfl, rfl⟩⟩
    · simp [Value.cells] at hcs
      obtain ⟨rfl, rfl, rfl⟩ := hcs
      exact ⟨zs, .inr ⟨_, rfl, hl, hm, by simpa using hz, hcell, hwz⟩⟩
  clear hA0 hval0
  refine (FnCltuBack_walk a0 len0 cap0 z0 W w0).mono fun e W' ⟨he, bel⟩ => ?_
  subst he
  exact ⟨_, rfl, _, _, _, [], _, [], hW', trodAll_mk1 (shut_bool Try.underlying4 _), (trodAll_cons_mk (Below.trod FnCltuBack_laidOut (by kernel_rfl) (of_decide_eq_true (by kernel_rfl)) k0 bel lt0) trodAll_mk0), rfl, bel.frame _, fun h => by cases h⟩
theorem FnCltuBack_holds : Rows.FnCltuBackSaid :=
  OpenClaim.holds_of_wide 3 Try.f3 rfl rfl rfl rfl rfl rfl rfl ⟨rfl, rfl, rfl, rfl, rfl⟩ rfl rfl rfl rfl rfl (by kernel_rfl) Try.func3 (by kernel_rfl)
    (of_decide_eq_true (by kernel_rfl)) (by unfold Func.isWrapper; first | (rw [if_pos (by decide +kernel)]; kernel_rfl) | (rw [if_neg (by decide +kernel)]; exact ⟨rfl, rfl⟩))
    (fun os started H enc _ => FnCltuBack_lifted os started H enc)
#print axioms FnCltuBack_holds
end Go.Proofs.Ythhibeepfecmdaa
