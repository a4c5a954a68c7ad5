/- Proved: laws.FnExactRulesLet returns true at every list of rules, mode and command (impl.RulesLet answers as spec.RulesLet), and leaves them as they were. No condition. -/
import Derived.Test.YtfienpoebndfpaaRbS
import Derived.Test.YtfienpoebndfpaaCmdS
import Derived.Test.YtfienpoebndfpaaOpRule
import Derived.Test.YtfienpoebndfpaaFrame
import Derived.OpenShut
import Derived.Lib.SmallJoins
namespace Go.Proofs.Ytfienpoebndfpaa
open Go.ChangeShapes Go.WideShapes Go.ChangeAt Go.RowKit
open Go.ChangeMaps (open_string shut_string)
set_option linter.unusedVariables false
theorem array_cmd {α : Type} {cs : Array α} (h : cs.size = 6) : ∃ c0 c1 c2 c3 c4 c5, cs = #[c0, c1, c2, c3, c4, c5] := by
  obtain ⟨l⟩ := cs
  match l, h with
  | [c0, c1, c2, c3, c4, c5], _ => exact ⟨c0, c1, c2, c3, c4, c5, rfl⟩
theorem list_cmd {α : Type} {l : List α} (h : l.length = 6) : ∃ c0 c1 c2 c3 c4 c5, l = [c0, c1, c2, c3, c4, c5] := by
  match l, h with
  | [c0, c1, c2, c3, c4, c5], _ => exact ⟨c0, c1, c2, c3, c4, c5, rfl⟩
theorem cells_cmd : Try.prog.cellsOf 47 = 6 := by kernel_rfl
set_option maxRecDepth 100000 in
theorem open_cmd {H : Type} {enc : TypeId × Value → H} {w : World} {base : Nat} {spare : Nat → Bool} {held : Bool} {r : Reach} {b0 : Nat} {v : Value} {d : DataW H} {p : List MemPlace} (hv : Value.okWide Try.prog w r b0 47 v) (h : DataW.Trod enc Try.prog w base spare held 47 v d p) :
    ∃ (x0 : Int) (x1 : Int) (x2 : Int) (x3 : Int) (x4 : Int) (x5 : ByteArray), v = .agg #[.int .i64 x0, .int .i64 x1, .int .i64 x2, .int .i64 x3, .int .i64 x4, .string x5] ∧ x5.size ≤ maxLen ∧ True := by
  obtain ⟨cs, rfl, hsz⟩ := okWide_struct Try.underlying47 hv
  obtain ⟨c0, c1, c2, c3, c4, c5, rfl⟩ := array_cmd (hsz.trans cells_cmd)
  obtain ⟨fuel, hf⟩ := h
  obtain ⟨xs, n, _, _, hl, hlen, hfd⟩ := DataW.trod_struct Try.underlying47 hf
  obtain ⟨y0, y1, y2, y3, y4, y5, rfl⟩ := list_cmd hlen
  have k_int : Try.prog.cellsOf 3 = 1 := by kernel_rfl
  have k_string : Try.prog.cellsOf 9 = 1 := by kernel_rfl
  have e0 := hfd 0 _ rfl
  have e1 := hfd 1 _ rfl
  have e2 := hfd 2 _ rfl
  have e3 := hfd 3 _ rfl
  have e4 := hfd 4 _ rfl
  have e5 := hfd 5 _ rfl
  simp [Value.cells, k_int, k_string] at e0 e1 e2 e3 e4 e5
  obtain ⟨x0, h0, _⟩ := DataW.trod_int Try.underlying3 e0
  obtain ⟨x1, h1, _⟩ := DataW.trod_int Try.underlying3 e1
  obtain ⟨x2, h2, _⟩ := DataW.trod_int Try.underlying3 e2
  obtain ⟨x3, h3, _⟩ := DataW.trod_int Try.underlying3 e3
  obtain ⟨x4, h4, _⟩ := DataW.trod_int Try.underlying3 e4
  obtain ⟨x5, h5, _, m5⟩ := DataW.trod_string Try.underlying9 e5
  simp only [List.cons.injEq, and_true] at h0 h1 h2 h3 h4 h5
  subst h0 h1 h2 h3 h4 h5
  exact ⟨x0, x1, x2, x3, x4, x5, rfl, m5, trivial⟩
set_option maxRecDepth 100000 in
set_option maxHeartbeats 4000000 in
theorem FnExactRulesLet_walk (a : Option Addr) (n cap : Nat) (f0 f1 f2 f3 : Nat → Int) (f4 f5 : Nat → Bool) (md c0 c1 c2 c3 c4 : Int) (x : ByteArray) (w : World) (hn : n ≤ maxLen) (h : RuleS w a n f0 f1 f2 f3 f4 f5) (hmd : (Lit.int .i64 md).wf = true) (hx : x.size ≤ maxLen) :
    Calls Try.prog 7 #[.slice a n cap, .int .i64 md, .agg #[.int .i64 c0, .int .i64 c1, .int .i64 c2, .int .i64 c3, .int .i64 c4, .string x]] w fun e w' => e = .returned (.bool true) ∧ Below w.heap.size w w' := by
  have HT : Hid _ := h
  clear h hmd
  obtain ⟨y, hy⟩ : ∃ y, y = letB n f0 f1 f2 f3 f4 f5 md c0 c2 c3 c4 := ⟨_, rfl⟩
  have HSP : Hid (∀ (a : Option Addr) (W : World), RuleS W a n f0 f1 f2 f3 f4 f5 → Calls Try.prog 26 #[.slice a n n, .int .i64 md, .agg #[.int .i64 c0, .int .i64 c1, .int .i64 c2, .int .i64 c3, .int .i64 c4, .string x]] W fun e w' => e = .returned (.bool y) ∧ Below W.heap.size W w') := by
    intro a W h
    rw [hy]
    exact specRulesLet_any a n n f0 f1 f2 f3 f4 f5 md c0 c1 c2 c3 c4 x W hn h
  have HIM : Hid (∀ (a : Option Addr) (W : World), RuleS W a n f0 f1 f2 f3 f4 f5 → Calls Try.prog 29 #[.slice a n n, .int .i64 md, .agg #[.int .i64 c0, .int .i64 c1, .int .i64 c2, .int .i64 c3, .int .i64 c4, .string x]] W fun e w' => e = .returned (.bool y) ∧ Below W.heap.size W w') := by
    intro a W h
    rw [hy]
    exact implRulesLet_any a n n f0 f1 f2 f3 f4 f5 md c0 c1 c2 c3 c4 x W hn h
  clear hy
  have HB0 : Hid (Below w.heap.size w (w.alloc (.cells #[.int .i64 c0, .int .i64 c1, .int .i64 c2, .int .i64 c3, .int .i64 c4, .string x] 47))) := (Below.refl _ _).alloc (Nat.le_refl _) _
  have HX0 : Hid ((w.alloc (.cells #[.int .i64 c0, .int .i64 c1, .int .i64 c2, .int .i64 c3, .int .i64 c4, .string x] 47)).heap[w.heap.size]? = some (.cells #[.int .i64 c0, .int .i64 c1, .int .i64 c2, .int .i64 c3, .int .i64 c4, .string x] 47)) := get_new rfl
  go_enter Try.func7, Try.ntmps7
  go_wp2_with fail
  generalize w.alloc (.cells #[.int .i64 c0, .int .i64 c1, .int .i64 c2, .int .i64 c3, .int .i64 c4, .string x] 47) = w0 at *
  refine (szRuleS2_any a n cap _ hn).mono ?_
  rintro e w1 ⟨r, hr, rfl, hw1⟩
  subst hw1
  have HR : Hid _ := hr
  clear hr
  by_cases h0 : r < 0
  · go_wp2_with fail
    go_ret
    exact ⟨rfl, HB0.out⟩
  obtain ⟨hm, hr1⟩ := HR.out (by omega)
  have hxz0 := size_of_get HX0.out
  obtain ⟨y0, y1, y2, y3, y4, y5⟩ := cells6_of HX0.out
  go_wp2_with fail
  refine (szCmd2_any c0 c1 c2 c3 c4 x r _ hx (by omega) hr1).mono ?_
  rintro e w2 ⟨r2, hr2, rfl, hb2⟩
  have HB2 : Hid (Below w.heap.size w w2) := HB0.out.trans (hb2.mono HB0.out.size)
  have HX2 : Hid (w2.heap[w.heap.size]? = some (.cells #[.int .i64 c0, .int .i64 c1, .int .i64 c2, .int .i64 c3, .int .i64 c4, .string x] 47)) := get_below hb2 HX0.out (size_of_get HX0.out)
  clear hb2 hr2 HR y0 y1 y2 y3 y4 y5 HB0 HX0
  by_cases h02 : r2 < 0
  · go_wp2_with fail
    go_ret
    exact ⟨rfl, HB2.out⟩
  go_wp2_with fail
  have HT2 : Hid (RuleS w2 a n f0 f1 f2 f3 f4 f5) := RuleS.below HT.out HB2.out
  have hxz : w.heap.size < w2.heap.size := size_of_get HX2.out
  have S1 : (fun W : World => W.cell? ⟨w.heap.size, 0, none⟩ = some (.int .i64 c0) ∧ W.cell? ⟨w.heap.size, 1, none⟩ = some (.int .i64 c1) ∧ W.cell? ⟨w.heap.size, 2, none⟩ = some (.int .i64 c2) ∧ W.cell? ⟨w.heap.size, 3, none⟩ = some (.int .i64 c3) ∧ W.cell? ⟨w.heap.size, 4, none⟩ = some (.int .i64 c4) ∧ W.cell? ⟨w.heap.size, 5, none⟩ = some (.string x)) w2 := cells6_of HX2.out
  have HKB : Hid (∀ W : World, Below w2.heap.size w2 W → (fun W : World => W.cell? ⟨w.heap.size, 0, none⟩ = some (.int .i64 c0) ∧ W.cell? ⟨w.heap.size, 1, none⟩ = some (.int .i64 c1) ∧ W.cell? ⟨w.heap.size, 2, none⟩ = some (.int .i64 c2) ∧ W.cell? ⟨w.heap.size, 3, none⟩ = some (.int .i64 c3) ∧ W.cell? ⟨w.heap.size, 4, none⟩ = some (.int .i64 c4) ∧ W.cell? ⟨w.heap.size, 5, none⟩ = some (.string x)) W) := fun W hb => ⟨(hb.cell (p := ⟨w.heap.size, 0, none⟩) hxz).trans S1.1, (hb.cell (p := ⟨w.heap.size, 1, none⟩) hxz).trans S1.2.1, (hb.cell (p := ⟨w.heap.size, 2, none⟩) hxz).trans S1.2.2.1, (hb.cell (p := ⟨w.heap.size, 3, none⟩) hxz).trans S1.2.2.2.1, (hb.cell (p := ⟨w.heap.size, 4, none⟩) hxz).trans S1.2.2.2.2.1, (hb.cell (p := ⟨w.heap.size, 5, none⟩) hxz).trans S1.2.2.2.2.2⟩
  have HBc : Hid (Below w2.heap.size w2 w2.drew) := Below.drew (Below.refl _ _)
  go_region_held2 (fun W : World => W.cell? ⟨w.heap.size, 0, none⟩ = some (.int .i64 c0) ∧ W.cell? ⟨w.heap.size, 1, none⟩ = some (.int .i64 c1) ∧ W.cell? ⟨w.heap.size, 2, none⟩ = some (.int .i64 c2) ∧ W.cell? ⟨w.heap.size, 3, none⟩ = some (.int .i64 c3) ∧ W.cell? ⟨w.heap.size, 4, none⟩ = some (.int .i64 c4) ∧ W.cell? ⟨w.heap.size, 5, none⟩ = some (.string x)) (first | with_reducible assumption | exact HKB.out _ HBc.out) (first
    | (go_at_call 27
       refine (toRuleS_any a n cap f0 f1 f2 f3 f4 f5 _ hm (RuleS.below HT2.out HBc.out)).mono ?_
       rintro e wx ⟨rfl, ht, hb⟩
       have HTn : Hid _ := ht
       have HBc : Hid (Below w2.heap.size w2 wx) := HBc.out.trans (hb.mono HBc.out.size)
       clear ht hb)
    | (go_at_call 28
       refine (toCmd_any c0 c1 c2 c3 c4 x _).mono ?_
       rintro e wx ⟨rfl, hb⟩
       try (have HTn : Hid _ := RuleS.below HTn.out hb)
       have HBc : Hid (Below w2.heap.size w2 wx) := HBc.out.trans (hb.mono HBc.out.size)
       clear hb)
    | (go_at_call 26
       refine Calls.mono (HSP.out _ _ HTn.out) ?_
       rintro e wx ⟨rfl, hb⟩
       have HBc : Hid (Below w2.heap.size w2 wx) := HBc.out.trans (hb.mono HBc.out.size)
       clear hb))
  all_goals
    have HB3 : Hid (Below w.heap.size w wx) := HB2.out.trans (HBc.out.mono HB2.out.size)
    have HX3 : Hid (wx.heap[w.heap.size]? = some (.cells #[.int .i64 c0, .int .i64 c1, .int .i64 c2, .int .i64 c3, .int .i64 c4, .string x] 47)) := get_below HBc.out HX2.out hxz
    clear HTn HBc HKB S1 HX2 HT2 hxz HB2
    go_wp2_with fail
    refine (toRuleS_any a n cap f0 f1 f2 f3 f4 f5 _ hm (RuleS.below HT.out HB3.out)).mono ?_
    rintro e w4 ⟨rfl, ht4, hb4⟩
    have HT4 : Hid _ := ht4
    have HB4 : Hid (Below w.heap.size w w4) := HB3.out.trans (hb4.mono HB3.out.size)
    have HX4 : Hid (w4.heap[w.heap.size]? = some (.cells #[.int .i64 c0, .int .i64 c1, .int .i64 c2, .int .i64 c3, .int .i64 c4, .string x] 47)) := get_below hb4 HX3.out (size_of_get HX3.out)
    clear ht4 hb4 HX3
    obtain ⟨y0, y1, y2, y3, y4, y5⟩ := cells6_of HX4.out
    go_wp2_with fail
    refine (toCmd_any c0 c1 c2 c3 c4 x _).mono ?_
    rintro e w5 ⟨rfl, hb5⟩
    have HT5 : Hid _ := RuleS.below HT4.out hb5
    have HB5 : Hid (Below w.heap.size w w5) := HB4.out.trans (hb5.mono HB4.out.size)
    clear hb5 y0 y1 y2 y3 y4 y5 HX4 HT4
    go_wp2_with fail
    refine Calls.mono (HIM.out _ _ HT5.out) ?_
    rintro e w6 ⟨rfl, hb6⟩
    have HT6 : Hid _ := RuleS.below HT5.out hb6
    have HB6 : Hid (Below w.heap.size w w6) := HB5.out.trans (hb6.mono HB5.out.size)
    clear hb6 HT5
    go_wp2_with fail
    refine (toRuleS_any a n cap f0 f1 f2 f3 f4 f5 _ hm (RuleS.below HT.out HB6.out)).mono ?_
    rintro e w7 ⟨rfl, ht7, hb7⟩
    have HT7 : Hid _ := RuleS.below HT6.out hb7
    have HU7 : Hid _ := ht7
    have HB7 : Hid (Below w.heap.size w w7) := HB6.out.trans (hb7.mono HB6.out.size)
    clear hb7 ht7
    go_wp2_with fail
    refine (eqRuleS_any _ _ n n n f0 f1 f2 f3 f4 f5 _ hn HT7.out HU7.out).mono ?_
    rintro e w8 ⟨rfl, hb8⟩
    have HB8 : Hid (Below w.heap.size w w8) := HB7.out.trans (hb8.mono HB7.out.size)
    clear hb8
    go_wp2_with fail
    go_ret
    exact ⟨rfl, HB8.out⟩
theorem FnExactRulesLet_own : ownKnob Try.prog.godebug = none := by kernel_rfl
theorem FnExactRulesLet_laidOut : laidOutB Try.prog = true := by kernel_rfl
set_option maxRecDepth 100000 in
theorem FnExactRulesLet_lifted (os : Os) (started : os.Started) (H : Type) (enc : TypeId × Value → H) :
    ReturnsInHanded {} Try.checked os 7 .any (Rows.fnExactRulesLetSpec.pre6 enc Try.prog Try.f7 Rows.fnExactRulesLetRow.domain false) (Rows.fnExactRulesLetSpec.post enc Try.prog Try.f7 false true false false) := by
  refine returnsInHanded_of_change (C := Try.checked) FnExactRulesLet_own started (by kernel_rfl) Try.func7
    (ChangeSpec.witness6 (enc := enc) (C := Try.checked) false ⟨#[], #[.slice none 0 0, .int .i64 0, .agg #[.int .i64 0, .int .i64 0, .int .i64 0, .int .i64 0, .int .i64 0, .string ⟨#[]⟩]], []⟩ 8 (by kernel_rfl) (by kernel_rfl) (by kernel_rfl) (by kernel_rfl)) ?_
  intro W base args ds gs before hval0 hW hcnd _
  have hval : ∀ (j : Nat) t v, Try.f7.params[j]? = some t → args[j]? = some v → Value.okWide Try.prog W .any base t v := hval0
  have hW' := hW
  obtain ⟨p, q, hA0, hV, rfl, hfz, hnd⟩ := hW
  have hA : DataW.TrodAll enc Try.prog W 0 (fun _ => true) true Try.f7.params.toList args.toList ds p := hA0
  rw [Try.params7] at hA hval
  obtain ⟨v0, vs0, d0, ds0, p0, q0, hargs, rfl, rfl, h0, r0⟩ := trodAll_cons hA
  obtain ⟨v1, vs1, d1, ds1, p1, q1, rfl, rfl, rfl, h1, r1⟩ := trodAll_cons r0
  obtain ⟨v2, vs2, d2, ds2, p2, q2, rfl, rfl, rfl, h2, r2⟩ := trodAll_cons r1
  obtain ⟨rfl, rfl, rfl⟩ := trodAll_nil r2
  obtain rfl : args = #[v0, v1, v2] := by cases args; simp_all
  obtain ⟨rfl, rfl⟩ := trodVars_none hV
  have k0 := h0
  have lt0 : ∀ x ∈ p0, x.block < W.heap.size := by obtain ⟨m, hm⟩ := k0; exact DataW.trod_lt m _ _ _ hm
  obtain ⟨a0, n0, cap0, f0_0, f0_1, f0_2, f0_3, f0_4, f0_5, rfl, w0, t0⟩ := open_RuleS (hval 0 24 v0 rfl rfl) h0
  obtain ⟨a1, rfl, rfl, rfl, w1⟩ := open_int Try.underlying3 (hval 1 3 v1 rfl rfl) h1
  have k2 := h2
  have lt2 : ∀ x ∈ p2, x.block < W.heap.size := by obtain ⟨m, hm⟩ := k2; exact DataW.trod_lt m _ _ _ hm
  obtain ⟨f2_0, f2_1, f2_2, f2_3, f2_4, f2_5, rfl, w2_5, _⟩ := open_cmd (hval 2 47 v2 rfl rfl) h2
  clear hA0 hval0
  refine (FnExactRulesLet_walk a0 n0 cap0 f0_0 f0_1 f0_2 f0_3 f0_4 f0_5 a1 f2_0 f2_1 f2_2 f2_3 f2_4 f2_5 W w0 t0 w1 w2_5).mono fun e W' ⟨he, bel⟩ => ?_
  subst he
  exact ⟨_, rfl, _, _, _, [], _, [], hW', trodAll_mk1 (shut_bool Try.underlying4 _), (trodAll_cons_mk (Below.trod FnExactRulesLet_laidOut (by kernel_rfl) (of_decide_eq_true (by kernel_rfl)) k0 bel lt0) (trodAll_cons_mk (shut_int Try.underlying3 w1) (trodAll_cons_mk (Below.trod FnExactRulesLet_laidOut (by kernel_rfl) (of_decide_eq_true (by kernel_rfl)) k2 bel lt2) trodAll_mk0))), rfl, bel.frame _, fun h => by cases h⟩
theorem FnExactRulesLet_holds : Rows.FnExactRulesLetSaid :=
  OpenClaim.holds_of_wide 7 Try.f7 rfl rfl rfl rfl rfl rfl rfl ⟨rfl, rfl, rfl, rfl, rfl⟩ rfl rfl rfl rfl rfl (by kernel_rfl) Try.func7 (by kernel_rfl)
    (of_decide_eq_true (by kernel_rfl)) (by unfold Func.isWrapper; first | (rw [if_pos (by decide +kernel)]; kernel_rfl) | (rw [if_neg (by decide +kernel)]; exact ⟨rfl, rfl⟩))
    (fun os started H enc _ => FnExactRulesLet_lifted os started H enc)
#print axioms FnExactRulesLet_holds
end Go.Proofs.Ytfienpoebndfpaa
