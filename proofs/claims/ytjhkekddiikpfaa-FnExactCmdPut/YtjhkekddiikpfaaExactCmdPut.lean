/- Proved: laws.FnExactCmdPut returns true at every Cmd (impl.CmdPut answers as spec.CmdPut) and leaves it as it was. No condition. -/
import Derived.Test.YtjhkekddiikpfaaCmQ
import Derived.Test.YtjhkekddiikpfaaFrame
import Derived.OpenShut
import Derived.Lib.SmallJoins
namespace Go.Proofs.Ytjhkekddiikpfaa
open Go.ChangeShapes Go.WideShapes Go.ChangeAt Go.RowKit
open Go.ChangeMaps (open_string shut_string)
set_option linter.unusedVariables false
theorem array_cmd {α : Type} {cs : Array α} (h : cs.size = 6) : ∃ c0 c1 c2 c3 c4 c5, cs = #[c0, c1, c2, c3, c4, c5] := by
  obtain ⟨l⟩ := cs
  match l, h with
  | [c0, c1, c2, c3, c4, c5], _ => exact ⟨c0, c1, c2, c3, c4, c5, rfl⟩
theorem list_cmd {α : Type} {l : List α} (h : l.length = 6) : ∃ c0 c1 c2 c3 c4 c5, l = [c0, c1, c2, c3, c4, c5] := by
  match l, h with
  | [c0, c1, c2, c3, c4, c5], _ => exact ⟨c0, c1, c2, c3, c4, c5, rfl⟩
theorem cells_cmd : Try.prog.cellsOf 87 = 6 := by kernel_rfl
set_option maxRecDepth 100000 in
theorem open_cmd {H : Type} {enc : TypeId × Value → H} {w : World} {base : Nat} {spare : Nat → Bool} {held : Bool} {r : Reach} {b0 : Nat} {v : Value} {d : DataW H} {p : List MemPlace} (hv : Value.okWide Try.prog w r b0 87 v) (h : DataW.Trod enc Try.prog w base spare held 87 v d p) :
    ∃ (x0 : Int) (x1 : Int) (x2 : Int) (x3 : Int) (x4 : Int) (x5 : ByteArray), v = .agg #[.int .i64 x0, .int .i64 x1, .int .i64 x2, .int .i64 x3, .int .i64 x4, .string x5] ∧ x5.size ≤ maxLen ∧ True := by
  obtain ⟨cs, rfl, hsz⟩ := okWide_struct Try.underlying87 hv
  obtain ⟨c0, c1, c2, c3, c4, c5, rfl⟩ := array_cmd (hsz.trans cells_cmd)
  obtain ⟨fuel, hf⟩ := h
  obtain ⟨xs, n, _, _, hl, hlen, hfd⟩ := DataW.trod_struct Try.underlying87 hf
  obtain ⟨y0, y1, y2, y3, y4, y5, rfl⟩ := list_cmd hlen
  have k_int : Try.prog.cellsOf 3 = 1 := by kernel_rfl
  have k_string : Try.prog.cellsOf 9 = 1 := by kernel_rfl
  have e0 := hfd 0 _ rfl
  have e1 := hfd 1 _ rfl
  have e2 := hfd 2 _ rfl
  have e3 := hfd 3 _ rfl
  have e4 := hfd 4 _ rfl
  have e5 := hfd 5 _ rfl
  simp [Value.cells, k_int, k_string] at e0 e1 e2 e3 e4 e5
  obtain ⟨x0, h0, _⟩ := DataW.trod_int Try.underlying3 e0
  obtain ⟨x1, h1, _⟩ := DataW.trod_int Try.underlying3 e1
  obtain ⟨x2, h2, _⟩ := DataW.trod_int Try.underlying3 e2
  obtain ⟨x3, h3, _⟩ := DataW.trod_int Try.underlying3 e3
  obtain ⟨x4, h4, _⟩ := DataW.trod_int Try.underlying3 e4
  obtain ⟨x5, h5, _, m5⟩ := DataW.trod_string Try.underlying9 e5
  simp only [List.cons.injEq, and_true] at h0 h1 h2 h3 h4 h5
  subst h0 h1 h2 h3 h4 h5
  exact ⟨x0, x1, x2, x3, x4, x5, rfl, m5, trivial⟩
set_option maxHeartbeats 400000 in
theorem szCmd_great (a c so sv sb : Int) (d : ByteArray) (w : World) (hd : d.size ≤ maxLen) (hb : 1048576 < d.size) :
    Calls Try.prog 52 #[.agg #[.int .i64 a, .int .i64 c, .int .i64 so, .int .i64 sv, .int .i64 sb, .string d], .int .i64 1048576] w fun e w' => e = .returned (.int .i64 (-1)) ∧ Below w.heap.size w w' := by
  unfold maxLen at hd
  have h1 : (1048576 : Int) - d.size < 0 := by omega
  go_enter Try.func52, Try.ntmps52
  go_wp2
  go_ret
  exact ⟨rfl, (Below.refl _ _).alloc (Nat.le_refl _) _⟩
set_option maxHeartbeats 400000 in
theorem szCmd_fits (a c so sv sb : Int) (d : ByteArray) (w : World) (hb : d.size ≤ 1048576) :
    Calls Try.prog 52 #[.agg #[.int .i64 a, .int .i64 c, .int .i64 so, .int .i64 sv, .int .i64 sb, .string d], .int .i64 1048576] w fun e w' => e = .returned (.int .i64 (1048576 - d.size)) ∧ Below w.heap.size w w' := by
  have h1 : ¬ (1048576 : Int) - d.size < 0 := by omega
  go_enter Try.func52, Try.ntmps52
  go_wp2
  go_ret
  exact ⟨rfl, (Below.refl _ _).alloc (Nat.le_refl _) _⟩
theorem cellsCmd : (Try.prog.info? 90).map (·.size) = some 6 := by kernel_rfl
set_option maxHeartbeats 1000000 in
theorem toCmd_any (a c so sv sb : Int) (d : ByteArray) (w : World) :
    Calls Try.prog 54 #[.agg #[.int .i64 a, .int .i64 c, .int .i64 so, .int .i64 sv, .int .i64 sb, .string d]] w fun e w' => e = .returned (.agg #[.int .i64 a, .int .i64 c, .int .i64 so, .int .i64 sv, .int .i64 sb, .string d]) ∧ Below w.heap.size w w' := by
  go_enter Try.func54, Try.ntmps54
  go_wp2
  refine bodyPost_ret (v := .agg #[.int .i64 a, .int .i64 c, .int .i64 so, .int .i64 sv, .int .i64 sb, .string d]) (results_cell_row Try.results54 _ _ (w.heap.size + 1) 90 #[.int .i64 a, .int .i64 c, .int .i64 so, .int .i64 sv, .int .i64 sb, .string d] (0, 0) _ rfl ?_ Try.underlying90 rfl cellsCmd) rfl ⟨rfl, ?_⟩
  · refine get_alloc (get_new ?_) ?_ <;> simp
  · exact (((Below.refl _ _).alloc (Nat.le_refl _) _).alloc (by simp) _).alloc (by simp; omega) _
set_option maxHeartbeats 1000000 in
theorem FnExactCmdPut_walk (a c so sv sb : Int) (d : ByteArray) (w : World) (hd : d.size ≤ maxLen) :
    Calls Try.prog 13 #[.agg #[.int .i64 a, .int .i64 c, .int .i64 so, .int .i64 sv, .int .i64 sb, .string d]] w fun e w' => e = .returned (.bool true) ∧ Below w.heap.size w w' := by
  have HB0 : Hid (∀ o, Below w.heap.size w (w.alloc o)) := fun o => (Below.refl _ _).alloc (Nat.le_refl _) o
  by_cases hb : 1048576 < d.size
  · go_enter Try.func13, Try.ntmps13
    go_wp2_with fail
    refine (szCmd_great _ _ _ _ _ _ _ hd hb).mono ?_
    rintro e w1 ⟨rfl, hb1⟩
    have HB1 : Hid (Below w.heap.size w w1) := (HB0.out _).trans (hb1.mono (by simp))
    clear hb1
    go_wp2_with fail
    go_ret
    exact ⟨rfl, HB1.out⟩
  have hle : d.size ≤ 1048576 := by omega
  have hnn : ¬ (1048576 : Int) - d.size < 0 := by omega
  go_enter Try.func13, Try.ntmps13
  go_wp2_with fail
  refine (szCmd_fits _ _ _ _ _ _ _ hle).mono ?_
  rintro e w1 ⟨rfl, hb1⟩
  have HB1 : Hid (Below w.heap.size w w1) := (HB0.out _).trans (hb1.mono (by simp))
  obtain ⟨hc1, hf1⟩ := bcell0 hb1
  have hz1 : w.heap.size < w1.heap.size := by have := hb1.size; simp at this; omega
  have HC : Hid (Below (w.alloc (.cells #[.int .i64 a, .int .i64 c, .int .i64 so, .int .i64 sv, .int .i64 sb, .string d] 87)).heap.size (w.alloc (.cells #[.int .i64 a, .int .i64 c, .int .i64 so, .int .i64 sv, .int .i64 sb, .string d] 87)) w1) := hb1
  clear hb1
  go_wp2_with fail
  refine (toCmd_any _ _ _ _ _ _ _).mono ?_
  rintro e w2 ⟨rfl, hb2⟩
  have HB2 : Hid (Below w.heap.size w w2) := HB1.out.trans (hb2.mono HB1.out.size)
  have HC2 : Hid (Below (w.alloc (.cells #[.int .i64 a, .int .i64 c, .int .i64 so, .int .i64 sv, .int .i64 sb, .string d] 87)).heap.size (w.alloc (.cells #[.int .i64 a, .int .i64 c, .int .i64 so, .int .i64 sv, .int .i64 sb, .string d] 87)) w2) := HC.out.trans (hb2.mono HC.out.size)
  clear hb2
  go_wp2_with fail
  refine (specCmdPut_any _ _ _ _ _ _ _ hd).mono ?_
  rintro e w3 ⟨rfl, hb3⟩
  have HB3 : Hid (Below w.heap.size w w3) := HB2.out.trans (hb3.mono HB2.out.size)
  have hC3 := HC2.out.trans (hb3.mono HC2.out.size)
  obtain ⟨hc3, hf3⟩ := bcell0 hC3
  clear hb3 hC3 hc1 hf1
  go_wp2_with fail
  refine (toCmd_any _ _ _ _ _ _ _).mono ?_
  rintro e w4 ⟨rfl, hb4⟩
  have HB4 : Hid (Below w.heap.size w w4) := HB3.out.trans (hb4.mono HB3.out.size)
  clear hb4 hc3 hf3
  go_wp2_with fail
  refine (implCmdPut_any _ _ _ _ _ _ _ hd).mono ?_
  rintro e w5 ⟨rfl, hb5⟩
  have HB5 : Hid (Below w.heap.size w w5) := HB4.out.trans (hb5.mono HB4.out.size)
  clear hb5
  go_wp2_with fail
  go_ret
  exact ⟨rfl, HB5.out⟩

theorem FnExactCmdPut_own : ownKnob Try.prog.godebug = none := by kernel_rfl
theorem FnExactCmdPut_laidOut : laidOutB Try.prog = true := by kernel_rfl
set_option maxRecDepth 100000 in
theorem FnExactCmdPut_lifted (os : Os) (started : os.Started) (H : Type) (enc : TypeId × Value → H) :
    ReturnsInHanded {} Try.checked os 13 .any (Rows.fnExactCmdPutSpec.pre6 enc Try.prog Try.f13 Rows.fnExactCmdPutRow.domain false) (Rows.fnExactCmdPutSpec.post enc Try.prog Try.f13 false true false false) := by
  refine returnsInHanded_of_change (C := Try.checked) FnExactCmdPut_own started (by kernel_rfl) Try.func13
    (ChangeSpec.witness6 (enc := enc) (C := Try.checked) false ⟨#[], #[.agg #[.int .i64 0, .int .i64 0, .int .i64 0, .int .i64 0, .int .i64 0, .string ⟨#[]⟩]], []⟩ 8 (by kernel_rfl) (by kernel_rfl) (by kernel_rfl) (by kernel_rfl)) ?_
  intro W base args ds gs before hval0 hW hcnd _
  have hval : ∀ (j : Nat) t v, Try.f13.params[j]? = some t → args[j]? = some v → Value.okWide Try.prog W .any base t v := hval0
  have hW' := hW
  obtain ⟨p, q, hA0, hV, rfl, hfz, hnd⟩ := hW
  have hA : DataW.TrodAll enc Try.prog W 0 (fun _ => true) true Try.f13.params.toList args.toList ds p := hA0
  rw [Try.params13] at hA hval
  obtain ⟨v0, vs0, d0, ds0, p0, q0, hargs, rfl, rfl, h0, r0⟩ := trodAll_cons hA
  obtain ⟨rfl, rfl, rfl⟩ := trodAll_nil r0
  obtain rfl : args = #[v0] := by cases args; simp_all
  obtain ⟨rfl, rfl⟩ := trodVars_none hV
  have k0 := h0
  have lt0 : ∀ x ∈ p0, x.block < W.heap.size := by obtain ⟨m, hm⟩ := k0; exact DataW.trod_lt m _ _ _ hm
  obtain ⟨f0_0, f0_1, f0_2, f0_3, f0_4, f0_5, rfl, w0_5, _⟩ := open_cmd (hval 0 87 v0 rfl rfl) h0
  clear hA0 hval0
  refine (FnExactCmdPut_walk f0_0 f0_1 f0_2 f0_3 f0_4 f0_5 W w0_5).mono fun e W' ⟨he, bel⟩ => ?_
  subst he
  exact ⟨_, rfl, _, _, _, [], _, [], hW', trodAll_mk1 (shut_bool Try.underlying4 _), (trodAll_cons_mk (Below.trod FnExactCmdPut_laidOut (by kernel_rfl) (of_decide_eq_true (by kernel_rfl)) k0 bel lt0) trodAll_mk0), rfl, bel.frame _, fun h => by cases h⟩
theorem FnExactCmdPut_holds : Rows.FnExactCmdPutSaid :=
  OpenClaim.holds_of_wide 13 Try.f13 rfl rfl rfl rfl rfl rfl rfl ⟨rfl, rfl, rfl, rfl, rfl⟩ rfl rfl rfl rfl rfl (by kernel_rfl) Try.func13 (by kernel_rfl)
    (of_decide_eq_true (by kernel_rfl)) (by unfold Func.isWrapper; first | (rw [if_pos (by decide +kernel)]; kernel_rfl) | (rw [if_neg (by decide +kernel)]; exact ⟨rfl, rfl⟩))
    (fun os started H enc _ => FnExactCmdPut_lifted os started H enc)
#print axioms FnExactCmdPut_holds
end Go.Proofs.Ytjhkekddiikpfaa
