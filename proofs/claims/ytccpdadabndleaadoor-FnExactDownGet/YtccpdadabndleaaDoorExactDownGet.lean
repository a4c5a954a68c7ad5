/- Proved: laws.FnExactDownGet returns true at every text (impl.DownGet answers as spec.DownGet) and leaves it as it was, as a tied card: the two errors of impl hold what the program's text lays in them. No other condition. -/
import Derived.Test.YtccpdadabndleaaDoorDgS
import Derived.Test.YtccpdadabndleaaDoorCards
import Derived.Test.YtccpdadabndleaaDoorTie
import Derived.LaidMore
import Derived.Stop.LaidErr
import Derived.Stop.Joined
import Derived.Stop.ErrReads
import Derived.SevenTiedAt
import Derived.OpenShut
import Derived.ShutString
namespace Go.Proofs.YtccpdadabndleaaDoor
open Go.ChangeShapes Go.WideShapes Go.ChangeAt Go.RowKit
open Go.ChangeMaps (open_string shut_string)
set_option linter.unusedVariables false

theorem eqDown_same (a c v b m : Int) (d f : ByteArray) (w : World) :
    Calls Tryd.prog 42 #[.agg #[.int .i64 a, .int .i64 c, .int .i64 v, .int .i64 b, .int .i64 m, .string d, .string f], .agg #[.int .i64 a, .int .i64 c, .int .i64 v, .int .i64 b, .int .i64 m, .string d, .string f]] w fun e w' => e = .returned (.bool true) ∧ Below w.heap.size w w' := by
  go_enter Tryd.func42, Tryd.ntmps42
  go_wp2
  go_ret
  exact ⟨rfl, ((Below.refl _ _).alloc (Nat.le_refl _) _).alloc (by simp) _⟩
set_option maxRecDepth 100000 in
set_option maxHeartbeats 1000000 in
theorem FnExactDownGet_walk (t : ByteArray) (w : World) (ht : t.size ≤ maxLen) (he : Errs w) :
    Calls Tryd.prog 11 #[.string t] w fun e w' => e = .returned (.bool true) ∧ Below w.heap.size w w' := by
  have HE : Hid (Errs w) := he
  by_cases hl : 1048576 < t.size
  · go_enter Tryd.func11, Tryd.ntmps11
    unfold maxLen at ht
    go_wp2_with fail
    go_ret
    exact ⟨rfl, Below.refl _ _⟩
  · have hle : t.size ≤ 1048576 := by omega
    obtain ⟨a, c, v, b, m, d, f, hv⟩ := dgV_agg t
    generalize hb : dgOk t = o
    have HS : Hid (∀ W, Calls Tryd.prog 40 #[.string t] W fun e w' => e = .returned (.tuple #[.agg #[.int .i64 a, .int .i64 c, .int .i64 v, .int .i64 b, .int .i64 m, .string d, .string f], .bool o]) ∧ Below W.heap.size W w') := fun W => by
      have := specDownGet_any t W
      rw [hv, hb] at this; exact this
    have HI : Hid (∀ W, Errs W → Calls Tryd.prog 41 #[.string t] W fun e w' => e = .returned (.tuple #[.agg #[.int .i64 a, .int .i64 c, .int .i64 v, .int .i64 b, .int .i64 m, .string d, .string f], .bool o]) ∧ Below W.heap.size W w') := fun W he => by
      have := implDownGet_any t W (by unfold maxLen; omega) he
      rw [hv, hb] at this; exact this
    clear hv hb he
    go_enter Tryd.func11, Tryd.ntmps11
    unfold maxLen at ht
    go_wp2_with fail
    refine Calls.mono (HS.out _) ?_
    rintro e w1 ⟨rfl, hb1⟩
    have HE1 : Hid (Errs (w1.alloc (.cells #[.int .i64 a, .int .i64 c, .int .i64 v, .int .i64 b, .int .i64 m, .string d, .string f] 54))) := (HE.out.below hb1).below ((Below.refl _ _).alloc (Nat.le_refl _) _)
    have HB1 : Hid (Below w.heap.size w (w1.alloc (.cells #[.int .i64 a, .int .i64 c, .int .i64 v, .int .i64 b, .int .i64 m, .string d, .string f] 54))) := hb1.alloc hb1.size _
    have HX : Hid ((w1.alloc (.cells #[.int .i64 a, .int .i64 c, .int .i64 v, .int .i64 b, .int .i64 m, .string d, .string f] 54)).heap[w1.heap.size]? = some (.cells #[.int .i64 a, .int .i64 c, .int .i64 v, .int .i64 b, .int .i64 m, .string d, .string f] 54)) := get_new rfl
    clear hb1
    go_wp2_with fail
    refine Calls.mono (HI.out _ HE1.out) ?_
    rintro e w2 ⟨rfl, hb2⟩
    have HX2 : Hid (w2.heap[w1.heap.size]? = some (.cells #[.int .i64 a, .int .i64 c, .int .i64 v, .int .i64 b, .int .i64 m, .string d, .string f] 54)) := get_below hb2 HX.out (by simp)
    have HB2 : Hid (Below w.heap.size w (w2.alloc (.cells #[.int .i64 a, .int .i64 c, .int .i64 v, .int .i64 b, .int .i64 m, .string d, .string f] 54))) := (HB1.out.trans (hb2.mono HB1.out.size)).alloc (HB1.out.trans (hb2.mono HB1.out.size)).size _
    have hl2 := size_of_get HX2.out
    have HX3 : Hid ((w2.alloc (.cells #[.int .i64 a, .int .i64 c, .int .i64 v, .int .i64 b, .int .i64 m, .string d, .string f] 54)).heap[w1.heap.size]? = some (.cells #[.int .i64 a, .int .i64 c, .int .i64 v, .int .i64 b, .int .i64 m, .string d, .string f] 54)) := get_alloc HX2.out hl2
    have HY3 : Hid ((w2.alloc (.cells #[.int .i64 a, .int .i64 c, .int .i64 v, .int .i64 b, .int .i64 m, .string d, .string f] 54)).heap[w2.heap.size]? = some (.cells #[.int .i64 a, .int .i64 c, .int .i64 v, .int .i64 b, .int .i64 m, .string d, .string f] 54)) := get_new rfl
    clear hb2 HB1 HX HX2 HE1
    obtain ⟨k0, k1, k2, k3, k4, k5, k6⟩ := cells7_of HX3.out
    obtain ⟨j0, j1, j2, j3, j4, j5, j6⟩ := cells7_of HY3.out
    go_wp2_with fail
    refine (eqDown_same a c v b m d f _).mono ?_
    rintro e w3 ⟨rfl, hb3⟩
    have HB3 : Hid (Below w.heap.size w w3) := HB2.out.trans (hb3.mono HB2.out.size)
    clear hb3
    go_wp2_with fail
    go_ret
    exact ⟨rfl, HB3.out⟩
theorem FnExactDownGet_g0 : Tryd.prog.globalNamed "loop.example/skyway/impl.errShort" = some 2 := by kernel_rfl
theorem FnExactDownGet_t0 : (Tryd.prog.globals[2]?).map (·.type) = some 107 := by kernel_rfl
theorem FnExactDownGet_g1 : Tryd.prog.globalNamed "loop.example/skyway/impl.errOther" = some 0 := by kernel_rfl
theorem FnExactDownGet_t1 : (Tryd.prog.globals[0]?).map (·.type) = some 107 := by kernel_rfl
theorem FnExactDownGet_star : "*" ++ "errors.errorString" = "*errors.errorString" := by decide
theorem FnExactDownGet_rowP (u : TypeId) (h : Tryd.prog.typeName? 3 u = some "*errors.errorString") : u = 158 :=
  typeName_ptr_named (nm := "errors.errorString") (by rw [FnExactDownGet_star]; kernel_rfl) (by kernel_rfl) (by decide) u (by rw [FnExactDownGet_star]; exact h)
theorem FnExactDownGet_c1 : Tryd.prog.cellsOf 174 = 1 := by kernel_rfl
theorem FnExactDownGet_c2 : Tryd.prog.cellsOf 9 = 1 := by kernel_rfl
def FnExactDownGet_list : List (String × DataW Unit) := [("loop.example/skyway/impl.errShort", Rows.laid_loop_example_skyway_impl_errShort), ("loop.example/skyway/impl.errOther", Rows.laid_loop_example_skyway_impl_errOther)]
theorem FnExactDownGet_met (os : Os) (args : Array Value) : laidMetH Tryd.prog FnExactDownGet_list ((World.doorLaid Tryd.prog 400 os).forCall (fun _ _ => 0) ⟨#[], args, []⟩).memory :=
  laidMetH_of_parts3 (fuel := 8) (laidMet_of_run' 8 (by kernel_rfl) (by kernel_rfl)) (by kernel_rfl) (by kernel_rfl)
theorem FnExactDownGet_var {W W' : World} {n : String} {cs : Array Value} (k : Below W.heap.size W W') (h : W.var? Tryd.prog n = some cs) : W'.var? Tryd.prog n = some cs := by
  unfold World.var? at h ⊢
  cases hg : Tryd.prog.globalNamed n with
  | none => simp [hg] at h
  | some g =>
    simp only [hg, Option.bind_some] at h ⊢
    have hlt : g < W.heap.size := by
      rcases Nat.lt_or_ge g W.heap.size with h' | h'
      · exact h'
      · simp [Array.getElem?_eq_none h'] at h
    rw [k.block g hlt]; exact h
theorem FnExactDownGet_of {W : World} (h : laidMetH Tryd.prog FnExactDownGet_list W) : ∃ x0 x1 : Addr, W.var? Tryd.prog "loop.example/skyway/impl.errShort" = some #[.iface 158 (.pointer (some x0))] ∧ W.var? Tryd.prog "loop.example/skyway/impl.errOther" = some #[.iface 158 (.pointer (some x1))] := by
  rw [MakeChecks.laidMetH_plain _ _ _ (by kernel_rfl)] at h
  obtain ⟨x0, _, v0, _⟩ := laid_sentinel h FnExactDownGet_g0 FnExactDownGet_t0 Tryd.underlying107 FnExactDownGet_rowP Tryd.underlying158 Tryd.underlying174 rfl rfl Tryd.underlying9 FnExactDownGet_c1 FnExactDownGet_c2
  obtain ⟨x1, _, v1, _⟩ := laid_sentinel (h).tail FnExactDownGet_g1 FnExactDownGet_t1 Tryd.underlying107 FnExactDownGet_rowP Tryd.underlying158 Tryd.underlying174 rfl rfl Tryd.underlying9 FnExactDownGet_c1 FnExactDownGet_c2
  exact ⟨x0, x1, v0, v1⟩
theorem FnExactDownGet_own : ownKnob Tryd.prog.godebug = none := by kernel_rfl
set_option maxRecDepth 100000 in
theorem FnExactDownGet_lifted (os : Os) (started : os.Started) (H : Type) (enc : TypeId × Value → H) :
    ReturnsInHanded {} Tryd.checked os 11 .any (fun w args => (Rows.fnExactDownGetSpec.pre enc Tryd.prog Tryd.f11 [] false w args ∧ laidMetH Tryd.prog FnExactDownGet_list w) ∧ sizedMet enc Tryd.prog Tryd.f11 (OpenSpec.ofChange Rows.fnExactDownGetSpec) false w args) (Rows.fnExactDownGetSpec.post enc Tryd.prog Tryd.f11 false true false false) := by
  refine returnsInHanded_of_change_and (C := Tryd.checked) (X := fun w _ => laidMetH Tryd.prog FnExactDownGet_list w) (fun _ _ _ hh h => h.of_heap hh) FnExactDownGet_own started (by kernel_rfl) Tryd.func11
    (ChangeSpec.witness_shaped (enc := enc) (C := Tryd.checked) (os := os) (X := fun w _ => laidMetH Tryd.prog FnExactDownGet_list w) false (World.doorLaid Tryd.prog 400 os) #[.string ⟨#[]⟩] 8 rfl (World.shaped_of_RefB (by kernel_rfl) (by kernel_rfl)) (by kernel_rfl) (by kernel_rfl) (by kernel_rfl) (FnExactDownGet_met os _)) ?_
  intro W base args ds gs before hval0 hW hcnd _ hL _
  have hval : ∀ (j : Nat) t v, Tryd.f11.params[j]? = some t → args[j]? = some v → Value.okWide Tryd.prog W .any base t v := hval0
  have hW' := hW
  obtain ⟨p, q, hA0, hV0, rfl, hfz, hnd⟩ := hW
  have hV : DataW.TrodVars enc Tryd.prog W (fun _ => true) ["loop.example/skyway/impl.errShort", "loop.example/skyway/impl.errOther"] gs q := hV0
  obtain ⟨x0, x1, hv0, hv1⟩ := FnExactDownGet_of hL
  have hA : DataW.TrodAll enc Tryd.prog W 0 (fun _ => true) true Tryd.f11.params.toList args.toList ds p := hA0
  rw [Tryd.params11] at hA hval
  obtain ⟨v0, vs0, d0, ds0, p0, q0, hargs, rfl, rfl, h0, r0⟩ := trodAll_cons hA
  obtain ⟨rfl, rfl, rfl⟩ := trodAll_nil r0
  obtain rfl : args = #[v0] := by cases args; simp_all
  obtain ⟨rfl, rfl⟩ := hV.unique (vars_read2 enc FnExactDownGet_g0 FnExactDownGet_t0 Tryd.underlying107 hv0 trivial FnExactDownGet_g1 FnExactDownGet_t1 Tryd.underlying107 hv1 trivial _)
  obtain ⟨a0, rfl, rfl, rfl, w0⟩ := open_string Tryd.underlying9 (hval 0 9 v0 rfl rfl) h0
  clear hA0 hval0 hV0
  refine (FnExactDownGet_walk a0 W w0 ⟨x1, x0, (by simpa using World.var?_cell FnExactDownGet_g1 hv1 0), (by simpa using World.var?_cell FnExactDownGet_g0 hv0 0)⟩).mono fun e W' ⟨he, bel⟩ => ?_
  subst he
  exact ⟨_, rfl, _, _, _, [], _, _, hW', trodAll_mk1 (shut_bool Tryd.underlying4 _), (trodAll_cons_mk (shut_string Tryd.underlying9 w0) trodAll_mk0), (vars_read2 enc FnExactDownGet_g0 FnExactDownGet_t0 Tryd.underlying107 (FnExactDownGet_var bel hv0) trivial FnExactDownGet_g1 FnExactDownGet_t1 Tryd.underlying107 (FnExactDownGet_var bel hv1) trivial _), bel.frame _, fun h => by cases h⟩
theorem FnExactDownGet_holds : Rows.FnExactDownGetSaid :=
  OpenClaim.holds_of_wide 11 Tryd.f11 rfl rfl rfl rfl rfl rfl rfl ⟨rfl, rfl, rfl, rfl, rfl⟩ rfl rfl rfl rfl rfl (by kernel_rfl) Tryd.func11 (by kernel_rfl)
    (of_decide_eq_true (by kernel_rfl)) (by unfold Func.isWrapper; first | (rw [if_pos (by decide +kernel)]; kernel_rfl) | (rw [if_neg (by decide +kernel)]; exact ⟨rfl, rfl⟩))
    (fun os started H enc _ => FnExactDownGet_lifted os started H enc)
theorem FnExactDownGet_card : Rows.FnExactDownGetCardSaid :=
  Claim7.holds_tied_plain_at .later [] [.sentinel, .sentinel] true (true, "d4916f3d9a9138b16cf3363f0ab1195dfe45625b95ab6948d0d5fdd4665c0b46") false
    FnExactDownGet_holds (fun _ h => by cases h) (by kernel_rfl) (fun _ h => by cases h) fnExactDownGet_row_tie rfl ⟨rfl, rfl⟩ (by kernel_rfl) rfl
    (fun f fn hf hfn => by
      obtain rfl : f = 11 := Option.some.inj ((show Tryd.prog.funcNamed "loop.example/skyway/laws.FnExactDownGet" = some 11 by kernel_rfl).symm.trans hf) |>.symm
      obtain rfl : fn = Tryd.f11 := (Option.some.inj (Tryd.func11.symm.trans hfn)).symm
      exact ⟨by kernel_rfl, fun j t ht => by
        rw [Tryd.params11] at ht
        have hm : t ∈ ([9] : List TypeId) := by simpa using Array.mem_of_getElem? ht
        have hall : (([9] : List TypeId).all fun u => !Tryd.prog.wantsStandIn u) = true := by kernel_rfl
        exact (show Tryd.prog.wantsStandIn t = false by simpa using List.all_eq_true.1 hall t hm)⟩)
    (by kernel_rfl)
#print axioms FnExactDownGet_card
end Go.Proofs.YtccpdadabndleaaDoor
