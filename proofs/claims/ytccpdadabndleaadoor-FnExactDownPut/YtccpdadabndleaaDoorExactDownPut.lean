/- Proved: laws.FnExactDownPut returns true at every Down (impl.DownPut answers as spec.DownPut) and leaves it as it was, as a tied card: the two errors of impl hold what the program's text lays in them. No other condition. -/
import Derived.Test.YtccpdadabndleaaDoorDnQ
import Derived.Test.YtccpdadabndleaaDoorFrame
import Derived.Test.YtccpdadabndleaaDoorCards
import Derived.Test.YtccpdadabndleaaDoorTie
import Derived.LaidMore
import Derived.Stop.LaidErr
import Derived.Stop.Joined
import Derived.Stop.ErrReads
import Derived.SevenTiedAt
import Derived.OpenShut
import Derived.ShutString
import Derived.Lib.SmallJoins
namespace Go.Proofs.YtccpdadabndleaaDoor
open Go.ChangeShapes Go.WideShapes Go.ChangeAt Go.RowKit
open Go.ChangeMaps (open_string shut_string)
set_option linter.unusedVariables false
theorem array_down {α : Type} {cs : Array α} (h : cs.size = 7) : ∃ c0 c1 c2 c3 c4 c5 c6, cs = #[c0, c1, c2, c3, c4, c5, c6] := by
  obtain ⟨l⟩ := cs
  match l, h with
  | [c0, c1, c2, c3, c4, c5, c6], _ => exact ⟨c0, c1, c2, c3, c4, c5, c6, rfl⟩
theorem list_down {α : Type} {l : List α} (h : l.length = 7) : ∃ c0 c1 c2 c3 c4 c5 c6, l = [c0, c1, c2, c3, c4, c5, c6] := by
  match l, h with
  | [c0, c1, c2, c3, c4, c5, c6], _ => exact ⟨c0, c1, c2, c3, c4, c5, c6, rfl⟩
theorem cells_down : Tryd.prog.cellsOf 51 = 7 := by kernel_rfl
set_option maxRecDepth 100000 in
theorem open_down {H : Type} {enc : TypeId × Value → H} {w : World} {base : Nat} {spare : Nat → Bool} {held : Bool} {r : Reach} {b0 : Nat} {v : Value} {d : DataW H} {p : List MemPlace} (hv : Value.okWide Tryd.prog w r b0 51 v) (h : DataW.Trod enc Tryd.prog w base spare held 51 v d p) :
    ∃ (x0 : Int) (x1 : Int) (x2 : Int) (x3 : Int) (x4 : Int) (x5 : ByteArray) (x6 : ByteArray), v = .agg #[.int .i64 x0, .int .i64 x1, .int .i64 x2, .int .i64 x3, .int .i64 x4, .string x5, .string x6] ∧ x5.size ≤ maxLen ∧ x6.size ≤ maxLen ∧ True := by
  obtain ⟨cs, rfl, hsz⟩ := okWide_struct Tryd.underlying51 hv
  obtain ⟨c0, c1, c2, c3, c4, c5, c6, rfl⟩ := array_down (hsz.trans cells_down)
  obtain ⟨fuel, hf⟩ := h
  obtain ⟨xs, n, _, _, hl, hlen, hfd⟩ := DataW.trod_struct Tryd.underlying51 hf
  obtain ⟨y0, y1, y2, y3, y4, y5, y6, rfl⟩ := list_down hlen
  have k_int : Tryd.prog.cellsOf 3 = 1 := by kernel_rfl
  have k_string : Tryd.prog.cellsOf 9 = 1 := by kernel_rfl
  have e0 := hfd 0 _ rfl
  have e1 := hfd 1 _ rfl
  have e2 := hfd 2 _ rfl
  have e3 := hfd 3 _ rfl
  have e4 := hfd 4 _ rfl
  have e5 := hfd 5 _ rfl
  have e6 := hfd 6 _ rfl
  simp [Value.cells, k_int, k_string] at e0 e1 e2 e3 e4 e5 e6
  obtain ⟨x0, h0, _⟩ := DataW.trod_int Tryd.underlying3 e0
  obtain ⟨x1, h1, _⟩ := DataW.trod_int Tryd.underlying3 e1
  obtain ⟨x2, h2, _⟩ := DataW.trod_int Tryd.underlying3 e2
  obtain ⟨x3, h3, _⟩ := DataW.trod_int Tryd.underlying3 e3
  obtain ⟨x4, h4, _⟩ := DataW.trod_int Tryd.underlying3 e4
  obtain ⟨x5, h5, _, m5⟩ := DataW.trod_string Tryd.underlying9 e5
  obtain ⟨x6, h6, _, m6⟩ := DataW.trod_string Tryd.underlying9 e6
  simp only [List.cons.injEq, and_true] at h0 h1 h2 h3 h4 h5 h6
  subst h0 h1 h2 h3 h4 h5 h6
  exact ⟨x0, x1, x2, x3, x4, x5, x6, rfl, m5, m6, trivial⟩
theorem cellsDown : (Tryd.prog.info? 54).map (·.size) = some 7 := by kernel_rfl
set_option maxHeartbeats 1000000 in
theorem toDown_any (cr wh al ow fi : Int) (d f : ByteArray) (w : World) :
    Calls Tryd.prog 38 #[.agg #[.int .i64 cr, .int .i64 wh, .int .i64 al, .int .i64 ow, .int .i64 fi, .string d, .string f]] w fun e w' => e = .returned (.agg #[.int .i64 cr, .int .i64 wh, .int .i64 al, .int .i64 ow, .int .i64 fi, .string d, .string f]) ∧ Below w.heap.size w w' := by
  go_enter Tryd.func38, Tryd.ntmps38
  go_wp2
  refine bodyPost_ret (v := .agg #[.int .i64 cr, .int .i64 wh, .int .i64 al, .int .i64 ow, .int .i64 fi, .string d, .string f]) (results_cell_row Tryd.results38 _ _ (w.heap.size + 1) 54 #[.int .i64 cr, .int .i64 wh, .int .i64 al, .int .i64 ow, .int .i64 fi, .string d, .string f] (0, 0) _ rfl ?_ Tryd.underlying54 rfl cellsDown) rfl ⟨rfl, ?_⟩
  · refine get_alloc (get_new ?_) ?_ <;> simp
  · exact (((Below.refl _ _).alloc (Nat.le_refl _) _).alloc (by simp) _).alloc (by simp; omega) _
set_option maxHeartbeats 1000000 in
theorem szDown_any (cr wh al ow fi : Int) (d f : ByteArray) (w : World) (hd : d.size ≤ maxLen) (hf : f.size ≤ maxLen) :
    Calls Tryd.prog 36 #[.agg #[.int .i64 cr, .int .i64 wh, .int .i64 al, .int .i64 ow, .int .i64 fi, .string d, .string f], .int .i64 1048576] w fun e w' => ∃ n : Int, (0 ≤ n → d.size ≤ 1048576 ∧ f.size ≤ 1048576) ∧ e = .returned (.int .i64 n) ∧ Below w.heap.size w w' := by
  unfold maxLen at hd hf
  have HBH : Hid (∀ o, Below w.heap.size w (w.alloc o)) := fun o => (Below.refl _ _).alloc (Nat.le_refl _) o
  by_cases h1 : (1048576 : Int) - d.size < 0
  · go_enter Tryd.func36, Tryd.ntmps36
    go_wp2_with fail
    go_ret
    exact ⟨-1, by omega, rfl, HBH.out _⟩
  · by_cases h2 : (1048576 : Int) - d.size - f.size < 0
    · go_enter Tryd.func36, Tryd.ntmps36
      go_wp2_with fail
      go_ret
      exact ⟨-1, by omega, rfl, HBH.out _⟩
    · go_enter Tryd.func36, Tryd.ntmps36
      go_wp2_with fail
      go_ret
      exact ⟨_, by omega, rfl, HBH.out _⟩
set_option maxRecDepth 100000 in
set_option maxHeartbeats 2000000 in
theorem FnExactDownPut_walk (cr wh al ow fi : Int) (d f : ByteArray) (w : World) (hd : d.size ≤ maxLen) (hf : f.size ≤ maxLen) (he : Errs w) :
    Calls Tryd.prog 10 #[.agg #[.int .i64 cr, .int .i64 wh, .int .i64 al, .int .i64 ow, .int .i64 fi, .string d, .string f]] w fun e w' => e = .returned (.bool true) ∧ Below w.heap.size w w' := by
  have HE : Hid (Errs w) := he
  have HB : Hid (Below w.heap.size w w) := Below.refl _ _
  clear he
  go_enter Tryd.func10, Tryd.ntmps10
  have A : Hid ((w.alloc (.cells #[.int .i64 cr, .int .i64 wh, .int .i64 al, .int .i64 ow, .int .i64 fi, .string d, .string f] 51)).heap[w.heap.size]? = some (.cells #[.int .i64 cr, .int .i64 wh, .int .i64 al, .int .i64 ow, .int .i64 fi, .string d, .string f] 51)) := get_new rfl
  replace HB : Hid (Below w.heap.size w (w.alloc (.cells #[.int .i64 cr, .int .i64 wh, .int .i64 al, .int .i64 ow, .int .i64 fi, .string d, .string f] 51))) := HB.out.alloc HB.out.size _
  replace HE : Hid (Errs (w.alloc (.cells #[.int .i64 cr, .int .i64 wh, .int .i64 al, .int .i64 ow, .int .i64 fi, .string d, .string f] 51))) := HE.out.below ((Below.refl _ _).alloc (Nat.le_refl _) _)
  go_wp2_with fail
  refine (szDown_any _ _ _ _ _ _ _ _ hd hf).mono ?_
  rintro e w1 ⟨n, hn, rfl, hb⟩
  replace A : Hid (w1.heap[w.heap.size]? = some (.cells #[.int .i64 cr, .int .i64 wh, .int .i64 al, .int .i64 ow, .int .i64 fi, .string d, .string f] 51)) := get_below hb A.out (size_of_get A.out)
  replace HB : Hid (Below w.heap.size w w1) := HB.out.trans (hb.mono HB.out.size)
  replace HE : Hid (Errs w1) := HE.out.below hb
  clear hb
  by_cases hneg : n < 0
  · obtain ⟨A_0, A_1, A_2, A_3, A_4, A_5, A_6⟩ := cells7_of A.out
    go_wp2_with fail
    clear A_0 A_1 A_2 A_3 A_4 A_5 A_6
    go_ret
    exact ⟨rfl, HB.out⟩
  · have HI : Hid (∀ W, Errs W → Calls Tryd.prog 39 #[.agg #[.int .i64 cr, .int .i64 wh, .int .i64 al, .int .i64 ow, .int .i64 fi, .string d, .string f]] W fun e w' => e = .returned (.string (dnPut cr wh al ow fi d f)) ∧ Below W.heap.size W w') := fun W he => implDownPut_any _ _ _ _ _ _ _ W hd hf he
    have HS : Hid (∀ W, Calls Tryd.prog 37 #[.agg #[.int .i64 cr, .int .i64 wh, .int .i64 al, .int .i64 ow, .int .i64 fi, .string d, .string f]] W fun e w' => e = .returned (.string (dnPut cr wh al ow fi d f)) ∧ Below W.heap.size W w') := fun W => specDownPut_any _ _ _ _ _ _ _ W hd hf
    generalize dnPut cr wh al ow fi d f = t at *
    have hteq : (t.toList == t.toList) = true := by simp
    obtain ⟨A_0, A_1, A_2, A_3, A_4, A_5, A_6⟩ := cells7_of A.out
    go_wp2_with fail
    clear A_0 A_1 A_2 A_3 A_4 A_5 A_6
    refine (toDown_any _ _ _ _ _ _ _ _).mono ?_
    rintro e w2 ⟨rfl, hb⟩
    replace A : Hid (w2.heap[w.heap.size]? = some (.cells #[.int .i64 cr, .int .i64 wh, .int .i64 al, .int .i64 ow, .int .i64 fi, .string d, .string f] 51)) := get_below hb A.out (size_of_get A.out)
    replace HB : Hid (Below w.heap.size w w2) := HB.out.trans (hb.mono HB.out.size)
    replace HE : Hid (Errs w2) := HE.out.below hb
    clear hb
    go_wp2_with fail
    refine Calls.mono (HS.out _) ?_
    rintro e w3 ⟨rfl, hb⟩
    replace A : Hid (w3.heap[w.heap.size]? = some (.cells #[.int .i64 cr, .int .i64 wh, .int .i64 al, .int .i64 ow, .int .i64 fi, .string d, .string f] 51)) := get_below hb A.out (size_of_get A.out)
    replace HB : Hid (Below w.heap.size w w3) := HB.out.trans (hb.mono HB.out.size)
    replace HE : Hid (Errs w3) := HE.out.below hb
    clear hb
    obtain ⟨A_0, A_1, A_2, A_3, A_4, A_5, A_6⟩ := cells7_of A.out
    go_wp2_with fail
    clear A_0 A_1 A_2 A_3 A_4 A_5 A_6
    refine (toDown_any _ _ _ _ _ _ _ _).mono ?_
    rintro e w4 ⟨rfl, hb⟩
    replace A : Hid (w4.heap[w.heap.size]? = some (.cells #[.int .i64 cr, .int .i64 wh, .int .i64 al, .int .i64 ow, .int .i64 fi, .string d, .string f] 51)) := get_below hb A.out (size_of_get A.out)
    replace HB : Hid (Below w.heap.size w w4) := HB.out.trans (hb.mono HB.out.size)
    replace HE : Hid (Errs w4) := HE.out.below hb
    clear hb
    go_wp2_with fail
    refine Calls.mono (HI.out _ HE.out) ?_
    rintro e w5 ⟨rfl, hb⟩
    replace A : Hid (w5.heap[w.heap.size]? = some (.cells #[.int .i64 cr, .int .i64 wh, .int .i64 al, .int .i64 ow, .int .i64 fi, .string d, .string f] 51)) := get_below hb A.out (size_of_get A.out)
    replace HB : Hid (Below w.heap.size w w5) := HB.out.trans (hb.mono HB.out.size)
    replace HE : Hid (Errs w5) := HE.out.below hb
    clear hb
    go_wp2_with fail
    go_ret
    exact ⟨rfl, HB.out⟩
theorem FnExactDownPut_g0 : Tryd.prog.globalNamed "loop.example/skyway/impl.errShort" = some 2 := by kernel_rfl
theorem FnExactDownPut_t0 : (Tryd.prog.globals[2]?).map (·.type) = some 107 := by kernel_rfl
theorem FnExactDownPut_g1 : Tryd.prog.globalNamed "loop.example/skyway/impl.errOther" = some 0 := by kernel_rfl
theorem FnExactDownPut_t1 : (Tryd.prog.globals[0]?).map (·.type) = some 107 := by kernel_rfl
theorem FnExactDownPut_star : "*" ++ "errors.errorString" = "*errors.errorString" := by decide
theorem FnExactDownPut_rowP (u : TypeId) (h : Tryd.prog.typeName? 3 u = some "*errors.errorString") : u = 158 :=
  typeName_ptr_named (nm := "errors.errorString") (by rw [FnExactDownPut_star]; kernel_rfl) (by kernel_rfl) (by decide) u (by rw [FnExactDownPut_star]; exact h)
theorem FnExactDownPut_c1 : Tryd.prog.cellsOf 174 = 1 := by kernel_rfl
theorem FnExactDownPut_c2 : Tryd.prog.cellsOf 9 = 1 := by kernel_rfl
def FnExactDownPut_list : List (String × DataW Unit) := [("loop.example/skyway/impl.errShort", Rows.laid_loop_example_skyway_impl_errShort), ("loop.example/skyway/impl.errOther", Rows.laid_loop_example_skyway_impl_errOther)]
theorem FnExactDownPut_met (os : Os) (args : Array Value) : laidMetH Tryd.prog FnExactDownPut_list ((World.doorLaid Tryd.prog 400 os).forCall (fun _ _ => 0) ⟨#[], args, []⟩).memory :=
  laidMetH_of_parts3 (fuel := 8) (laidMet_of_run' 8 (by kernel_rfl) (by kernel_rfl)) (by kernel_rfl) (by kernel_rfl)
theorem FnExactDownPut_var {W W' : World} {n : String} {cs : Array Value} (k : Below W.heap.size W W') (h : W.var? Tryd.prog n = some cs) : W'.var? Tryd.prog n = some cs := by
  unfold World.var? at h ⊢
  cases hg : Tryd.prog.globalNamed n with
  | none => simp [hg] at h
  | some g =>
    simp only [hg, Option.bind_some] at h ⊢
    have hlt : g < W.heap.size := by
      rcases Nat.lt_or_ge g W.heap.size with h' | h'
      · exact h'
      · simp [Array.getElem?_eq_none h'] at h
    rw [k.block g hlt]; exact h
theorem FnExactDownPut_of {W : World} (h : laidMetH Tryd.prog FnExactDownPut_list W) : ∃ x0 x1 : Addr, W.var? Tryd.prog "loop.example/skyway/impl.errShort" = some #[.iface 158 (.pointer (some x0))] ∧ W.var? Tryd.prog "loop.example/skyway/impl.errOther" = some #[.iface 158 (.pointer (some x1))] := by
  rw [MakeChecks.laidMetH_plain _ _ _ (by kernel_rfl)] at h
  obtain ⟨x0, _, v0, _⟩ := laid_sentinel h FnExactDownPut_g0 FnExactDownPut_t0 Tryd.underlying107 FnExactDownPut_rowP Tryd.underlying158 Tryd.underlying174 rfl rfl Tryd.underlying9 FnExactDownPut_c1 FnExactDownPut_c2
  obtain ⟨x1, _, v1, _⟩ := laid_sentinel (h).tail FnExactDownPut_g1 FnExactDownPut_t1 Tryd.underlying107 FnExactDownPut_rowP Tryd.underlying158 Tryd.underlying174 rfl rfl Tryd.underlying9 FnExactDownPut_c1 FnExactDownPut_c2
  exact ⟨x0, x1, v0, v1⟩
theorem FnExactDownPut_own : ownKnob Tryd.prog.godebug = none := by kernel_rfl
theorem FnExactDownPut_laidOut : laidOutB Tryd.prog = true := by kernel_rfl
set_option maxRecDepth 100000 in
theorem FnExactDownPut_lifted (os : Os) (started : os.Started) (H : Type) (enc : TypeId × Value → H) :
    ReturnsInHanded {} Tryd.checked os 10 .any (fun w args => (Rows.fnExactDownPutSpec.pre enc Tryd.prog Tryd.f10 [] false w args ∧ laidMetH Tryd.prog FnExactDownPut_list w) ∧ sizedMet enc Tryd.prog Tryd.f10 (OpenSpec.ofChange Rows.fnExactDownPutSpec) false w args) (Rows.fnExactDownPutSpec.post enc Tryd.prog Tryd.f10 false true false false) := by
  refine returnsInHanded_of_change_and (C := Tryd.checked) (X := fun w _ => laidMetH Tryd.prog FnExactDownPut_list w) (fun _ _ _ hh h => h.of_heap hh) FnExactDownPut_own started (by kernel_rfl) Tryd.func10
    (ChangeSpec.witness_shaped (enc := enc) (C := Tryd.checked) (os := os) (X := fun w _ => laidMetH Tryd.prog FnExactDownPut_list w) false (World.doorLaid Tryd.prog 400 os) #[.agg #[.int .i64 0, .int .i64 0, .int .i64 0, .int .i64 0, .int .i64 0, .string ⟨#[]⟩, .string ⟨#[]⟩]] 8 rfl (World.shaped_of_RefB (by kernel_rfl) (by kernel_rfl)) (by kernel_rfl) (by kernel_rfl) (by kernel_rfl) (FnExactDownPut_met os _)) ?_
  intro W base args ds gs before hval0 hW hcnd _ hL _
  have hval : ∀ (j : Nat) t v, Tryd.f10.params[j]? = some t → args[j]? = some v → Value.okWide Tryd.prog W .any base t v := hval0
  have hW' := hW
  obtain ⟨p, q, hA0, hV0, rfl, hfz, hnd⟩ := hW
  have hV : DataW.TrodVars enc Tryd.prog W (fun _ => true) ["loop.example/skyway/impl.errShort", "loop.example/skyway/impl.errOther"] gs q := hV0
  obtain ⟨x0, x1, hv0, hv1⟩ := FnExactDownPut_of hL
  have hA : DataW.TrodAll enc Tryd.prog W 0 (fun _ => true) true Tryd.f10.params.toList args.toList ds p := hA0
  rw [Tryd.params10] at hA hval
  obtain ⟨v0, vs0, d0, ds0, p0, q0, hargs, rfl, rfl, h0, r0⟩ := trodAll_cons hA
  obtain ⟨rfl, rfl, rfl⟩ := trodAll_nil r0
  obtain rfl : args = #[v0] := by cases args; simp_all
  obtain ⟨rfl, rfl⟩ := hV.unique (vars_read2 enc FnExactDownPut_g0 FnExactDownPut_t0 Tryd.underlying107 hv0 trivial FnExactDownPut_g1 FnExactDownPut_t1 Tryd.underlying107 hv1 trivial _)
  have k0 := h0
  have lt0 : ∀ x ∈ p0, x.block < W.heap.size := by obtain ⟨m, hm⟩ := k0; exact DataW.trod_lt m _ _ _ hm
  obtain ⟨f0_0, f0_1, f0_2, f0_3, f0_4, f0_5, f0_6, rfl, w0_5, w0_6, _⟩ := open_down (hval 0 51 v0 rfl rfl) h0
  clear hA0 hval0 hV0
  refine (FnExactDownPut_walk f0_0 f0_1 f0_2 f0_3 f0_4 f0_5 f0_6 W w0_5 w0_6 ⟨x1, x0, (by simpa using World.var?_cell FnExactDownPut_g1 hv1 0), (by simpa using World.var?_cell FnExactDownPut_g0 hv0 0)⟩).mono fun e W' ⟨he, bel⟩ => ?_
  subst he
  exact ⟨_, rfl, _, _, _, [], _, _, hW', trodAll_mk1 (shut_bool Tryd.underlying4 _), (trodAll_cons_mk (Below.trod FnExactDownPut_laidOut (by kernel_rfl) (of_decide_eq_true (by kernel_rfl)) k0 bel lt0) trodAll_mk0), (vars_read2 enc FnExactDownPut_g0 FnExactDownPut_t0 Tryd.underlying107 (FnExactDownPut_var bel hv0) trivial FnExactDownPut_g1 FnExactDownPut_t1 Tryd.underlying107 (FnExactDownPut_var bel hv1) trivial _), bel.frame _, fun h => by cases h⟩
theorem FnExactDownPut_holds : Rows.FnExactDownPutSaid :=
  OpenClaim.holds_of_wide 10 Tryd.f10 rfl rfl rfl rfl rfl rfl rfl ⟨rfl, rfl, rfl, rfl, rfl⟩ rfl rfl rfl rfl rfl (by kernel_rfl) Tryd.func10 (by kernel_rfl)
    (of_decide_eq_true (by kernel_rfl)) (by unfold Func.isWrapper; first | (rw [if_pos (by decide +kernel)]; kernel_rfl) | (rw [if_neg (by decide +kernel)]; exact ⟨rfl, rfl⟩))
    (fun os started H enc _ => FnExactDownPut_lifted os started H enc)
theorem FnExactDownPut_card : Rows.FnExactDownPutCardSaid :=
  Claim7.holds_tied_plain_at .later [] [.sentinel, .sentinel] true (true, "d4916f3d9a9138b16cf3363f0ab1195dfe45625b95ab6948d0d5fdd4665c0b46") false
    FnExactDownPut_holds (fun _ h => by cases h) (by kernel_rfl) (fun _ h => by cases h) fnExactDownPut_row_tie rfl ⟨rfl, rfl⟩ (by kernel_rfl) rfl
    (fun f fn hf hfn => by
      obtain rfl : f = 10 := Option.some.inj ((show Tryd.prog.funcNamed "loop.example/skyway/laws.FnExactDownPut" = some 10 by kernel_rfl).symm.trans hf) |>.symm
      obtain rfl : fn = Tryd.f10 := (Option.some.inj (Tryd.func10.symm.trans hfn)).symm
      exact ⟨by kernel_rfl, fun j t ht => by
        rw [Tryd.params10] at ht
        have hm : t ∈ ([51] : List TypeId) := by simpa using Array.mem_of_getElem? ht
        have hall : (([51] : List TypeId).all fun u => !Tryd.prog.wantsStandIn u) = true := by kernel_rfl
        exact (show Tryd.prog.wantsStandIn t = false by simpa using List.all_eq_true.1 hall t hm)⟩)
    (by kernel_rfl)
#print axioms FnExactDownPut_card
end Go.Proofs.YtccpdadabndleaaDoor
