/- Proved: laws.FnExactSegHear returns true at every Join, part and way (impl.SegHear answers as spec.SegHear), and leaves them as they were, as a tied card: bytes.ErrTooLarge holds what the library's text lays in it. No other condition. -/
import Derived.Test.YtgejiiaocgacmaaDoorShJ
import Derived.Test.YtgejiiaocgacmaaDoorFrame
import Derived.Test.YtgejiiaocgacmaaDoorCards
import Derived.Test.YtgejiiaocgacmaaDoorTie
import Derived.LaidMore
import Derived.Stop.LaidErr
import Derived.Stop.Joined
import Derived.Stop.ErrReads
import Derived.SevenTiedAt
import Derived.OpenShut
import Derived.ShutString
namespace Go.Proofs.YtgejiiaocgacmaaDoor
open Go.ChangeShapes Go.WideShapes Go.ChangeAt Go.RowKit
set_option linter.unusedVariables false

open Go.ChangeMaps (open_string shut_string)
theorem array_join {α : Type} {cs : Array α} (h : cs.size = 2) : ∃ c0 c1, cs = #[c0, c1] := by
  obtain ⟨l⟩ := cs
  match l, h with
  | [c0, c1], _ => exact ⟨c0, c1, rfl⟩
theorem list_join {α : Type} {l : List α} (h : l.length = 2) : ∃ c0 c1, l = [c0, c1] := by
  match l, h with
  | [c0, c1], _ => exact ⟨c0, c1, rfl⟩
theorem cells_join : Tryd.prog.cellsOf 23 = 2 := by kernel_rfl
set_option maxRecDepth 100000 in
theorem open_join {H : Type} {enc : TypeId × Value → H} {w : World} {base : Nat} {spare : Nat → Bool} {held : Bool} {r : Reach} {b0 : Nat} {v : Value} {d : DataW H} {p : List MemPlace} (hv : Value.okWide Tryd.prog w r b0 23 v) (h : DataW.Trod enc Tryd.prog w base spare held 23 v d p) :
    ∃ (x0 : Bool) (x1 : ByteArray), v = .agg #[.bool x0, .string x1] ∧ x1.size ≤ maxLen ∧ True := by
  obtain ⟨cs, rfl, hsz⟩ := okWide_struct Tryd.underlying23 hv
  obtain ⟨c0, c1, rfl⟩ := array_join (hsz.trans cells_join)
  obtain ⟨fuel, hf⟩ := h
  obtain ⟨xs, n, _, _, hl, hlen, hfd⟩ := DataW.trod_struct Tryd.underlying23 hf
  obtain ⟨y0, y1, rfl⟩ := list_join hlen
  have k_bool : Tryd.prog.cellsOf 4 = 1 := by kernel_rfl
  have k_string : Tryd.prog.cellsOf 9 = 1 := by kernel_rfl
  have e0 := hfd 0 _ rfl
  have e1 := hfd 1 _ rfl
  simp [Value.cells, k_bool, k_string] at e0 e1
  obtain ⟨x0, h0, _⟩ := DataW.trod_bool Tryd.underlying4 e0
  obtain ⟨x1, h1, _, m1⟩ := DataW.trod_string Tryd.underlying9 e1
  simp only [List.cons.injEq, and_true] at h0 h1
  subst h0 h1
  exact ⟨x0, x1, rfl, m1, trivial⟩
theorem eqJoin_same (o : Bool) (d : ByteArray) (w : World) :
    Calls Tryd.prog 18 #[.agg #[.bool o, .string d], .agg #[.bool o, .string d]] w fun e w' => e = .returned (.bool true) ∧ Below w.heap.size w w' := by
  go_enter Tryd.func18, Tryd.ntmps18
  go_wp2
  go_ret
  exact ⟨rfl, ((Below.refl _ _).alloc (Nat.le_refl _) _).alloc (by simp) _⟩
set_option maxRecDepth 100000 in
set_option maxHeartbeats 2000000 in
theorem FnExactSegHear_walk (o : Bool) (d p : ByteArray) (via : Int) (w : World) (hd : d.size ≤ maxLen) (hp : p.size ≤ maxLen) (_wv : (Lit.int IntKind.i64 via).wf = true) :
    Calls Tryd.prog 3 #[.agg #[.bool o, .string d], .string p, .int .i64 via] w fun e w' => e = .returned (.bool true) ∧ Below w.heap.size w w' := by
  have hpm := hp
  unfold maxLen at hpm
  have HB : Hid (Below w.heap.size w w) := Below.refl _ _
  by_cases hbig : 1048576 < p.size
  · go_enter Tryd.func3, Tryd.ntmps3
    go_wp2_with fail
    go_ret
    exact ⟨rfl, (Below.refl _ _).alloc (Nat.le_refl _) _⟩
  have hle : p.size ≤ 1048576 := by omega
  by_cases hb1 : 1048576 < d.size
  · have HB0 : Hid (∀ o', Below w.heap.size w (w.alloc o')) := fun o' => (Below.refl _ _).alloc (Nat.le_refl _) o'
    go_enter Tryd.func3, Tryd.ntmps3
    go_wp2_with fail
    refine (szJoin_great o d _ hd hb1).mono ?_
    rintro e w1 ⟨rfl, hb⟩
    have HB1 : Hid (Below w.heap.size w w1) := (HB0.out _).trans (hb.mono (by simp))
    clear hb
    go_wp2_with fail
    go_ret
    exact ⟨rfl, HB1.out⟩
  have hld : d.size ≤ 1048576 := by omega
  have hnn : ¬ (1048576 : Int) - d.size < 0 := by omega
  obtain ⟨a, b, c, hR⟩ : ∃ a b c, shV o d p via = (a, b, c) := ⟨_, _, _, rfl⟩
  have HSP : Hid (∀ W, Calls Tryd.prog 15 #[.agg #[.bool o, .string d], .string p, .int .i64 via] W fun e w' => e = .returned (.tuple #[.agg #[.bool a, .string b], .string c]) ∧ Below W.heap.size W w') := fun W => by
    have := specSegHear_any o d p via W hd hle
    rw [hR] at this; exact this
  have HIM : Hid (∀ W, Calls Tryd.prog 17 #[.agg #[.bool o, .string d], .string p, .int .i64 via] W fun e w' => e = .returned (.tuple #[.agg #[.bool a, .string b], .string c]) ∧ Below W.heap.size W w') := fun W => by
    have := implSegHear_any o d p via W hd hle
    rw [hR] at this; exact this
  clear hR
  have A : Hid ((w.alloc (.cells #[.bool o, .string d] 23)).heap[w.heap.size]? = some (.cells #[.bool o, .string d] 23)) := get_new rfl
  replace HB : Hid (Below w.heap.size w (w.alloc (.cells #[.bool o, .string d] 23))) := HB.out.alloc HB.out.size _
  go_enter Tryd.func3, Tryd.ntmps3
  go_wp2_with fail
  refine (szJoin_fits o d _ hld).mono ?_
  rintro e w1 ⟨rfl, hb⟩
  replace A : Hid (w1.heap[w.heap.size]? = some (.cells #[.bool o, .string d] 23)) := get_below hb A.out (size_of_get A.out)
  replace HB : Hid (Below w.heap.size w w1) := HB.out.trans (hb.mono HB.out.size)
  clear hb
  obtain ⟨A_0, A_1⟩ := cells2_of A.out
  go_wp2_with fail
  clear A_0 A_1
  refine (toJoin_any o d _).mono ?_
  rintro e w2 ⟨rfl, hb⟩
  replace A : Hid (w2.heap[w.heap.size]? = some (.cells #[.bool o, .string d] 23)) := get_below hb A.out (size_of_get A.out)
  replace HB : Hid (Below w.heap.size w w2) := HB.out.trans (hb.mono HB.out.size)
  clear hb
  go_wp2_with fail
  refine Calls.mono (HSP.out _) ?_
  rintro e w3 ⟨rfl, hb⟩
  replace A : Hid (w3.heap[w.heap.size]? = some (.cells #[.bool o, .string d] 23)) := get_below hb A.out (size_of_get A.out)
  replace HB : Hid (Below w.heap.size w w3) := HB.out.trans (hb.mono HB.out.size)
  clear hb
  replace A : Hid ((w3.alloc (.cells #[.bool a, .string b] 25)).heap[w.heap.size]? = some (.cells #[.bool o, .string d] 23)) := get_alloc A.out (size_of_get A.out)
  have S : Hid ((w3.alloc (.cells #[.bool a, .string b] 25)).heap[w3.heap.size]? = some (.cells #[.bool a, .string b] 25)) := get_new rfl
  replace HB : Hid (Below w.heap.size w (w3.alloc (.cells #[.bool a, .string b] 25))) := HB.out.alloc HB.out.size _
  obtain ⟨A_0, A_1⟩ := cells2_of A.out
  have hzA := size_of_get A.out
  go_wp2_with fail
  clear A_0 A_1 hzA
  generalize (w3.alloc (.cells #[.bool a, .string b] 25)) = wS at *
  refine (toJoin_any o d _).mono ?_
  rintro e w4 ⟨rfl, hb⟩
  replace A : Hid (w4.heap[w.heap.size]? = some (.cells #[.bool o, .string d] 23)) := get_below hb A.out (size_of_get A.out)
  replace S : Hid (w4.heap[w3.heap.size]? = some (.cells #[.bool a, .string b] 25)) := get_below hb S.out (size_of_get S.out)
  replace HB : Hid (Below w.heap.size w w4) := HB.out.trans (hb.mono HB.out.size)
  clear hb
  go_wp2_with fail
  refine Calls.mono (HIM.out _) ?_
  rintro e w5 ⟨rfl, hb⟩
  replace A : Hid (w5.heap[w.heap.size]? = some (.cells #[.bool o, .string d] 23)) := get_below hb A.out (size_of_get A.out)
  replace S : Hid (w5.heap[w3.heap.size]? = some (.cells #[.bool a, .string b] 25)) := get_below hb S.out (size_of_get S.out)
  replace HB : Hid (Below w.heap.size w w5) := HB.out.trans (hb.mono HB.out.size)
  clear hb
  replace A : Hid ((w5.alloc (.cells #[.bool a, .string b] 25)).heap[w.heap.size]? = some (.cells #[.bool o, .string d] 23)) := get_alloc A.out (size_of_get A.out)
  replace S : Hid ((w5.alloc (.cells #[.bool a, .string b] 25)).heap[w3.heap.size]? = some (.cells #[.bool a, .string b] 25)) := get_alloc S.out (size_of_get S.out)
  have G : Hid ((w5.alloc (.cells #[.bool a, .string b] 25)).heap[w5.heap.size]? = some (.cells #[.bool a, .string b] 25)) := get_new rfl
  replace HB : Hid (Below w.heap.size w (w5.alloc (.cells #[.bool a, .string b] 25))) := HB.out.alloc HB.out.size _
  obtain ⟨S_0, S_1⟩ := cells2_of S.out
  obtain ⟨G_0, G_1⟩ := cells2_of G.out
  have hzS := size_of_get S.out
  go_wp2_with fail
  clear S_0 S_1 G_0 G_1 hzS
  refine (eqJoin_same a b _).mono ?_
  rintro e w6 ⟨rfl, hb⟩
  replace A : Hid (w6.heap[w.heap.size]? = some (.cells #[.bool o, .string d] 23)) := get_below hb A.out (size_of_get A.out)
  replace S : Hid (w6.heap[w3.heap.size]? = some (.cells #[.bool a, .string b] 25)) := get_below hb S.out (size_of_get S.out)
  replace G : Hid (w6.heap[w5.heap.size]? = some (.cells #[.bool a, .string b] 25)) := get_below hb G.out (size_of_get G.out)
  replace HB : Hid (Below w.heap.size w w6) := HB.out.trans (hb.mono HB.out.size)
  clear hb
  go_wp2_with fail
  go_ret
  exact ⟨rfl, HB.out⟩
theorem FnExactSegHear_g0 : Tryd.prog.globalNamed "bytes.ErrTooLarge" = some 0 := by kernel_rfl
theorem FnExactSegHear_t0 : (Tryd.prog.globals[0]?).map (·.type) = some 146 := by kernel_rfl
theorem FnExactSegHear_star : "*" ++ "errors.errorString" = "*errors.errorString" := by decide
theorem FnExactSegHear_rowP (u : TypeId) (h : Tryd.prog.typeName? 3 u = some "*errors.errorString") : u = 202 :=
  typeName_ptr_named (nm := "errors.errorString") (by rw [FnExactSegHear_star]; kernel_rfl) (by kernel_rfl) (by decide) u (by rw [FnExactSegHear_star]; exact h)
theorem FnExactSegHear_c1 : Tryd.prog.cellsOf 216 = 1 := by kernel_rfl
theorem FnExactSegHear_c2 : Tryd.prog.cellsOf 9 = 1 := by kernel_rfl
def FnExactSegHear_list : List (String × DataW Unit) := [("bytes.ErrTooLarge", Rows.laid_bytes_ErrTooLarge)]
theorem FnExactSegHear_met (os : Os) (args : Array Value) : laidMetH Tryd.prog FnExactSegHear_list ((World.doorLaid Tryd.prog 400 os).forCall (fun _ _ => 0) ⟨#[], args, []⟩).memory :=
  laidMetH_of_parts3 (fuel := 8) (laidMet_of_run' 8 (by kernel_rfl) (by kernel_rfl)) (by kernel_rfl) (by kernel_rfl)
theorem FnExactSegHear_var {W W' : World} {n : String} {cs : Array Value} (k : Below W.heap.size W W') (h : W.var? Tryd.prog n = some cs) : W'.var? Tryd.prog n = some cs := by
  unfold World.var? at h ⊢
  cases hg : Tryd.prog.globalNamed n with
  | none => simp [hg] at h
  | some g =>
    simp only [hg, Option.bind_some] at h ⊢
    have hlt : g < W.heap.size := by
      rcases Nat.lt_or_ge g W.heap.size with h' | h'
      · exact h'
      · simp [Array.getElem?_eq_none h'] at h
    rw [k.block g hlt]; exact h
theorem FnExactSegHear_of {W : World} (h : laidMetH Tryd.prog FnExactSegHear_list W) : ∃ x0 : Addr, W.var? Tryd.prog "bytes.ErrTooLarge" = some #[.iface 202 (.pointer (some x0))] := by
  rw [MakeChecks.laidMetH_plain _ _ _ (by kernel_rfl)] at h
  obtain ⟨x0, _, v0, _⟩ := laid_sentinel h FnExactSegHear_g0 FnExactSegHear_t0 Tryd.underlying146 FnExactSegHear_rowP Tryd.underlying202 Tryd.underlying216 rfl rfl Tryd.underlying9 FnExactSegHear_c1 FnExactSegHear_c2
  exact ⟨x0, v0⟩
theorem FnExactSegHear_own : ownKnob Tryd.prog.godebug = none := by kernel_rfl
theorem FnExactSegHear_laidOut : laidOutB Tryd.prog = true := by kernel_rfl
set_option maxRecDepth 100000 in
theorem FnExactSegHear_lifted (os : Os) (started : os.Started) (H : Type) (enc : TypeId × Value → H) :
    ReturnsInHanded {} Tryd.checked os 3 .any (fun w args => (Rows.fnExactSegHearSpec.pre enc Tryd.prog Tryd.f3 [] false w args ∧ laidMetH Tryd.prog FnExactSegHear_list w) ∧ sizedMet enc Tryd.prog Tryd.f3 (OpenSpec.ofChange Rows.fnExactSegHearSpec) false w args) (Rows.fnExactSegHearSpec.post enc Tryd.prog Tryd.f3 false true false false) := by
  refine returnsInHanded_of_change_and (C := Tryd.checked) (X := fun w _ => laidMetH Tryd.prog FnExactSegHear_list w) (fun _ _ _ hh h => h.of_heap hh) FnExactSegHear_own started (by kernel_rfl) Tryd.func3
    (ChangeSpec.witness_shaped (enc := enc) (C := Tryd.checked) (os := os) (X := fun w _ => laidMetH Tryd.prog FnExactSegHear_list w) false (World.doorLaid Tryd.prog 400 os) #[.agg #[.bool false, .string ⟨#[]⟩], .string ⟨#[]⟩, .int .i64 0] 8 rfl (World.shaped_of_RefB (by kernel_rfl) (by kernel_rfl)) (by kernel_rfl) (by kernel_rfl) (by kernel_rfl) (FnExactSegHear_met os _)) ?_
  intro W base args ds gs before hval0 hW hcnd _ hL _
  have hval : ∀ (j : Nat) t v, Tryd.f3.params[j]? = some t → args[j]? = some v → Value.okWide Tryd.prog W .any base t v := hval0
  have hW' := hW
  obtain ⟨p, q, hA0, hV0, rfl, hfz, hnd⟩ := hW
  have hV : DataW.TrodVars enc Tryd.prog W (fun _ => true) [] gs q := hV0
  obtain ⟨x0, hv0⟩ := FnExactSegHear_of hL
  have hA : DataW.TrodAll enc Tryd.prog W 0 (fun _ => true) true Tryd.f3.params.toList args.toList ds p := hA0
  rw [Tryd.params3] at hA hval
  obtain ⟨v0, vs0, d0, ds0, p0, q0, hargs, rfl, rfl, h0, r0⟩ := trodAll_cons hA
  obtain ⟨v1, vs1, d1, ds1, p1, q1, rfl, rfl, rfl, h1, r1⟩ := trodAll_cons r0
  obtain ⟨v2, vs2, d2, ds2, p2, q2, rfl, rfl, rfl, h2, r2⟩ := trodAll_cons r1
  obtain ⟨rfl, rfl, rfl⟩ := trodAll_nil r2
  obtain rfl : args = #[v0, v1, v2] := by cases args; simp_all
  obtain ⟨rfl, rfl⟩ := trodVars_none hV
  have k0 := h0
  have lt0 : ∀ x ∈ p0, x.block < W.heap.size := by obtain ⟨m, hm⟩ := k0; exact DataW.trod_lt m _ _ _ hm
  obtain ⟨f0_0, f0_1, rfl, w0_1, _⟩ := open_join (hval 0 23 v0 rfl rfl) h0
  obtain ⟨a1, rfl, rfl, rfl, w1⟩ := open_string Tryd.underlying9 (hval 1 9 v1 rfl rfl) h1
  obtain ⟨a2, rfl, rfl, rfl, w2⟩ := open_int Tryd.underlying3 (hval 2 3 v2 rfl rfl) h2
  clear hA0 hval0 hV0
  refine (FnExactSegHear_walk f0_0 f0_1 a1 a2 W w0_1 w1 w2 ).mono fun e W' ⟨he, bel⟩ => ?_
  subst he
  exact ⟨_, rfl, _, _, _, [], _, _, hW', trodAll_mk1 (shut_bool Tryd.underlying4 _), (trodAll_cons_mk (Below.trod FnExactSegHear_laidOut (by kernel_rfl) (of_decide_eq_true (by kernel_rfl)) k0 bel lt0) (trodAll_cons_mk (shut_string Tryd.underlying9 w1) (trodAll_cons_mk (shut_int Tryd.underlying3 w2) trodAll_mk0))), rfl, bel.frame _, fun h => by cases h⟩
theorem FnExactSegHear_holds : Rows.FnExactSegHearSaid :=
  OpenClaim.holds_of_wide 3 Tryd.f3 rfl rfl rfl rfl rfl rfl rfl ⟨rfl, rfl, rfl, rfl, rfl⟩ rfl rfl rfl rfl rfl (by kernel_rfl) Tryd.func3 (by kernel_rfl)
    (of_decide_eq_true (by kernel_rfl)) (by unfold Func.isWrapper; first | (rw [if_pos (by decide +kernel)]; kernel_rfl) | (rw [if_neg (by decide +kernel)]; exact ⟨rfl, rfl⟩))
    (fun os started H enc _ => FnExactSegHear_lifted os started H enc)
theorem FnExactSegHear_card : Rows.FnExactSegHearCardSaid :=
  Claim7.holds_tied_plain_at .later [] [.sentinel] true (true, "8ded78c3a1522848479ed86bc08d4540c0c61a2ee5cd9045808c16af5bb79141") false
    FnExactSegHear_holds (fun _ h => by cases h) (by kernel_rfl) (fun _ h => by cases h) fnExactSegHear_row_tie rfl ⟨rfl, rfl⟩ (by kernel_rfl) rfl
    (fun f fn hf hfn => by
      obtain rfl : f = 3 := Option.some.inj ((show Tryd.prog.funcNamed "loop.example/skyway/laws.FnExactSegHear" = some 3 by kernel_rfl).symm.trans hf) |>.symm
      obtain rfl : fn = Tryd.f3 := (Option.some.inj (Tryd.func3.symm.trans hfn)).symm
      exact ⟨by kernel_rfl, fun j t ht => by
        rw [Tryd.params3] at ht
        have hm : t ∈ ([23, 9, 3] : List TypeId) := by simpa using Array.mem_of_getElem? ht
        have hall : (([23, 9, 3] : List TypeId).all fun u => !Tryd.prog.wantsStandIn u) = true := by kernel_rfl
        exact (show Tryd.prog.wantsStandIn t = false by simpa using List.all_eq_true.1 hall t hm)⟩)
    (by kernel_rfl)
#print axioms FnExactSegHear_card
end Go.Proofs.YtgejiiaocgacmaaDoor
