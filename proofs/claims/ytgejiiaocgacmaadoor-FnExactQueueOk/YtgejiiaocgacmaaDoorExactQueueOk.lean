/- Proved: laws.FnExactQueueOk returns true at every queue (impl.QueueOk answers as spec.QueueOk, and writes nothing into it), and leaves it as it was, as a tied card: io.EOF holds what the library's text lays in it. No other condition. -/
import Derived.Test.YtgejiiaocgacmaaDoorStQueue
import Derived.Test.YtgejiiaocgacmaaDoorOgQueue
import Derived.Test.YtgejiiaocgacmaaDoorQoW
import Derived.Test.YtgejiiaocgacmaaDoorCellsN
import Derived.Test.YtgejiiaocgacmaaDoorKeep
import Derived.Test.YtgejiiaocgacmaaDoorFrame
import Derived.Deep.RegionHeld2
import Derived.Test.YtgejiiaocgacmaaDoorCards
import Derived.Test.YtgejiiaocgacmaaDoorTie
import Derived.LaidMore
import Derived.Stop.LaidErr
import Derived.Stop.Joined
import Derived.Stop.ErrReads
import Derived.SevenTiedAt
import Derived.OpenShut
import Derived.ShutString
namespace Go.Proofs.YtgejiiaocgacmaaDoor
open Go.ChangeShapes Go.WideShapes Go.ChangeAt Go.RowKit
set_option linter.unusedVariables false

open Go.ChangeMaps (open_string shut_string)
set_option maxRecDepth 100000 in
set_option maxHeartbeats 8000000 in
theorem FnExactQueueOk_walk (a0 : Option Addr) (n0 p0 : Nat) (g0 : Nat → ByteArray) (v1 : Int) (w : World) (hx0 : n0 ≤ maxLen) (h0 : Txt w a0 n0 g0) (he : Eof w) :
    Calls Tryd.prog 7 #[.agg #[.slice a0 n0 p0, .int .i64 v1]] w fun e w' => e = .returned (.bool true) ∧ Below w.heap.size w w' := by
  have HBL : Hid (Below (w.heap.size + 1) (w.alloc (.cells #[.slice a0 n0 p0, .int .i64 v1] 42)) (w.alloc (.cells #[.slice a0 n0 p0, .int .i64 v1] 42))) := Below.refl _ _
  have HB0 : Hid (Below w.heap.size w (w.alloc (.cells #[.slice a0 n0 p0, .int .i64 v1] 42))) := (Below.refl _ _).alloc (Nat.le_refl _) _
  have HA0 : Hid (Txt w a0 n0 g0) := h0
  have HG0 : Hid ((w.alloc (.cells #[.slice a0 n0 p0, .int .i64 v1] 42)).heap[w.heap.size]? = some (.cells #[.slice a0 n0 p0, .int .i64 v1] 42)) := get_new rfl
  clear h0
  have HE : Hid (Eof w) := he
  clear he
  go_enter Tryd.func7, Tryd.ntmps7
  go_wp2_with fail
  refine (szQueuel_any a0 n0 p0 g0 v1 _ _ hx0 (HA0.out.below HB0.out) (by omega) (by omega)).mono ?_
  rintro e w1 ⟨r, hr, hr1, rfl, hb1⟩
  have HB1 : Hid (Below w.heap.size w w1) := HB0.out.trans (hb1.mono HB0.out.size)
  have HG1 : Hid (w1.heap[w.heap.size]? = some (.cells #[.slice a0 n0 p0, .int .i64 v1] 42)) := get_below hb1 HG0.out (size_of_get HG0.out)
  have HR : Hid _ := hr
  clear hr hb1
  by_cases hneg : r < 0
  · go_wp2_with fail
    go_ret
    exact ⟨rfl, HB1.out⟩
  obtain ⟨hm0, hs0⟩ := HR.out (by omega)
  obtain ⟨k0, k1⟩ := cells2_of HG1.out
  have hz : w.heap.size < w1.heap.size := size_of_get HG1.out
  go_wp2_with fail
  refine (toQueue_any a0 n0 p0 g0 v1 _ hm0 (HA0.out.below HB1.out)).mono ?_
  rintro e w2 ⟨b2_0, ho2, rfl, ht2_0, hb2⟩
  clear k0 k1 hz
  have HB2 : Hid (Below w.heap.size w w2) := HB1.out.trans (hb2.mono HB1.out.size)
  have HG2 : Hid (w2.heap[w.heap.size]? = some (.cells #[.slice a0 n0 p0, .int .i64 v1] 42)) := get_below hb2 HG1.out (size_of_get HG1.out)
  have HT2_0 : Hid (Txt w2 (some ⟨b2_0, 0, none⟩) n0 g0) := ht2_0
  clear hb2 ht2_0
  go_wp2_with fail
  refine (specQueueOk_any (some ⟨b2_0, 0, none⟩) n0 n0 g0 v1 _ hm0 hs0 HT2_0.out).mono ?_
  rintro e w3 ⟨rfl, hb3⟩
  have HB3 : Hid (Below w.heap.size w w3) := HB2.out.trans (hb3.mono HB2.out.size)
  have HG3 : Hid (w3.heap[w.heap.size]? = some (.cells #[.slice a0 n0 p0, .int .i64 v1] 42)) := get_below hb3 HG2.out (size_of_get HG2.out)
  clear hb3
  obtain ⟨k0, k1⟩ := cells2_of HG3.out
  have hz : w.heap.size < w3.heap.size := size_of_get HG3.out
  go_wp2_with fail
  refine (toQueue_any a0 n0 p0 g0 v1 _ hm0 (HA0.out.below HB3.out)).mono ?_
  rintro e w4 ⟨b4_0, ho4, rfl, ht4_0, hb4⟩
  clear k0 k1 hz
  have HB4 : Hid (Below w.heap.size w w4) := HB3.out.trans (hb4.mono HB3.out.size)
  have HG4 : Hid (w4.heap[w.heap.size]? = some (.cells #[.slice a0 n0 p0, .int .i64 v1] 42)) := get_below hb4 HG3.out (size_of_get HG3.out)
  have HF4_0 : Hid (Txt (w4.alloc (.cells #[.slice (some ⟨b4_0, 0, none⟩) n0 n0, .int .i64 v1] 45)) (some ⟨b4_0, 0, none⟩) n0 g0) := ht4_0.alloc _
  have HB5 : Hid (Below w.heap.size w (w4.alloc (.cells #[.slice (some ⟨b4_0, 0, none⟩) n0 n0, .int .i64 v1] 45))) := HB4.out.alloc HB4.out.size _
  have HG5 : Hid ((w4.alloc (.cells #[.slice (some ⟨b4_0, 0, none⟩) n0 n0, .int .i64 v1] 45)).heap[w.heap.size]? = some (.cells #[.slice a0 n0 p0, .int .i64 v1] 42)) := get_alloc HG4.out (size_of_get HG4.out)
  have HX5 : Hid ((w4.alloc (.cells #[.slice (some ⟨b4_0, 0, none⟩) n0 n0, .int .i64 v1] 45)).heap[w4.heap.size]? = some (.cells #[.slice (some ⟨b4_0, 0, none⟩) n0 n0, .int .i64 v1] 45)) := get_new rfl
  clear hb4 ht4_0
  go_wp2_with fail
  generalize (w4.alloc (.cells #[.slice (some ⟨b4_0, 0, none⟩) n0 n0, .int .i64 v1] 45)) = w5 at *
  refine (implQueueOk_any (some ⟨b4_0, 0, none⟩) n0 n0 g0 v1 _ hm0 hs0 HF4_0.out (HE.out.below HB5.out)).mono ?_
  rintro e w6 ⟨rfl, hb6⟩
  have HB6 : Hid (Below w.heap.size w w6) := HB5.out.trans (hb6.mono HB5.out.size)
  have HG6 : Hid (w6.heap[w.heap.size]? = some (.cells #[.slice a0 n0 p0, .int .i64 v1] 42)) := get_below hb6 HG5.out (size_of_get HG5.out)
  have HF6_0 : Hid (Txt w6 (some ⟨b4_0, 0, none⟩) n0 g0) := HF4_0.out.below hb6
  have HX6 : w6.heap[w4.heap.size]? = some (.cells #[.slice (some ⟨b4_0, 0, none⟩) n0 n0, .int .i64 v1] 45) := get_below hb6 HX5.out (size_of_get HX5.out)
  clear hb6
  obtain ⟨k0, k1⟩ := cells2_of HG6.out
  obtain ⟨j0, j1⟩ := cells2_of HX6
  go_wp2_with fail
  have HD : Below w6.heap.size w6 w6.drew ∧ w6.drew.cell? ⟨w.heap.size, 0, none⟩ = some (.slice a0 n0 p0) ∧ w6.drew.cell? ⟨w.heap.size, 1, none⟩ = some (.int .i64 v1) ∧ w6.drew.cell? ⟨w4.heap.size, 0, none⟩ = some (.slice (some ⟨b4_0, 0, none⟩) n0 n0) ∧ w6.drew.cell? ⟨w4.heap.size, 1, none⟩ = some (.int .i64 v1) := ⟨(Below.refl _ _).drew, k0, k1, j0, j1⟩
  clear k0 k1 j0 j1 HX6
  go_region_held2 (fun W => Below w6.heap.size w6 W ∧ W.cell? ⟨w.heap.size, 0, none⟩ = some (.slice a0 n0 p0) ∧ W.cell? ⟨w.heap.size, 1, none⟩ = some (.int .i64 v1) ∧ W.cell? ⟨w4.heap.size, 0, none⟩ = some (.slice (some ⟨b4_0, 0, none⟩) n0 n0) ∧ W.cell? ⟨w4.heap.size, 1, none⟩ = some (.int .i64 v1)) (first | with_reducible assumption) ((first | (go_at_call 29; refine (toQueue_any a0 n0 p0 g0 v1 _ hm0 (HA0.out.below (HB6.out.trans ((show Below w6.heap.size w6 _ from (Below.refl _ _).drew).mono HB6.out.size)))).mono ?_; rintro e w8 ⟨b8_0, ho8, rfl, ht8_0, hb8⟩; have HK := keepC4 (by with_reducible assumption) hb8; have HT8_0 : Hid _ := ht8_0; clear ht8_0 hb8) | (go_at_call 31; refine (eqQueue_any (some ⟨b4_0, 0, none⟩) n0 n0 g0 v1 _ _ _ hx0 (HF6_0.out.below HK.1) HT8_0.out).mono ?_; rintro e w9 ⟨rfl, hb9⟩; have HK9 := keepC4 (by with_reducible assumption) hb9; clear hb9)))
  go_wp2_with fail
  go_ret
  exact ⟨rfl, HB6.out.trans (HK9.1.mono HB6.out.size)⟩
theorem FnExactQueueOk_g0 : Tryd.prog.globalNamed "io.EOF" = some 3 := by kernel_rfl
theorem FnExactQueueOk_t0 : (Tryd.prog.globals[3]?).map (·.type) = some 146 := by kernel_rfl
theorem FnExactQueueOk_star : "*" ++ "errors.errorString" = "*errors.errorString" := by decide
theorem FnExactQueueOk_rowP (u : TypeId) (h : Tryd.prog.typeName? 3 u = some "*errors.errorString") : u = 202 :=
  typeName_ptr_named (nm := "errors.errorString") (by rw [FnExactQueueOk_star]; kernel_rfl) (by kernel_rfl) (by decide) u (by rw [FnExactQueueOk_star]; exact h)
theorem FnExactQueueOk_c1 : Tryd.prog.cellsOf 216 = 1 := by kernel_rfl
theorem FnExactQueueOk_c2 : Tryd.prog.cellsOf 9 = 1 := by kernel_rfl
def FnExactQueueOk_list : List (String × DataW Unit) := [("io.EOF", Rows.laid_io_EOF)]
theorem FnExactQueueOk_met (os : Os) (args : Array Value) : laidMetH Tryd.prog FnExactQueueOk_list ((World.doorLaid Tryd.prog 400 os).forCall (fun _ _ => 0) ⟨#[], args, []⟩).memory :=
  laidMetH_of_parts3 (fuel := 8) (laidMet_of_run' 8 (by kernel_rfl) (by kernel_rfl)) (by kernel_rfl) (by kernel_rfl)
theorem FnExactQueueOk_var {W W' : World} {n : String} {cs : Array Value} (k : Below W.heap.size W W') (h : W.var? Tryd.prog n = some cs) : W'.var? Tryd.prog n = some cs := by
  unfold World.var? at h ⊢
  cases hg : Tryd.prog.globalNamed n with
  | none => simp [hg] at h
  | some g =>
    simp only [hg, Option.bind_some] at h ⊢
    have hlt : g < W.heap.size := by
      rcases Nat.lt_or_ge g W.heap.size with h' | h'
      · exact h'
      · simp [Array.getElem?_eq_none h'] at h
    rw [k.block g hlt]; exact h
theorem FnExactQueueOk_of {W : World} (h : laidMetH Tryd.prog FnExactQueueOk_list W) : ∃ x0 : Addr, W.var? Tryd.prog "io.EOF" = some #[.iface 202 (.pointer (some x0))] := by
  rw [MakeChecks.laidMetH_plain _ _ _ (by kernel_rfl)] at h
  obtain ⟨x0, _, v0, _⟩ := laid_sentinel h FnExactQueueOk_g0 FnExactQueueOk_t0 Tryd.underlying146 FnExactQueueOk_rowP Tryd.underlying202 Tryd.underlying216 rfl rfl Tryd.underlying9 FnExactQueueOk_c1 FnExactQueueOk_c2
  exact ⟨x0, v0⟩
theorem FnExactQueueOk_own : ownKnob Tryd.prog.godebug = none := by kernel_rfl
theorem FnExactQueueOk_laidOut : laidOutB Tryd.prog = true := by kernel_rfl
set_option maxRecDepth 100000 in
theorem FnExactQueueOk_lifted (os : Os) (started : os.Started) (H : Type) (enc : TypeId × Value → H) :
    ReturnsInHanded {} Tryd.checked os 7 .any (fun w args => (Rows.fnExactQueueOkSpec.pre enc Tryd.prog Tryd.f7 [] false w args ∧ laidMetH Tryd.prog FnExactQueueOk_list w) ∧ sizedMet enc Tryd.prog Tryd.f7 (OpenSpec.ofChange Rows.fnExactQueueOkSpec) false w args) (Rows.fnExactQueueOkSpec.post enc Tryd.prog Tryd.f7 false true false false) := by
  refine returnsInHanded_of_change_and (C := Tryd.checked) (X := fun w _ => laidMetH Tryd.prog FnExactQueueOk_list w) (fun _ _ _ hh h => h.of_heap hh) FnExactQueueOk_own started (by kernel_rfl) Tryd.func7
    (ChangeSpec.witness_shaped (enc := enc) (C := Tryd.checked) (os := os) (X := fun w _ => laidMetH Tryd.prog FnExactQueueOk_list w) false (World.doorLaid Tryd.prog 400 os) #[.agg #[.slice none 0 0, .int .i64 0]] 8 rfl (World.shaped_of_RefB (by kernel_rfl) (by kernel_rfl)) (by kernel_rfl) (by kernel_rfl) (by kernel_rfl) (FnExactQueueOk_met os _)) ?_
  intro W base args ds gs before hval0 hW hcnd _ hL _
  have hval : ∀ (j : Nat) t v, Tryd.f7.params[j]? = some t → args[j]? = some v → Value.okWide Tryd.prog W .any base t v := hval0
  have hW' := hW
  obtain ⟨p, q, hA0, hV0, rfl, hfz, hnd⟩ := hW
  have hV : DataW.TrodVars enc Tryd.prog W (fun _ => true) [] gs q := hV0
  obtain ⟨x0, hv0⟩ := FnExactQueueOk_of hL
  have hA : DataW.TrodAll enc Tryd.prog W 0 (fun _ => true) true Tryd.f7.params.toList args.toList ds p := hA0
  rw [Tryd.params7] at hA hval
  obtain ⟨v0, vs0, d0, ds0, p0, q0, hargs, rfl, rfl, h0, r0⟩ := trodAll_cons hA
  obtain ⟨rfl, rfl, rfl⟩ := trodAll_nil r0
  obtain rfl : args = #[v0] := by cases args; simp_all
  obtain ⟨rfl, rfl⟩ := trodVars_none hV
  have k0 := h0
  have lt0 : ∀ x ∈ p0, x.block < W.heap.size := by obtain ⟨m, hm⟩ := k0; exact DataW.trod_lt m _ _ _ hm
  obtain ⟨y0a0, y0n0, y0p0, y0g0, y0v1, rfl, w0_0_n, w0_0_t⟩ := opens_queue (hval 0 42 v0 rfl rfl) h0
  clear hA0 hval0 hV0
  refine (FnExactQueueOk_walk y0a0 y0n0 y0p0 y0g0 y0v1 W w0_0_n w0_0_t ⟨_, rfl, (by simpa using World.var?_cell FnExactQueueOk_g0 hv0 0)⟩).mono fun e W' ⟨he, bel⟩ => ?_
  subst he
  exact ⟨_, rfl, _, _, _, [], _, _, hW', trodAll_mk1 (shut_bool Tryd.underlying4 _), (trodAll_cons_mk (Below.trod FnExactQueueOk_laidOut (by kernel_rfl) (of_decide_eq_true (by kernel_rfl)) k0 bel lt0) trodAll_mk0), rfl, bel.frame _, fun h => by cases h⟩
theorem FnExactQueueOk_holds : Rows.FnExactQueueOkSaid :=
  OpenClaim.holds_of_wide 7 Tryd.f7 rfl rfl rfl rfl rfl rfl rfl ⟨rfl, rfl, rfl, rfl, rfl⟩ rfl rfl rfl rfl rfl (by kernel_rfl) Tryd.func7 (by kernel_rfl)
    (of_decide_eq_true (by kernel_rfl)) (by unfold Func.isWrapper; first | (rw [if_pos (by decide +kernel)]; kernel_rfl) | (rw [if_neg (by decide +kernel)]; exact ⟨rfl, rfl⟩))
    (fun os started H enc _ => FnExactQueueOk_lifted os started H enc)
theorem FnExactQueueOk_card : Rows.FnExactQueueOkCardSaid :=
  Claim7.holds_tied_plain_at .later [] [.sentinel] true (true, "8ded78c3a1522848479ed86bc08d4540c0c61a2ee5cd9045808c16af5bb79141") false
    FnExactQueueOk_holds (fun _ h => by cases h) (by kernel_rfl) (fun _ h => by cases h) fnExactQueueOk_row_tie rfl ⟨rfl, rfl⟩ (by kernel_rfl) rfl
    (fun f fn hf hfn => by
      obtain rfl : f = 7 := Option.some.inj ((show Tryd.prog.funcNamed "loop.example/skyway/laws.FnExactQueueOk" = some 7 by kernel_rfl).symm.trans hf) |>.symm
      obtain rfl : fn = Tryd.f7 := (Option.some.inj (Tryd.func7.symm.trans hfn)).symm
      exact ⟨by kernel_rfl, fun j t ht => by
        rw [Tryd.params7] at ht
        have hm : t ∈ ([42] : List TypeId) := by simpa using Array.mem_of_getElem? ht
        have hall : (([42] : List TypeId).all fun u => !Tryd.prog.wantsStandIn u) = true := by kernel_rfl
        exact (show Tryd.prog.wantsStandIn t = false by simpa using List.all_eq_true.1 hall t hm)⟩)
    (by kernel_rfl)
#print axioms FnExactQueueOk_card
end Go.Proofs.YtgejiiaocgacmaaDoor
