/- Proved: laws.FnExactPacketGet returns true at every text and place (impl.PacketGet answers as spec.PacketGet) and leaves them as they were, as a tied card: io.EOF holds what the library's text lays in it. No other condition. -/
import Derived.Test.YtccpdadabndleaaDoorPgS
import Derived.Test.YtccpdadabndleaaDoorCards
import Derived.Test.YtccpdadabndleaaDoorTie
import Derived.LaidMore
import Derived.Stop.LaidErr
import Derived.Stop.Joined
import Derived.Stop.ErrReads
import Derived.SevenTiedAt
import Derived.OpenShut
import Derived.ShutString
namespace Go.Proofs.YtccpdadabndleaaDoor
open Go.ChangeShapes Go.WideShapes Go.ChangeAt Go.RowKit
open Go.ChangeMaps (open_string shut_string)
set_option linter.unusedVariables false

theorem eqPacket_same (u : Bool) (x c : Int) (d : ByteArray) (w : World) :
    Calls Tryd.prog 17 #[.agg #[.bool u, .int .i64 x, .int .i64 c, .string d], .agg #[.bool u, .int .i64 x, .int .i64 c, .string d]] w fun e w' => e = .returned (.bool true) ∧ Below w.heap.size w w' := by
  go_enter Tryd.func17, Tryd.ntmps17
  go_wp2
  go_ret
  exact ⟨rfl, ((Below.refl _ _).alloc (Nat.le_refl _) _).alloc (by simp) _⟩
set_option maxHeartbeats 1000000 in
theorem FnExactPacketGet_walk (t : ByteArray) (a : Int) (w : World) (ht : t.size ≤ maxLen) (ha : (Lit.int .i64 a).wf = true) (he : Eof w) :
    Calls Tryd.prog 3 #[.string t, .int .i64 a] w fun e w' => e = .returned (.bool true) ∧ Below w.heap.size w w' := by
  have HE : Hid (Eof w) := he
  by_cases hl : 1048576 < t.size
  · go_enter Tryd.func3, Tryd.ntmps3
    unfold maxLen at ht
    go_wp2_with fail
    go_ret
    exact ⟨rfl, Below.refl _ _⟩
  · have hle : t.size ≤ 1048576 := by omega
    obtain ⟨u, x, c, d, hv⟩ := pgV_agg (pgAt t a)
    generalize hb : pgN (pgAt t a) = b
    have HS : Hid (∀ W, Calls Tryd.prog 15 #[.string t, .int .i64 a] W fun e w' => e = .returned (.tuple #[.agg #[.bool u, .int .i64 x, .int .i64 c, .string d], .int .i64 b]) ∧ Below W.heap.size W w') := fun W => by
      have := specPacketGet_any t a W hle
      rw [hv, hb] at this; exact this
    have HI : Hid (∀ W, Eof W → Calls Tryd.prog 16 #[.string t, .int .i64 a] W fun e w' => e = .returned (.tuple #[.agg #[.bool u, .int .i64 x, .int .i64 c, .string d], .int .i64 b]) ∧ Below W.heap.size W w') := fun W he => by
      have := implPacketGet_any t a W hle he
      rw [hv, hb] at this; exact this
    clear hv hb he
    go_enter Tryd.func3, Tryd.ntmps3
    unfold maxLen at ht
    go_wp2_with fail
    refine Calls.mono (HS.out _) ?_
    rintro e w1 ⟨rfl, hb1⟩
    have HE1 : Hid (Eof (w1.alloc (.cells #[.bool u, .int .i64 x, .int .i64 c, .string d] 23))) := (HE.out.below hb1).below ((Below.refl _ _).alloc (Nat.le_refl _) _)
    have HB1 : Hid (Below w.heap.size w (w1.alloc (.cells #[.bool u, .int .i64 x, .int .i64 c, .string d] 23))) := hb1.alloc hb1.size _
    have HX : Hid ((w1.alloc (.cells #[.bool u, .int .i64 x, .int .i64 c, .string d] 23)).heap[w1.heap.size]? = some (.cells #[.bool u, .int .i64 x, .int .i64 c, .string d] 23)) := get_new rfl
    clear hb1
    go_wp2_with fail
    refine Calls.mono (HI.out _ HE1.out) ?_
    rintro e w2 ⟨rfl, hb2⟩
    have HX2 : Hid (w2.heap[w1.heap.size]? = some (.cells #[.bool u, .int .i64 x, .int .i64 c, .string d] 23)) := get_below hb2 HX.out (by simp)
    have HB2 : Hid (Below w.heap.size w (w2.alloc (.cells #[.bool u, .int .i64 x, .int .i64 c, .string d] 23))) := (HB1.out.trans (hb2.mono HB1.out.size)).alloc (HB1.out.trans (hb2.mono HB1.out.size)).size _
    have hl2 := size_of_get HX2.out
    have HX3 : Hid ((w2.alloc (.cells #[.bool u, .int .i64 x, .int .i64 c, .string d] 23)).heap[w1.heap.size]? = some (.cells #[.bool u, .int .i64 x, .int .i64 c, .string d] 23)) := get_alloc HX2.out hl2
    have HY3 : Hid ((w2.alloc (.cells #[.bool u, .int .i64 x, .int .i64 c, .string d] 23)).heap[w2.heap.size]? = some (.cells #[.bool u, .int .i64 x, .int .i64 c, .string d] 23)) := get_new rfl
    clear hb2 HB1 HX HX2 HE1
    obtain ⟨k0, k1, k2, k3⟩ := cells4_of HX3.out
    obtain ⟨j0, j1, j2, j3⟩ := cells4_of HY3.out
    go_wp2_with fail
    refine (eqPacket_same u x c d _).mono ?_
    rintro e w3 ⟨rfl, hb3⟩
    have HB3 : Hid (Below w.heap.size w w3) := HB2.out.trans (hb3.mono HB2.out.size)
    clear hb3
    go_wp2_with fail
    go_ret
    exact ⟨rfl, HB3.out⟩
theorem FnExactPacketGet_g0 : Tryd.prog.globalNamed "io.EOF" = some 1 := by kernel_rfl
theorem FnExactPacketGet_t0 : (Tryd.prog.globals[1]?).map (·.type) = some 107 := by kernel_rfl
theorem FnExactPacketGet_star : "*" ++ "errors.errorString" = "*errors.errorString" := by decide
theorem FnExactPacketGet_rowP (u : TypeId) (h : Tryd.prog.typeName? 3 u = some "*errors.errorString") : u = 158 :=
  typeName_ptr_named (nm := "errors.errorString") (by rw [FnExactPacketGet_star]; kernel_rfl) (by kernel_rfl) (by decide) u (by rw [FnExactPacketGet_star]; exact h)
theorem FnExactPacketGet_c1 : Tryd.prog.cellsOf 174 = 1 := by kernel_rfl
theorem FnExactPacketGet_c2 : Tryd.prog.cellsOf 9 = 1 := by kernel_rfl
def FnExactPacketGet_list : List (String × DataW Unit) := [("io.EOF", Rows.laid_io_EOF)]
theorem FnExactPacketGet_met (os : Os) (args : Array Value) : laidMetH Tryd.prog FnExactPacketGet_list ((World.doorLaid Tryd.prog 400 os).forCall (fun _ _ => 0) ⟨#[], args, []⟩).memory :=
  laidMetH_of_parts3 (fuel := 8) (laidMet_of_run' 8 (by kernel_rfl) (by kernel_rfl)) (by kernel_rfl) (by kernel_rfl)
theorem FnExactPacketGet_var {W W' : World} {n : String} {cs : Array Value} (k : Below W.heap.size W W') (h : W.var? Tryd.prog n = some cs) : W'.var? Tryd.prog n = some cs := by
  unfold World.var? at h ⊢
  cases hg : Tryd.prog.globalNamed n with
  | none => simp [hg] at h
  | some g =>
    simp only [hg, Option.bind_some] at h ⊢
    have hlt : g < W.heap.size := by
      rcases Nat.lt_or_ge g W.heap.size with h' | h'
      · exact h'
      · simp [Array.getElem?_eq_none h'] at h
    rw [k.block g hlt]; exact h
theorem FnExactPacketGet_of {W : World} (h : laidMetH Tryd.prog FnExactPacketGet_list W) : ∃ x0 : Addr, W.var? Tryd.prog "io.EOF" = some #[.iface 158 (.pointer (some x0))] := by
  rw [MakeChecks.laidMetH_plain _ _ _ (by kernel_rfl)] at h
  obtain ⟨x0, _, v0, _⟩ := laid_sentinel h FnExactPacketGet_g0 FnExactPacketGet_t0 Tryd.underlying107 FnExactPacketGet_rowP Tryd.underlying158 Tryd.underlying174 rfl rfl Tryd.underlying9 FnExactPacketGet_c1 FnExactPacketGet_c2
  exact ⟨x0, v0⟩
theorem FnExactPacketGet_own : ownKnob Tryd.prog.godebug = none := by kernel_rfl
set_option maxRecDepth 100000 in
theorem FnExactPacketGet_lifted (os : Os) (started : os.Started) (H : Type) (enc : TypeId × Value → H) :
    ReturnsInHanded {} Tryd.checked os 3 .any (fun w args => (Rows.fnExactPacketGetSpec.pre enc Tryd.prog Tryd.f3 [] false w args ∧ laidMetH Tryd.prog FnExactPacketGet_list w) ∧ sizedMet enc Tryd.prog Tryd.f3 (OpenSpec.ofChange Rows.fnExactPacketGetSpec) false w args) (Rows.fnExactPacketGetSpec.post enc Tryd.prog Tryd.f3 false true false false) := by
  refine returnsInHanded_of_change_and (C := Tryd.checked) (X := fun w _ => laidMetH Tryd.prog FnExactPacketGet_list w) (fun _ _ _ hh h => h.of_heap hh) FnExactPacketGet_own started (by kernel_rfl) Tryd.func3
    (ChangeSpec.witness_shaped (enc := enc) (C := Tryd.checked) (os := os) (X := fun w _ => laidMetH Tryd.prog FnExactPacketGet_list w) false (World.doorLaid Tryd.prog 400 os) #[.string ⟨#[]⟩, .int .i64 0] 8 rfl (World.shaped_of_RefB (by kernel_rfl) (by kernel_rfl)) (by kernel_rfl) (by kernel_rfl) (by kernel_rfl) (FnExactPacketGet_met os _)) ?_
  intro W base args ds gs before hval0 hW hcnd _ hL _
  have hval : ∀ (j : Nat) t v, Tryd.f3.params[j]? = some t → args[j]? = some v → Value.okWide Tryd.prog W .any base t v := hval0
  have hW' := hW
  obtain ⟨p, q, hA0, hV0, rfl, hfz, hnd⟩ := hW
  have hV : DataW.TrodVars enc Tryd.prog W (fun _ => true) [] gs q := hV0
  obtain ⟨x0, hv0⟩ := FnExactPacketGet_of hL
  have hA : DataW.TrodAll enc Tryd.prog W 0 (fun _ => true) true Tryd.f3.params.toList args.toList ds p := hA0
  rw [Tryd.params3] at hA hval
  obtain ⟨v0, vs0, d0, ds0, p0, q0, hargs, rfl, rfl, h0, r0⟩ := trodAll_cons hA
  obtain ⟨v1, vs1, d1, ds1, p1, q1, rfl, rfl, rfl, h1, r1⟩ := trodAll_cons r0
  obtain ⟨rfl, rfl, rfl⟩ := trodAll_nil r1
  obtain rfl : args = #[v0, v1] := by cases args; simp_all
  obtain ⟨rfl, rfl⟩ := trodVars_none hV
  obtain ⟨a0, rfl, rfl, rfl, w0⟩ := open_string Tryd.underlying9 (hval 0 9 v0 rfl rfl) h0
  obtain ⟨a1, rfl, rfl, rfl, w1⟩ := open_int Tryd.underlying3 (hval 1 3 v1 rfl rfl) h1
  clear hA0 hval0 hV0
  refine (FnExactPacketGet_walk a0 a1 W w0 w1 ⟨_, rfl, (by simpa using World.var?_cell FnExactPacketGet_g0 hv0 0)⟩).mono fun e W' ⟨he, bel⟩ => ?_
  subst he
  exact ⟨_, rfl, _, _, _, [], _, _, hW', trodAll_mk1 (shut_bool Tryd.underlying4 _), (trodAll_cons_mk (shut_string Tryd.underlying9 w0) (trodAll_cons_mk (shut_int Tryd.underlying3 w1) trodAll_mk0)), rfl, bel.frame _, fun h => by cases h⟩
theorem FnExactPacketGet_holds : Rows.FnExactPacketGetSaid :=
  OpenClaim.holds_of_wide 3 Tryd.f3 rfl rfl rfl rfl rfl rfl rfl ⟨rfl, rfl, rfl, rfl, rfl⟩ rfl rfl rfl rfl rfl (by kernel_rfl) Tryd.func3 (by kernel_rfl)
    (of_decide_eq_true (by kernel_rfl)) (by unfold Func.isWrapper; first | (rw [if_pos (by decide +kernel)]; kernel_rfl) | (rw [if_neg (by decide +kernel)]; exact ⟨rfl, rfl⟩))
    (fun os started H enc _ => FnExactPacketGet_lifted os started H enc)
theorem FnExactPacketGet_card : Rows.FnExactPacketGetCardSaid :=
  Claim7.holds_tied_plain_at .later [] [.sentinel] true (true, "d4916f3d9a9138b16cf3363f0ab1195dfe45625b95ab6948d0d5fdd4665c0b46") false
    FnExactPacketGet_holds (fun _ h => by cases h) (by kernel_rfl) (fun _ h => by cases h) fnExactPacketGet_row_tie rfl ⟨rfl, rfl⟩ (by kernel_rfl) rfl
    (fun f fn hf hfn => by
      obtain rfl : f = 3 := Option.some.inj ((show Tryd.prog.funcNamed "loop.example/skyway/laws.FnExactPacketGet" = some 3 by kernel_rfl).symm.trans hf) |>.symm
      obtain rfl : fn = Tryd.f3 := (Option.some.inj (Tryd.func3.symm.trans hfn)).symm
      exact ⟨by kernel_rfl, fun j t ht => by
        rw [Tryd.params3] at ht
        have hm : t ∈ ([9, 3] : List TypeId) := by simpa using Array.mem_of_getElem? ht
        have hall : (([9, 3] : List TypeId).all fun u => !Tryd.prog.wantsStandIn u) = true := by kernel_rfl
        exact (show Tryd.prog.wantsStandIn t = false by simpa using List.all_eq_true.1 hall t hm)⟩)
    (by kernel_rfl)
#print axioms FnExactPacketGet_card
end Go.Proofs.YtccpdadabndleaaDoor
