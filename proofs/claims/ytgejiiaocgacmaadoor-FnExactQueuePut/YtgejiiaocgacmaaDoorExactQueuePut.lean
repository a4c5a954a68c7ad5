/- Proved: laws.FnExactQueuePut returns true at every queue and packet (impl.QueuePut answers as spec.QueuePut, writes nothing into the queue, and its answer owns its memory), and leaves both as they were, as a tied card: io.EOF holds what the library's text lays in it. No other condition. -/
import Derived.Test.YtgejiiaocgacmaaDoorOwQueuePut
import Derived.Test.YtgejiiaocgacmaaDoorQpW
import Derived.Test.YtgejiiaocgacmaaDoorOgQueue
import Derived.Test.YtgejiiaocgacmaaDoorFrame
import Derived.Test.YtgejiiaocgacmaaDoorCards
import Derived.Test.YtgejiiaocgacmaaDoorTie
import Derived.LaidMore
import Derived.Stop.LaidErr
import Derived.Stop.Joined
import Derived.Stop.ErrReads
import Derived.SevenTiedAt
import Derived.OpenShut
import Derived.ShutString
namespace Go.Proofs.YtgejiiaocgacmaaDoor
open Go.ChangeShapes Go.WideShapes Go.ChangeAt Go.RowKit
set_option linter.unusedVariables false

open Go.ChangeMaps (open_string shut_string)
theorem FnExactQueuePut_walk (a0 : Option Addr) (n0 p0 : Nat) (g0 : Nat → ByteArray) (v1 : Int) (t : ByteArray) (w : World) (hx0 : n0 ≤ maxLen) (h0 : Txt w a0 n0 g0) (ht : t.size ≤ maxLen) (he : Eof w) :
    Calls Tryd.prog 8 #[.agg #[.slice a0 n0 p0, .int .i64 v1], .string t] w fun e w' => e = .returned (.bool true) ∧ Below w.heap.size w w' := by
  have hn : ∀ c : Nat, (some (⟨c, 0, none⟩ : Addr)) = none → n0 = 0 ∧ n0 = 0 := fun c e => by cases e
  cases hp : quB n0 g0 v1
  · refine FnExactQueuePut_ow a0 n0 p0 g0 v1 t 0 (fun _ => ⟨#[]⟩) 0 false w hx0 h0 ht he (by omega) ?_ ?_
    · intro c W hm hs hts h
      exact (specQueuePut_no _ n0 n0 g0 v1 t W hm hs hts (hn c) h hp).mono fun e w' ⟨e1, hb⟩ => ⟨none, 0, e1, ⟨fun i hi => by omega, .inl rfl⟩, hb⟩
    · intro c W hm hs hts h heW
      exact (implQueuePut_no _ n0 n0 g0 v1 t W hm hs hts (hn c) h heW hp).mono fun e w' ⟨e1, hb⟩ => ⟨none, 0, 0, e1, ⟨⟨fun i hi => by omega, .inl rfl⟩, .inl rfl, fun h => absurd rfl h, fun h => absurd rfl h⟩, hb⟩
  have h9 : n0 ≤ 9 := by
    simp only [quB, Bool.and_eq_true, decide_eq_true_eq] at hp
    omega
  have hmx : ∀ (f : Nat → ByteArray) (n : Nat), (∀ i, i < n → (f i).size ≤ 1048576) → ∀ i, i < n → (f i).size ≤ maxLen := fun f n h i hi => Nat.le_trans (h i hi) (by unfold maxLen; omega)
  by_cases hv : jpB t = true ∧ (n0 : Int) < 8
  · have hsn : (∀ i, i < n0 → (g0 i).size ≤ 1048576) → t.size ≤ 1048576 → ∀ i, i < n0 + 1 → (snocS n0 g0 t i).size ≤ 1048576 := by
      intro hs hts i hi
      unfold snocS
      split
      · exact hs i (by assumption)
      · exact hts
    refine FnExactQueuePut_ow a0 n0 p0 g0 v1 t (n0 + 1) (snocS n0 g0 t) v1 true w hx0 h0 ht he (by omega) ?_ ?_
    · intro c W hm hs hts h
      exact (specQueuePut_yes _ n0 n0 g0 v1 t W hm hs hts (hn c) h hp hv.1 hv.2).mono fun e w' ⟨b, c', e1, hlo, ho, hb⟩ => ⟨some ⟨b, 0, none⟩, c', e1, (own_Txt (hmx _ _ (hsn hs hts)) ho).1, hb⟩
    · intro c W hm hs hts h heW
      exact (implQueuePut_yes _ n0 n0 g0 v1 t W hm hs hts (hn c) h heW hp hv.1 hv.2).mono fun e w' ⟨b, c', e1, hlo, ho, hb⟩ =>
        have hT := own_Txt (hmx _ _ (hsn hs hts)) ho
        ⟨some ⟨b, 0, none⟩, c', b, e1, ⟨hT.1, In.mk _ _ _, fun _ => ⟨hlo, hT.2.2⟩, fun _ => hT.2.1⟩, hb⟩
  · have hw : jpB t = false ∨ (jpB t = true ∧ 8 ≤ (n0 : Int)) := by
      cases hc : jpB t
      · exact .inl rfl
      · refine .inr ⟨rfl, ?_⟩
        have : ¬ (n0 : Int) < 8 := fun h => hv ⟨hc, h⟩
        omega
    refine FnExactQueuePut_ow a0 n0 p0 g0 v1 t n0 g0 v1 false w hx0 h0 ht he (by omega) ?_ ?_
    · intro c W hm hs hts h
      exact (specQueuePut_full _ n0 n0 g0 v1 t W hm hs hts (hn c) h hp hw).mono fun e w' ⟨b, c', e1, hlo, ho, hb⟩ => ⟨some ⟨b, 0, none⟩, c', e1, (own_Txt (hmx _ _ hs) ho).1, hb⟩
    · intro c W hm hs hts h heW
      exact (implQueuePut_full _ n0 n0 g0 v1 t W hm hs hts (hn c) h heW hp hw).mono fun e w' ⟨b, c', e1, hlo, ho, hb⟩ =>
        have hT := own_Txt (hmx _ _ hs) ho
        ⟨some ⟨b, 0, none⟩, c', b, e1, ⟨hT.1, In.mk _ _ _, fun _ => ⟨hlo, hT.2.2⟩, fun _ => hT.2.1⟩, hb⟩
theorem FnExactQueuePut_g0 : Tryd.prog.globalNamed "io.EOF" = some 3 := by kernel_rfl
theorem FnExactQueuePut_t0 : (Tryd.prog.globals[3]?).map (·.type) = some 146 := by kernel_rfl
theorem FnExactQueuePut_star : "*" ++ "errors.errorString" = "*errors.errorString" := by decide
theorem FnExactQueuePut_rowP (u : TypeId) (h : Tryd.prog.typeName? 3 u = some "*errors.errorString") : u = 202 :=
  typeName_ptr_named (nm := "errors.errorString") (by rw [FnExactQueuePut_star]; kernel_rfl) (by kernel_rfl) (by decide) u (by rw [FnExactQueuePut_star]; exact h)
theorem FnExactQueuePut_c1 : Tryd.prog.cellsOf 216 = 1 := by kernel_rfl
theorem FnExactQueuePut_c2 : Tryd.prog.cellsOf 9 = 1 := by kernel_rfl
def FnExactQueuePut_list : List (String × DataW Unit) := [("io.EOF", Rows.laid_io_EOF)]
theorem FnExactQueuePut_met (os : Os) (args : Array Value) : laidMetH Tryd.prog FnExactQueuePut_list ((World.doorLaid Tryd.prog 400 os).forCall (fun _ _ => 0) ⟨#[], args, []⟩).memory :=
  laidMetH_of_parts3 (fuel := 8) (laidMet_of_run' 8 (by kernel_rfl) (by kernel_rfl)) (by kernel_rfl) (by kernel_rfl)
theorem FnExactQueuePut_var {W W' : World} {n : String} {cs : Array Value} (k : Below W.heap.size W W') (h : W.var? Tryd.prog n = some cs) : W'.var? Tryd.prog n = some cs := by
  unfold World.var? at h ⊢
  cases hg : Tryd.prog.globalNamed n with
  | none => simp [hg] at h
  | some g =>
    simp only [hg, Option.bind_some] at h ⊢
    have hlt : g < W.heap.size := by
      rcases Nat.lt_or_ge g W.heap.size with h' | h'
      · exact h'
      · simp [Array.getElem?_eq_none h'] at h
    rw [k.block g hlt]; exact h
theorem FnExactQueuePut_of {W : World} (h : laidMetH Tryd.prog FnExactQueuePut_list W) : ∃ x0 : Addr, W.var? Tryd.prog "io.EOF" = some #[.iface 202 (.pointer (some x0))] := by
  rw [MakeChecks.laidMetH_plain _ _ _ (by kernel_rfl)] at h
  obtain ⟨x0, _, v0, _⟩ := laid_sentinel h FnExactQueuePut_g0 FnExactQueuePut_t0 Tryd.underlying146 FnExactQueuePut_rowP Tryd.underlying202 Tryd.underlying216 rfl rfl Tryd.underlying9 FnExactQueuePut_c1 FnExactQueuePut_c2
  exact ⟨x0, v0⟩
theorem FnExactQueuePut_own : ownKnob Tryd.prog.godebug = none := by kernel_rfl
theorem FnExactQueuePut_laidOut : laidOutB Tryd.prog = true := by kernel_rfl
set_option maxRecDepth 100000 in
theorem FnExactQueuePut_lifted (os : Os) (started : os.Started) (H : Type) (enc : TypeId × Value → H) :
    ReturnsInHanded {} Tryd.checked os 8 .any (fun w args => (Rows.fnExactQueuePutSpec.pre enc Tryd.prog Tryd.f8 [] false w args ∧ laidMetH Tryd.prog FnExactQueuePut_list w) ∧ sizedMet enc Tryd.prog Tryd.f8 (OpenSpec.ofChange Rows.fnExactQueuePutSpec) false w args) (Rows.fnExactQueuePutSpec.post enc Tryd.prog Tryd.f8 false true false false) := by
  refine returnsInHanded_of_change_and (C := Tryd.checked) (X := fun w _ => laidMetH Tryd.prog FnExactQueuePut_list w) (fun _ _ _ hh h => h.of_heap hh) FnExactQueuePut_own started (by kernel_rfl) Tryd.func8
    (ChangeSpec.witness_shaped (enc := enc) (C := Tryd.checked) (os := os) (X := fun w _ => laidMetH Tryd.prog FnExactQueuePut_list w) false (World.doorLaid Tryd.prog 400 os) #[.agg #[.slice none 0 0, .int .i64 0], .string ⟨#[]⟩] 8 rfl (World.shaped_of_RefB (by kernel_rfl) (by kernel_rfl)) (by kernel_rfl) (by kernel_rfl) (by kernel_rfl) (FnExactQueuePut_met os _)) ?_
  intro W base args ds gs before hval0 hW hcnd _ hL _
  have hval : ∀ (j : Nat) t v, Tryd.f8.params[j]? = some t → args[j]? = some v → Value.okWide Tryd.prog W .any base t v := hval0
  have hW' := hW
  obtain ⟨p, q, hA0, hV0, rfl, hfz, hnd⟩ := hW
  have hV : DataW.TrodVars enc Tryd.prog W (fun _ => true) [] gs q := hV0
  obtain ⟨x0, hv0⟩ := FnExactQueuePut_of hL
  have hA : DataW.TrodAll enc Tryd.prog W 0 (fun _ => true) true Tryd.f8.params.toList args.toList ds p := hA0
  rw [Tryd.params8] at hA hval
  obtain ⟨v0, vs0, d0, ds0, p0, q0, hargs, rfl, rfl, h0, r0⟩ := trodAll_cons hA
  obtain ⟨v1, vs1, d1, ds1, p1, q1, rfl, rfl, rfl, h1, r1⟩ := trodAll_cons r0
  obtain ⟨rfl, rfl, rfl⟩ := trodAll_nil r1
  obtain rfl : args = #[v0, v1] := by cases args; simp_all
  obtain ⟨rfl, rfl⟩ := trodVars_none hV
  have k0 := h0
  have lt0 : ∀ x ∈ p0, x.block < W.heap.size := by obtain ⟨m, hm⟩ := k0; exact DataW.trod_lt m _ _ _ hm
  obtain ⟨y0a0, y0n0, y0p0, y0g0, y0v1, rfl, w0_0_n, w0_0_t⟩ := opens_queue (hval 0 42 v0 rfl rfl) h0
  obtain ⟨a1, rfl, rfl, rfl, w1⟩ := open_string Tryd.underlying9 (hval 1 9 v1 rfl rfl) h1
  clear hA0 hval0 hV0
  refine (FnExactQueuePut_walk y0a0 y0n0 y0p0 y0g0 y0v1 a1 W w0_0_n w0_0_t w1 ⟨_, rfl, (by simpa using World.var?_cell FnExactQueuePut_g0 hv0 0)⟩).mono fun e W' ⟨he, bel⟩ => ?_
  subst he
  exact ⟨_, rfl, _, _, _, [], _, _, hW', trodAll_mk1 (shut_bool Tryd.underlying4 _), (trodAll_cons_mk (Below.trod FnExactQueuePut_laidOut (by kernel_rfl) (of_decide_eq_true (by kernel_rfl)) k0 bel lt0) (trodAll_cons_mk (shut_string Tryd.underlying9 w1) trodAll_mk0)), rfl, bel.frame _, fun h => by cases h⟩
theorem FnExactQueuePut_holds : Rows.FnExactQueuePutSaid :=
  OpenClaim.holds_of_wide 8 Tryd.f8 rfl rfl rfl rfl rfl rfl rfl ⟨rfl, rfl, rfl, rfl, rfl⟩ rfl rfl rfl rfl rfl (by kernel_rfl) Tryd.func8 (by kernel_rfl)
    (of_decide_eq_true (by kernel_rfl)) (by unfold Func.isWrapper; first | (rw [if_pos (by decide +kernel)]; kernel_rfl) | (rw [if_neg (by decide +kernel)]; exact ⟨rfl, rfl⟩))
    (fun os started H enc _ => FnExactQueuePut_lifted os started H enc)
theorem FnExactQueuePut_card : Rows.FnExactQueuePutCardSaid :=
  Claim7.holds_tied_plain_at .later [] [.sentinel] true (true, "8ded78c3a1522848479ed86bc08d4540c0c61a2ee5cd9045808c16af5bb79141") false
    FnExactQueuePut_holds (fun _ h => by cases h) (by kernel_rfl) (fun _ h => by cases h) fnExactQueuePut_row_tie rfl ⟨rfl, rfl⟩ (by kernel_rfl) rfl
    (fun f fn hf hfn => by
      obtain rfl : f = 8 := Option.some.inj ((show Tryd.prog.funcNamed "loop.example/skyway/laws.FnExactQueuePut" = some 8 by kernel_rfl).symm.trans hf) |>.symm
      obtain rfl : fn = Tryd.f8 := (Option.some.inj (Tryd.func8.symm.trans hfn)).symm
      exact ⟨by kernel_rfl, fun j t ht => by
        rw [Tryd.params8] at ht
        have hm : t ∈ ([42, 9] : List TypeId) := by simpa using Array.mem_of_getElem? ht
        have hall : (([42, 9] : List TypeId).all fun u => !Tryd.prog.wantsStandIn u) = true := by kernel_rfl
        exact (show Tryd.prog.wantsStandIn t = false by simpa using List.all_eq_true.1 hall t hm)⟩)
    (by kernel_rfl)
#print axioms FnExactQueuePut_card
end Go.Proofs.YtgejiiaocgacmaaDoor
