/- Proved: laws.FnCmdByte returns true at every two slices of bytes (a command of which one byte is turned is none), and leaves them as they were, as a tied card: io.EOF holds what the library's text lays in it. No other condition. -/
import Derived.Test.YtccpdadabndleaaDoorDpCm
import Derived.Test.YtccpdadabndleaaDoorCgI
import Derived.Test.YtccpdadabndleaaDoorCards
import Derived.Test.YtccpdadabndleaaDoorTie
import Derived.LaidMore
import Derived.Stop.LaidErr
import Derived.Stop.Joined
import Derived.Stop.ErrReads
import Derived.SevenTiedAt
import Derived.OpenShut
import Derived.ShutString
namespace Go.Proofs.YtccpdadabndleaaDoor
open Go.ChangeShapes Go.WideShapes Go.ChangeAt Go.RowKit
open Go.ChangeMaps (open_string shut_string)
set_option linter.unusedVariables false
set_option maxRecDepth 100000 in
set_option maxHeartbeats 4000000 in
theorem FnCmdByte_walk (a0 : Option Addr) (l0 c0 : Nat) (z0 : List Int) (a1 : Option Addr) (l1 c1 : Nat) (z1 : List Int) (w : World) (h0 : IsRow .u8 w a0 l0 c0 z0) (h1 : IsRow .u8 w a1 l1 c1 z1) (he : Eof w) :
    Calls Tryd.prog 8 #[.slice a0 l0 c0, .slice a1 l1 c1] w fun e w' => e = .returned (.bool true) ∧ Below w.heap.size w w' := by
  by_cases hb0 : 1048576 < (l0 : Int)
  · go_enter Tryd.func8, Tryd.ntmps8
    go_wp2_with fail
    go_ret
    exact ⟨rfl, Below.refl _ _⟩
  by_cases hb1 : 1048576 < (l1 : Int)
  · go_enter Tryd.func8, Tryd.ntmps8
    go_wp2_with fail
    go_ret
    exact ⟨rfl, Below.refl _ _⟩
  have R0 : Hid _ := h0
  have R1 : Hid _ := h1
  have HE : Hid (Eof w) := he
  have HB : Hid (Below w.heap.size w w) := Below.refl _ _
  clear h0 h1 he
  go_enter Tryd.func8, Tryd.ntmps8
  go_wp2_with fail
  refine (DrawCmdPut_any a0 l0 c0 z0 _ R0.out).mono ?_
  rintro e w1 ⟨a, c, so, sv, sb, d, hdz, rfl, hb⟩
  replace HB : Hid (Below w.heap.size w w1) := HB.out.trans (hb.mono HB.out.size)
  replace HE : Hid (Eof w1) := HE.out.below hb
  clear hb
  have hdm : d.size ≤ maxLen := by unfold maxLen; omega
  have F : Hid ((w1.alloc (.cells #[.int .i64 a, .int .i64 c, .int .i64 so, .int .i64 sv, .int .i64 sb, .string d] 29)).heap[w1.heap.size]? = some (.cells #[.int .i64 a, .int .i64 c, .int .i64 so, .int .i64 sv, .int .i64 sb, .string d] 29)) := get_new rfl
  replace HB : Hid (Below w.heap.size w (w1.alloc (.cells #[.int .i64 a, .int .i64 c, .int .i64 so, .int .i64 sv, .int .i64 sb, .string d] 29))) := HB.out.alloc HB.out.size _
  replace HE : Hid (Eof (w1.alloc (.cells #[.int .i64 a, .int .i64 c, .int .i64 so, .int .i64 sv, .int .i64 sb, .string d] 29))) := HE.out.below ((Below.refl _ _).alloc (Nat.le_refl _) _)
  go_wp2_with fail
  refine (implCmdPut_any a c so sv sb d _ hdm).mono ?_
  rintro e w2 ⟨rfl, hb⟩
  replace F : Hid (w2.heap[w1.heap.size]? = some (.cells #[.int .i64 a, .int .i64 c, .int .i64 so, .int .i64 sv, .int .i64 sb, .string d] 29)) := get_below hb F.out (size_of_get F.out)
  replace HB : Hid (Below w.heap.size w w2) := HB.out.trans (hb.mono HB.out.size)
  replace HE : Hid (Eof w2) := HE.out.below hb
  clear hb
  have HSP : Hid (∀ W, Calls Tryd.prog 30 #[.agg #[.int .i64 a, .int .i64 c, .int .i64 so, .int .i64 sv, .int .i64 sb, .string d]] W fun e w' => e = .returned (.string (cmPut a c so sv sb d)) ∧ Below W.heap.size W w') := fun W => specCmdPut_any a c so sv sb d W hdm
  cases hb : cmOk a c so sv sb d with
  | false =>
    rw [cm_empty hb] at HSP ⊢
    clear hb
    obtain ⟨F_0, F_1, F_2, F_3, F_4, F_5⟩ := cells6_of F.out
    go_wp2_with fail
    clear F_0 F_1 F_2 F_3 F_4 F_5
    refine Calls.mono (HSP.out _) ?_
    rintro e w3 ⟨rfl, hb⟩
    replace F : Hid (w3.heap[w1.heap.size]? = some (.cells #[.int .i64 a, .int .i64 c, .int .i64 so, .int .i64 sv, .int .i64 sb, .string d] 29)) := get_below hb F.out (size_of_get F.out)
    replace HB : Hid (Below w.heap.size w w3) := HB.out.trans (hb.mono HB.out.size)
    replace HE : Hid (Eof w3) := HE.out.below hb
    clear hb
    obtain ⟨F_0, F_1, F_2, F_3, F_4, F_5⟩ := cells6_of F.out
    go_wp2_with fail
    clear F_0 F_1 F_2 F_3 F_4 F_5
    refine Calls.mono (HSP.out _) ?_
    rintro e w4 ⟨rfl, hb⟩
    replace F : Hid (w4.heap[w1.heap.size]? = some (.cells #[.int .i64 a, .int .i64 c, .int .i64 so, .int .i64 sv, .int .i64 sb, .string d] 29)) := get_below hb F.out (size_of_get F.out)
    replace HB : Hid (Below w.heap.size w w4) := HB.out.trans (hb.mono HB.out.size)
    replace HE : Hid (Eof w4) := HE.out.below hb
    clear hb
    go_wp2_with fail
    go_ret
    exact ⟨rfl, HB.out⟩
  | true =>
    obtain ⟨g1, g2, g3, g4, g5⟩ := cg_back hb (S := cmPut a c so sv sb d) rfl
    have HTU : Hid (∀ k x : Nat, k < (cmPut a c so sv sb d).size → x < 256 → x ≠ 0 → cgK (setB (cmPut a c so sv sb d) k (byteAt (cmPut a c so sv sb d) k ^^^ x)) ≠ 0) := fun k x h1 h2 h3 => cg_turned hb h1 h2 h3
    clear hb g1 g2 g5
    generalize cmPut a c so sv sb d = s at *
    have hteq : (s.toList == s.toList) = true := by simp
    have hne : s.toList.isEmpty = false := ne_empty (by omega)
    obtain ⟨F_0, F_1, F_2, F_3, F_4, F_5⟩ := cells6_of F.out
    go_wp2_with fail
    clear F_0 F_1 F_2 F_3 F_4 F_5
    refine Calls.mono (HSP.out _) ?_
    rintro e w3 ⟨rfl, hb⟩
    replace F : Hid (w3.heap[w1.heap.size]? = some (.cells #[.int .i64 a, .int .i64 c, .int .i64 so, .int .i64 sv, .int .i64 sb, .string d] 29)) := get_below hb F.out (size_of_get F.out)
    replace HB : Hid (Below w.heap.size w w3) := HB.out.trans (hb.mono HB.out.size)
    replace HE : Hid (Eof w3) := HE.out.below hb
    clear hb
    obtain ⟨cap', W, hcv, hcell, hfz, hbW, hgW⟩ := bytes_new s w3
    have hks : l1 % s.size < s.size := Nat.mod_lt _ (by omega)
    have e1 : True → (l1 : Int) % (s.size : Int) = ((l1 % s.size : Nat) : Int) := fun _ => by simp
    have hne0 : ((s.size : Int) == 0) = false := by rw [beq_eq_false_iff_ne]; omega
    generalize l1 % s.size = k at hks e1
    have hki : (k : Int) < (s.size : Int) := by omega
    have hkc := hcell _ hks
    have hkf := hfz _ hks
    have hbl := byteAt_lt s k
    have hx : bits .xor .u8 ((byteAt s k : Nat) : Int) (1 + (l0 : Int) % 255) = ((byteAt s k ^^^ (1 + l0 % 255) : Nat) : Int) := by
      rw [show 1 + (l0 : Int) % 255 = ((1 + l0 % 255 : Nat) : Int) from by omega, u8_xor_nat _ _ (by omega) (by omega)]
    have hvl : byteAt s k ^^^ (1 + l0 % 255) < 256 := Nat.xor_lt_two_pow (n := 8) hbl (by omega)
    have hno := HTU.out k (1 + l0 % 255) hks (by omega) (by omega)
    have hct := bytes_turned s W w3.heap.size cap' k _ hcell hks hvl
    have hus : (setB s k (byteAt s k ^^^ (1 + l0 % 255))).size = s.size := setB_size _ _ _
    generalize setB s k (byteAt s k ^^^ (1 + l0 % 255)) = u at hct hno hus
    generalize byteAt s k ^^^ (1 + l0 % 255) = v1 at hx hct hvl
    have hv0 := cgV_no hno
    generalize hK : cgK u = K at *
    have hKn : ¬ (K = 0) := hno
    have hKb : (K != 0) = true := by rw [bne_iff_ne]; exact hno
    have HI : Hid (∀ W, Eof W → Calls Tryd.prog 19 #[.string u] W fun e w' => e = .returned (.tuple #[.agg #[.int .i64 0, .int .i64 0, .int .i64 0, .int .i64 0, .int .i64 0, .string ⟨#[]⟩], .int .i64 K]) ∧ Below W.heap.size W w') := fun W he => by
      have := implCmdGet_any u W (by omega) he
      rw [hv0, hK] at this; exact this
    have HBW : Hid (Below w.heap.size w (W.setCell ⟨w3.heap.size, k, none⟩ (.int .u8 (v1 : Int)))) := (HB.out.trans (hbW.mono HB.out.size)).setCell HB.out.size _
    have HEW : Hid (Eof (W.setCell ⟨w3.heap.size, k, none⟩ (.int .u8 (v1 : Int)))) := HE.out.below (hbW.setCell (Nat.le_refl _) _)
    clear hcell hfz hbW HTU hno hus HB HE F HSP hv0 hK
    go_wp2_with fail
    refine Calls.mono (HI.out _ HEW.out) ?_
    rintro e wz ⟨rfl, hb⟩
    have HB : Hid (Below w.heap.size w wz) := HBW.out.trans (hb.mono HBW.out.size)
    clear hb
    have X : Hid ((wz.alloc (.cells #[.int .i64 0, .int .i64 0, .int .i64 0, .int .i64 0, .int .i64 0, .string ⟨#[]⟩] 29)).heap[wz.heap.size]? = some (.cells #[.int .i64 0, .int .i64 0, .int .i64 0, .int .i64 0, .int .i64 0, .string ⟨#[]⟩] 29)) := get_new rfl
    replace HB : Hid (Below w.heap.size w (wz.alloc (.cells #[.int .i64 0, .int .i64 0, .int .i64 0, .int .i64 0, .int .i64 0, .string ⟨#[]⟩] 29))) := HB.out.alloc HB.out.size _
    obtain ⟨X_0, X_1, X_2, X_3, X_4, X_5⟩ := cells6_of X.out
    go_wp2_with fail
    clear X_0 X_1 X_2 X_3 X_4 X_5
    go_ret
    exact ⟨rfl, HB.out⟩
theorem FnCmdByte_g0 : Tryd.prog.globalNamed "io.EOF" = some 1 := by kernel_rfl
theorem FnCmdByte_t0 : (Tryd.prog.globals[1]?).map (·.type) = some 107 := by kernel_rfl
theorem FnCmdByte_star : "*" ++ "errors.errorString" = "*errors.errorString" := by decide
theorem FnCmdByte_rowP (u : TypeId) (h : Tryd.prog.typeName? 3 u = some "*errors.errorString") : u = 158 :=
  typeName_ptr_named (nm := "errors.errorString") (by rw [FnCmdByte_star]; kernel_rfl) (by kernel_rfl) (by decide) u (by rw [FnCmdByte_star]; exact h)
theorem FnCmdByte_c1 : Tryd.prog.cellsOf 174 = 1 := by kernel_rfl
theorem FnCmdByte_c2 : Tryd.prog.cellsOf 9 = 1 := by kernel_rfl
def FnCmdByte_list : List (String × DataW Unit) := [("io.EOF", Rows.laid_io_EOF)]
theorem FnCmdByte_met (os : Os) (args : Array Value) : laidMetH Tryd.prog FnCmdByte_list ((World.doorLaid Tryd.prog 400 os).forCall (fun _ _ => 0) ⟨#[], args, []⟩).memory :=
  laidMetH_of_parts3 (fuel := 8) (laidMet_of_run' 8 (by kernel_rfl) (by kernel_rfl)) (by kernel_rfl) (by kernel_rfl)
theorem FnCmdByte_var {W W' : World} {n : String} {cs : Array Value} (k : Below W.heap.size W W') (h : W.var? Tryd.prog n = some cs) : W'.var? Tryd.prog n = some cs := by
  unfold World.var? at h ⊢
  cases hg : Tryd.prog.globalNamed n with
  | none => simp [hg] at h
  | some g =>
    simp only [hg, Option.bind_some] at h ⊢
    have hlt : g < W.heap.size := by
      rcases Nat.lt_or_ge g W.heap.size with h' | h'
      · exact h'
      · simp [Array.getElem?_eq_none h'] at h
    rw [k.block g hlt]; exact h
theorem FnCmdByte_of {W : World} (h : laidMetH Tryd.prog FnCmdByte_list W) : ∃ x0 : Addr, W.var? Tryd.prog "io.EOF" = some #[.iface 158 (.pointer (some x0))] := by
  rw [MakeChecks.laidMetH_plain _ _ _ (by kernel_rfl)] at h
  obtain ⟨x0, _, v0, _⟩ := laid_sentinel h FnCmdByte_g0 FnCmdByte_t0 Tryd.underlying107 FnCmdByte_rowP Tryd.underlying158 Tryd.underlying174 rfl rfl Tryd.underlying9 FnCmdByte_c1 FnCmdByte_c2
  exact ⟨x0, v0⟩
theorem FnCmdByte_own : ownKnob Tryd.prog.godebug = none := by kernel_rfl
theorem FnCmdByte_laidOut : laidOutB Tryd.prog = true := by kernel_rfl
set_option maxRecDepth 100000 in
theorem FnCmdByte_lifted (os : Os) (started : os.Started) (H : Type) (enc : TypeId × Value → H) :
    ReturnsInHanded {} Tryd.checked os 8 .any (fun w args => (Rows.fnCmdByteSpec.pre enc Tryd.prog Tryd.f8 [] false w args ∧ laidMetH Tryd.prog FnCmdByte_list w) ∧ sizedMet enc Tryd.prog Tryd.f8 (OpenSpec.ofChange Rows.fnCmdByteSpec) false w args) (Rows.fnCmdByteSpec.post enc Tryd.prog Tryd.f8 false true false false) := by
  refine returnsInHanded_of_change_and (C := Tryd.checked) (X := fun w _ => laidMetH Tryd.prog FnCmdByte_list w) (fun _ _ _ hh h => h.of_heap hh) FnCmdByte_own started (by kernel_rfl) Tryd.func8
    (ChangeSpec.witness_shaped (enc := enc) (C := Tryd.checked) (os := os) (X := fun w _ => laidMetH Tryd.prog FnCmdByte_list w) false (World.doorLaid Tryd.prog 400 os) #[.slice none 0 0, .slice none 0 0] 8 rfl (World.shaped_of_RefB (by kernel_rfl) (by kernel_rfl)) (by kernel_rfl) (by kernel_rfl) (by kernel_rfl) (FnCmdByte_met os _)) ?_
  intro W base args ds gs before hval0 hW hcnd _ hL _
  have hval : ∀ (j : Nat) t v, Tryd.f8.params[j]? = some t → args[j]? = some v → Value.okWide Tryd.prog W .any base t v := hval0
  have hW' := hW
  obtain ⟨p, q, hA0, hV0, rfl, hfz, hnd⟩ := hW
  have hV : DataW.TrodVars enc Tryd.prog W (fun _ => true) [] gs q := hV0
  obtain ⟨x0, hv0⟩ := FnCmdByte_of hL
  have hA : DataW.TrodAll enc Tryd.prog W 0 (fun _ => true) true Tryd.f8.params.toList args.toList ds p := hA0
  rw [Tryd.params8] at hA hval
  obtain ⟨v0, vs0, d0, ds0, p0, q0, hargs, rfl, rfl, h0, r0⟩ := trodAll_cons hA
  obtain ⟨v1, vs1, d1, ds1, p1, q1, rfl, rfl, rfl, h1, r1⟩ := trodAll_cons r0
  obtain ⟨rfl, rfl, rfl⟩ := trodAll_nil r1
  obtain rfl : args = #[v0, v1] := by cases args; simp_all
  obtain ⟨rfl, rfl⟩ := trodVars_none hV
  obtain ⟨a0, len0, cap0, rfl⟩ := okWide_slice Tryd.underlying39 (hval 0 39 v0 rfl rfl)
  have k0 := h0
  have lt0 : ∀ x ∈ p0, x.block < W.heap.size := by obtain ⟨m, hm⟩ := k0; exact DataW.trod_lt m _ _ _ hm
  obtain ⟨z0, w0⟩ : ∃ zs, IsRow .u8 W a0 len0 cap0 zs := by
    obtain ⟨fuel, hf⟩ := h0
    rcases open_ints Tryd.underlying39 Tryd.underlying5 (by kernel_rfl) hf with ⟨hcs, _⟩ | ⟨x, l, c, zs, hcs, _, hl, hm, hz, _, hcell, hwz⟩
    · simp [Value.cells] at hcs
      obtain ⟨rfl, rfl, rfl⟩ := hcs
      exact ⟨[], .inl ⟨rfl, rfl, rfl, rfl⟩⟩
    · simp [Value.cells] at hcs
      obtain ⟨rfl, rfl, rfl⟩ := hcs
      exact ⟨zs, .inr ⟨_, rfl, hl, hm, by simpa using hz, hcell, hwz⟩⟩
  obtain ⟨a1, len1, cap1, rfl⟩ := okWide_slice Tryd.underlying39 (hval 1 39 v1 rfl rfl)
  have k1 := h1
  have lt1 : ∀ x ∈ p1, x.block < W.heap.size := by obtain ⟨m, hm⟩ := k1; exact DataW.trod_lt m _ _ _ hm
  obtain ⟨z1, w1⟩ : ∃ zs, IsRow .u8 W a1 len1 cap1 zs := by
    obtain ⟨fuel, hf⟩ := h1
    rcases open_ints Tryd.underlying39 Tryd.underlying5 (by kernel_rfl) hf with ⟨hcs, _⟩ | ⟨x, l, c, zs, hcs, _, hl, hm, hz, _, hcell, hwz⟩
    · simp [Value.cells] at hcs
      obtain ⟨rfl, rfl, rfl⟩ := hcs
      exact ⟨[], .inl ⟨rfl, rfl, rfl, rfl⟩⟩
    · simp [Value.cells] at hcs
      obtain ⟨rfl, rfl, rfl⟩ := hcs
      exact ⟨zs, .inr ⟨_, rfl, hl, hm, by simpa using hz, hcell, hwz⟩⟩
  clear hA0 hval0 hV0
  refine (FnCmdByte_walk a0 len0 cap0 z0 a1 len1 cap1 z1 W w0 w1 ⟨_, rfl, (by simpa using World.var?_cell FnCmdByte_g0 hv0 0)⟩).mono fun e W' ⟨he, bel⟩ => ?_
  subst he
  exact ⟨_, rfl, _, _, _, [], _, _, hW', trodAll_mk1 (shut_bool Tryd.underlying4 _), (trodAll_cons_mk (Below.trod FnCmdByte_laidOut (by kernel_rfl) (of_decide_eq_true (by kernel_rfl)) k0 bel lt0) (trodAll_cons_mk (Below.trod FnCmdByte_laidOut (by kernel_rfl) (of_decide_eq_true (by kernel_rfl)) k1 bel lt1) trodAll_mk0)), rfl, bel.frame _, fun h => by cases h⟩
theorem FnCmdByte_holds : Rows.FnCmdByteSaid :=
  OpenClaim.holds_of_wide 8 Tryd.f8 rfl rfl rfl rfl rfl rfl rfl ⟨rfl, rfl, rfl, rfl, rfl⟩ rfl rfl rfl rfl rfl (by kernel_rfl) Tryd.func8 (by kernel_rfl)
    (of_decide_eq_true (by kernel_rfl)) (by unfold Func.isWrapper; first | (rw [if_pos (by decide +kernel)]; kernel_rfl) | (rw [if_neg (by decide +kernel)]; exact ⟨rfl, rfl⟩))
    (fun os started H enc _ => FnCmdByte_lifted os started H enc)
theorem FnCmdByte_card : Rows.FnCmdByteCardSaid :=
  Claim7.holds_tied_plain_at .later [] [.sentinel] true (true, "d4916f3d9a9138b16cf3363f0ab1195dfe45625b95ab6948d0d5fdd4665c0b46") false
    FnCmdByte_holds (fun _ h => by cases h) (by kernel_rfl) (fun _ h => by cases h) fnCmdByte_row_tie rfl ⟨rfl, rfl⟩ (by kernel_rfl) rfl
    (fun f fn hf hfn => by
      obtain rfl : f = 8 := Option.some.inj ((show Tryd.prog.funcNamed "loop.example/skyway/laws.FnCmdByte" = some 8 by kernel_rfl).symm.trans hf) |>.symm
      obtain rfl : fn = Tryd.f8 := (Option.some.inj (Tryd.func8.symm.trans hfn)).symm
      exact ⟨by kernel_rfl, fun j t ht => by
        rw [Tryd.params8] at ht
        have hm : t ∈ ([39, 39] : List TypeId) := by simpa using Array.mem_of_getElem? ht
        have hall : (([39, 39] : List TypeId).all fun u => !Tryd.prog.wantsStandIn u) = true := by kernel_rfl
        exact (show Tryd.prog.wantsStandIn t = false by simpa using List.all_eq_true.1 hall t hm)⟩)
    (by kernel_rfl)
#print axioms FnCmdByte_card
end Go.Proofs.YtccpdadabndleaaDoor
