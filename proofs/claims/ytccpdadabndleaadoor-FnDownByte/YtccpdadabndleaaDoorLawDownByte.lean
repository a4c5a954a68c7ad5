/- Proved: laws.FnDownByte returns true at every two slices of bytes (a frame down of which one byte is turned is none), and leaves them as they were, as a tied card: the two errors of impl hold what the program's text lays in them. No other condition. -/
import Derived.Test.YtccpdadabndleaaDoorDpDn
import Derived.Test.YtccpdadabndleaaDoorDgI
import Derived.Test.YtccpdadabndleaaDoorCards
import Derived.Test.YtccpdadabndleaaDoorTie
import Derived.LaidMore
import Derived.Stop.LaidErr
import Derived.Stop.Joined
import Derived.Stop.ErrReads
import Derived.SevenTiedAt
import Derived.OpenShut
import Derived.ShutString
namespace Go.Proofs.YtccpdadabndleaaDoor
open Go.ChangeShapes Go.WideShapes Go.ChangeAt Go.RowKit
open Go.ChangeMaps (open_string shut_string)
set_option linter.unusedVariables false
theorem crc_cmW (T : ByteArray) : crcL (lsP (cmW T)) = 0 := by
  rw [cmW_lst]
  have hl := crcL_lt (lsP T)
  have e : crcTo T T.size = crcL (lsP T) := crcTo_all T
  rw [e]
  apply crcL_end
  · unfold hiB; rw [UInt8.toNat_ofNat']; simp only [Int.toNat_natCast]; try omega
  · unfold loB; rw [UInt8.toNat_ofNat']; simp only [Int.toNat_natCast]; try omega
theorem dn_sum {cr wh al ow fi : Int} {d f : ByteArray} (h : dnOk cr wh al ow fi d f = true) : crcL (lsP (dnPut cr wh al ow fi d f)) = 0 := by
  unfold dnPut; rw [if_pos h]; exact crc_cmW _
theorem dn_turned {cr wh al ow fi : Int} {d f : ByteArray} (h : dnOk cr wh al ow fi d f = true) {k x : Nat} (hk : k < (dnPut cr wh al ow fi d f).size) (hx : x < 256) (hx0 : x ≠ 0) :
    dgOk (setB (dnPut cr wh al ow fi d f) k (byteAt (dnPut cr wh al ow fi d f) k ^^^ x)) = false := by
  have hz := dn_sum h
  generalize dnPut cr wh al ow fi d f = s at *
  have hl := byteAt_lt s k
  have hvl : byteAt s k ^^^ x < 256 := Nat.xor_lt_two_pow (n := 8) hl hx
  obtain ⟨l, r, b, hl1, hl2, hb⟩ := setB_split s k (byteAt s k ^^^ x) hk
  have hne : crcL (lsP (setB s k (byteAt s k ^^^ x))) ≠ crcL (lsP s) := by
    unfold lsP
    rw [hl1, hl2]
    refine crcL_turn l r _ b (fun e => ?_)
    have e2 := congrArg UInt8.toNat e
    rw [UInt8.toNat_ofNat', hb, Nat.mod_eq_of_lt hvl] at e2
    have e3 := congrArg (byteAt s k ^^^ ·) e2
    simp only [← Nat.xor_assoc, Nat.xor_self, Nat.zero_xor] at e3
    exact hx0 e3
  generalize setB s k (byteAt s k ^^^ x) = u at *
  cases q : dgOk u with
  | false => rfl
  | true =>
    exfalso
    simp only [dgOk, Bool.and_eq_true, decide_eq_true_eq] at q
    have hp := q.2
    unfold dgPut at hp
    have hdn := dn_ok hp (by omega)
    have h0 := dn_sum hdn
    rw [hp] at h0
    exact hne (h0.trans hz.symm)
set_option maxRecDepth 100000 in
set_option maxHeartbeats 4000000 in
theorem FnDownByte_walk (a0 : Option Addr) (l0 c0 : Nat) (z0 : List Int) (a1 : Option Addr) (l1 c1 : Nat) (z1 : List Int) (w : World) (h0 : IsRow .u8 w a0 l0 c0 z0) (h1 : IsRow .u8 w a1 l1 c1 z1) (he : Errs w) :
    Calls Tryd.prog 13 #[.slice a0 l0 c0, .slice a1 l1 c1] w fun e w' => e = .returned (.bool true) ∧ Below w.heap.size w w' := by
  by_cases hb0 : 1048576 < (l0 : Int)
  · go_enter Tryd.func13, Tryd.ntmps13
    go_wp2_with fail
    go_ret
    exact ⟨rfl, Below.refl _ _⟩
  by_cases hb1 : 1048576 < (l1 : Int)
  · go_enter Tryd.func13, Tryd.ntmps13
    go_wp2_with fail
    go_ret
    exact ⟨rfl, Below.refl _ _⟩
  have R0 : Hid _ := h0
  have R1 : Hid _ := h1
  have HE : Hid (Errs w) := he
  have HB : Hid (Below w.heap.size w w) := Below.refl _ _
  clear h0 h1 he
  go_enter Tryd.func13, Tryd.ntmps13
  go_wp2_with fail
  refine (DrawDownPut_any a0 l0 c0 z0 _ R0.out).mono ?_
  rintro e w1 ⟨cr, wh, al, ow, fi, d, f, hdz, hfz, rfl, hb⟩
  replace HB : Hid (Below w.heap.size w w1) := HB.out.trans (hb.mono HB.out.size)
  replace HE : Hid (Errs w1) := HE.out.below hb
  clear hb
  have hdm : d.size ≤ maxLen := by unfold maxLen; omega
  have hfm : f.size ≤ maxLen := by unfold maxLen; omega
  have F : Hid ((w1.alloc (.cells #[.int .i64 cr, .int .i64 wh, .int .i64 al, .int .i64 ow, .int .i64 fi, .string d, .string f] 54)).heap[w1.heap.size]? = some (.cells #[.int .i64 cr, .int .i64 wh, .int .i64 al, .int .i64 ow, .int .i64 fi, .string d, .string f] 54)) := get_new rfl
  replace HB : Hid (Below w.heap.size w (w1.alloc (.cells #[.int .i64 cr, .int .i64 wh, .int .i64 al, .int .i64 ow, .int .i64 fi, .string d, .string f] 54))) := HB.out.alloc HB.out.size _
  replace HE : Hid (Errs (w1.alloc (.cells #[.int .i64 cr, .int .i64 wh, .int .i64 al, .int .i64 ow, .int .i64 fi, .string d, .string f] 54))) := HE.out.below ((Below.refl _ _).alloc (Nat.le_refl _) _)
  go_wp2_with fail
  refine (implDownPut_any cr wh al ow fi d f _ hdm hfm HE.out).mono ?_
  rintro e w2 ⟨rfl, hb⟩
  replace F : Hid (w2.heap[w1.heap.size]? = some (.cells #[.int .i64 cr, .int .i64 wh, .int .i64 al, .int .i64 ow, .int .i64 fi, .string d, .string f] 54)) := get_below hb F.out (size_of_get F.out)
  replace HB : Hid (Below w.heap.size w w2) := HB.out.trans (hb.mono HB.out.size)
  replace HE : Hid (Errs w2) := HE.out.below hb
  clear hb
  have HSP : Hid (∀ W, Calls Tryd.prog 37 #[.agg #[.int .i64 cr, .int .i64 wh, .int .i64 al, .int .i64 ow, .int .i64 fi, .string d, .string f]] W fun e w' => e = .returned (.string (dnPut cr wh al ow fi d f)) ∧ Below W.heap.size W w') := fun W => specDownPut_any cr wh al ow fi d f W hdm hfm
  cases hb : dnOk cr wh al ow fi d f with
  | false =>
    have hem : dnPut cr wh al ow fi d f = ⟨#[]⟩ := by unfold dnPut; rw [hb]; rfl
    rw [hem] at HSP ⊢
    clear hb hem
    obtain ⟨F_0, F_1, F_2, F_3, F_4, F_5, F_6⟩ := cells7_of F.out
    go_wp2_with fail
    clear F_0 F_1 F_2 F_3 F_4 F_5 F_6
    refine Calls.mono (HSP.out _) ?_
    rintro e w3 ⟨rfl, hb⟩
    replace F : Hid (w3.heap[w1.heap.size]? = some (.cells #[.int .i64 cr, .int .i64 wh, .int .i64 al, .int .i64 ow, .int .i64 fi, .string d, .string f] 54)) := get_below hb F.out (size_of_get F.out)
    replace HB : Hid (Below w.heap.size w w3) := HB.out.trans (hb.mono HB.out.size)
    replace HE : Hid (Errs w3) := HE.out.below hb
    clear hb
    obtain ⟨F_0, F_1, F_2, F_3, F_4, F_5, F_6⟩ := cells7_of F.out
    go_wp2_with fail
    clear F_0 F_1 F_2 F_3 F_4 F_5 F_6
    refine Calls.mono (HSP.out _) ?_
    rintro e w4 ⟨rfl, hb⟩
    replace F : Hid (w4.heap[w1.heap.size]? = some (.cells #[.int .i64 cr, .int .i64 wh, .int .i64 al, .int .i64 ow, .int .i64 fi, .string d, .string f] 54)) := get_below hb F.out (size_of_get F.out)
    replace HB : Hid (Below w.heap.size w w4) := HB.out.trans (hb.mono HB.out.size)
    replace HE : Hid (Errs w4) := HE.out.below hb
    clear hb
    go_wp2_with fail
    go_ret
    exact ⟨rfl, HB.out⟩
  | true =>
    have g3 := (dn_read hb rfl).1
    have HTU : Hid (∀ k x : Nat, k < (dnPut cr wh al ow fi d f).size → x < 256 → x ≠ 0 → dgOk (setB (dnPut cr wh al ow fi d f) k (byteAt (dnPut cr wh al ow fi d f) k ^^^ x)) = false) := fun k x h1 h2 h3 => dn_turned hb h1 h2 h3
    have hs0 : 1 ≤ (dnPut cr wh al ow fi d f).size ∧ (dnPut cr wh al ow fi d f).size ≤ 100 := by omega
    clear hb g3
    generalize dnPut cr wh al ow fi d f = s at *
    have hteq : (s.toList == s.toList) = true := by simp
    have hne : s.toList.isEmpty = false := ne_empty (by omega)
    obtain ⟨F_0, F_1, F_2, F_3, F_4, F_5, F_6⟩ := cells7_of F.out
    go_wp2_with fail
    clear F_0 F_1 F_2 F_3 F_4 F_5 F_6
    refine Calls.mono (HSP.out _) ?_
    rintro e w3 ⟨rfl, hb⟩
    replace F : Hid (w3.heap[w1.heap.size]? = some (.cells #[.int .i64 cr, .int .i64 wh, .int .i64 al, .int .i64 ow, .int .i64 fi, .string d, .string f] 54)) := get_below hb F.out (size_of_get F.out)
    replace HB : Hid (Below w.heap.size w w3) := HB.out.trans (hb.mono HB.out.size)
    replace HE : Hid (Errs w3) := HE.out.below hb
    clear hb
    obtain ⟨cap', W, hcv, hcell, hfz, hbW, hgW⟩ := bytes_new s w3
    have hks : l1 % s.size < s.size := Nat.mod_lt _ (by omega)
    have e1 : True → (l1 : Int) % (s.size : Int) = ((l1 % s.size : Nat) : Int) := fun _ => by simp
    have hne0 : ((s.size : Int) == 0) = false := by rw [beq_eq_false_iff_ne]; omega
    generalize l1 % s.size = k at hks e1
    have hki : (k : Int) < (s.size : Int) := by omega
    have hkc := hcell _ hks
    have hkf := hfz _ hks
    have hbl := byteAt_lt s k
    have hx : bits .xor .u8 ((byteAt s k : Nat) : Int) (1 + (l0 : Int) % 255) = ((byteAt s k ^^^ (1 + l0 % 255) : Nat) : Int) := by
      rw [show 1 + (l0 : Int) % 255 = ((1 + l0 % 255 : Nat) : Int) from by omega, u8_xor_nat _ _ (by omega) (by omega)]
    have hvl : byteAt s k ^^^ (1 + l0 % 255) < 256 := Nat.xor_lt_two_pow (n := 8) hbl (by omega)
    have hno := HTU.out k (1 + l0 % 255) hks (by omega) (by omega)
    have hct := bytes_turned s W w3.heap.size cap' k _ hcell hks hvl
    have hus : (setB s k (byteAt s k ^^^ (1 + l0 % 255))).size = s.size := setB_size _ _ _
    generalize setB s k (byteAt s k ^^^ (1 + l0 % 255)) = u at hct hno hus
    generalize byteAt s k ^^^ (1 + l0 % 255) = v1 at hx hct hvl
    have hv0 := dgV_no hno
    have hmu : u.size ≤ maxLen := by unfold maxLen; omega
    have HI : Hid (∀ W, Errs W → Calls Tryd.prog 41 #[.string u] W fun e w' => e = .returned (.tuple #[.agg #[.int .i64 0, .int .i64 0, .int .i64 0, .int .i64 0, .int .i64 0, .string ⟨#[]⟩, .string ⟨#[]⟩], .bool false]) ∧ Below W.heap.size W w') := fun W he => by
      have := implDownGet_any u W hmu he
      rw [hv0, hno] at this; exact this
    have HBW : Hid (Below w.heap.size w (W.setCell ⟨w3.heap.size, k, none⟩ (.int .u8 (v1 : Int)))) := (HB.out.trans (hbW.mono HB.out.size)).setCell HB.out.size _
    have HEW : Hid (Errs (W.setCell ⟨w3.heap.size, k, none⟩ (.int .u8 (v1 : Int)))) := HE.out.below (hbW.setCell (Nat.le_refl _) _)
    clear hcell hfz hbW HTU hno hus HB HE F HSP hv0 hmu
    go_wp2_with fail
    refine Calls.mono (HI.out _ HEW.out) ?_
    rintro e wz ⟨rfl, hb⟩
    have HB : Hid (Below w.heap.size w wz) := HBW.out.trans (hb.mono HBW.out.size)
    clear hb
    have X : Hid ((wz.alloc (.cells #[.int .i64 0, .int .i64 0, .int .i64 0, .int .i64 0, .int .i64 0, .string ⟨#[]⟩, .string ⟨#[]⟩] 54)).heap[wz.heap.size]? = some (.cells #[.int .i64 0, .int .i64 0, .int .i64 0, .int .i64 0, .int .i64 0, .string ⟨#[]⟩, .string ⟨#[]⟩] 54)) := get_new rfl
    replace HB : Hid (Below w.heap.size w (wz.alloc (.cells #[.int .i64 0, .int .i64 0, .int .i64 0, .int .i64 0, .int .i64 0, .string ⟨#[]⟩, .string ⟨#[]⟩] 54))) := HB.out.alloc HB.out.size _
    obtain ⟨X_0, X_1, X_2, X_3, X_4, X_5, X_6⟩ := cells7_of X.out
    go_wp2_with fail
    clear X_0 X_1 X_2 X_3 X_4 X_5 X_6
    go_ret
    exact ⟨rfl, HB.out⟩
theorem FnDownByte_g0 : Tryd.prog.globalNamed "loop.example/skyway/impl.errShort" = some 2 := by kernel_rfl
theorem FnDownByte_t0 : (Tryd.prog.globals[2]?).map (·.type) = some 107 := by kernel_rfl
theorem FnDownByte_g1 : Tryd.prog.globalNamed "loop.example/skyway/impl.errOther" = some 0 := by kernel_rfl
theorem FnDownByte_t1 : (Tryd.prog.globals[0]?).map (·.type) = some 107 := by kernel_rfl
theorem FnDownByte_star : "*" ++ "errors.errorString" = "*errors.errorString" := by decide
theorem FnDownByte_rowP (u : TypeId) (h : Tryd.prog.typeName? 3 u = some "*errors.errorString") : u = 158 :=
  typeName_ptr_named (nm := "errors.errorString") (by rw [FnDownByte_star]; kernel_rfl) (by kernel_rfl) (by decide) u (by rw [FnDownByte_star]; exact h)
theorem FnDownByte_c1 : Tryd.prog.cellsOf 174 = 1 := by kernel_rfl
theorem FnDownByte_c2 : Tryd.prog.cellsOf 9 = 1 := by kernel_rfl
def FnDownByte_list : List (String × DataW Unit) := [("loop.example/skyway/impl.errShort", Rows.laid_loop_example_skyway_impl_errShort), ("loop.example/skyway/impl.errOther", Rows.laid_loop_example_skyway_impl_errOther)]
theorem FnDownByte_met (os : Os) (args : Array Value) : laidMetH Tryd.prog FnDownByte_list ((World.doorLaid Tryd.prog 400 os).forCall (fun _ _ => 0) ⟨#[], args, []⟩).memory :=
  laidMetH_of_parts3 (fuel := 8) (laidMet_of_run' 8 (by kernel_rfl) (by kernel_rfl)) (by kernel_rfl) (by kernel_rfl)
theorem FnDownByte_var {W W' : World} {n : String} {cs : Array Value} (k : Below W.heap.size W W') (h : W.var? Tryd.prog n = some cs) : W'.var? Tryd.prog n = some cs := by
  unfold World.var? at h ⊢
  cases hg : Tryd.prog.globalNamed n with
  | none => simp [hg] at h
  | some g =>
    simp only [hg, Option.bind_some] at h ⊢
    have hlt : g < W.heap.size := by
      rcases Nat.lt_or_ge g W.heap.size with h' | h'
      · exact h'
      · simp [Array.getElem?_eq_none h'] at h
    rw [k.block g hlt]; exact h
theorem FnDownByte_of {W : World} (h : laidMetH Tryd.prog FnDownByte_list W) : ∃ x0 x1 : Addr, W.var? Tryd.prog "loop.example/skyway/impl.errShort" = some #[.iface 158 (.pointer (some x0))] ∧ W.var? Tryd.prog "loop.example/skyway/impl.errOther" = some #[.iface 158 (.pointer (some x1))] := by
  rw [MakeChecks.laidMetH_plain _ _ _ (by kernel_rfl)] at h
  obtain ⟨x0, _, v0, _⟩ := laid_sentinel h FnDownByte_g0 FnDownByte_t0 Tryd.underlying107 FnDownByte_rowP Tryd.underlying158 Tryd.underlying174 rfl rfl Tryd.underlying9 FnDownByte_c1 FnDownByte_c2
  obtain ⟨x1, _, v1, _⟩ := laid_sentinel (h).tail FnDownByte_g1 FnDownByte_t1 Tryd.underlying107 FnDownByte_rowP Tryd.underlying158 Tryd.underlying174 rfl rfl Tryd.underlying9 FnDownByte_c1 FnDownByte_c2
  exact ⟨x0, x1, v0, v1⟩
theorem FnDownByte_own : ownKnob Tryd.prog.godebug = none := by kernel_rfl
theorem FnDownByte_laidOut : laidOutB Tryd.prog = true := by kernel_rfl
set_option maxRecDepth 100000 in
theorem FnDownByte_lifted (os : Os) (started : os.Started) (H : Type) (enc : TypeId × Value → H) :
    ReturnsInHanded {} Tryd.checked os 13 .any (fun w args => (Rows.fnDownByteSpec.pre enc Tryd.prog Tryd.f13 [] false w args ∧ laidMetH Tryd.prog FnDownByte_list w) ∧ sizedMet enc Tryd.prog Tryd.f13 (OpenSpec.ofChange Rows.fnDownByteSpec) false w args) (Rows.fnDownByteSpec.post enc Tryd.prog Tryd.f13 false true false false) := by
  refine returnsInHanded_of_change_and (C := Tryd.checked) (X := fun w _ => laidMetH Tryd.prog FnDownByte_list w) (fun _ _ _ hh h => h.of_heap hh) FnDownByte_own started (by kernel_rfl) Tryd.func13
    (ChangeSpec.witness_shaped (enc := enc) (C := Tryd.checked) (os := os) (X := fun w _ => laidMetH Tryd.prog FnDownByte_list w) false (World.doorLaid Tryd.prog 400 os) #[.slice none 0 0, .slice none 0 0] 8 rfl (World.shaped_of_RefB (by kernel_rfl) (by kernel_rfl)) (by kernel_rfl) (by kernel_rfl) (by kernel_rfl) (FnDownByte_met os _)) ?_
  intro W base args ds gs before hval0 hW hcnd _ hL _
  have hval : ∀ (j : Nat) t v, Tryd.f13.params[j]? = some t → args[j]? = some v → Value.okWide Tryd.prog W .any base t v := hval0
  have hW' := hW
  obtain ⟨p, q, hA0, hV0, rfl, hfz, hnd⟩ := hW
  have hV : DataW.TrodVars enc Tryd.prog W (fun _ => true) ["loop.example/skyway/impl.errShort", "loop.example/skyway/impl.errOther"] gs q := hV0
  obtain ⟨x0, x1, hv0, hv1⟩ := FnDownByte_of hL
  have hA : DataW.TrodAll enc Tryd.prog W 0 (fun _ => true) true Tryd.f13.params.toList args.toList ds p := hA0
  rw [Tryd.params13] at hA hval
  obtain ⟨v0, vs0, d0, ds0, p0, q0, hargs, rfl, rfl, h0, r0⟩ := trodAll_cons hA
  obtain ⟨v1, vs1, d1, ds1, p1, q1, rfl, rfl, rfl, h1, r1⟩ := trodAll_cons r0
  obtain ⟨rfl, rfl, rfl⟩ := trodAll_nil r1
  obtain rfl : args = #[v0, v1] := by cases args; simp_all
  obtain ⟨rfl, rfl⟩ := hV.unique (vars_read2 enc FnDownByte_g0 FnDownByte_t0 Tryd.underlying107 hv0 trivial FnDownByte_g1 FnDownByte_t1 Tryd.underlying107 hv1 trivial _)
  obtain ⟨a0, len0, cap0, rfl⟩ := okWide_slice Tryd.underlying39 (hval 0 39 v0 rfl rfl)
  have k0 := h0
  have lt0 : ∀ x ∈ p0, x.block < W.heap.size := by obtain ⟨m, hm⟩ := k0; exact DataW.trod_lt m _ _ _ hm
  obtain ⟨z0, w0⟩ : ∃ zs, IsRow .u8 W a0 len0 cap0 zs := by
    obtain ⟨fuel, hf⟩ := h0
    rcases open_ints Tryd.underlying39 Tryd.underlying5 (by kernel_rfl) hf with ⟨hcs, _⟩ | ⟨x, l, c, zs, hcs, _, hl, hm, hz, _, hcell, hwz⟩
    · simp [Value.cells] at hcs
      obtain ⟨rfl, rfl, rfl⟩ := hcs
      exact ⟨[], .inl ⟨rfl, rfl, rfl, rfl⟩⟩
    · simp [Value.cells] at hcs
      obtain ⟨rfl, rfl, rfl⟩ := hcs
      exact ⟨zs, .inr ⟨_, rfl, hl, hm, by simpa using hz, hcell, hwz⟩⟩
  obtain ⟨a1, len1, cap1, rfl⟩ := okWide_slice Tryd.underlying39 (hval 1 39 v1 rfl rfl)
  have k1 := h1
  have lt1 : ∀ x ∈ p1, x.block < W.heap.size := by obtain ⟨m, hm⟩ := k1; exact DataW.trod_lt m _ _ _ hm
  obtain ⟨z1, w1⟩ : ∃ zs, IsRow .u8 W a1 len1 cap1 zs := by
    obtain ⟨fuel, hf⟩ := h1
    rcases open_ints Tryd.underlying39 Tryd.underlying5 (by kernel_rfl) hf with ⟨hcs, _⟩ | ⟨x, l, c, zs, hcs, _, hl, hm, hz, _, hcell, hwz⟩
    · simp [Value.cells] at hcs
      obtain ⟨rfl, rfl, rfl⟩ := hcs
      exact ⟨[], .inl ⟨rfl, rfl, rfl, rfl⟩⟩
    · simp [Value.cells] at hcs
      obtain ⟨rfl, rfl, rfl⟩ := hcs
      exact ⟨zs, .inr ⟨_, rfl, hl, hm, by simpa using hz, hcell, hwz⟩⟩
  clear hA0 hval0 hV0
  refine (FnDownByte_walk a0 len0 cap0 z0 a1 len1 cap1 z1 W w0 w1 ⟨x1, x0, (by simpa using World.var?_cell FnDownByte_g1 hv1 0), (by simpa using World.var?_cell FnDownByte_g0 hv0 0)⟩).mono fun e W' ⟨he, bel⟩ => ?_
  subst he
  exact ⟨_, rfl, _, _, _, [], _, _, hW', trodAll_mk1 (shut_bool Tryd.underlying4 _), (trodAll_cons_mk (Below.trod FnDownByte_laidOut (by kernel_rfl) (of_decide_eq_true (by kernel_rfl)) k0 bel lt0) (trodAll_cons_mk (Below.trod FnDownByte_laidOut (by kernel_rfl) (of_decide_eq_true (by kernel_rfl)) k1 bel lt1) trodAll_mk0)), (vars_read2 enc FnDownByte_g0 FnDownByte_t0 Tryd.underlying107 (FnDownByte_var bel hv0) trivial FnDownByte_g1 FnDownByte_t1 Tryd.underlying107 (FnDownByte_var bel hv1) trivial _), bel.frame _, fun h => by cases h⟩
theorem FnDownByte_holds : Rows.FnDownByteSaid :=
  OpenClaim.holds_of_wide 13 Tryd.f13 rfl rfl rfl rfl rfl rfl rfl ⟨rfl, rfl, rfl, rfl, rfl⟩ rfl rfl rfl rfl rfl (by kernel_rfl) Tryd.func13 (by kernel_rfl)
    (of_decide_eq_true (by kernel_rfl)) (by unfold Func.isWrapper; first | (rw [if_pos (by decide +kernel)]; kernel_rfl) | (rw [if_neg (by decide +kernel)]; exact ⟨rfl, rfl⟩))
    (fun os started H enc _ => FnDownByte_lifted os started H enc)
theorem FnDownByte_card : Rows.FnDownByteCardSaid :=
  Claim7.holds_tied_plain_at .later [] [.sentinel, .sentinel] true (true, "d4916f3d9a9138b16cf3363f0ab1195dfe45625b95ab6948d0d5fdd4665c0b46") false
    FnDownByte_holds (fun _ h => by cases h) (by kernel_rfl) (fun _ h => by cases h) fnDownByte_row_tie rfl ⟨rfl, rfl⟩ (by kernel_rfl) rfl
    (fun f fn hf hfn => by
      obtain rfl : f = 13 := Option.some.inj ((show Tryd.prog.funcNamed "loop.example/skyway/laws.FnDownByte" = some 13 by kernel_rfl).symm.trans hf) |>.symm
      obtain rfl : fn = Tryd.f13 := (Option.some.inj (Tryd.func13.symm.trans hfn)).symm
      exact ⟨by kernel_rfl, fun j t ht => by
        rw [Tryd.params13] at ht
        have hm : t ∈ ([39, 39] : List TypeId) := by simpa using Array.mem_of_getElem? ht
        have hall : (([39, 39] : List TypeId).all fun u => !Tryd.prog.wantsStandIn u) = true := by kernel_rfl
        exact (show Tryd.prog.wantsStandIn t = false by simpa using List.all_eq_true.1 hall t hm)⟩)
    (by kernel_rfl)
#print axioms FnDownByte_card
end Go.Proofs.YtccpdadabndleaaDoor
