/- Proved: laws.FnCltuSpoil returns true at every two slices of bytes (of code blocks of which one byte is turned, but its highest bit, less is read than was sent, and only how that begins), and leaves them as they were. No condition. -/
import Derived.Test.YthhibeepfecmdaaDrawV
import Derived.Test.YthhibeepfecmdaaCltW
import Derived.Test.YthhibeepfecmdaaCltP
import Derived.Test.YthhibeepfecmdaaFrame
namespace Go.Proofs.Ythhibeepfecmdaa
open Go.ChangeShapes Go.WideShapes Go.ChangeAt Go.RowKit
open Go.ChangeMaps (open_string shut_string)
set_option linter.unusedVariables false
theorem padAll_len (t : ByteArray) (k : Nat) : (padAll t k).size = 7 * k := by
  unfold padAll; rw [ByteArray.size_append, ByteArray.size_extract, rep85_size]; omega
theorem spoil_ex (s : ByteArray) (K k d : Nat) (hK1 : 1 ≤ K) (hK9 : K ≤ 9) (hKb : 7 * K < s.size + 7) (hk : k < 2 + 8 * K) (h0 : d ≠ 0) (hd : d < 128) :
    ∃ t : ByteArray, t.size < 7 * K ∧ (padAll s K).extract 0 t.size = t ∧ ∀ w, Calls Try.prog 18 #[.string (setB (cltB s K) k (byteAt (cltB s K) k ^^^ d))] w fun e w' => e = .returned (.string t) ∧ Below w.heap.size w w' := by
  have hxs := cltB_size s K
  have hus : (setB (cltB s K) k (byteAt (cltB s K) k ^^^ d)).size = 10 + 8 * K := by rw [setB_size, hxs]
  by_cases h2 : k < 2
  · refine ⟨⟨#[]⟩, by show 0 < 7 * K; omega, ?_, fun w => implCltuRead_no _ w (by unfold maxLen; omega) (pre_turned s K k d h2 h0 hd)⟩
    apply bL_inj
    rw [bL_ext]
    show _ = []
    have : (⟨#[]⟩ : ByteArray).size = 0 := rfl
    rw [this]; rfl
  · have hj : (k - 2) / 8 < K := by omega
    refine ⟨padAll s ((k - 2) / 8), by rw [padAll_len]; omega, by rw [padAll_len]; exact padAll_pre s hKb hj, fun w => ?_⟩
    have hst := stop_turned s hK9 (by omega) hk h0 hd
    rw [byte_shift s K k (by omega), ← setB_rest s K k _ (by omega)] at hst
    have := implCltuRead_yes (setB (cltB s K) k (byteAt (cltB s K) k ^^^ d)) ((k - 2) / 8) w (by omega) (pre_set s K k _ (by omega)) hst
    rw [setB_rest s K k _ (by omega), getB_set (by omega), getB_rest s hKb _ (by omega)] at this
    exact this
set_option maxRecDepth 100000 in
set_option maxHeartbeats 4000000 in
theorem FnCltuSpoil_walk (a : Option Addr) (len cap : Nat) (zs : List Int) (a1 : Option Addr) (len1 cap1 : Nat) (zs1 : List Int) (w : World) (h : IsRow .u8 w a len cap zs) (h1 : IsRow .u8 w a1 len1 cap1 zs1) :
    Calls Try.prog 5 #[.slice a len cap, .slice a1 len1 cap1] w fun e w' => e = .returned (.bool true) ∧ Below w.heap.size w w' := by
  have H : Hid _ := h
  clear h h1
  by_cases hbig : 1048576 < (len : Int)
  · go_enter Try.func5, Try.ntmps5
    go_wp2_with fail
    go_ret
    exact ⟨rfl, Below.refl _ _⟩
  by_cases hbig1 : 1048576 < (len1 : Int)
  · go_enter Try.func5, Try.ntmps5
    go_wp2_with fail
    go_ret
    exact ⟨rfl, Below.refl _ _⟩
  go_enter Try.func5, Try.ntmps5
  go_wp2_with fail
  refine (DrawCltuPut_any a len cap zs _ H.out).mono ?_
  rintro e w1 ⟨s, hs, rfl, hb1⟩
  have HB1 : Hid _ := hb1
  clear hb1
  have hsm : s.size ≤ maxLen := by unfold maxLen; omega
  by_cases hno : s.size < 1 ∨ 63 < s.size
  · have HN : Hid _ := hno
    clear hno
    go_wp2_with fail
    refine (implCltuPut_no s _ HN.out hsm).mono ?_
    rintro e w2 ⟨rfl, hb2⟩
    have HB2 : Hid (Below w.heap.size w w2) := HB1.out.trans (hb2.mono HB1.out.size)
    clear hb2
    go_wp2_with fail
    refine (specCltuPut_no s _ HN.out).mono ?_
    rintro e w3 ⟨rfl, hb3⟩
    have HB3 : Hid (Below w.heap.size w w3) := HB2.out.trans (hb3.mono HB2.out.size)
    clear hb3
    go_wp2_with fail
    refine (specCltuPut_no s _ HN.out).mono ?_
    rintro e w4 ⟨rfl, hb4⟩
    have HB4 : Hid (Below w.heap.size w w4) := HB3.out.trans (hb4.mono HB3.out.size)
    clear hb4
    go_wp2_with fail
    go_ret
    exact ⟨rfl, HB4.out⟩
  have h1 : 1 ≤ s.size := by omega
  have h63 : s.size ≤ 63 := by omega
  obtain ⟨K, hK⟩ : ∃ K, K = (s.size + 6) / 7 := ⟨_, rfl⟩
  have hK9 : K ≤ 9 := by omega
  have hK1 : 1 ≤ K := by omega
  have hKb : 7 * K < s.size + 7 := by omega
  have HP : Hid (∀ w, Calls Try.prog 16 #[.string s] w fun e w' => e = .returned (.string (cltB s K)) ∧ Below w.heap.size w w') := by rw [hK]; exact fun w => implCltuPut_any s w h1 h63
  have HS : Hid (∀ w, Calls Try.prog 17 #[.string s] w fun e w' => e = .returned (.string (cltB s K)) ∧ Below w.heap.size w w') := by rw [hK]; exact fun w => specCltuPut_any s w h1 h63
  have hxs : (cltB s K).size = 10 + 8 * K := cltB_size s K
  have HR : Hid (∀ w, Calls Try.prog 18 #[.string (cltB s K)] w fun e w' => e = .returned (.string (padAll s K)) ∧ Below w.heap.size w w') := by
    intro w
    have hk := stop_rest s hK9
    rw [← clt_rest s K] at hk
    have := implCltuRead_yes (cltB s K) K w (by omega) (pre_clt s K) hk
    rw [clt_rest s K, getB_rest s hKb K (Nat.le_refl _)] at this
    exact this
  have HEX : Hid (∀ k d, k < 2 + 8 * K → d ≠ 0 → d < 128 → ∃ t : ByteArray, t.size < 7 * K ∧ (padAll s K).extract 0 t.size = t ∧ ∀ w, Calls Try.prog 18 #[.string (setB (cltB s K) k (byteAt (cltB s K) k ^^^ d))] w fun e w' => e = .returned (.string t) ∧ Below w.heap.size w w') := fun k d hk h0 hd => spoil_ex s K k d hK1 hK9 hKb hk h0 hd
  have hts : (padAll s K).size = 7 * K := padAll_len s K
  have hne : (cltB s K).toList.isEmpty = false := by
    rw [ByteArray.toList_eq]
    have : bL (cltB s K) ≠ [] := fun e => by have := congrArg List.length e; rw [bL_len, hxs] at this; simp at this
    simpa using this
  clear hK
  generalize cltB s K = x at *
  generalize padAll s K = wh at *
  go_wp2_with fail
  refine (HP.out _).mono ?_
  rintro e w2 ⟨rfl, hb2⟩
  have HB2 : Hid (Below w.heap.size w w2) := HB1.out.trans (hb2.mono HB1.out.size)
  clear hb2
  go_wp2_with fail
  refine (HS.out _).mono ?_
  rintro e w3 ⟨rfl, hb3⟩
  have HB3 : Hid (Below w.heap.size w w3) := HB2.out.trans (hb3.mono HB2.out.size)
  clear hb3 HP HS
  obtain ⟨cap', W, hcv, hcell, hfz, hbW, hgW⟩ := bytes_new x w3
  obtain ⟨k, hk⟩ : ∃ k, k = (len1 * 7 + len) % (x.size - 8) := ⟨_, rfl⟩
  have hks : k < x.size - 8 := by rw [hk]; exact Nat.mod_lt _ (by omega)
  have e1 : True → ((len1 : Int) * 7 + (len : Int)) % ((x.size : Int) - 8) = (k : Int) := fun _ => by
    rw [hk, Int.natCast_emod, show ((len1 * 7 + len : Nat) : Int) = (len1 : Int) * 7 + len from by omega, show ((x.size - 8 : Nat) : Int) = (x.size : Int) - 8 from by omega]
  have hxb : x.size ≤ 82 := by omega
  have hxa : 18 ≤ x.size := by omega
  have hne0 : ((x.size : Int) - 8 == 0) = false := by rw [beq_eq_false_iff_ne]; omega
  have hkx : k < x.size := by omega
  have hki : (k : Int) < (x.size : Int) := by omega
  have hkc := hcell _ hkx
  have hkf := hfz _ hkx
  have hbl := byteAt_lt x k
  have hxo : bits .xor .u8 ((byteAt x k : Nat) : Int) (1 + (len1 : Int) % 127) = ((byteAt x k ^^^ (1 + len1 % 127) : Nat) : Int) := by
    rw [show 1 + (len1 : Int) % 127 = ((1 + len1 % 127 : Nat) : Int) from by omega, u8_xor_nat _ _ (by omega) (by omega)]
  have hvl : byteAt x k ^^^ (1 + len1 % 127) < 256 := Nat.xor_lt_two_pow (n := 8) hbl (by omega)
  obtain ⟨t, htl, htp, htr⟩ := HEX.out k (1 + len1 % 127) (by omega) (by omega) (by omega)
  have HTR : Hid _ := htr
  have HTP : Hid _ := htp
  have hct := bytes_turned x W w3.heap.size cap' k _ hcell hkx hvl
  clear hk htr htp HEX hxs hks
  generalize setB x k (byteAt x k ^^^ (1 + len1 % 127)) = u at *
  generalize byteAt x k ^^^ (1 + len1 % 127) = v at hxo hct hvl
  have HBW : Hid (Below w.heap.size w (W.setCell ⟨w3.heap.size, k, none⟩ (.int .u8 (v : Int)))) := (HB3.out.trans (hbW.mono HB3.out.size)).setCell HB3.out.size _
  clear hcell hfz hbW
  go_wp2_with fail
  generalize W.setCell ⟨w3.heap.size, k, none⟩ (.int .u8 (v : Int)) = W5 at *
  refine (HTR.out _).mono ?_
  rintro e w6 ⟨rfl, hb6⟩
  have HB6 : Hid (Below w.heap.size w w6) := HBW.out.trans (hb6.mono HBW.out.size)
  clear hb6
  go_wp2_with fail
  refine (HR.out _).mono ?_
  rintro e w7 ⟨rfl, hb7⟩
  have HB7 : Hid (Below w.heap.size w w7) := HB6.out.trans (hb7.mono HB6.out.size)
  clear hb7
  have htp := HTP.out
  have htl' : (t.size : Int) < 7 * (K : Int) := by omega
  clear e1 hxo hct hcv hkc hkf
  go_wp2_with fail
  go_ret
  exact ⟨rfl, HB7.out⟩
theorem FnCltuSpoil_own : ownKnob Try.prog.godebug = none := by kernel_rfl
theorem FnCltuSpoil_laidOut : laidOutB Try.prog = true := by kernel_rfl
set_option maxRecDepth 100000 in
theorem FnCltuSpoil_lifted (os : Os) (started : os.Started) (H : Type) (enc : TypeId × Value → H) :
    ReturnsInHanded {} Try.checked os 5 .any (Rows.fnCltuSpoilSpec.pre6 enc Try.prog Try.f5 Rows.fnCltuSpoilRow.domain false) (Rows.fnCltuSpoilSpec.post enc Try.prog Try.f5 false true false false) := by
  refine returnsInHanded_of_change (C := Try.checked) FnCltuSpoil_own started (by kernel_rfl) Try.func5
    (ChangeSpec.witness6 (enc := enc) (C := Try.checked) false ⟨#[], #[.slice none 0 0, .slice none 0 0], []⟩ 8 (by kernel_rfl) (by kernel_rfl) (by kernel_rfl) (by kernel_rfl)) ?_
  intro W base args ds gs before hval0 hW hcnd _
  have hval : ∀ (j : Nat) t v, Try.f5.params[j]? = some t → args[j]? = some v → Value.okWide Try.prog W .any base t v := hval0
  have hW' := hW
  obtain ⟨p, q, hA0, hV, rfl, hfz, hnd⟩ := hW
  have hA : DataW.TrodAll enc Try.prog W 0 (fun _ => true) true Try.f5.params.toList args.toList ds p := hA0
  rw [Try.params5] at hA hval
  obtain ⟨v0, vs0, d0, ds0, p0, q0, hargs, rfl, rfl, h0, r0⟩ := trodAll_cons hA
  obtain ⟨v1, vs1, d1, ds1, p1, q1, rfl, rfl, rfl, h1, r1⟩ := trodAll_cons r0
  obtain ⟨rfl, rfl, rfl⟩ := trodAll_nil r1
  obtain rfl : args = #[v0, v1] := by cases args; simp_all
  obtain ⟨rfl, rfl⟩ := trodVars_none hV
  obtain ⟨a0, len0, cap0, rfl⟩ := okWide_slice Try.underlying22 (hval 0 22 v0 rfl rfl)
  have k0 := h0
  have lt0 : ∀ x ∈ p0, x.block < W.heap.size := by obtain ⟨m, hm⟩ := k0; exact DataW.trod_lt m _ _ _ hm
  obtain ⟨z0, w0⟩ : ∃ zs, IsRow .u8 W a0 len0 cap0 zs := by
    obtain ⟨fuel, hf⟩ := h0
    rcases open_ints Try.underlying22 Try.underlying5 (by kernel_rfl) hf with ⟨hcs, _⟩ | ⟨x, l, c, zs, hcs, _, hl, hm, hz, _, hcell, hwz⟩
    · simp [Value.cells] at hcs
      obtain ⟨rfl, rfl, rfl⟩ := hcs
      exact ⟨[], .inl ⟨rfl, rfl, rfl, rfl⟩⟩
    · simp [Value.cells] at hcs
      obtain ⟨rfl, rfl, rfl⟩ := hcs
      exact ⟨zs, .inr ⟨_, rfl, hl, hm, by simpa using hz, hcell, hwz⟩⟩
  obtain ⟨a1, len1, cap1, rfl⟩ := okWide_slice Try.underlying22 (hval 1 22 v1 rfl rfl)
  have k1 := h1
  have lt1 : ∀ x ∈ p1, x.block < W.heap.size := by obtain ⟨m, hm⟩ := k1; exact DataW.trod_lt m _ _ _ hm
  obtain ⟨z1, w1⟩ : ∃ zs, IsRow .u8 W a1 len1 cap1 zs := by
    obtain ⟨fuel, hf⟩ := h1
    rcases open_ints Try.underlying22 Try.underlying5 (by kernel_rfl) hf with ⟨hcs, _⟩ | ⟨x, l, c, zs, hcs, _, hl, hm, hz, _, hcell, hwz⟩
    · simp [Value.cells] at hcs
      obtain ⟨rfl, rfl, rfl⟩ := hcs
      exact ⟨[], .inl ⟨rfl, rfl, rfl, rfl⟩⟩
    · simp [Value.cells] at hcs
      obtain ⟨rfl, rfl, rfl⟩ := hcs
      exact ⟨zs, .inr ⟨_, rfl, hl, hm, by simpa using hz, hcell, hwz⟩⟩
  clear hA0 hval0
  refine (FnCltuSpoil_walk a0 len0 cap0 z0 a1 len1 cap1 z1 W w0 w1).mono fun e W' ⟨he, bel⟩ => ?_
  subst he
  exact ⟨_, rfl, _, _, _, [], _, [], hW', trodAll_mk1 (shut_bool Try.underlying4 _), (trodAll_cons_mk (Below.trod FnCltuSpoil_laidOut (by kernel_rfl) (of_decide_eq_true (by kernel_rfl)) k0 bel lt0) (trodAll_cons_mk (Below.trod FnCltuSpoil_laidOut (by kernel_rfl) (of_decide_eq_true (by kernel_rfl)) k1 bel lt1) trodAll_mk0)), rfl, bel.frame _, fun h => by cases h⟩
theorem FnCltuSpoil_holds : Rows.FnCltuSpoilSaid :=
  OpenClaim.holds_of_wide 5 Try.f5 rfl rfl rfl rfl rfl rfl rfl ⟨rfl, rfl, rfl, rfl, rfl⟩ rfl rfl rfl rfl rfl (by kernel_rfl) Try.func5 (by kernel_rfl)
    (of_decide_eq_true (by kernel_rfl)) (by unfold Func.isWrapper; first | (rw [if_pos (by decide +kernel)]; kernel_rfl) | (rw [if_neg (by decide +kernel)]; exact ⟨rfl, rfl⟩))
    (fun os started H enc _ => FnCltuSpoil_lifted os started H enc)
#print axioms FnCltuSpoil_holds
end Go.Proofs.Ythhibeepfecmdaa
