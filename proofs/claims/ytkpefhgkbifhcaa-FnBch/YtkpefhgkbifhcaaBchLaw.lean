/- Proved: laws.FnBch returns true at every two slices of bytes (one byte of seven turned, but its highest bit, turns the parity), and leaves them as they were. No condition. -/
import Derived.Test.YtkpefhgkbifhcaaDrawB
import Derived.Test.YtkpefhgkbifhcaaBchL
import Derived.Test.YtkpefhgkbifhcaaBchW
import Derived.Test.YtkpefhgkbifhcaaTurn
import Derived.Test.YtkpefhgkbifhcaaSkIn
namespace Go.Proofs.Ytkpefhgkbifhcaa
open Go.ChangeShapes Go.WideShapes Go.ChangeAt Go.RowKit
open Go.ChangeMaps (open_string shut_string)
set_option linter.unusedVariables false

set_option maxHeartbeats 400000 in
theorem FnBch_walk (a : Option Addr) (len cap : Nat) (zs : List Int) (a1 : Option Addr) (len1 cap1 : Nat) (zs1 : List Int) (w : World) (h : IsRow .u8 w a len cap zs) (h1 : IsRow .u8 w a1 len1 cap1 zs1) :
    Calls Try.prog 6 #[.slice a len cap, .slice a1 len1 cap1] w fun e w' => e = .returned (.bool true) ∧ Below w.heap.size w w' := by
  have H : Hid (IsRow .u8 w a len cap zs) := h
  clear h h1
  by_cases hbig : 1048576 < (len : Int)
  · go_enter Try.func6, Try.ntmps6
    go_wp2_with fail
    go_ret
    exact ⟨rfl, Below.refl _ _⟩
  by_cases hbig1 : 1048576 < (len1 : Int)
  · go_enter Try.func6, Try.ntmps6
    go_wp2_with fail
    go_ret
    exact ⟨rfl, Below.refl _ _⟩
  go_enter Try.func6, Try.ntmps6
  go_wp2_with fail
  refine (DrawBch_any a len cap zs _ H.out).mono ?_
  rintro e w1 ⟨s, hs7, hs9, rfl, hb1⟩
  by_cases h7 : s.size = 7
  · have H7 : Hid (s.size = 7) := h7
    have hne : ((s.size : Int) != 7) = false := by rw [bne_eq_false_iff_eq]; omega
    clear h7
    go_wp2_with fail
    refine (implBch_any s _ H7.out).mono ?_
    rintro e w2 ⟨rfl, rfl⟩
    go_wp2_with fail
    refine (specBch_any s _ H7.out).mono ?_
    rintro e w2 ⟨rfl, rfl⟩
    obtain ⟨cap', W, hcv, hcell, hfz, hbW, hgW⟩ := bytes_new s w2
    have hk7 : len1 % 7 < 7 := by omega
    have hks : len1 % 7 < s.size := by omega
    have hkc := hcell _ hks
    have hkf := hfz _ hks
    have hbl := byteAt_lt s (len1 % 7)
    have hdl : 1 + len % 127 < 128 := by omega
    have hx : bits .xor .u8 ((byteAt s (len1 % 7) : Nat) : Int) (1 + (len : Int) % 127) = ((byteAt s (len1 % 7) ^^^ (1 + len % 127) : Nat) : Int) := by
      rw [show 1 + (len : Int) % 127 = ((1 + len % 127 : Nat) : Int) from by omega, u8_xor_nat _ _ (by omega) (by omega)]
    have hvl : byteAt s (len1 % 7) ^^^ (1 + len % 127) < 256 := Nat.xor_lt_two_pow (n := 8) hbl (by omega)
    obtain ⟨l, r, b, hl1, hl2, hb⟩ := setB_split s (len1 % 7) (byteAt s (len1 % 7) ^^^ (1 + len % 127)) hks
    have hnb : bchV (setB s (len1 % 7) (byteAt s (len1 % 7) ^^^ (1 + len % 127))) ≠ bchV s := by
      refine bchV_turn H7.out (by rw [setB_size]; exact H7.out) ?_
      rw [hl1, hl2]
      refine bchL_turn l r b _ (1 + len % 127) hdl (by omega) ?_
      rw [UInt8.toNat_ofNat', hb, Nat.mod_eq_of_lt hvl]
    have hct := bytes_turned s W w2.heap.size cap' (len1 % 7) _ hcell hks hvl
    have HT : Hid ((setB s (len1 % 7) (byteAt s (len1 % 7) ^^^ (1 + len % 127))).size = 7) := by unfold Hid; rw [setB_size]; exact H7.out
    generalize setB s (len1 % 7) (byteAt s (len1 % 7) ^^^ (1 + len % 127)) = u at hct hnb HT
    generalize byteAt s (len1 % 7) ^^^ (1 + len % 127) = v at hx hct hvl
    have hv2 := bchV_lt s
    have hev : bchV s % 2 = 0 := by unfold bchV; omega
    have hev' : ((bchV s : Nat) : Int) % 2 = 0 := by omega
    have hevb : (((bchV s : Nat) : Int) % 2 == 0) = true := by rw [beq_iff_eq]; omega
    have hneb : (((bchV u : Nat) : Int) != ((bchV s : Nat) : Int)) = true := by rw [bne_iff_ne]; omega
    have HBW : Hid (Below w.heap.size w (W.setCell ⟨w2.heap.size, len1 % 7, none⟩ (.int .u8 (v : Int)))) := (hb1.trans (hbW.mono hb1.size)).setCell hb1.size _
    clear hcell hfz hl1 hl2 hb hbW hb1 hev hev' hnb
    have hin : inB ((bchV s : Nat) : Int) 0 254 = true := inB_yes (by omega) (by omega)
    go_wp2_with fail
    refine (skIn_any _ _ _ _).mono ?_
    rintro e w3 ⟨rfl, rfl⟩
    go_wp2_with fail
    refine (implBch_any u _ HT.out).mono ?_
    rintro e w4 ⟨rfl, rfl⟩
    go_wp2_with fail
    go_ret
    exact ⟨rfl, HBW.out⟩
  · have hne : ((s.size : Int) != 7) = true := by rw [bne_iff_ne]; omega
    go_wp2_with fail
    refine (implBch_no s _ h7).mono ?_
    rintro e w2 ⟨rfl, rfl⟩
    go_wp2_with fail
    refine (specBch_no s _ h7).mono ?_
    rintro e w2 ⟨rfl, rfl⟩
    go_wp2_with fail
    refine (specBch_no s _ h7).mono ?_
    rintro e w2 ⟨rfl, rfl⟩
    go_wp2_with fail
    go_ret
    exact ⟨rfl, hb1⟩

theorem FnBch_own : ownKnob Try.prog.godebug = none := by kernel_rfl
theorem FnBch_laidOut : laidOutB Try.prog = true := by kernel_rfl
set_option maxRecDepth 100000 in
theorem FnBch_lifted (os : Os) (started : os.Started) (H : Type) (enc : TypeId × Value → H) :
    ReturnsInHanded {} Try.checked os 6 .any (Rows.fnBchSpec.pre6 enc Try.prog Try.f6 Rows.fnBchRow.domain false) (Rows.fnBchSpec.post enc Try.prog Try.f6 false true false false) := by
  refine returnsInHanded_of_change (C := Try.checked) FnBch_own started (by kernel_rfl) Try.func6
    (ChangeSpec.witness6 (enc := enc) (C := Try.checked) false ⟨#[], #[.slice none 0 0, .slice none 0 0], []⟩ 8 (by kernel_rfl) (by kernel_rfl) (by kernel_rfl) (by kernel_rfl)) ?_
  intro W base args ds gs before hval0 hW hcnd _
  have hval : ∀ (j : Nat) t v, Try.f6.params[j]? = some t → args[j]? = some v → Value.okWide Try.prog W .any base t v := hval0
  have hW' := hW
  obtain ⟨p, q, hA0, hV, rfl, hfz, hnd⟩ := hW
  have hA : DataW.TrodAll enc Try.prog W 0 (fun _ => true) true Try.f6.params.toList args.toList ds p := hA0
  rw [Try.params6] at hA hval
  obtain ⟨v0, vs0, d0, ds0, p0, q0, hargs, rfl, rfl, h0, r0⟩ := trodAll_cons hA
  obtain ⟨v1, vs1, d1, ds1, p1, q1, rfl, rfl, rfl, h1, r1⟩ := trodAll_cons r0
  obtain ⟨rfl, rfl, rfl⟩ := trodAll_nil r1
  obtain rfl : args = #[v0, v1] := by cases args; simp_all
  obtain ⟨rfl, rfl⟩ := trodVars_none hV
  obtain ⟨a0, len0, cap0, rfl⟩ := okWide_slice Try.underlying22 (hval 0 22 v0 rfl rfl)
  have k0 := h0
  have lt0 : ∀ x ∈ p0, x.block < W.heap.size := by obtain ⟨m, hm⟩ := k0; exact DataW.trod_lt m _ _ _ hm
  obtain ⟨z0, w0⟩ : ∃ zs, IsRow .u8 W a0 len0 cap0 zs := by
    obtain ⟨fuel, hf⟩ := h0
    rcases open_ints Try.underlying22 Try.underlying5 (by kernel_rfl) hf with ⟨hcs, _⟩ | ⟨x, l, c, zs, hcs, _, hl, hm, hz, _, hcell, hwz⟩
    · simp [Value.cells] at hcs
      obtain ⟨rfl, rfl, rfl⟩ := hcs
      exact ⟨[], .inl ⟨rfl, rfl, rfl, rfl⟩⟩
    · simp [Value.cells] at hcs
      obtain ⟨rfl, rfl, rfl⟩ := hcs
      exact ⟨zs, .inr ⟨_, rfl, hl, hm, by simpa using hz, hcell, hwz⟩⟩
  obtain ⟨a1, len1, cap1, rfl⟩ := okWide_slice Try.underlying22 (hval 1 22 v1 rfl rfl)
  have k1 := h1
  have lt1 : ∀ x ∈ p1, x.block < W.heap.size := by obtain ⟨m, hm⟩ := k1; exact DataW.trod_lt m _ _ _ hm
  obtain ⟨z1, w1⟩ : ∃ zs, IsRow .u8 W a1 len1 cap1 zs := by
    obtain ⟨fuel, hf⟩ := h1
    rcases open_ints Try.underlying22 Try.underlying5 (by kernel_rfl) hf with ⟨hcs, _⟩ | ⟨x, l, c, zs, hcs, _, hl, hm, hz, _, hcell, hwz⟩
    · simp [Value.cells] at hcs
      obtain ⟨rfl, rfl, rfl⟩ := hcs
      exact ⟨[], .inl ⟨rfl, rfl, rfl, rfl⟩⟩
    · simp [Value.cells] at hcs
      obtain ⟨rfl, rfl, rfl⟩ := hcs
      exact ⟨zs, .inr ⟨_, rfl, hl, hm, by simpa using hz, hcell, hwz⟩⟩
  clear hA0 hval0
  refine (FnBch_walk a0 len0 cap0 z0 a1 len1 cap1 z1 W w0 w1).mono fun e W' ⟨he, bel⟩ => ?_
  subst he
  exact ⟨_, rfl, _, _, _, [], _, [], hW', trodAll_mk1 (shut_bool Try.underlying4 _), (trodAll_cons_mk (Below.trod FnBch_laidOut (by kernel_rfl) (of_decide_eq_true (by kernel_rfl)) k0 bel lt0) (trodAll_cons_mk (Below.trod FnBch_laidOut (by kernel_rfl) (of_decide_eq_true (by kernel_rfl)) k1 bel lt1) trodAll_mk0)), rfl, bel.frame _, fun h => by cases h⟩
theorem FnBch_holds : Rows.FnBchSaid :=
  OpenClaim.holds_of_wide 6 Try.f6 rfl rfl rfl rfl rfl rfl rfl ⟨rfl, rfl, rfl, rfl, rfl⟩ rfl rfl rfl rfl rfl (by kernel_rfl) Try.func6 (by kernel_rfl)
    (of_decide_eq_true (by kernel_rfl)) (by unfold Func.isWrapper; first | (rw [if_pos (by decide +kernel)]; kernel_rfl) | (rw [if_neg (by decide +kernel)]; exact ⟨rfl, rfl⟩))
    (fun os started H enc _ => FnBch_lifted os started H enc)
#print axioms FnBch_holds
end Go.Proofs.Ytkpefhgkbifhcaa
