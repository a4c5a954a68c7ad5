/- Proved: laws.FnCrc16 returns true at every two slices of bytes (the sum of '123456789' is 10673; one byte turned turns the sum), and leaves them as they were. No condition. -/
import Derived.Test.YtkpefhgkbifhcaaDrawC
import Derived.Test.YtkpefhgkbifhcaaCrcL
import Derived.Test.YtkpefhgkbifhcaaCrcS
import Derived.Test.YtkpefhgkbifhcaaTurn
import Derived.Test.YtkpefhgkbifhcaaSkIn
namespace Go.Proofs.Ytkpefhgkbifhcaa
open Go.ChangeShapes Go.WideShapes Go.ChangeAt Go.RowKit
open Go.ChangeMaps (open_string shut_string)
set_option linter.unusedVariables false

def nine : ByteArray := ⟨#[49, 50, 51, 52, 53, 54, 55, 56, 57]⟩
theorem nine_sum : crcTo nine nine.size = 10673 := by decide +kernel
theorem nine_any (w : World) : Calls Try.prog 18 #[.string ⟨#[49, 50, 51, 52, 53, 54, 55, 56, 57]⟩] w fun e w' => e = .returned (.int .i64 10673) ∧ Below w.heap.size w w' := by
  have h := implCrc16_any nine w (by unfold maxLen; decide +kernel)
  rw [nine_sum] at h
  exact h
theorem crc_turn (s : ByteArray) (k d : Nat) (hk : k < s.size) (hd : d < 256) (h0 : d ≠ 0) :
    crcTo (setB s k (byteAt s k ^^^ d)) (setB s k (byteAt s k ^^^ d)).size ≠ crcTo s s.size := by
  have hbl := byteAt_lt s k
  have hvl : byteAt s k ^^^ d < 256 := Nat.xor_lt_two_pow (n := 8) hbl hd
  obtain ⟨l, r, b, hl1, hl2, hb⟩ := setB_split s k (byteAt s k ^^^ d) hk
  rw [crcTo_all, crcTo_all, hl1, hl2]
  refine crcL_turn l r _ b (fun e => ?_)
  have e2 := congrArg UInt8.toNat e
  rw [UInt8.toNat_ofNat', hb, Nat.mod_eq_of_lt hvl] at e2
  have e3 := congrArg (byteAt s k ^^^ ·) e2
  simp only [← Nat.xor_assoc, Nat.xor_self, Nat.zero_xor] at e3
  exact h0 e3

theorem size_pos {s : ByteArray} (h : s.toList.isEmpty = false) : 0 < s.size := by
  rcases Nat.eq_zero_or_pos s.size with h0 | h0
  · have e : s = ByteArray.empty := by
      apply ByteArray.ext
      have : s.data.size = 0 := h0
      rw [Array.size_eq_zero_iff.1 this]; rfl
    subst e
    exact absurd h (by decide +kernel)
  · exact h0
set_option maxHeartbeats 400000 in
theorem FnCrc16_walk (a : Option Addr) (len cap : Nat) (zs : List Int) (a1 : Option Addr) (len1 cap1 : Nat) (zs1 : List Int) (w : World) (h : IsRow .u8 w a len cap zs) (h1 : IsRow .u8 w a1 len1 cap1 zs1) :
    Calls Try.prog 4 #[.slice a len cap, .slice a1 len1 cap1] w fun e w' => e = .returned (.bool true) ∧ Below w.heap.size w w' := by
  have H : Hid (IsRow .u8 w a len cap zs) := h
  clear h h1
  by_cases hbig : 1048576 < (len : Int)
  · go_enter Try.func4, Try.ntmps4
    go_wp2_with fail
    go_ret
    exact ⟨rfl, Below.refl _ _⟩
  by_cases hbig1 : 1048576 < (len1 : Int)
  · go_enter Try.func4, Try.ntmps4
    go_wp2_with fail
    go_ret
    exact ⟨rfl, Below.refl _ _⟩
  go_enter Try.func4, Try.ntmps4
  go_wp2_with fail
  refine (DrawCrc16_any a len cap zs _ H.out).mono ?_
  rintro e w1 ⟨s, hs, rfl, hb1⟩
  have hm : s.size ≤ maxLen := by unfold maxLen; omega
  have hlt := crcTo_lt s s.size
  have hin : inB ((crcTo s s.size : Nat) : Int) 0 65535 = true := inB_yes (by omega) (by omega)
  go_wp2_with fail
  refine (implCrc16_any s _ hm).mono ?_
  rintro e w2 ⟨rfl, hb2⟩
  go_wp2_with fail
  refine (specCrc16_any s _ hm).mono ?_
  rintro e w3 ⟨rfl, rfl⟩
  go_wp2_with fail
  refine (nine_any _).mono ?_
  rintro e w4 ⟨rfl, hb4⟩
  go_wp2_with fail
  refine (skIn_any _ _ _ _).mono ?_
  rintro e w5 ⟨rfl, rfl⟩
  have hB5 : Below w.heap.size w w5 := (hb1.trans (hb2.mono hb1.size)).trans (hb4.mono (by have := hb1.size; have := hb2.size; omega))
  clear hb1 hb2 hb4
  cases he : s.toList.isEmpty
  · have h0 : 0 < s.size := size_pos he
    obtain ⟨cap', W, hcv, hcell, hfz, hbW, hgW⟩ := bytes_new s w5
    have hks : len1 % s.size < s.size := Nat.mod_lt _ h0
    have e1 : True → (len1 : Int) % (s.size : Int) = ((len1 % s.size : Nat) : Int) := fun _ => by simp
    have hne0 : ((s.size : Int) == 0) = false := by rw [beq_eq_false_iff_ne]; omega
    generalize len1 % s.size = k at hks e1
    have hki : (k : Int) < (s.size : Int) := by omega
    have hkc := hcell _ hks
    have hkf := hfz _ hks
    have hbl := byteAt_lt s k
    have hx : bits .xor .u8 ((byteAt s k : Nat) : Int) (1 + (len : Int) % 255) = ((byteAt s k ^^^ (1 + len % 255) : Nat) : Int) := by
      rw [show 1 + (len : Int) % 255 = ((1 + len % 255 : Nat) : Int) from by omega, u8_xor_nat _ _ (by omega) (by omega)]
    have hvl : byteAt s k ^^^ (1 + len % 255) < 256 := Nat.xor_lt_two_pow (n := 8) hbl (by omega)
    have hnb := crc_turn s k (1 + len % 255) hks (by omega) (by omega)
    have hct := bytes_turned s W w5.heap.size cap' k _ hcell hks hvl
    have HT : Hid ((setB s k (byteAt s k ^^^ (1 + len % 255))).size = s.size) := setB_size _ _ _
    generalize setB s k (byteAt s k ^^^ (1 + len % 255)) = u at hct hnb HT
    generalize byteAt s k ^^^ (1 + len % 255) = v at hx hct hvl
    have hmu : u.size ≤ maxLen := by rw [HT.out]; exact hm
    have hneb : (((crcTo u u.size : Nat) : Int) != ((crcTo s s.size : Nat) : Int)) = true := by rw [bne_iff_ne]; omega
    have HBW : Hid (Below w.heap.size w (W.setCell ⟨w5.heap.size, k, none⟩ (.int .u8 (v : Int)))) := (hB5.trans (hbW.mono hB5.size)).setCell hB5.size _
    have HSW : Hid (w.heap.size ≤ (W.setCell ⟨w5.heap.size, k, none⟩ (.int .u8 (v : Int))).heap.size) := HBW.out.size
    clear hcell hfz hbW hB5 hnb
    go_wp2_with fail
    refine (implCrc16_any u _ hmu).mono ?_
    rintro e w6 ⟨rfl, hb6⟩
    have HB : Hid (Below w.heap.size w w6) := HBW.out.trans (hb6.mono HSW.out)
    clear hb6
    go_wp2_with fail
    go_ret
    exact ⟨rfl, HB.out⟩
  · go_wp2_with fail
    refine (specCrc16_any s _ hm).mono ?_
    rintro e w6 ⟨rfl, rfl⟩
    go_wp2_with fail
    refine (nine_any _).mono ?_
    rintro e w7 ⟨rfl, hb7⟩
    have HB : Hid (Below w.heap.size w w7) := hB5.trans (hb7.mono hB5.size)
    clear hB5 hb7
    go_wp2_with fail
    go_ret
    exact ⟨rfl, HB.out⟩

theorem FnCrc16_own : ownKnob Try.prog.godebug = none := by kernel_rfl
theorem FnCrc16_laidOut : laidOutB Try.prog = true := by kernel_rfl
set_option maxRecDepth 100000 in
theorem FnCrc16_lifted (os : Os) (started : os.Started) (H : Type) (enc : TypeId × Value → H) :
    ReturnsInHanded {} Try.checked os 4 .any (Rows.fnCrc16Spec.pre6 enc Try.prog Try.f4 Rows.fnCrc16Row.domain false) (Rows.fnCrc16Spec.post enc Try.prog Try.f4 false true false false) := by
  refine returnsInHanded_of_change (C := Try.checked) FnCrc16_own started (by kernel_rfl) Try.func4
    (ChangeSpec.witness6 (enc := enc) (C := Try.checked) false ⟨#[], #[.slice none 0 0, .slice none 0 0], []⟩ 8 (by kernel_rfl) (by kernel_rfl) (by kernel_rfl) (by kernel_rfl)) ?_
  intro W base args ds gs before hval0 hW hcnd _
  have hval : ∀ (j : Nat) t v, Try.f4.params[j]? = some t → args[j]? = some v → Value.okWide Try.prog W .any base t v := hval0
  have hW' := hW
  obtain ⟨p, q, hA0, hV, rfl, hfz, hnd⟩ := hW
  have hA : DataW.TrodAll enc Try.prog W 0 (fun _ => true) true Try.f4.params.toList args.toList ds p := hA0
  rw [Try.params4] at hA hval
  obtain ⟨v0, vs0, d0, ds0, p0, q0, hargs, rfl, rfl, h0, r0⟩ := trodAll_cons hA
  obtain ⟨v1, vs1, d1, ds1, p1, q1, rfl, rfl, rfl, h1, r1⟩ := trodAll_cons r0
  obtain ⟨rfl, rfl, rfl⟩ := trodAll_nil r1
  obtain rfl : args = #[v0, v1] := by cases args; simp_all
  obtain ⟨rfl, rfl⟩ := trodVars_none hV
  obtain ⟨a0, len0, cap0, rfl⟩ := okWide_slice Try.underlying22 (hval 0 22 v0 rfl rfl)
  have k0 := h0
  have lt0 : ∀ x ∈ p0, x.block < W.heap.size := by obtain ⟨m, hm⟩ := k0; exact DataW.trod_lt m _ _ _ hm
  obtain ⟨z0, w0⟩ : ∃ zs, IsRow .u8 W a0 len0 cap0 zs := by
    obtain ⟨fuel, hf⟩ := h0
    rcases open_ints Try.underlying22 Try.underlying5 (by kernel_rfl) hf with ⟨hcs, _⟩ | ⟨x, l, c, zs, hcs, _, hl, hm, hz, _, hcell, hwz⟩
    · simp [Value.cells] at hcs
      obtain ⟨rfl, rfl, rfl⟩ := hcs
      exact ⟨[], .inl ⟨rfl, rfl, rfl, rfl⟩⟩
    · simp [Value.cells] at hcs
      obtain ⟨rfl, rfl, rfl⟩ := hcs
      exact ⟨zs, .inr ⟨_, rfl, hl, hm, by simpa using hz, hcell, hwz⟩⟩
  obtain ⟨a1, len1, cap1, rfl⟩ := okWide_slice Try.underlying22 (hval 1 22 v1 rfl rfl)
  have k1 := h1
  have lt1 : ∀ x ∈ p1, x.block < W.heap.size := by obtain ⟨m, hm⟩ := k1; exact DataW.trod_lt m _ _ _ hm
  obtain ⟨z1, w1⟩ : ∃ zs, IsRow .u8 W a1 len1 cap1 zs := by
    obtain ⟨fuel, hf⟩ := h1
    rcases open_ints Try.underlying22 Try.underlying5 (by kernel_rfl) hf with ⟨hcs, _⟩ | ⟨x, l, c, zs, hcs, _, hl, hm, hz, _, hcell, hwz⟩
    · simp [Value.cells] at hcs
      obtain ⟨rfl, rfl, rfl⟩ := hcs
      exact ⟨[], .inl ⟨rfl, rfl, rfl, rfl⟩⟩
    · simp [Value.cells] at hcs
      obtain ⟨rfl, rfl, rfl⟩ := hcs
      exact ⟨zs, .inr ⟨_, rfl, hl, hm, by simpa using hz, hcell, hwz⟩⟩
  clear hA0 hval0
  refine (FnCrc16_walk a0 len0 cap0 z0 a1 len1 cap1 z1 W w0 w1).mono fun e W' ⟨he, bel⟩ => ?_
  subst he
  exact ⟨_, rfl, _, _, _, [], _, [], hW', trodAll_mk1 (shut_bool Try.underlying4 _), (trodAll_cons_mk (Below.trod FnCrc16_laidOut (by kernel_rfl) (of_decide_eq_true (by kernel_rfl)) k0 bel lt0) (trodAll_cons_mk (Below.trod FnCrc16_laidOut (by kernel_rfl) (of_decide_eq_true (by kernel_rfl)) k1 bel lt1) trodAll_mk0)), rfl, bel.frame _, fun h => by cases h⟩
theorem FnCrc16_holds : Rows.FnCrc16Said :=
  OpenClaim.holds_of_wide 4 Try.f4 rfl rfl rfl rfl rfl rfl rfl ⟨rfl, rfl, rfl, rfl, rfl⟩ rfl rfl rfl rfl rfl (by kernel_rfl) Try.func4 (by kernel_rfl)
    (of_decide_eq_true (by kernel_rfl)) (by unfold Func.isWrapper; first | (rw [if_pos (by decide +kernel)]; kernel_rfl) | (rw [if_neg (by decide +kernel)]; exact ⟨rfl, rfl⟩))
    (fun os started H enc _ => FnCrc16_lifted os started H enc)
#print axioms FnCrc16_holds
end Go.Proofs.Ytkpefhgkbifhcaa
