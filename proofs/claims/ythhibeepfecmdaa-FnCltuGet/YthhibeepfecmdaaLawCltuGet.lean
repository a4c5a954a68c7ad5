/- Proved: laws.FnCltuGet returns true at every slice of bytes (only code blocks that are right are read, as they stand there), and leaves it as it was. No condition. -/
import Derived.Test.YthhibeepfecmdaaDrawX
import Derived.Test.YthhibeepfecmdaaCltL
import Derived.Test.YthhibeepfecmdaaCltS
import Derived.Test.YthhibeepfecmdaaCltB
import Derived.Test.YthhibeepfecmdaaFrame
import Derived.Deep.QuietTactic
import Derived.BigQuiet
namespace Go.Proofs.Ythhibeepfecmdaa
open Go.ChangeShapes Go.WideShapes Go.ChangeAt Go.RowKit
open Go.ChangeMaps (open_string shut_string)
set_option linter.unusedVariables false
theorem getB_at (t : ByteArray) : ∀ {k i : Nat}, (∀ j, j < k → goodB t j = true) → i < k → (getB t k).extract (7 * i) (7 * i + 7) = blkAt t i
  | 0, i, _, h => by omega
  | k + 1, i, hall, h => by
    have hA : (getB t k).size = 7 * k := getB_size (fun j hj => hall j (by omega))
    have hB : (blkAt t k).size = 7 := blkAt_size (good_size (hall k (by omega)))
    have hA' : (bL (getB t k)).length = 7 * k := by rw [bL_len, hA]
    have hB' : (bL (blkAt t k)).length = 7 := by rw [bL_len, hB]
    apply bL_inj
    rw [getB, bL_ext, bL_app, show 7 * i + 7 - 7 * i = 7 from by omega]
    rcases Nat.lt_or_ge i k with hi | hi
    · have ih := congrArg bL (getB_at t (fun j hj => hall j (by omega)) hi)
      rw [bL_ext, show 7 * i + 7 - 7 * i = 7 from by omega] at ih
      rw [List.drop_append, List.take_append, show 7 - ((bL (getB t k)).drop (7 * i)).length = 0 from by rw [List.length_drop]; omega, List.take_zero, List.append_nil, ih]
    · obtain rfl : i = k := by omega
      rw [List.drop_append, List.drop_eq_nil_of_le (by omega), hA', Nat.sub_self, List.drop_zero, List.nil_append, List.take_of_length_le (by omega)]
set_option maxRecDepth 100000 in
set_option maxHeartbeats 4000000 in
theorem FnCltuGet_walk (a : Option Addr) (len cap : Nat) (zs : List Int) (w : World) (h : IsRow .u8 w a len cap zs) :
    Calls Try.prog 4 #[.slice a len cap] w fun e w' => e = .returned (.bool true) ∧ Below w.heap.size w w' := by
  have H : Hid _ := h
  clear h
  by_cases hbig : 1048576 < (len : Int)
  · go_enter Try.func4, Try.ntmps4
    go_wp2_with fail
    go_ret
    exact ⟨rfl, Below.refl _ _⟩
  go_enter Try.func4, Try.ntmps4
  go_wp2_with fail
  refine (DrawCltuGet_any a len cap zs _ H.out).mono ?_
  rintro e w1 ⟨s, hs, rfl, hb1⟩
  have HB1 : Hid _ := hb1
  clear hb1
  have hm : s.size ≤ 1073741824 := by omega
  obtain ⟨K, hK⟩ := stop_ex s
  have H1 : Hid (∀ w, Calls Try.prog 21 #[.string s] w fun e w' => e = .returned (.tuple #[.string (getB s K), .int .i64 (8 * K : Nat)]) ∧ Below w.heap.size w w') := fun w => (specCltuGet_any s w hm).mono fun e w' ⟨j, hj, he, hb⟩ => by obtain rfl := stopB_one hj hK; exact ⟨he, hb⟩
  have H2 : Hid (∀ w, Calls Try.prog 20 #[.string s] w fun e w' => e = .returned (.tuple #[.string (getB s K), .int .i64 (8 * K : Nat)]) ∧ Below w.heap.size w w') := fun w => (implCltuGet_any s w hm).mono fun e w' ⟨j, hj, he, hb⟩ => by obtain rfl := stopB_one hj hK; exact ⟨he, hb⟩
  have HG : Hid (∀ j, j < K → goodB s j = true) := hK.1.2
  have hK9 : K ≤ 9 := hK.1.1
  have hts : (getB s K).size = 7 * K := getB_size HG.out
  have HAT : Hid (∀ i, i < K → (getB s K).extract (7 * i) (7 * i + 7) = s.extract (8 * i) (8 * i + 7)) := fun i hi => getB_at s HG.out hi
  clear hK
  generalize getB s K = t at *
  go_wp2_with fail
  refine (H2.out _).mono ?_
  rintro e w2 ⟨rfl, hb2⟩
  have HB2 : Hid (Below w.heap.size w w2) := HB1.out.trans (hb2.mono HB1.out.size)
  clear hb2
  go_wp2_with fail
  refine (H1.out _).mono ?_
  rintro e w3 ⟨rfl, hb3⟩
  have HB3 : Hid (Below w.heap.size w w3) := HB2.out.trans (hb3.mono HB2.out.size)
  clear hb3 H1 H2
  have hA : 7 * (K : Int) / 7 = K := by omega
  have hB : 7 * (K : Int) % 7 = 0 := by omega
  have hC : ¬ (63 : Int) < 7 * (K : Int) := by omega
  have hD : (8 * (K : Int) != (K : Int) * 8) = false := by rw [bne_eq_false_iff_eq]; omega
  go_wp2_with fail
  go_loopw [8] (fun i wr => ∃ k : Nat, k ≤ K ∧ i = .int .i64 k ∧ Below w.heap.size w wr) (fun i _ => K - (intOf i).toNat)
  case atStart => exact ⟨0, by omega, rfl, HB3.out⟩
  case round =>
    obtain ⟨k, hk, rfl, hBr⟩ := hrel
    have HB : Hid _ := hBr
    clear hBr
    by_cases hlt : k < K
    · have hki : (k : Int) < (K : Int) := by omega
      have hgd := HG.out k hlt
      have hsz := good_size hgd
      have hgo : bchV (s.extract (8 * k) (8 * k + 7)) = byteAt s (8 * k + 7) := by
        simp only [goodB, Bool.and_eq_true, beq_iff_eq] at hgd; exact hgd.2
      have hat := HAT.out k hlt
      rw [Nat.mul_comm 7 k, Nat.mul_comm 8 k] at hat
      rw [Nat.mul_comm 8 k] at hgo
      have h7 : (s.extract (k * 8) (k * 8 + 7)).size = 7 := by rw [ByteArray.size_extract]; omega
      have hw1 : IntKind.i64.wrap ((k : Int) * 8) = (k : Int) * 8 := wrap_id _ (by omega) (by omega)
      have hw2 : IntKind.i64.wrap ((k : Int) * 8 + 7) = (k : Int) * 8 + 7 := wrap_id _ (by omega) (by omega)
      have hw3 : IntKind.i64.wrap ((k : Int) * 7) = (k : Int) * 7 := wrap_id _ (by omega) (by omega)
      have hw4 : IntKind.i64.wrap ((k : Int) * 7 + 7) = (k : Int) * 7 + 7 := wrap_id _ (by omega) (by omega)
      have hi1 : (k : Int) * 8 + 7 < (s.size : Int) := by omega
      have hi1' : (k : Int) * 8 + 7 ≤ (s.size : Int) := by omega
      have hi2 : (k : Int) * 7 + 7 ≤ 7 * (K : Int) := by omega
      have hi3 : (0 : Int) ≤ (k : Int) * 8 := by omega
      have hi4 : (0 : Int) ≤ (k : Int) * 7 := by omega
      have hi5 : (0 : Int) ≤ (k : Int) * 8 + 7 := by omega
      have hi6 : (0 : Int) ≤ (k : Int) * 7 + 7 := by omega
      have e1 : ((k : Int) * 8).toNat = k * 8 := by omega
      have e2 : ((k : Int) * 8 + 7).toNat = k * 8 + 7 := by omega
      have e3 : ((k : Int) * 7).toNat = k * 7 := by omega
      have e4 : ((k : Int) * 7 + 7).toNat = k * 7 + 7 := by omega
      have hby : (s[((k : Int) * 8 + 7).toNat]'(by omega)).toNat = byteAt s (k * 8 + 7) := by
        rw [← byteAt_eq s (k * 8 + 7) (by omega)]
        congr 1
      have hby2 : (s[k * 8 + 7]'(by omega)).toNat = byteAt s (k * 8 + 7) := byteAt_eq s (k * 8 + 7) (by omega)
      have hnq : (((bchV (s.extract (k * 8) (k * 8 + 7)) : Nat) : Int) != ((byteAt s (k * 8 + 7) : Nat) : Int)) = false := by rw [bne_eq_false_iff_eq, hgo]
      clear hgd hgo
      have hbl := byteAt_lt s (k * 8 + 7)
      have hwb2 : wrap64 ((byteAt s (k * 8 + 7) : Nat) : Int) = (byteAt s (k * 8 + 7) : Nat) := w64 (by omega) (by omega)
      go_wp2_with fail
      go_quiet ((go_at_call 22; exact Calls.quiet_of_same (implBch_any _ _ h7)))
      go_wp2_with fail
      clear hwb2 hby hby2 hnq
      exact ⟨⟨k + 1, by omega, by go_num, belowN HB.out nq⟩, by simp [intOf]; omega⟩
    · have hki : ¬ (k : Int) < (K : Int) := by omega
      go_wp2_with fail
      go_ret
      exact ⟨rfl, HB.out⟩
theorem FnCltuGet_own : ownKnob Try.prog.godebug = none := by kernel_rfl
theorem FnCltuGet_laidOut : laidOutB Try.prog = true := by kernel_rfl
set_option maxRecDepth 100000 in
theorem FnCltuGet_lifted (os : Os) (started : os.Started) (H : Type) (enc : TypeId × Value → H) :
    ReturnsInHanded {} Try.checked os 4 .any (Rows.fnCltuGetSpec.pre6 enc Try.prog Try.f4 Rows.fnCltuGetRow.domain false) (Rows.fnCltuGetSpec.post enc Try.prog Try.f4 false true false false) := by
  refine returnsInHanded_of_change (C := Try.checked) FnCltuGet_own started (by kernel_rfl) Try.func4
    (ChangeSpec.witness6 (enc := enc) (C := Try.checked) false ⟨#[], #[.slice none 0 0], []⟩ 8 (by kernel_rfl) (by kernel_rfl) (by kernel_rfl) (by kernel_rfl)) ?_
  intro W base args ds gs before hval0 hW hcnd _
  have hval : ∀ (j : Nat) t v, Try.f4.params[j]? = some t → args[j]? = some v → Value.okWide Try.prog W .any base t v := hval0
  have hW' := hW
  obtain ⟨p, q, hA0, hV, rfl, hfz, hnd⟩ := hW
  have hA : DataW.TrodAll enc Try.prog W 0 (fun _ => true) true Try.f4.params.toList args.toList ds p := hA0
  rw [Try.params4] at hA hval
  obtain ⟨v0, vs0, d0, ds0, p0, q0, hargs, rfl, rfl, h0, r0⟩ := trodAll_cons hA
  obtain ⟨rfl, rfl, rfl⟩ := trodAll_nil r0
  obtain rfl : args = #[v0] := by cases args; simp_all
  obtain ⟨rfl, rfl⟩ := trodVars_none hV
  obtain ⟨a0, len0, cap0, rfl⟩ := okWide_slice Try.underlying22 (hval 0 22 v0 rfl rfl)
  have k0 := h0
  have lt0 : ∀ x ∈ p0, x.block < W.heap.size := by obtain ⟨m, hm⟩ := k0; exact DataW.trod_lt m _ _ _ hm
  obtain ⟨z0, w0⟩ : ∃ zs, IsRow .u8 W a0 len0 cap0 zs := by
    obtain ⟨fuel, hf⟩ := h0
    rcases open_ints Try.underlying22 Try.underlying5 (by kernel_rfl) hf with ⟨hcs, _⟩ | ⟨x, l, c, zs, hcs, _, hl, hm, hz, _, hcell, hwz⟩
    · simp [Value.cells] at hcs
      obtain ⟨rfl, rfl, rfl⟩ := hcs
      exact ⟨[], .inl ⟨rfl, rfl, rfl, rfl⟩⟩
    · simp [Value.cells] at hcs
      obtain ⟨rfl, rfl, rfl⟩ := hcs
      exact ⟨zs, .inr ⟨_, rfl, hl, hm, by simpa using hz, hcell, hwz⟩⟩
  clear hA0 hval0
  refine (FnCltuGet_walk a0 len0 cap0 z0 W w0).mono fun e W' ⟨he, bel⟩ => ?_
  subst he
  exact ⟨_, rfl, _, _, _, [], _, [], hW', trodAll_mk1 (shut_bool Try.underlying4 _), (trodAll_cons_mk (Below.trod FnCltuGet_laidOut (by kernel_rfl) (of_decide_eq_true (by kernel_rfl)) k0 bel lt0) trodAll_mk0), rfl, bel.frame _, fun h => by cases h⟩
theorem FnCltuGet_holds : Rows.FnCltuGetSaid :=
  OpenClaim.holds_of_wide 4 Try.f4 rfl rfl rfl rfl rfl rfl rfl ⟨rfl, rfl, rfl, rfl, rfl⟩ rfl rfl rfl rfl rfl (by kernel_rfl) Try.func4 (by kernel_rfl)
    (of_decide_eq_true (by kernel_rfl)) (by unfold Func.isWrapper; first | (rw [if_pos (by decide +kernel)]; kernel_rfl) | (rw [if_neg (by decide +kernel)]; exact ⟨rfl, rfl⟩))
    (fun os started H enc _ => FnCltuGet_lifted os started H enc)
#print axioms FnCltuGet_holds
end Go.Proofs.Ythhibeepfecmdaa
