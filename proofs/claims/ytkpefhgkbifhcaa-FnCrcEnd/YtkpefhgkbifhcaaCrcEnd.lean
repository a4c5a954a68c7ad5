/- Proved: laws.FnCrcEnd returns true at every slice of bytes (a text with its sum behind it has the sum 0), and leaves it as it was. No condition. -/
import Derived.Test.YtkpefhgkbifhcaaDrawC
import Derived.Test.YtkpefhgkbifhcaaCrcL
import Derived.Test.YtkpefhgkbifhcaaCrcS
import Derived.Test.YtkpefhgkbifhcaaNumA
namespace Go.Proofs.Ytkpefhgkbifhcaa
open Go.ChangeShapes Go.WideShapes Go.ChangeAt Go.RowKit
open Go.ChangeMaps (open_string shut_string)
set_option linter.unusedVariables false

theorem size_cat (s : ByteArray) (t : List UInt8) : (s ++ (⟨t.toArray⟩ : ByteArray)).size = s.size + t.length := by
  rw [ByteArray.size_append]; rfl
set_option maxHeartbeats 400000 in
theorem FnCrcEnd_walk (a : Option Addr) (len cap : Nat) (zs : List Int) (w : World) (h : IsRow .u8 w a len cap zs) :
    Calls Try.prog 5 #[.slice a len cap] w fun e w' => e = .returned (.bool true) ∧ Below w.heap.size w w' := by
  have H : Hid (IsRow .u8 w a len cap zs) := h
  clear h
  by_cases hbig : 1048576 < (len : Int)
  · go_enter Try.func5, Try.ntmps5
    go_wp2_with fail
    go_ret
    exact ⟨rfl, Below.refl _ _⟩
  · go_enter Try.func5, Try.ntmps5
    go_wp2_with fail
    refine (DrawCrc16_any a len cap zs _ H.out).mono ?_
    rintro e w1 ⟨s, hs, rfl, hb1⟩
    have hm : s.size ≤ maxLen := by unfold maxLen; omega
    go_wp2_with fail
    refine (implCrc16_any s _ hm).mono ?_
    rintro e w2 ⟨rfl, hb2⟩
    go_wp2_with fail
    refine (specCrc16_any s _ hm).mono ?_
    rintro e w3 ⟨rfl, rfl⟩
    have hlt := crcTo_lt s s.size
    have hp : putL ((crcTo s s.size : Nat) : Int) 2 = pt (crcTo s s.size) 2 := by
      rw [putL_yes (by omega) (by omega) (by omega) (by show _ < (65536 : Int); omega)]; simp
    have hz := crc_bytes s (crcTo s s.size) (crcTo_all s)
    have HN : Hid (crcTo s s.size < 65536) := hlt
    clear hlt
    generalize crcTo s s.size = n at *
    go_wp2_with fail
    refine (implNumPut_any _ _ _).mono ?_
    rintro e w4 ⟨rfl, hb4⟩
    rw [hp]
    clear hp
    have hl2 : (pt n 2).length = 2 := pt_length n 2
    generalize pt n 2 = t at *
    have hsz : (s ++ (⟨t.toArray⟩ : ByteArray)).size = s.size + 2 := by rw [size_cat, hl2]
    have hm2 : (s ++ (⟨t.toArray⟩ : ByteArray)).size ≤ maxLen := by rw [hsz]; unfold maxLen; omega
    have HZ : Hid (crcTo (s ++ (⟨t.toArray⟩ : ByteArray)) (s ++ (⟨t.toArray⟩ : ByteArray)).size = 0) := by unfold Hid; rw [crcTo_all]; exact hz
    clear hsz hz
    go_wp2_with fail
    refine (implCrc16_any _ _ hm2).mono ?_
    rintro e w5 ⟨rfl, hb5⟩
    rw [HZ.out]
    have HB : Hid (Below w.heap.size w w5) := ((hb1.trans (hb2.mono hb1.size)).trans (hb4.mono (by have := hb1.size; have := hb2.size; omega))).trans (hb5.mono (by have := hb1.size; have := hb2.size; have := hb4.size; omega))
    clear hb1 hb2 hb4 hb5 HZ hm2
    go_wp2_with fail
    go_ret
    exact ⟨rfl, HB.out⟩

theorem FnCrcEnd_own : ownKnob Try.prog.godebug = none := by kernel_rfl
theorem FnCrcEnd_laidOut : laidOutB Try.prog = true := by kernel_rfl
set_option maxRecDepth 100000 in
theorem FnCrcEnd_lifted (os : Os) (started : os.Started) (H : Type) (enc : TypeId × Value → H) :
    ReturnsInHanded {} Try.checked os 5 .any (Rows.fnCrcEndSpec.pre6 enc Try.prog Try.f5 Rows.fnCrcEndRow.domain false) (Rows.fnCrcEndSpec.post enc Try.prog Try.f5 false true false false) := by
  refine returnsInHanded_of_change (C := Try.checked) FnCrcEnd_own started (by kernel_rfl) Try.func5
    (ChangeSpec.witness6 (enc := enc) (C := Try.checked) false ⟨#[], #[.slice none 0 0], []⟩ 8 (by kernel_rfl) (by kernel_rfl) (by kernel_rfl) (by kernel_rfl)) ?_
  intro W base args ds gs before hval0 hW hcnd _
  have hval : ∀ (j : Nat) t v, Try.f5.params[j]? = some t → args[j]? = some v → Value.okWide Try.prog W .any base t v := hval0
  have hW' := hW
  obtain ⟨p, q, hA0, hV, rfl, hfz, hnd⟩ := hW
  have hA : DataW.TrodAll enc Try.prog W 0 (fun _ => true) true Try.f5.params.toList args.toList ds p := hA0
  rw [Try.params5] at hA hval
  obtain ⟨v0, vs0, d0, ds0, p0, q0, hargs, rfl, rfl, h0, r0⟩ := trodAll_cons hA
  obtain ⟨rfl, rfl, rfl⟩ := trodAll_nil r0
  obtain rfl : args = #[v0] := by cases args; simp_all
  obtain ⟨rfl, rfl⟩ := trodVars_none hV
  obtain ⟨a0, len0, cap0, rfl⟩ := okWide_slice Try.underlying22 (hval 0 22 v0 rfl rfl)
  have k0 := h0
  have lt0 : ∀ x ∈ p0, x.block < W.heap.size := by obtain ⟨m, hm⟩ := k0; exact DataW.trod_lt m _ _ _ hm
  obtain ⟨z0, w0⟩ : ∃ zs, IsRow .u8 W a0 len0 cap0 zs := by
    obtain ⟨fuel, hf⟩ := h0
    rcases open_ints Try.underlying22 Try.underlying5 (by kernel_rfl) hf with ⟨hcs, _⟩ | ⟨x, l, c, zs, hcs, _, hl, hm, hz, _, hcell, hwz⟩
    · simp [Value.cells] at hcs
      obtain ⟨rfl, rfl, rfl⟩ := hcs
      exact ⟨[], .inl ⟨rfl, rfl, rfl, rfl⟩⟩
    · simp [Value.cells] at hcs
      obtain ⟨rfl, rfl, rfl⟩ := hcs
      exact ⟨zs, .inr ⟨_, rfl, hl, hm, by simpa using hz, hcell, hwz⟩⟩
  clear hA0 hval0
  refine (FnCrcEnd_walk a0 len0 cap0 z0 W w0).mono fun e W' ⟨he, bel⟩ => ?_
  subst he
  exact ⟨_, rfl, _, _, _, [], _, [], hW', trodAll_mk1 (shut_bool Try.underlying4 _), (trodAll_cons_mk (Below.trod FnCrcEnd_laidOut (by kernel_rfl) (of_decide_eq_true (by kernel_rfl)) k0 bel lt0) trodAll_mk0), rfl, bel.frame _, fun h => by cases h⟩
theorem FnCrcEnd_holds : Rows.FnCrcEndSaid :=
  OpenClaim.holds_of_wide 5 Try.f5 rfl rfl rfl rfl rfl rfl rfl ⟨rfl, rfl, rfl, rfl, rfl⟩ rfl rfl rfl rfl rfl (by kernel_rfl) Try.func5 (by kernel_rfl)
    (of_decide_eq_true (by kernel_rfl)) (by unfold Func.isWrapper; first | (rw [if_pos (by decide +kernel)]; kernel_rfl) | (rw [if_neg (by decide +kernel)]; exact ⟨rfl, rfl⟩))
    (fun os started H enc _ => FnCrcEnd_lifted os started H enc)
#print axioms FnCrcEnd_holds
end Go.Proofs.Ytkpefhgkbifhcaa
