/- Proved: laws.FnNum returns true at every two slices of bytes (a number in bytes is read back, and what is read is written), and leaves them as they were. No condition. -/
import Derived.Test.YtkpefhgkbifhcaaDrawN
import Derived.Test.YtkpefhgkbifhcaaNumL
import Derived.Test.YtkpefhgkbifhcaaNumA
import Derived.Deep.RegionWith
import Derived.Deep.RegionHeld2
import Derived.WalkSmall
namespace Go.Proofs.Ytkpefhgkbifhcaa
open Go.ChangeShapes Go.WideShapes Go.ChangeAt Go.RowKit
open Go.ChangeMaps (open_string shut_string)
set_option linter.unusedVariables false

theorem IsRow.below {w w' : World} {a : Option Addr} {len cap : Nat} {zs : List Int} (h : IsRow .u8 w a len cap zs) (hb : Below w.heap.size w w') : IsRow .u8 w' a len cap zs := by
  rcases h with h | ⟨x, ha, hl, hm, hz, hcell, hwz⟩
  · exact .inl h
  · exact .inr ⟨x, ha, hl, hm, hz, fun i hi => by rw [hb.cell (block_lt_of_cell (hcell i hi))]; exact hcell i hi, hwz⟩
theorem cat_size (t : List UInt8) : ((⟨#[97, 98]⟩ : ByteArray) ++ ⟨t.toArray⟩).size = 2 + t.length := by
  rw [ByteArray.size_append]; rfl
theorem cat_nil : ((⟨#[97, 98]⟩ : ByteArray) ++ ⟨#[]⟩) = ⟨#[97, 98]⟩ := rfl
/-- The first half: what is put is read back. -/
theorem put_cases (n s : Int) : (putL n s = [] ∧ ¬ (1 ≤ s ∧ s ≤ 4 ∧ 0 ≤ (2 : Int) ∧ (2 : Int) ≤ ((⟨#[97, 98]⟩ : ByteArray) ++ ⟨#[]⟩).size - s)) ∨
    (putL n s = pt n.toNat s.toNat ∧ 1 ≤ s ∧ s ≤ 4 ∧ 0 ≤ n ∧ gt ((⟨#[97, 98]⟩ : ByteArray) ++ ⟨(pt n.toNat s.toNat).toArray⟩) 2 s.toNat = n.toNat) := by
  by_cases h : 1 ≤ s ∧ s ≤ 4 ∧ 0 ≤ n ∧ n < 256 ^ s.toNat
  · obtain ⟨h1, h4, h0, hn⟩ := h
    refine .inr ⟨putL_yes h1 h4 h0 hn, h1, h4, h0, back 97 98 _ _ ?_⟩
    obtain ⟨m, rfl⟩ := Int.eq_ofNat_of_zero_le h0
    have e : (256 : Int) ^ s.toNat = ((256 ^ s.toNat : Nat) : Int) := by simp
    rw [e] at hn
    simpa using Int.ofNat_lt.1 hn
  · refine .inl ⟨putL_no h, ?_⟩
    rw [cat_nil]
    rintro ⟨h1, h4, _, hk⟩
    have : (⟨#[97, 98]⟩ : ByteArray).size = 2 := rfl
    rw [this] at hk
    omega

set_option maxHeartbeats 1000000 in
theorem FnNum_walk (a : Option Addr) (len cap : Nat) (zs : List Int) (a1 : Option Addr) (len1 cap1 : Nat) (zs1 : List Int) (w : World) (h : IsRow .u8 w a len cap zs) (h1 : IsRow .u8 w a1 len1 cap1 zs1) :
    Calls Try.prog 3 #[.slice a len cap, .slice a1 len1 cap1] w fun e w' => e = .returned (.bool true) ∧ Below w.heap.size w w' := by
  have H : Hid (IsRow .u8 w a len cap zs) := h
  have H1 : Hid (IsRow .u8 w a1 len1 cap1 zs1) := h1
  clear h h1
  by_cases hbig : 1048576 < (len : Int)
  · go_enter Try.func3, Try.ntmps3
    go_wp2_with fail
    go_ret
    exact ⟨rfl, Below.refl _ _⟩
  by_cases hbig1 : 1048576 < (len1 : Int)
  · go_enter Try.func3, Try.ntmps3
    go_wp2_with fail
    go_ret
    exact ⟨rfl, Below.refl _ _⟩
  go_enter Try.func3, Try.ntmps3
  go_wp2_with fail
  refine (DrawNumPut_any a len cap zs _ H.out).mono ?_
  rintro e w1 ⟨n, size, rfl, hb1⟩
  go_wp2_with fail
  refine (implNumPut_any _ _ _).mono ?_
  rintro e w2 ⟨rfl, hb2⟩
  have hB2 : Below w.heap.size w w2 := hb1.trans (hb2.mono hb1.size)
  clear hb1 hb2
  rcases put_cases n size with ⟨hp, hno⟩ | ⟨hp, hs1, hs4, hn0, hgt⟩
  · rw [hp]
    have HP : Hid (putL n size = []) := hp
    clear hp
    have HNO : Hid _ := hno
    clear hno
    have hmx : ((⟨#[97, 98]⟩ : ByteArray) ++ ⟨#[]⟩).size ≤ maxLen := by rw [cat_nil]; unfold maxLen; show 2 ≤ _; omega
    go_wp2_with fail
    refine (implNumGet_no _ _ _ _ hmx HNO.out).mono ?_
    rintro e w3 ⟨rfl, rfl⟩
    go_wp2_with fail
    refine (specNumPut_any _ _ _).mono ?_
    rintro e w4 ⟨rfl, hb4⟩
    rw [HP.out]
    have HB4 : Hid (Below w.heap.size w w4) := hB2.trans (hb4.mono hB2.size)
    have HR1 : Hid (IsRow .u8 w4 a1 len1 cap1 zs1) := H1.out.below HB4.out
    clear hb4 hB2 hmx
    go_wp2_with fail
    refine (DrawNumGet_any a1 len1 cap1 zs1 _ HR1.out).mono ?_
    rintro e w5 ⟨text, at5, long, htx, rfl, hb5⟩
    have HB5 : Hid (Below w.heap.size w w5) := HB4.out.trans (hb5.mono HB4.out.size)
    have hmt : text.size ≤ maxLen := by unfold maxLen; omega
    clear hb5
    by_cases hg : 1 ≤ long ∧ long ≤ 4 ∧ 0 ≤ at5 ∧ at5 ≤ text.size - long
    · obtain ⟨g1, g4, g0, ga⟩ := hg
      obtain ⟨A, rfl⟩ := Int.eq_ofNat_of_zero_le g0
      obtain ⟨M, rfl⟩ := Int.eq_ofNat_of_zero_le (show 0 ≤ long by omega)
      have HF : Hid ((⟨(pt (gt text A M) M).toArray⟩ : ByteArray) = text.extract A (A + M)) := forth text A M (by omega)
      have hgl := gt_lt text A M
      have HPL : Hid (putL ((gt text A M : Nat) : Int) (M : Int) = pt (gt text A M) M) := by
        unfold Hid
        rw [putL_yes g1 g4 (by omega) (by rw [Int.toNat_natCast]; have e : (256 : Int) ^ M = ((256 ^ M : Nat) : Int) := by simp
                                          rw [e]; exact Int.ofNat_lt.2 hgl)]
        simp
      clear hgl
      go_wp2_with fail
      refine (implNumGet_yes text A M _ hmt g1 g4 g0 ga).mono ?_
      rintro e w6 ⟨rfl, rfl⟩
      rw [Int.toNat_natCast, Int.toNat_natCast]
      go_wp2_with fail
      refine (specNumGet_yes text A M _ hmt g1 g4 g0 ga).mono ?_
      rintro e w7 ⟨rfl, rfl⟩
      rw [Int.toNat_natCast, Int.toNat_natCast]
      go_wp2_with fail
      clear H H1 HP HR1 hbig hbig1
      have hs1 : (A : Int) + (M : Int) ≤ (text.size : Int) := by omega
      have hs2 : (A : Int) ≤ (A : Int) + (M : Int) := by omega
      have hs3 : A + M ≤ text.size := by omega
      have hs4 : A ≤ A + M := by omega
      have hs5 : ((A : Int) + (M : Int)).toNat = A + M := by omega
      have hs6 : IntKind.i64.wrap ((A : Int) + (M : Int)) = (A : Int) + (M : Int) := wrapI64 _ (by omega) (by omega)
      go_region_held2 (fun W => Below w.heap.size w W) (first | exact HB5.out.drew | exact HB5.out | assumption) ((go_at_call 12; refine (implNumPut_any _ _ _).mono ?_; rintro e w8 ⟨rfl, hb8⟩; have HB8 : Below w.heap.size w w8 := HB5.out.drew.trans (hb8.mono HB5.out.size); rw [HPL.out, HF.out]))
      go_wp2_with fail
      go_ret
      exact ⟨rfl, by assumption⟩
    · have HG : Hid _ := hg
      clear hg
      go_wp2_with fail
      refine (implNumGet_no text at5 long _ hmt HG.out).mono ?_
      rintro e w6 ⟨rfl, rfl⟩
      go_wp2_with fail
      refine (specNumGet_no text at5 long _ hmt HG.out).mono ?_
      rintro e w7 ⟨rfl, rfl⟩
      go_wp2_with fail
      go_big_quiet (fail)
      go_wp2_with fail
      go_ret
      exact ⟨rfl, below_drewN HB5.out _⟩
  · rw [hp]
    have HP : Hid (putL n size = pt n.toNat size.toNat) := hp
    clear hp
    have hlen := pt_length n.toNat size.toNat
    have hyes : Hid (∀ W, Calls Try.prog 13 #[.string ((⟨#[97, 98]⟩ : ByteArray) ++ ⟨(pt n.toNat size.toNat).toArray⟩), .int .i64 2, .int .i64 size] W fun e w' => e = .returned (.tuple #[.int .i64 n, .bool true]) ∧ w' = W) := fun W => by
      have h := implNumGet_yes ((⟨#[97, 98]⟩ : ByteArray) ++ ⟨(pt n.toNat size.toNat).toArray⟩) 2 size W (by rw [cat_size, hlen]; unfold maxLen; omega) hs1 hs4 (by omega) (by rw [cat_size, hlen]; omega)
      rw [show (2 : Int).toNat = 2 from rfl, hgt, Int.toNat_of_nonneg hn0] at h
      exact h
    clear hgt
    generalize pt n.toNat size.toNat = t at *
    have hli : ((t.length : Int) != size) = false := by rw [bne_eq_false_iff_eq]; omega
    have htn : t ≠ [] := by intro e; rw [e] at hlen; simp at hlen; omega
    have HLN : Hid (t.length = size.toNat) := hlen
    have hcap : t.length ≤ 4 := by omega
    clear hlen
    go_wp2_with fail
    refine (hyes.out _).mono ?_
    rintro e w3 ⟨rfl, rfl⟩
    go_wp2_with fail
    refine (specNumPut_any _ _ _).mono ?_
    rintro e w4 ⟨rfl, hb4⟩
    rw [HP.out]
    have HB4 : Hid (Below w.heap.size w w4) := hB2.trans (hb4.mono hB2.size)
    have HR1 : Hid (IsRow .u8 w4 a1 len1 cap1 zs1) := H1.out.below HB4.out
    clear hb4 hB2
    go_wp2_with fail
    refine (DrawNumGet_any a1 len1 cap1 zs1 _ HR1.out).mono ?_
    rintro e w5 ⟨text, at5, long, htx, rfl, hb5⟩
    have HB5 : Hid (Below w.heap.size w w5) := HB4.out.trans (hb5.mono HB4.out.size)
    have hmt : text.size ≤ maxLen := by unfold maxLen; omega
    clear hb5
    by_cases hg : 1 ≤ long ∧ long ≤ 4 ∧ 0 ≤ at5 ∧ at5 ≤ text.size - long
    · obtain ⟨g1, g4, g0, ga⟩ := hg
      obtain ⟨A, rfl⟩ := Int.eq_ofNat_of_zero_le g0
      obtain ⟨M, rfl⟩ := Int.eq_ofNat_of_zero_le (show 0 ≤ long by omega)
      have HF : Hid ((⟨(pt (gt text A M) M).toArray⟩ : ByteArray) = text.extract A (A + M)) := forth text A M (by omega)
      have hgl := gt_lt text A M
      have HPL : Hid (putL ((gt text A M : Nat) : Int) (M : Int) = pt (gt text A M) M) := by
        unfold Hid
        rw [putL_yes g1 g4 (by omega) (by rw [Int.toNat_natCast]; have e : (256 : Int) ^ M = ((256 ^ M : Nat) : Int) := by simp
                                          rw [e]; exact Int.ofNat_lt.2 hgl)]
        simp
      clear hgl
      go_wp2_with fail
      refine (implNumGet_yes text A M _ hmt g1 g4 g0 ga).mono ?_
      rintro e w6 ⟨rfl, rfl⟩
      rw [Int.toNat_natCast, Int.toNat_natCast]
      go_wp2_with fail
      refine (specNumGet_yes text A M _ hmt g1 g4 g0 ga).mono ?_
      rintro e w7 ⟨rfl, rfl⟩
      rw [Int.toNat_natCast, Int.toNat_natCast]
      go_wp2_with fail
      clear H H1 HP HR1 hbig hbig1
      have hs1 : (A : Int) + (M : Int) ≤ (text.size : Int) := by omega
      have hs2 : (A : Int) ≤ (A : Int) + (M : Int) := by omega
      have hs3 : A + M ≤ text.size := by omega
      have hs4 : A ≤ A + M := by omega
      have hs5 : ((A : Int) + (M : Int)).toNat = A + M := by omega
      have hs6 : IntKind.i64.wrap ((A : Int) + (M : Int)) = (A : Int) + (M : Int) := wrapI64 _ (by omega) (by omega)
      go_region_held2 (fun W => Below w.heap.size w W) (first | exact HB5.out.drew | exact HB5.out | assumption) ((go_at_call 12; refine (implNumPut_any _ _ _).mono ?_; rintro e w8 ⟨rfl, hb8⟩; have HB8 : Below w.heap.size w w8 := HB5.out.drew.trans (hb8.mono HB5.out.size); rw [HPL.out, HF.out]))
      go_wp2_with fail
      go_ret
      exact ⟨rfl, by assumption⟩
    · have HG : Hid _ := hg
      clear hg
      go_wp2_with fail
      refine (implNumGet_no text at5 long _ hmt HG.out).mono ?_
      rintro e w6 ⟨rfl, rfl⟩
      go_wp2_with fail
      refine (specNumGet_no text at5 long _ hmt HG.out).mono ?_
      rintro e w7 ⟨rfl, rfl⟩
      go_wp2_with fail
      go_big_quiet (fail)
      go_wp2_with fail
      go_ret
      exact ⟨rfl, below_drewN HB5.out _⟩

theorem FnNum_own : ownKnob Try.prog.godebug = none := by kernel_rfl
theorem FnNum_laidOut : laidOutB Try.prog = true := by kernel_rfl
set_option maxRecDepth 100000 in
theorem FnNum_lifted (os : Os) (started : os.Started) (H : Type) (enc : TypeId × Value → H) :
    ReturnsInHanded {} Try.checked os 3 .any (Rows.fnNumSpec.pre6 enc Try.prog Try.f3 Rows.fnNumRow.domain false) (Rows.fnNumSpec.post enc Try.prog Try.f3 false true false false) := by
  refine returnsInHanded_of_change (C := Try.checked) FnNum_own started (by kernel_rfl) Try.func3
    (ChangeSpec.witness6 (enc := enc) (C := Try.checked) false ⟨#[], #[.slice none 0 0, .slice none 0 0], []⟩ 8 (by kernel_rfl) (by kernel_rfl) (by kernel_rfl) (by kernel_rfl)) ?_
  intro W base args ds gs before hval0 hW hcnd _
  have hval : ∀ (j : Nat) t v, Try.f3.params[j]? = some t → args[j]? = some v → Value.okWide Try.prog W .any base t v := hval0
  have hW' := hW
  obtain ⟨p, q, hA0, hV, rfl, hfz, hnd⟩ := hW
  have hA : DataW.TrodAll enc Try.prog W 0 (fun _ => true) true Try.f3.params.toList args.toList ds p := hA0
  rw [Try.params3] at hA hval
  obtain ⟨v0, vs0, d0, ds0, p0, q0, hargs, rfl, rfl, h0, r0⟩ := trodAll_cons hA
  obtain ⟨v1, vs1, d1, ds1, p1, q1, rfl, rfl, rfl, h1, r1⟩ := trodAll_cons r0
  obtain ⟨rfl, rfl, rfl⟩ := trodAll_nil r1
  obtain rfl : args = #[v0, v1] := by cases args; simp_all
  obtain ⟨rfl, rfl⟩ := trodVars_none hV
  obtain ⟨a0, len0, cap0, rfl⟩ := okWide_slice Try.underlying22 (hval 0 22 v0 rfl rfl)
  have k0 := h0
  have lt0 : ∀ x ∈ p0, x.block < W.heap.size := by obtain ⟨m, hm⟩ := k0; exact DataW.trod_lt m _ _ _ hm
  obtain ⟨z0, w0⟩ : ∃ zs, IsRow .u8 W a0 len0 cap0 zs := by
    obtain ⟨fuel, hf⟩ := h0
    rcases open_ints Try.underlying22 Try.underlying5 (by kernel_rfl) hf with ⟨hcs, _⟩ | ⟨x, l, c, zs, hcs, _, hl, hm, hz, _, hcell, hwz⟩
    · simp [Value.cells] at hcs
      obtain ⟨rfl, rfl, rfl⟩ := hcs
      exact ⟨[], .inl ⟨rfl, rfl, rfl, rfl⟩⟩
    · simp [Value.cells] at hcs
      obtain ⟨rfl, rfl, rfl⟩ := hcs
      exact ⟨zs, .inr ⟨_, rfl, hl, hm, by simpa using hz, hcell, hwz⟩⟩
  obtain ⟨a1, len1, cap1, rfl⟩ := okWide_slice Try.underlying22 (hval 1 22 v1 rfl rfl)
  have k1 := h1
  have lt1 : ∀ x ∈ p1, x.block < W.heap.size := by obtain ⟨m, hm⟩ := k1; exact DataW.trod_lt m _ _ _ hm
  obtain ⟨z1, w1⟩ : ∃ zs, IsRow .u8 W a1 len1 cap1 zs := by
    obtain ⟨fuel, hf⟩ := h1
    rcases open_ints Try.underlying22 Try.underlying5 (by kernel_rfl) hf with ⟨hcs, _⟩ | ⟨x, l, c, zs, hcs, _, hl, hm, hz, _, hcell, hwz⟩
    · simp [Value.cells] at hcs
      obtain ⟨rfl, rfl, rfl⟩ := hcs
      exact ⟨[], .inl ⟨rfl, rfl, rfl, rfl⟩⟩
    · simp [Value.cells] at hcs
      obtain ⟨rfl, rfl, rfl⟩ := hcs
      exact ⟨zs, .inr ⟨_, rfl, hl, hm, by simpa using hz, hcell, hwz⟩⟩
  clear hA0 hval0
  refine (FnNum_walk a0 len0 cap0 z0 a1 len1 cap1 z1 W w0 w1).mono fun e W' ⟨he, bel⟩ => ?_
  subst he
  exact ⟨_, rfl, _, _, _, [], _, [], hW', trodAll_mk1 (shut_bool Try.underlying4 _), (trodAll_cons_mk (Below.trod FnNum_laidOut (by kernel_rfl) (of_decide_eq_true (by kernel_rfl)) k0 bel lt0) (trodAll_cons_mk (Below.trod FnNum_laidOut (by kernel_rfl) (of_decide_eq_true (by kernel_rfl)) k1 bel lt1) trodAll_mk0)), rfl, bel.frame _, fun h => by cases h⟩
theorem FnNum_holds : Rows.FnNumSaid :=
  OpenClaim.holds_of_wide 3 Try.f3 rfl rfl rfl rfl rfl rfl rfl ⟨rfl, rfl, rfl, rfl, rfl⟩ rfl rfl rfl rfl rfl (by kernel_rfl) Try.func3 (by kernel_rfl)
    (of_decide_eq_true (by kernel_rfl)) (by unfold Func.isWrapper; first | (rw [if_pos (by decide +kernel)]; kernel_rfl) | (rw [if_neg (by decide +kernel)]; exact ⟨rfl, rfl⟩))
    (fun os started H enc _ => FnNum_lifted os started H enc)
#print axioms FnNum_holds
end Go.Proofs.Ytkpefhgkbifhcaa
