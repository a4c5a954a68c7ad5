/- Proved: laws.FnPartNew returns true at every slice of bytes (both sides make the same partition, whole where the program is), and leaves it as it was. No condition. -/
import Derived.Test.YtdbemdcfeokicaaPdK
import Derived.Test.YtdbemdcfeokicaaPnS
import Derived.Test.YtdbemdcfeokicaaPnI
import Derived.Test.YtdbemdcfeokicaaPtW
import Derived.Test.YtdbemdcfeokicaaSkP
import Derived.Test.YtdbemdcfeokicaaFrame
import Derived.Deep.RegionWith
namespace Go.Proofs.Ytdbemdcfeokicaa
open Go.ChangeShapes Go.WideShapes Go.ChangeAt Go.RowKit
open Go.ChangeMaps (open_string shut_string)
set_option linter.unusedVariables false
theorem bstep {wr W w' : World} (h : Below wr.heap.size wr W) (k : Below W.heap.size W w') : Below wr.heap.size wr w' := h.trans (k.mono h.size)
theorem partB_no (f0 f1 f2 g g' : Nat → Int) : partB 0 f0 f1 f2 0 g 0 0 g' = false := by simp [partB, progB, inB]
theorem partB_new {n : Nat} {f0 f1 f2 : Nat → Int} (h : progB n f0 f1 f2 = true) (g : Nat → Int) : partB n f0 f1 f2 8 (fun _ => 0) 0 0 g = true := by
  have hn : 1 ≤ n := by
    simp only [progB, inB, Bool.and_eq_true, decide_eq_true_eq] at h
    omega
  have h1 : inB 0 0 ((n : Int) - 1) = true := by simp [inB]; omega
  have h2 : inL 0 9999 (fun _ => 0) 8 = true := by decide
  have h3 : inL 0 9999 g 0 = true := rfl
  simp [partB, h, h1, h2, h3]
set_option maxRecDepth 100000 in
set_option maxHeartbeats 4000000 in
theorem FnPartNew_walk (a : Option Addr) (len cap : Nat) (zs : List Int) (w : World) (h : IsRow .u8 w a len cap zs) :
    Calls Try.prog 7 #[.slice a len cap] w fun e w' => e = .returned (.bool true) ∧ Below w.heap.size w w' := by
  by_cases hbig : 1048576 < (len : Int)
  · go_enter Try.func7, Try.ntmps7
    go_wp2_with fail
    go_ret
    exact ⟨rfl, Below.refl _ _⟩
  have H : Hid _ := h
  clear h
  go_enter Try.func7, Try.ntmps7
  go_wp2_with fail
  refine (DrawPartNew_any a len cap zs _ H.out).mono ?_
  rintro e w1 ⟨b, n, cp, rfl, hn, hp, hb1⟩
  obtain ⟨f0, f1, f2, hS⟩ := hp.ops
  have HB1 : Hid (Below w.heap.size w w1) := hb1
  have HS : Hid (OpS w1 (some ⟨b, 0, none⟩) n f0 f1 f2) := hS
  clear hb1 hp hS H
  cases hpr : progB n f0 f1 f2
  · have HLi : Hid (∀ W1 : World, OpS W1 (some ⟨b, 0, none⟩) n f0 f1 f2 → Calls Try.prog 36 #[.slice (some ⟨b, 0, none⟩) n cp] W1 fun e w' => e = .returned (.bool false) ∧ Below W1.heap.size W1 w') := fun W1 hW => by
      have := implProgOk_any (some ⟨b, 0, none⟩) n cp f0 f1 f2 W1 (by omega) hW
      rw [hpr] at this; exact this
    have HLs : Hid (∀ W1 : World, OpS W1 (some ⟨b, 0, none⟩) n f0 f1 f2 → Calls Try.prog 37 #[.slice (some ⟨b, 0, none⟩) n cp] W1 fun e w' => e = .returned (.bool false) ∧ Below W1.heap.size W1 w') := fun W1 hW => by
      have := specProgOk_any (some ⟨b, 0, none⟩) n cp f0 f1 f2 W1 (by omega) hW
      rw [hpr] at this; exact this
    have HPR : Hid (progB n f0 f1 f2 = false) := hpr
    clear hpr
    go_wp2_with fail
    refine (implPartNew_no _ cp n f0 f1 f2 _ (by omega) HS.out HPR.out).mono ?_
    rintro e w2 ⟨rfl, hb2⟩
    have HB2 : Hid (Below w.heap.size w w2) := HB1.out.trans (hb2.mono HB1.out.size)
    have HS2 : Hid (OpS w2 (some ⟨b, 0, none⟩) n f0 f1 f2) := HS.out.below hb2
    clear hb2
    have HX : Hid ((w2.alloc (.cells #[.slice none 0 0, .slice none 0 0, .int .i64 0, .bool false, .slice none 0 0] 54)).heap[w2.heap.size]? = some (.cells #[.slice none 0 0, .slice none 0 0, .int .i64 0, .bool false, .slice none 0 0] 54)) := get_new rfl
    have HW : Hid (Below w.heap.size w (w2.alloc (.cells #[.slice none 0 0, .slice none 0 0, .int .i64 0, .bool false, .slice none 0 0] 54))) := HB2.out.alloc (by have := HB2.out.size; omega) _
    have HSr : Hid (OpS (w2.alloc (.cells #[.slice none 0 0, .slice none 0 0, .int .i64 0, .bool false, .slice none 0 0] 54)) (some ⟨b, 0, none⟩) n f0 f1 f2) := HS2.out.alloc _
    go_wp2_with fail
    generalize hwr : w2.alloc (.cells #[.slice none 0 0, .slice none 0 0, .int .i64 0, .bool false, .slice none 0 0] 54) = wr at *
    clear hwr
    obtain ⟨k0, k1, k2, k3, k4⟩ := cells5_of HX.out
    have hxl := size_of_get HX.out
    have HPo : Hid (∀ W1 : World, Below wr.heap.size wr W1 → Calls Try.prog 38 #[.agg #[.slice none 0 0, .slice none 0 0, .int .i64 0, .bool false, .slice none 0 0]] W1 fun e w' => e = .returned (.bool false) ∧ Below W1.heap.size W1 w') := fun W1 hW => by
      have := implPartOk_any none 0 0 f0 f1 f2 none 0 0 (fun _ => 0) 0 false none 0 0 (fun _ => 0) W1 (by omega) (by omega) (by omega) (.inl rfl) (.inl rfl) (.inl rfl)
      rw [partB_no] at this; exact this
    go_region_with ((first | (go_at_call 35; refine (specPartNew_no _ cp n f0 f1 f2 _ (by omega) (HSr.out.below (by repeat (first | with_reducible assumption | exact Below.refl _ _ | refine Below.drew ?_))) HPR.out).mono ?_; rintro e wa ⟨rfl, hba⟩; have HKwa : Below wr.heap.size wr wa := bstep (by repeat (first | with_reducible assumption | exact Below.refl _ _ | refine Below.drew ?_)) hba; obtain ⟨k0, k1, k2, k3, k4⟩ := cells5_of (get_below HKwa HX.out hxl); clear hba) | (go_at_call 34; refine (skPart_any none none none none none none 0 0 0 0 0 0 0 0 0 f0 f1 f2 (fun _ => 0) _ _ (fun _ => 0) _ (by unfold maxLen; omega) (by unfold maxLen; omega) (by unfold maxLen; omega) (.inl rfl) (.inl rfl) (.inl rfl) (.inl rfl) (.inl rfl) (.inl rfl)).mono ?_; rintro e wb ⟨rfl, hbb⟩; have HKwb : Below wr.heap.size wr wb := bstep (by repeat (first | with_reducible assumption | exact Below.refl _ _ | refine Below.drew ?_)) hbb; obtain ⟨k0, k1, k2, k3, k4⟩ := cells5_of (get_below HKwb HX.out hxl); clear hbb) | (go_at_call 36; refine Calls.mono (HLi.out _ (HSr.out.below (by repeat (first | with_reducible assumption | exact Below.refl _ _ | refine Below.drew ?_)))) ?_; rintro e wc ⟨rfl, hbc⟩; have HKwc : Below wr.heap.size wr wc := bstep (by repeat (first | with_reducible assumption | exact Below.refl _ _ | refine Below.drew ?_)) hbc; obtain ⟨k0, k1, k2, k3, k4⟩ := cells5_of (get_below HKwc HX.out hxl); clear hbc) | (go_at_call 37; refine Calls.mono (HLs.out _ (HSr.out.below (by repeat (first | with_reducible assumption | exact Below.refl _ _ | refine Below.drew ?_)))) ?_; rintro e wd ⟨rfl, hbd⟩; have HKwd : Below wr.heap.size wr wd := bstep (by repeat (first | with_reducible assumption | exact Below.refl _ _ | refine Below.drew ?_)) hbd; obtain ⟨k0, k1, k2, k3, k4⟩ := cells5_of (get_below HKwd HX.out hxl); clear hbd)))
    all_goals
      go_wp2_with fail
      refine Calls.mono (HPo.out _ (by repeat (first | with_reducible assumption | exact Below.refl _ _ | refine Below.drew ?_))) ?_
      rintro e we ⟨rfl, hbe⟩
      have HKwe : Below wr.heap.size wr we := bstep (by repeat (first | with_reducible assumption | exact Below.refl _ _ | refine Below.drew ?_)) hbe
      obtain ⟨k0, k1, k2, k3, k4⟩ := cells5_of (get_below HKwe HX.out hxl)
      clear hbe
      go_wp2_with fail
      refine Calls.mono (HLs.out _ (HSr.out.below (by repeat (first | with_reducible assumption | exact Below.refl _ _ | refine Below.drew ?_)))) ?_
      rintro e wf ⟨rfl, hbf⟩
      have HKwf : Below wr.heap.size wr wf := bstep (by repeat (first | with_reducible assumption | exact Below.refl _ _ | refine Below.drew ?_)) hbf
      obtain ⟨k0, k1, k2, k3, k4⟩ := cells5_of (get_below HKwf HX.out hxl)
      clear hbf
      go_wp2_with fail
      go_ret
      exact ⟨rfl, HW.out.trans (HKwf.mono HW.out.size)⟩
  · have HLi : Hid (∀ W1 : World, OpS W1 (some ⟨b, 0, none⟩) n f0 f1 f2 → Calls Try.prog 36 #[.slice (some ⟨b, 0, none⟩) n cp] W1 fun e w' => e = .returned (.bool true) ∧ Below W1.heap.size W1 w') := fun W1 hW => by
      have := implProgOk_any (some ⟨b, 0, none⟩) n cp f0 f1 f2 W1 (by omega) hW
      rw [hpr] at this; exact this
    have HLs : Hid (∀ W1 : World, OpS W1 (some ⟨b, 0, none⟩) n f0 f1 f2 → Calls Try.prog 37 #[.slice (some ⟨b, 0, none⟩) n cp] W1 fun e w' => e = .returned (.bool true) ∧ Below W1.heap.size W1 w') := fun W1 hW => by
      have := specProgOk_any (some ⟨b, 0, none⟩) n cp f0 f1 f2 W1 (by omega) hW
      rw [hpr] at this; exact this
    have HPR : Hid (progB n f0 f1 f2 = true) := hpr
    clear hpr
    go_wp2_with fail
    refine (implPartNew_yesC b n cp f0 f1 f2 _ (by omega) HS.out HPR.out).mono ?_
    rintro e w2 ⟨bi, pi, mi, rfl, ⟨hi0, hi1, hx1, hx2, hx3, hx4, hx5, hx6, hx7⟩, hb2⟩
    clear hx1 hx2 hx3 hx4 hx5 hx6 hx7
    have HB2 : Hid (Below w.heap.size w w2) := HB1.out.trans (hb2.mono HB1.out.size)
    have HS2 : Hid (OpS w2 (some ⟨b, 0, none⟩) n f0 f1 f2) := HS.out.below hb2
    clear hb2
    have HX : Hid ((w2.alloc (.cells #[.slice (some ⟨bi, 0, none⟩) n pi, .slice (some ⟨mi, 0, none⟩) 8 8, .int .i64 0, .bool false, .slice none 0 0] 54)).heap[w2.heap.size]? = some (.cells #[.slice (some ⟨bi, 0, none⟩) n pi, .slice (some ⟨mi, 0, none⟩) 8 8, .int .i64 0, .bool false, .slice none 0 0] 54)) := get_new rfl
    have HW : Hid (Below w.heap.size w (w2.alloc (.cells #[.slice (some ⟨bi, 0, none⟩) n pi, .slice (some ⟨mi, 0, none⟩) 8 8, .int .i64 0, .bool false, .slice none 0 0] 54))) := HB2.out.alloc (by have := HB2.out.size; omega) _
    have HSr : Hid (OpS (w2.alloc (.cells #[.slice (some ⟨bi, 0, none⟩) n pi, .slice (some ⟨mi, 0, none⟩) 8 8, .int .i64 0, .bool false, .slice none 0 0] 54)) (some ⟨b, 0, none⟩) n f0 f1 f2) := HS2.out.alloc _
    have HI0 : Hid (OpS (w2.alloc (.cells #[.slice (some ⟨bi, 0, none⟩) n pi, .slice (some ⟨mi, 0, none⟩) 8 8, .int .i64 0, .bool false, .slice none 0 0] 54)) (some ⟨bi, 0, none⟩) n f0 f1 f2) := hi0.alloc _
    have HI1 : Hid (IntS (w2.alloc (.cells #[.slice (some ⟨bi, 0, none⟩) n pi, .slice (some ⟨mi, 0, none⟩) 8 8, .int .i64 0, .bool false, .slice none 0 0] 54)) (some ⟨mi, 0, none⟩) 8 (fun _ => 0)) := hi1.alloc _
    clear hi0 hi1
    go_wp2_with fail
    generalize hwr : w2.alloc (.cells #[.slice (some ⟨bi, 0, none⟩) n pi, .slice (some ⟨mi, 0, none⟩) 8 8, .int .i64 0, .bool false, .slice none 0 0] 54) = wr at *
    clear hwr
    obtain ⟨k0, k1, k2, k3, k4⟩ := cells5_of HX.out
    have hxl := size_of_get HX.out
    have HPo : Hid (∀ W1 : World, Below wr.heap.size wr W1 → Calls Try.prog 38 #[.agg #[.slice (some ⟨bi, 0, none⟩) n pi, .slice (some ⟨mi, 0, none⟩) 8 8, .int .i64 0, .bool false, .slice none 0 0]] W1 fun e w' => e = .returned (.bool true) ∧ Below W1.heap.size W1 w') := fun W1 hW => by
      have := implPartOk_any (some ⟨bi, 0, none⟩) n pi f0 f1 f2 (some ⟨mi, 0, none⟩) 8 8 (fun _ => 0) 0 false none 0 0 (fun _ => 0) W1 (by omega) (by omega) (by omega) (OpS.below HI0.out hW) (IntS.below HI1.out hW) (.inl rfl)
      rw [partB_new HPR.out] at this; exact this
    go_region_with ((first | (go_at_call 35; refine (specPartNew_yesC b n cp f0 f1 f2 _ (by omega) (HSr.out.below (by repeat (first | with_reducible assumption | exact Below.refl _ _ | refine Below.drew ?_))) HPR.out).mono ?_; rintro e wa ⟨sa0, sp0, sa1, sp1, sa4, sp4, rfl, ⟨hs0, hs1, hs4⟩, hba⟩; have HA0 : Hid (OpS wa sa0 n f0 f1 f2) := hs0; have HA1 : Hid (IntS wa sa1 8 (fun _ => 0)) := hs1; have HKwa : Below wr.heap.size wr wa := bstep (by repeat (first | with_reducible assumption | exact Below.refl _ _ | refine Below.drew ?_)) hba; obtain ⟨k0, k1, k2, k3, k4⟩ := cells5_of (get_below HKwa HX.out hxl); clear hba; clear hs0 hs1 hs4) | (go_at_call 34; refine (skPart_any _ _ _ _ _ _ n _ _ 8 _ _ 0 _ _ f0 f1 f2 (fun _ => 0) _ _ (fun _ => 0) _ (by unfold maxLen; omega) (by unfold maxLen; omega) (by unfold maxLen; omega) (OpS.below HI0.out (by repeat (first | with_reducible assumption | exact Below.refl _ _ | refine Below.drew ?_))) (IntS.below HI1.out (by repeat (first | with_reducible assumption | exact Below.refl _ _ | refine Below.drew ?_))) (.inl rfl) (OpS.below HA0.out (by repeat (first | with_reducible assumption | exact Below.refl _ _ | refine Below.drew ?_))) (IntS.below HA1.out (by repeat (first | with_reducible assumption | exact Below.refl _ _ | refine Below.drew ?_))) (.inl rfl)).mono ?_; rintro e wb ⟨rfl, hbb⟩; have HKwb : Below wr.heap.size wr wb := bstep (by repeat (first | with_reducible assumption | exact Below.refl _ _ | refine Below.drew ?_)) hbb; obtain ⟨k0, k1, k2, k3, k4⟩ := cells5_of (get_below HKwb HX.out hxl); clear hbb) | (go_at_call 36; refine Calls.mono (HLi.out _ (HSr.out.below (by repeat (first | with_reducible assumption | exact Below.refl _ _ | refine Below.drew ?_)))) ?_; rintro e wc ⟨rfl, hbc⟩; have HKwc : Below wr.heap.size wr wc := bstep (by repeat (first | with_reducible assumption | exact Below.refl _ _ | refine Below.drew ?_)) hbc; obtain ⟨k0, k1, k2, k3, k4⟩ := cells5_of (get_below HKwc HX.out hxl); clear hbc) | (go_at_call 37; refine Calls.mono (HLs.out _ (HSr.out.below (by repeat (first | with_reducible assumption | exact Below.refl _ _ | refine Below.drew ?_)))) ?_; rintro e wd ⟨rfl, hbd⟩; have HKwd : Below wr.heap.size wr wd := bstep (by repeat (first | with_reducible assumption | exact Below.refl _ _ | refine Below.drew ?_)) hbd; obtain ⟨k0, k1, k2, k3, k4⟩ := cells5_of (get_below HKwd HX.out hxl); clear hbd)))
    all_goals
      go_wp2_with fail
      refine Calls.mono (HPo.out _ (by repeat (first | with_reducible assumption | exact Below.refl _ _ | refine Below.drew ?_))) ?_
      rintro e we ⟨rfl, hbe⟩
      have HKwe : Below wr.heap.size wr we := bstep (by repeat (first | with_reducible assumption | exact Below.refl _ _ | refine Below.drew ?_)) hbe
      obtain ⟨k0, k1, k2, k3, k4⟩ := cells5_of (get_below HKwe HX.out hxl)
      clear hbe
      go_wp2_with fail
      refine Calls.mono (HLs.out _ (HSr.out.below (by repeat (first | with_reducible assumption | exact Below.refl _ _ | refine Below.drew ?_)))) ?_
      rintro e wf ⟨rfl, hbf⟩
      have HKwf : Below wr.heap.size wr wf := bstep (by repeat (first | with_reducible assumption | exact Below.refl _ _ | refine Below.drew ?_)) hbf
      obtain ⟨k0, k1, k2, k3, k4⟩ := cells5_of (get_below HKwf HX.out hxl)
      clear hbf
      go_wp2_with fail
      go_ret
      exact ⟨rfl, HW.out.trans (HKwf.mono HW.out.size)⟩
theorem FnPartNew_own : ownKnob Try.prog.godebug = none := by kernel_rfl
theorem FnPartNew_laidOut : laidOutB Try.prog = true := by kernel_rfl
set_option maxRecDepth 100000 in
theorem FnPartNew_lifted (os : Os) (started : os.Started) (H : Type) (enc : TypeId × Value → H) :
    ReturnsInHanded {} Try.checked os 7 .any (Rows.fnPartNewSpec.pre6 enc Try.prog Try.f7 Rows.fnPartNewRow.domain false) (Rows.fnPartNewSpec.post enc Try.prog Try.f7 false true false false) := by
  refine returnsInHanded_of_change (C := Try.checked) FnPartNew_own started (by kernel_rfl) Try.func7
    (ChangeSpec.witness6 (enc := enc) (C := Try.checked) false ⟨#[], #[.slice none 0 0], []⟩ 8 (by kernel_rfl) (by kernel_rfl) (by kernel_rfl) (by kernel_rfl)) ?_
  intro W base args ds gs before hval0 hW hcnd _
  have hval : ∀ (j : Nat) t v, Try.f7.params[j]? = some t → args[j]? = some v → Value.okWide Try.prog W .any base t v := hval0
  have hW' := hW
  obtain ⟨p, q, hA0, hV, rfl, hfz, hnd⟩ := hW
  have hA : DataW.TrodAll enc Try.prog W 0 (fun _ => true) true Try.f7.params.toList args.toList ds p := hA0
  rw [Try.params7] at hA hval
  obtain ⟨v0, vs0, d0, ds0, p0, q0, hargs, rfl, rfl, h0, r0⟩ := trodAll_cons hA
  obtain ⟨rfl, rfl, rfl⟩ := trodAll_nil r0
  obtain rfl : args = #[v0] := by cases args; simp_all
  obtain ⟨rfl, rfl⟩ := trodVars_none hV
  obtain ⟨a0, len0, cap0, rfl⟩ := okWide_slice Try.underlying22 (hval 0 22 v0 rfl rfl)
  have k0 := h0
  have lt0 : ∀ x ∈ p0, x.block < W.heap.size := by obtain ⟨m, hm⟩ := k0; exact DataW.trod_lt m _ _ _ hm
  obtain ⟨z0, w0⟩ : ∃ zs, IsRow .u8 W a0 len0 cap0 zs := by
    obtain ⟨fuel, hf⟩ := h0
    rcases open_ints Try.underlying22 Try.underlying5 (by kernel_rfl) hf with ⟨hcs, _⟩ | ⟨x, l, c, zs, hcs, _, hl, hm, hz, _, hcell, hwz⟩
    · simp [Value.cells] at hcs
      obtain ⟨rfl, rfl, rfl⟩ := hcs
      exact ⟨[], .inl ⟨rfl, rfl, rfl, rfl⟩⟩
    · simp [Value.cells] at hcs
      obtain ⟨rfl, rfl, rfl⟩ := hcs
      exact ⟨zs, .inr ⟨_, rfl, hl, hm, by simpa using hz, hcell, hwz⟩⟩
  clear hA0 hval0
  refine (FnPartNew_walk a0 len0 cap0 z0 W w0).mono fun e W' ⟨he, bel⟩ => ?_
  subst he
  exact ⟨_, rfl, _, _, _, [], _, [], hW', trodAll_mk1 (shut_bool Try.underlying4 _), (trodAll_cons_mk (Below.trod FnPartNew_laidOut (by kernel_rfl) (of_decide_eq_true (by kernel_rfl)) k0 bel lt0) trodAll_mk0), rfl, bel.frame _, fun h => by cases h⟩
theorem FnPartNew_holds : Rows.FnPartNewSaid :=
  OpenClaim.holds_of_wide 7 Try.f7 rfl rfl rfl rfl rfl rfl rfl ⟨rfl, rfl, rfl, rfl, rfl⟩ rfl rfl rfl rfl rfl (by kernel_rfl) Try.func7 (by kernel_rfl)
    (of_decide_eq_true (by kernel_rfl)) (by unfold Func.isWrapper; first | (rw [if_pos (by decide +kernel)]; kernel_rfl) | (rw [if_neg (by decide +kernel)]; exact ⟨rfl, rfl⟩))
    (fun os started H enc _ => FnPartNew_lifted os started H enc)
#print axioms FnPartNew_holds
end Go.Proofs.Ytdbemdcfeokicaa
