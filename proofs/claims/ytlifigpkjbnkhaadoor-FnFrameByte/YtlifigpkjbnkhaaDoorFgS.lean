/- spec.FrameGet. -/
import Derived.Test.YtlifigpkjbnkhaaDoorFgJ
import Derived.BigRegion
import Derived.Test.YtlifigpkjbnkhaaDoorQuB
import Derived.Deep.RegionWith
namespace Go.Proofs.YtlifigpkjbnkhaaDoor
open Go.ChangeShapes Go.WideShapes Go.ChangeAt Go.RowKit
set_option linter.unusedVariables false

theorem fgOk_8 {t : ByteArray} (h : fgOk t = true) : 8 ≤ fgN t ∧ fgN t ≤ t.size ∧ t.size ≤ 63 := by
  simp only [fgOk, fgIn, Bool.and_eq_true, decide_eq_true_eq] at h
  obtain ⟨⟨h1, h2, h3⟩, h4⟩ := h
  refine ⟨?_, h3, h1⟩
  rcases Nat.lt_or_ge (fgN t) 8 with h | h
  · exfalso
    have hd : fgD t = ⟨#[]⟩ := by
      unfold fgD
      apply ByteArray.ext
      have : fgN t = 7 := by omega
      simp [this]
    have e : fgPut t = ⟨#[]⟩ := by
      unfold fgPut frPut
      rw [if_neg]
      simp only [frOk, inB, Bool.and_eq_true, decide_eq_true_eq]
      rw [hd]
      intro h
      have : (1 : Int) ≤ ((⟨#[]⟩ : ByteArray).size : Int) := h.1.2.1
      exact absurd this (by decide)
    rw [e] at h4
    have := congrArg ByteArray.size h4
    rw [ByteArray.size_extract] at this
    have h0 : (⟨#[]⟩ : ByteArray).size = 0 := rfl
    omega
  · exact h
set_option maxHeartbeats 1000000 in
theorem specFrameGet_out (t : ByteArray) (w : World) (ht : t.size ≤ maxLen) (h : t.size < 8 ∨ 63 < t.size) :
    Calls Tryd.prog 8 #[.string t] w fun e w' => e = .returned (.tuple #[fgV t, .bool (fgOk t)]) ∧ Below w.heap.size w w' := by
  have e1 : fgOk t = false := by
    cases hx : fgOk t with
    | false => rfl
    | true => have := fgOk_8 hx; omega
  have e2 : fgV t = .agg #[.bool false, .bool false, .int .i64 0, .int .i64 0, .int .i64 0, .string ⟨#[]⟩] := by simp [fgV, e1]
  have HG : Hid ((w.alloc (.cells #[.bool false, .bool false, .int .i64 0, .int .i64 0, .int .i64 0, .string ⟨#[]⟩] 23)).heap[w.heap.size]? = some (.cells #[.bool false, .bool false, .int .i64 0, .int .i64 0, .int .i64 0, .string ⟨#[]⟩] 23)) := get_new rfl
  have HB : Hid (Below w.heap.size w (w.alloc (.cells #[.bool false, .bool false, .int .i64 0, .int .i64 0, .int .i64 0, .string ⟨#[]⟩] 23))) := (Below.refl _ _).alloc (Nat.le_refl _) _
  unfold maxLen at ht
  rw [e1, e2]
  clear e1 e2
  rcases h with h | h
  all_goals
    go_enter Tryd.func8, Tryd.ntmps8
    go_wp2_with fail
    refine bodyPost_ret (v := .tuple #[.agg #[.bool false, .bool false, .int .i64 0, .int .i64 0, .int .i64 0, .string ⟨#[]⟩], .bool false]) (results_row_tmp Tryd.results8 _ _ (w.heap.size) 23 #[.bool false, .bool false, .int .i64 0, .int .i64 0, .int .i64 0, .string ⟨#[]⟩] (0, 0) _ rfl ?_ Tryd.underlying23 rfl cells26 _ rfl) rfl ⟨rfl, ?_⟩
    · exact HG.out
    · exact HB.out
set_option maxHeartbeats 1000000 in
theorem specFrameGet_not (t : ByteArray) (w : World) (h8 : 8 ≤ t.size) (h63 : t.size ≤ 63) (hn : ¬ (8 ≤ fgN t ∧ fgN t ≤ t.size)) :
    Calls Tryd.prog 8 #[.string t] w fun e w' => e = .returned (.tuple #[fgV t, .bool (fgOk t)]) ∧ Below w.heap.size w w' := by
  have e1 : fgOk t = false := by
    cases hx : fgOk t with
    | false => rfl
    | true => have := fgOk_8 hx; omega
  have e2 : fgV t = .agg #[.bool false, .bool false, .int .i64 0, .int .i64 0, .int .i64 0, .string ⟨#[]⟩] := by simp [fgV, e1]
  have HG : Hid ((w.alloc (.cells #[.bool false, .bool false, .int .i64 0, .int .i64 0, .int .i64 0, .string ⟨#[]⟩] 23)).heap[w.heap.size]? = some (.cells #[.bool false, .bool false, .int .i64 0, .int .i64 0, .int .i64 0, .string ⟨#[]⟩] 23)) := get_new rfl
  have HB : Hid (Below w.heap.size w (w.alloc (.cells #[.bool false, .bool false, .int .i64 0, .int .i64 0, .int .i64 0, .string ⟨#[]⟩] 23))) := (Below.refl _ _).alloc (Nat.le_refl _) _
  have hm : t.size ≤ maxLen := by unfold maxLen; omega
  have HM : Hid (t.size ≤ maxLen) := hm
  have hN : (((gt t 2 2 : Nat) : Int) % 1024 + 1) = (fgN t : Int) := by unfold fgN; omega
  have HN : Hid _ := hN
  clear hN
  have hi : inB ((((gt t 2 2 : Nat) : Int) % 1024 + 1)) 8 t.size = false := by rw [HN.out]; exact inB_no (fun h => hn ⟨by omega, by omega⟩)
  have hb2 : gt t 2 2 < 65536 := gt_lt t 2 2
  have hb0 : gt t 0 2 < 65536 := gt_lt t 0 2
  rw [e1, e2]
  clear e1 e2 hm hn
  go_enter Tryd.func8, Tryd.ntmps8
  go_wp2_with fail
  refine (l1Get_any t 0 2 _ HM.out (by omega) (by omega)).mono ?_
  rintro e w1 ⟨rfl, rfl⟩
  go_wp2_with fail
  refine (l1Get_any t 2 2 _ HM.out (by omega) (by omega)).mono ?_
  rintro e w1 ⟨rfl, rfl⟩
  go_wp2_with fail
  refine (l1In_any _ _ _ _).mono ?_
  rintro e w1 ⟨rfl, rfl⟩
  go_wp2_with fail
  refine bodyPost_ret (v := .tuple #[.agg #[.bool false, .bool false, .int .i64 0, .int .i64 0, .int .i64 0, .string ⟨#[]⟩], .bool false]) (results_row_tmp Tryd.results8 _ _ (w.heap.size) 23 #[.bool false, .bool false, .int .i64 0, .int .i64 0, .int .i64 0, .string ⟨#[]⟩] (0, 0) _ rfl ?_ Tryd.underlying23 rfl cells26 _ rfl) rfl ⟨rfl, ?_⟩
  · exact HG.out
  · exact HB.out
theorem l3Put_ok (p g : Bool) (c v q : Int) (d : ByteArray) (w : World) (hd : d.size ≤ maxLen) (h : frOk p g c v q d = true) :
    Calls Tryd.prog 27 #[.agg #[.bool p, .bool g, .int .i64 c, .int .i64 v, .int .i64 q, .string d]] w fun e w' => e = .returned (.string (frPut p g c v q d)) ∧ Below w.heap.size w w' := by
  obtain ⟨h0, h1, h2, h3, h4, h5, h6, h7, h8⟩ := frOk_all h
  unfold frPut
  rw [if_pos h]
  cases g
  · cases p
    · exact l3Put_ff c v q d w hd h0 h1 h2 h3 h4 h5 h6 h7
    · exact l3Put_tf c v q d w hd h0 h1 h2 h3 h4 h5 h6 h7
  · have hp := h8 rfl
    subst hp
    exact l3Put_tt c v q d w hd h0 h1 h2 h3 h4 h5 h6 h7
theorem beq_nat (n m k : Nat) : (((n : Int) / (m : Int) % 2 == 1)) = decide (n / m % 2 = 1) := by
  by_cases h : n / m % 2 = 1
  · simp [h]; omega
  · simp [h]; omega
set_option maxRecDepth 100000 in
set_option maxHeartbeats 4000000 in
theorem specFrameGet_in (t : ByteArray) (w : World) (h63 : t.size ≤ 63) (hn8 : 8 ≤ fgN t) (hns : fgN t ≤ t.size) :
    Calls Tryd.prog 8 #[.string t] w fun e w' => e = .returned (.tuple #[fgV t, .bool (fgOk t)]) ∧ Below w.heap.size w w' := by
  have HG : Hid ((w.alloc (.cells #[.bool false, .bool false, .int .i64 0, .int .i64 0, .int .i64 0, .string ⟨#[]⟩] 23)).heap[w.heap.size]? = some (.cells #[.bool false, .bool false, .int .i64 0, .int .i64 0, .int .i64 0, .string ⟨#[]⟩] 23)) := get_new rfl
  have HB : Hid (Below w.heap.size w (w.alloc (.cells #[.bool false, .bool false, .int .i64 0, .int .i64 0, .int .i64 0, .string ⟨#[]⟩] 23))) := (Below.refl _ _).alloc (Nat.le_refl _) _
  have hm : t.size ≤ maxLen := by unfold maxLen; omega
  have HM : Hid (t.size ≤ maxLen) := hm
  have hN : (((gt t 2 2 : Nat) : Int) % 1024 + 1) = (fgN t : Int) := by unfold fgN; omega
  have hi : inB (fgN t : Int) 8 t.size = true := inB_yes (by omega) (by omega)
  have hb2 : gt t 2 2 < 65536 := gt_lt t 2 2
  have hb0 : gt t 0 2 < 65536 := gt_lt t 0 2
  have hb4 := byteAt_lt t 4
  have e4 : gt t 4 1 = byteAt t 4 := by simp [gt]
  have hx4 : ∀ h : 4 < t.size, (t[4]'h).toNat = gt t 4 1 := fun h => by rw [e4]; exact byteAt_eq t 4 h
  clear hm
  go_enter Tryd.func8, Tryd.ntmps8
  go_wp2_with fail
  refine (l1Get_any t 0 2 _ HM.out (by omega) (by omega)).mono ?_
  rintro e w1 ⟨rfl, rfl⟩
  go_wp2_with fail
  refine (l1Get_any t 2 2 _ HM.out (by omega) (by omega)).mono ?_
  rintro e w1 ⟨rfl, rfl⟩
  go_wp2_with fail
  refine (l1In_any _ _ _ _).mono ?_
  rintro e w1 ⟨rfl, rfl⟩
  go_wp2_with fail
  generalize (w.alloc (.cells #[.bool false, .bool false, .int .i64 0, .int .i64 0, .int .i64 0, .string ⟨#[]⟩] 23)) = w1 at *
  go_region
  have E : Hid (fgOk t = decide (frPut ((gt t 0 2 : Int) / 8192 % 2 == 1) ((gt t 0 2 : Int) / 4096 % 2 == 1) ((gt t 0 2 : Int) % 1024) ((gt t 2 2 : Int) / 1024) (byteAt t 4) (t.extract 5 (fgN t - 2)) = t.extract 0 (fgN t)) ∧ fgV t = if fgOk t = true then .agg #[.bool ((gt t 0 2 : Int) / 8192 % 2 == 1), .bool ((gt t 0 2 : Int) / 4096 % 2 == 1), .int .i64 ((gt t 0 2 : Int) % 1024), .int .i64 ((gt t 2 2 : Int) / 1024), .int .i64 (byteAt t 4 : Nat), .string (t.extract 5 (fgN t - 2))] else .agg #[.bool false, .bool false, .int .i64 0, .int .i64 0, .int .i64 0, .string ⟨#[]⟩]) := by
    have q1 : ((gt t 0 2 : Int) / 8192 % 2 == 1) = fgP t := beq_nat _ 8192 0
    have q2 : ((gt t 0 2 : Int) / 4096 % 2 == 1) = fgG t := beq_nat _ 4096 0
    have hi2 : fgIn t = true := by simp [fgIn]; omega
    rw [q1, q2, ← e4]
    refine ⟨?_, by unfold fgV; rfl⟩
    simp only [fgOk, hi2, h63, decide_true, Bool.true_and]
    rfl
  have hdm : (t.extract 5 (fgN t - 2)).size ≤ maxLen := Nat.le_trans (by rw [ByteArray.size_extract]; omega) HM.out
  generalize ((gt t 0 2 : Int) / 8192 % 2 == 1) = p at *
  generalize ((gt t 0 2 : Int) / 4096 % 2 == 1) = g at *
  generalize ((gt t 0 2 : Int) % 1024) = c at *
  generalize ((gt t 2 2 : Int) / 1024) = v at *
  generalize ((byteAt t 4 : Nat) : Int) = q at *
  generalize (t.extract 5 (fgN t - 2)) = d at *
  have HX : Hid (((w1.alloc (.cells #[.bool p, .bool g, .int .i64 c, .int .i64 v, .int .i64 q, .string d] 23)).drew).heap[w1.heap.size]? = some (.cells #[.bool p, .bool g, .int .i64 c, .int .i64 v, .int .i64 q, .string d] 23)) := get_newD rfl
  have hl1 := size_of_get HG.out
  have HG2 : Hid (((w1.alloc (.cells #[.bool p, .bool g, .int .i64 c, .int .i64 v, .int .i64 q, .string d] 23)).drew).heap[w.heap.size]? = some (.cells #[.bool false, .bool false, .int .i64 0, .int .i64 0, .int .i64 0, .string ⟨#[]⟩] 23)) := get_alloc HG.out hl1
  have HB2 : Hid (Below w.heap.size w ((w1.alloc (.cells #[.bool p, .bool g, .int .i64 c, .int .i64 v, .int .i64 q, .string d] 23)).drew)) := (HB.out.alloc HB.out.size _).drew
  clear HG HB
  go_wp2_with fail
  generalize ((w1.alloc (.cells #[.bool p, .bool g, .int .i64 c, .int .i64 v, .int .i64 q, .string d] 23)).drew) = wr at *
  have hlr := size_of_get HX.out
  obtain ⟨k0, k1, k2, k3, k4, k5⟩ := cells6_of HX.out
  cases hf : frOk p g c v q d with
  | false =>
    have HFO : Hid (∀ W, Calls Tryd.prog 23 #[.agg #[.bool p, .bool g, .int .i64 c, .int .i64 v, .int .i64 q, .string d]] W fun e w' => e = .returned (.bool false) ∧ Below W.heap.size W w') := fun W => by
      have := specFrameOk_any p g c v q d W hdm
      rw [hf] at this; exact this
    have hfr : fgOk t = false := by
      rw [E.out.1]; unfold frPut; rw [hf, if_neg (by decide)]
      simp only [decide_eq_false_iff_not]
      intro h
      have := congrArg ByteArray.size h
      rw [ByteArray.size_extract] at this
      have h0 : (⟨#[]⟩ : ByteArray).size = 0 := rfl
      omega
    have e2 := E.out.2
    rw [hfr, if_neg (by decide)] at e2
    have E1 : Hid _ := hfr
    have E2 : Hid _ := e2
    clear E e2 hfr
    have c0 := Bl.cell k0 hlr
    have c1 := Bl.cell k1 hlr
    have c2 := Bl.cell k2 hlr
    have c3 := Bl.cell k3 hlr
    have c4 := Bl.cell k4 hlr
    have c5 := Bl.cell k5 hlr
    clear k0 k1 k2 k3 k4 k5
    refine wp_region_bl (by kernel_rfl) (by kernel_rfl) ?_
    repeat (go_big_quiet_step ((first | (go_at_call 23; exact calls_bl (HFO.out _)))))
    refine wpQuiet_nil ?_
    intro w8 hw8
    obtain ⟨⟨w8, hb8⟩, rfl⟩ := hw8
    have HK : Hid (Below wr.heap.size wr w8) := hb8
    clear hb8 c0 c1 c2 c3 c4 c5
    all_goals
      have hX8 : Below wr.heap.size wr w8 := HK.out
      have HG8 : Hid (w8.heap[w.heap.size]? = some (.cells #[.bool false, .bool false, .int .i64 0, .int .i64 0, .int .i64 0, .string ⟨#[]⟩] 23)) := get_below hX8 HG2.out (by omega)
      have HX8 : Hid (w8.heap[w1.heap.size]? = some (.cells #[.bool p, .bool g, .int .i64 c, .int .i64 v, .int .i64 q, .string d] 23)) := get_below hX8 HX.out (by omega)
      have HB8 : Hid (Below w.heap.size w w8) := HB2.out.trans (hX8.mono HB2.out.size)
      clear hX8
      obtain ⟨r0, r1, r2, r3, r4, r5⟩ := cells6_of HG8.out
      obtain ⟨x0, x1, x2, x3, x4, x5⟩ := cells6_of HX8.out
      have fz : ∀ j, w8.frozen? ⟨w.heap.size, j, none⟩ = false := fun j => frozen_get HG8.out
      go_wp2_with fail
      refine bodyPost_ret (v := .tuple #[.agg #[.bool false, .bool false, .int .i64 0, .int .i64 0, .int .i64 0, .string ⟨#[]⟩], .bool false]) (results_row_tmp Tryd.results8 _ _ (w.heap.size) 23 #[.bool false, .bool false, .int .i64 0, .int .i64 0, .int .i64 0, .string ⟨#[]⟩] (0, 0) _ rfl ?_ Tryd.underlying23 rfl cells26 _ rfl) rfl ⟨by rw [E1.out, E2.out], ?_⟩
      · exact get_set (get_set (get_set (get_set (get_set (get_set (HG8.out) rfl) rfl) rfl) rfl) rfl) rfl
      · exact belowS (belowS (belowS (belowS (belowS (belowS (HB8.out) (by omega)) (by omega)) (by omega)) (by omega)) (by omega)) (by omega)
  | true =>
    have HFO : Hid (∀ W, Calls Tryd.prog 23 #[.agg #[.bool p, .bool g, .int .i64 c, .int .i64 v, .int .i64 q, .string d]] W fun e w' => e = .returned (.bool true) ∧ Below W.heap.size W w') := fun W => by
      have := specFrameOk_any p g c v q d W hdm
      rw [hf] at this; exact this
    cases hq : decide (frPut p g c v q d = t.extract 0 (fgN t)) with
    | false =>
      have hfr : fgOk t = false := by rw [E.out.1, hq]
      have e2 := E.out.2
      rw [hfr, if_neg (by decide)] at e2
      have E1 : Hid _ := hfr
      have E2 : Hid _ := e2
      have hne : ((frPut p g c v q d).toList == (t.extract 0 (fgN t)).toList) = false := by rw [list_beq]; exact hq
      have hne2 : ((frPut p g c v q d).toList != (t.extract 0 (fgN t)).toList) = true := by unfold bne; rw [hne]; rfl
      clear E e2 hfr
      have c0 := Bl.cell k0 hlr
      have c1 := Bl.cell k1 hlr
      have c2 := Bl.cell k2 hlr
      have c3 := Bl.cell k3 hlr
      have c4 := Bl.cell k4 hlr
      have c5 := Bl.cell k5 hlr
      clear k0 k1 k2 k3 k4 k5
      refine wp_region_bl (by kernel_rfl) (by kernel_rfl) ?_
      repeat (go_big_quiet_step ((first | (go_at_call 23; exact calls_bl (HFO.out _)) | (go_at_call 27; exact calls_bl (l3Put_ok p g c v q d _ hdm hf)))))
      refine wpQuiet_nil ?_
      intro w8 hw8
      obtain ⟨⟨w8, hb8⟩, rfl⟩ := hw8
      have HK : Hid (Below wr.heap.size wr w8) := hb8
      clear hb8 c0 c1 c2 c3 c4 c5
      all_goals
        have hX8 : Below wr.heap.size wr w8 := HK.out
        have HG8 : Hid (w8.heap[w.heap.size]? = some (.cells #[.bool false, .bool false, .int .i64 0, .int .i64 0, .int .i64 0, .string ⟨#[]⟩] 23)) := get_below hX8 HG2.out (by omega)
        have HX8 : Hid (w8.heap[w1.heap.size]? = some (.cells #[.bool p, .bool g, .int .i64 c, .int .i64 v, .int .i64 q, .string d] 23)) := get_below hX8 HX.out (by omega)
        have HB8 : Hid (Below w.heap.size w w8) := HB2.out.trans (hX8.mono HB2.out.size)
        clear hX8
        obtain ⟨r0, r1, r2, r3, r4, r5⟩ := cells6_of HG8.out
        obtain ⟨x0, x1, x2, x3, x4, x5⟩ := cells6_of HX8.out
        have fz : ∀ j, w8.frozen? ⟨w.heap.size, j, none⟩ = false := fun j => frozen_get HG8.out
        go_wp2_with fail
        refine bodyPost_ret (v := .tuple #[.agg #[.bool false, .bool false, .int .i64 0, .int .i64 0, .int .i64 0, .string ⟨#[]⟩], .bool false]) (results_row_tmp Tryd.results8 _ _ (w.heap.size) 23 #[.bool false, .bool false, .int .i64 0, .int .i64 0, .int .i64 0, .string ⟨#[]⟩] (0, 0) _ rfl ?_ Tryd.underlying23 rfl cells26 _ rfl) rfl ⟨by rw [E1.out, E2.out], ?_⟩
        · exact get_set (get_set (get_set (get_set (get_set (get_set (HG8.out) rfl) rfl) rfl) rfl) rfl) rfl
        · exact belowS (belowS (belowS (belowS (belowS (belowS (HB8.out) (by omega)) (by omega)) (by omega)) (by omega)) (by omega)) (by omega)
    | true =>
      have hfr : fgOk t = true := by rw [E.out.1, hq]
      have e2 := E.out.2
      rw [hfr, if_pos rfl] at e2
      have E1 : Hid _ := hfr
      have E2 : Hid _ := e2
      have hne : ((frPut p g c v q d).toList == (t.extract 0 (fgN t)).toList) = true := by rw [list_beq]; exact hq
      have hne2 : ((frPut p g c v q d).toList != (t.extract 0 (fgN t)).toList) = false := by unfold bne; rw [hne]; rfl
      clear E e2 hfr
      have c0 := Bl.cell k0 hlr
      have c1 := Bl.cell k1 hlr
      have c2 := Bl.cell k2 hlr
      have c3 := Bl.cell k3 hlr
      have c4 := Bl.cell k4 hlr
      have c5 := Bl.cell k5 hlr
      clear k0 k1 k2 k3 k4 k5
      refine wp_region_bl (by kernel_rfl) (by kernel_rfl) ?_
      repeat (go_big_quiet_step ((first | (go_at_call 23; exact calls_bl (HFO.out _)) | (go_at_call 27; exact calls_bl (l3Put_ok p g c v q d _ hdm hf)))))
      refine wpQuiet_nil ?_
      intro w8 hw8
      obtain ⟨⟨w8, hb8⟩, rfl⟩ := hw8
      have HK : Hid (Below wr.heap.size wr w8) := hb8
      clear hb8 c0 c1 c2 c3 c4 c5
      all_goals
        have hX8 : Below wr.heap.size wr w8 := HK.out
        have HG8 : Hid (w8.heap[w.heap.size]? = some (.cells #[.bool false, .bool false, .int .i64 0, .int .i64 0, .int .i64 0, .string ⟨#[]⟩] 23)) := get_below hX8 HG2.out (by omega)
        have HX8 : Hid (w8.heap[w1.heap.size]? = some (.cells #[.bool p, .bool g, .int .i64 c, .int .i64 v, .int .i64 q, .string d] 23)) := get_below hX8 HX.out (by omega)
        have HB8 : Hid (Below w.heap.size w w8) := HB2.out.trans (hX8.mono HB2.out.size)
        clear hX8
        obtain ⟨r0, r1, r2, r3, r4, r5⟩ := cells6_of HG8.out
        obtain ⟨x0, x1, x2, x3, x4, x5⟩ := cells6_of HX8.out
        have fz : ∀ j, w8.frozen? ⟨w.heap.size, j, none⟩ = false := fun j => frozen_get HG8.out
        go_wp2_with fail
        refine bodyPost_ret (v := .tuple #[.agg #[.bool p, .bool g, .int .i64 c, .int .i64 v, .int .i64 q, .string d], .bool true]) (results_row_tmp Tryd.results8 _ _ (w.heap.size) 23 #[.bool p, .bool g, .int .i64 c, .int .i64 v, .int .i64 q, .string d] (0, 0) _ rfl ?_ Tryd.underlying23 rfl cells26 _ rfl) rfl ⟨by rw [E1.out, E2.out], ?_⟩
        · exact get_set (get_set (get_set (get_set (get_set (get_set (HG8.out) rfl) rfl) rfl) rfl) rfl) rfl
        · exact belowS (belowS (belowS (belowS (belowS (belowS (HB8.out) (by omega)) (by omega)) (by omega)) (by omega)) (by omega)) (by omega)
theorem specFrameGet_any (t : ByteArray) (w : World) (ht : t.size ≤ maxLen) :
    Calls Tryd.prog 8 #[.string t] w fun e w' => e = .returned (.tuple #[fgV t, .bool (fgOk t)]) ∧ Below w.heap.size w w' := by
  by_cases h : t.size < 8 ∨ 63 < t.size
  · exact specFrameGet_out t w ht h
  by_cases hn : 8 ≤ fgN t ∧ fgN t ≤ t.size
  · exact specFrameGet_in t w (by omega) hn.1 hn.2
  · exact specFrameGet_not t w (by omega) (by omega) hn
theorem implFrameGet_any (t : ByteArray) (w : World) (ht : t.size ≤ maxLen) (he : Errs w) :
    Calls Tryd.prog 9 #[.string t] w fun e w' => e = .returned (.tuple #[fgV t, .bool (fgOk t)]) ∧ Below w.heap.size w w' := by
  by_cases h : 63 < t.size
  · exact implFrameGet_long t w ht h
  · exact implFrameGet_short t w (by omega) he
end Go.Proofs.YtlifigpkjbnkhaaDoor
