/- spec.PacketGet. -/
import Derived.Test.YtgejiiaocgacmaaDoorPgJ
import Derived.Test.YtgejiiaocgacmaaDoorQuB
import Derived.BigRegion
import Derived.Deep.RegionWith
namespace Go.Proofs.YtgejiiaocgacmaaDoor
open Go.ChangeShapes Go.WideShapes Go.ChangeAt Go.RowKit
set_option linter.unusedVariables false

theorem ext_ext (t : ByteArray) (A i j : Nat) (h : A + j ≤ t.size) : (t.extract A t.size).extract i j = t.extract (A + i) (A + j) := by
  apply lsP_inj
  rw [lsP_ext, lsP_ext, lsP_ext, List.drop_take, List.drop_drop, List.take_take]
  congr 1
  omega
theorem pg_at {t : ByteArray} {A : Nat} (h : A + 7 ≤ t.size) : gt (t.extract A t.size) 0 2 = gt t A 2 ∧ gt (t.extract A t.size) 2 2 = gt t (A + 2) 2 ∧ gt (t.extract A t.size) 4 2 = gt t (A + 4) 2 ∧ (t.extract A t.size).size = t.size - A :=
  ⟨gt_extP t A t.size 0 2 (by omega), gt_extP t A t.size 2 2 (by omega), gt_extP t A t.size 4 2 (by omega), by rw [ByteArray.size_extract]; omega⟩
theorem pg_spec {t : ByteArray} {A : Nat} (h : A + 7 ≤ t.size) (hL : A + (gt t (A + 4) 2 + 7) ≤ t.size) :
    pgOk (t.extract A t.size) = decide (pkPut (decide (gt t A 2 / 4096 % 2 = 1)) (gt t A 2 % 2048 : Nat) (gt t (A + 2) 2 % 16384 : Nat) (t.extract (A + 6) (A + (gt t (A + 4) 2 + 7))) = t.extract A (A + (gt t (A + 4) 2 + 7))) ∧
    (pgOk (t.extract A t.size) = true → pgV (t.extract A t.size) = .agg #[.bool (decide (gt t A 2 / 4096 % 2 = 1)), .int .i64 (gt t A 2 % 2048 : Nat), .int .i64 (gt t (A + 2) 2 % 16384 : Nat), .string (t.extract (A + 6) (A + (gt t (A + 4) 2 + 7)))] ∧ pgN (t.extract A t.size) = (gt t (A + 4) 2 + 7 : Nat)) := by
  obtain ⟨e0, e2, e4, ez⟩ := pg_at h
  have hl : pgL (t.extract A t.size) = gt t (A + 4) 2 + 7 := by unfold pgL; rw [e4]
  have hd : pgD (t.extract A t.size) = t.extract (A + 6) (A + (gt t (A + 4) 2 + 7)) := by unfold pgD; rw [hl]; exact ext_ext t A 6 _ hL
  have hp : pgPut (t.extract A t.size) = pkPut (decide (gt t A 2 / 4096 % 2 = 1)) (gt t A 2 % 2048 : Nat) (gt t (A + 2) 2 % 16384 : Nat) (t.extract (A + 6) (A + (gt t (A + 4) 2 + 7))) := by
    unfold pgPut; rw [hd]; unfold pgU pgA pgC; rw [e0, e2]
  have hx : (t.extract A t.size).extract 0 (gt t (A + 4) 2 + 7) = t.extract A (A + (gt t (A + 4) 2 + 7)) := ext_ext t A 0 _ hL
  refine ⟨?_, fun hk => ⟨?_, ?_⟩⟩
  · unfold pgOk
    rw [hl, hp, hx, ez, decide_eq_true (show 7 ≤ t.size - A by omega), decide_eq_true (show gt t (A + 4) 2 + 7 ≤ t.size - A by omega)]
    rfl
  · unfold pgV; rw [if_pos hk, hd]; unfold pgU pgA pgC; rw [e0, e2]
  · unfold pgN; rw [if_pos hk, hl]
theorem l1Get2 (s : ByteArray) (A : Nat) (w : World) (hs : s.size ≤ maxLen) (ha : A + 2 + 2 ≤ s.size) :
    Calls Tryd.prog 126 #[.string s, .int .i64 ((A : Int) + 2), .int .i64 2] w fun e w' => e = .returned (.int .i64 (gt s (A + 2) 2 : Nat)) ∧ w' = w := l1Get_any s (A + 2) 2 w hs (by decide) ha
theorem l1Get4P (s : ByteArray) (A : Nat) (w : World) (hs : s.size ≤ maxLen) (ha : A + 4 + 2 ≤ s.size) :
    Calls Tryd.prog 126 #[.string s, .int .i64 ((A : Int) + 4), .int .i64 2] w fun e w' => e = .returned (.int .i64 (gt s (A + 4) 2 : Nat)) ∧ w' = w := l1Get_any s (A + 4) 2 w hs (by decide) ha
set_option maxHeartbeats 1000000 in
theorem specPacketGet_out (t : ByteArray) (a : Int) (w : World) (ht : t.size ≤ 1048576) (h : ¬ (0 ≤ a ∧ a ≤ (t.size : Int) - 7)) :
    Calls Tryd.prog 113 #[.string t, .int .i64 a] w fun e w' => e = .returned (.tuple #[pgV (pgAt t a), .int .i64 (pgN (pgAt t a))]) ∧ Below w.heap.size w w' := by
  have e0 : pgOk (pgAt t a) = false := by
    unfold pgOk pgAt
    split
    · rw [decide_eq_false (show ¬ 7 ≤ (t.extract a.toNat t.size).size by rw [ByteArray.size_extract]; omega)]; rfl
    · rfl
  obtain ⟨e1, e2⟩ := pgV_no e0
  have hi : inB a 0 ((t.size : Int) - 7) = false := inB_no h
  have HG : Hid ((w.alloc (.cells #[.bool false, .int .i64 0, .int .i64 0, .string ⟨#[]⟩] 79)).heap[w.heap.size]? = some (.cells #[.bool false, .int .i64 0, .int .i64 0, .string ⟨#[]⟩] 79)) := get_new rfl
  have HB : Hid (Below w.heap.size w (w.alloc (.cells #[.bool false, .int .i64 0, .int .i64 0, .string ⟨#[]⟩] 79))) := (Below.refl _ _).alloc (Nat.le_refl _) _
  have HU : Hid (∀ W, Calls Tryd.prog 55 #[.int .i64 a, .int .i64 0, .int .i64 ((t.size : Int) - 7)] W fun e w' => e = .returned (.bool false) ∧ w' = W) := fun W => by
    have := l1In_any a 0 ((t.size : Int) - 7) W
    rwa [hi] at this
  rw [e1, e2]
  clear e0 e1 e2 hi h
  go_enter Tryd.func113, Tryd.ntmps113
  go_wp2_with fail
  refine Calls.mono (HU.out _) ?_
  rintro e w1 ⟨rfl, rfl⟩
  go_wp2_with fail
  refine bodyPost_ret (v := .tuple #[.agg #[.bool false, .int .i64 0, .int .i64 0, .string ⟨#[]⟩], .int .i64 0]) (results_row_tmp Tryd.results113 _ _ (w.heap.size) 79 #[.bool false, .int .i64 0, .int .i64 0, .string ⟨#[]⟩] (0, 0) _ rfl ?_ Tryd.underlying79 rfl cellsPk _ rfl) rfl ⟨rfl, ?_⟩
  · exact HG.out
  · exact HB.out
set_option maxRecDepth 100000 in
set_option maxHeartbeats 4000000 in
theorem specPacketGet_in (t : ByteArray) (A : Nat) (w : World) (ht : t.size ≤ 1048576) (h : A + 7 ≤ t.size) :
    Calls Tryd.prog 113 #[.string t, .int .i64 A] w fun e w' => e = .returned (.tuple #[pgV (t.extract A t.size), .int .i64 (pgN (t.extract A t.size))]) ∧ Below w.heap.size w w' := by
  have hi : inB A 0 ((t.size : Int) - 7) = true := inB_yes (by omega) (by omega)
  have hm : t.size ≤ maxLen := by unfold maxLen; omega
  have HM : Hid (t.size ≤ maxLen) := hm
  have HG : Hid ((w.alloc (.cells #[.bool false, .int .i64 0, .int .i64 0, .string ⟨#[]⟩] 79)).heap[w.heap.size]? = some (.cells #[.bool false, .int .i64 0, .int .i64 0, .string ⟨#[]⟩] 79)) := get_new rfl
  have HB : Hid (Below w.heap.size w (w.alloc (.cells #[.bool false, .int .i64 0, .int .i64 0, .string ⟨#[]⟩] 79))) := (Below.refl _ _).alloc (Nat.le_refl _) _
  have HU : Hid (∀ W, Calls Tryd.prog 55 #[.int .i64 A, .int .i64 0, .int .i64 ((t.size : Int) - 7)] W fun e w' => e = .returned (.bool true) ∧ w' = W) := fun W => by
    have := l1In_any A 0 ((t.size : Int) - 7) W
    rwa [hi] at this
  have hb0 : gt t A 2 < 65536 := gt_lt t A 2
  have hb2 : gt t (A + 2) 2 < 65536 := gt_lt t (A + 2) 2
  have hb4 : gt t (A + 4) 2 < 65536 := gt_lt t (A + 4) 2
  have HSP : Hid _ := @pg_spec t A h
  have HZ : Hid _ := pg_at h
  have H2 : Hid (∀ W, Calls Tryd.prog 126 #[.string t, .int .i64 ((A : Int) + 2), .int .i64 2] W fun e w' => e = .returned (.int .i64 (gt t (A + 2) 2 : Nat)) ∧ w' = W) := fun W => l1Get2 t A W hm (by omega)
  have H4 : Hid (∀ W, Calls Tryd.prog 126 #[.string t, .int .i64 ((A : Int) + 4), .int .i64 2] W fun e w' => e = .returned (.int .i64 (gt t (A + 4) 2 : Nat)) ∧ w' = W) := fun W => l1Get4P t A W hm (by omega)
  have H0 : Hid (∀ W, Calls Tryd.prog 126 #[.string t, .int .i64 (A : Int), .int .i64 2] W fun e w' => e = .returned (.int .i64 (gt t A 2 : Nat)) ∧ w' = W) := fun W => l1Get_any t A 2 W hm (by decide) (by omega)
  have hai : (A : Int) + 7 ≤ t.size := by omega
  generalize ht0 : gt t A 2 = M at *
  generalize ht2 : gt t (A + 2) 2 = C at *
  generalize ht4 : gt t (A + 4) 2 = L at *
  clear hi hm ht0 ht2 ht4
  go_enter Tryd.func113, Tryd.ntmps113
  go_wp2_with fail
  refine Calls.mono (HU.out _) ?_
  rintro e w1 ⟨rfl, rfl⟩
  go_wp2_with fail
  refine Calls.mono (H0.out _) ?_
  rintro e w1 ⟨rfl, rfl⟩
  go_wp2_with fail
  refine Calls.mono (H4.out _) ?_
  rintro e w1 ⟨rfl, rfl⟩
  by_cases hL : A + (L + 7) ≤ t.size
  · have hLi : ¬ (t.size : Int) - A < (L : Int) + 7 := by omega
    go_wp2_with fail
    have hw1 : IntKind.i64.wrap ((A : Int) + 2) = (A : Int) + 2 := wrapI64 _ (by omega) (by omega)
    have hw2 : IntKind.i64.wrap ((A : Int) + 6) = (A : Int) + 6 := wrapI64 _ (by omega) (by omega)
    have hw3 : IntKind.i64.wrap ((A : Int) + ((L : Int) + 7)) = (A : Int) + ((L : Int) + 7) := wrapI64 _ (by omega) (by omega)
    have hn1 : ((A : Int) + 6).toNat = A + 6 := by omega
    have hn2 : ((A : Int) + ((L : Int) + 7)).toNat = A + (L + 7) := by omega
    have hs1 : (A : Int) + 6 ≤ (A : Int) + ((L : Int) + 7) := by omega
    have hs2 : (A : Int) + ((L : Int) + 7) ≤ t.size := by omega
    have hs3 : (0 : Int) ≤ (A : Int) + 6 := by omega
    have hq1 : IntKind.i64.wrap ((M : Int) / 4096) = (M : Int) / 4096 := wrapI64 _ (by omega) (by omega)
    have hq2 : ((M : Int) / 4096).tmod 2 = (M : Int) / 4096 % 2 := Int.tmod_eq_emod_of_nonneg (by omega)
    have hq3 : (M : Int).tmod 2048 = (M : Int) % 2048 := Int.tmod_eq_emod_of_nonneg (by omega)
    have hq4 : (C : Int).tmod 16384 = (C : Int) % 16384 := Int.tmod_eq_emod_of_nonneg (by omega)
    have hq5 : ((M : Int) / 4096 % 2 == 1) = decide (M / 4096 % 2 = 1) := by
      by_cases h : M / 4096 % 2 = 1
      · simp [h]; omega
      · simp [h]; omega
    have HPS : Hid _ := HSP.out hL
    have hdm : (t.extract (A + 6) (A + (L + 7))).size ≤ maxLen := Nat.le_trans (by rw [ByteArray.size_extract]; omega) HM.out
    generalize (w.alloc (.cells #[.bool false, .int .i64 0, .int .i64 0, .string ⟨#[]⟩] 79)) = w1 at *
    go_region_with ((go_at_call 126; go_loud (refine Calls.mono (H2.out _) ?_; rintro e w8 ⟨rfl, rfl⟩)))
    all_goals
      have hl1 := size_of_get HG.out
      have HX2 : Hid (((w1.alloc (.cells #[.bool (decide (M / 4096 % 2 = 1)), .int .i64 ((M : Int) % 2048), .int .i64 ((C : Int) % 16384), .string (t.extract (A + 6) (A + (L + 7)))] 79)).drew).heap[w1.heap.size]? = some (.cells #[.bool (decide (M / 4096 % 2 = 1)), .int .i64 ((M : Int) % 2048), .int .i64 ((C : Int) % 16384), .string (t.extract (A + 6) (A + (L + 7)))] 79)) := get_newD rfl
      have HG2 : Hid (((w1.alloc (.cells #[.bool (decide (M / 4096 % 2 = 1)), .int .i64 ((M : Int) % 2048), .int .i64 ((C : Int) % 16384), .string (t.extract (A + 6) (A + (L + 7)))] 79)).drew).heap[w.heap.size]? = some (.cells #[.bool false, .int .i64 0, .int .i64 0, .string ⟨#[]⟩] 79)) := get_alloc HG.out hl1
      have HB2 : Hid (Below w.heap.size w ((w1.alloc (.cells #[.bool (decide (M / 4096 % 2 = 1)), .int .i64 ((M : Int) % 2048), .int .i64 ((C : Int) % 16384), .string (t.extract (A + 6) (A + (L + 7)))] 79)).drew)) := (HB.out.alloc HB.out.size _).drew
      go_wp2_with fail
      generalize ((w1.alloc (.cells #[.bool (decide (M / 4096 % 2 = 1)), .int .i64 ((M : Int) % 2048), .int .i64 ((C : Int) % 16384), .string (t.extract (A + 6) (A + (L + 7)))] 79)).drew) = wr at *
      obtain ⟨p1, p2⟩ := HPS.out
      have p3 : pgOk (t.extract A t.size) = decide (pkPut (decide (M / 4096 % 2 = 1)) ((M : Int) % 2048) ((C : Int) % 16384) (t.extract (A + 6) (A + (L + 7))) = t.extract A (A + (L + 7))) := p1
      clear p1
      rename pgOk (t.extract A t.size) = decide (pkPut (decide (M / 4096 % 2 = 1)) ((M : Int) % 2048) ((C : Int) % 16384) (t.extract (A + 6) (A + (L + 7))) = t.extract A (A + (L + 7))) => p1
      have HPP : Hid (∀ W, Calls Tryd.prog 142 #[.agg #[.bool (decide (M / 4096 % 2 = 1)), .int .i64 ((M : Int) % 2048), .int .i64 ((C : Int) % 16384), .string (t.extract (A + 6) (A + (L + 7)))]] W fun e w' => e = .returned (.string (pkPut (decide (M / 4096 % 2 = 1)) ((M : Int) % 2048) ((C : Int) % 16384) (t.extract (A + 6) (A + (L + 7))))) ∧ Below W.heap.size W w') := fun W => specPacketPut_any _ _ _ _ W hdm
      generalize pkPut (decide (M / 4096 % 2 = 1)) ((M : Int) % 2048) ((C : Int) % 16384) (t.extract (A + 6) (A + (L + 7))) = put at *
      cases hk : pgOk (t.extract A t.size) with
      | false =>
        rw [hk] at p1
        have hne0 : (put.toList == (t.extract A (A + (L + 7))).toList) = false := by
          rw [beqP]; have := p1.symm; simpa using this
        have hne : (put.toList != (t.extract A (A + (L + 7))).toList) = true := by
          unfold bne; rw [beqP]; have := p1.symm; simpa using this
        obtain ⟨e1, e2⟩ := pgV_no hk
        have F1 : Hid _ := e1
        have F2 : Hid _ := e2
        clear e1 e2 p1 p2 hk
        have hlr := size_of_get HX2.out
        obtain ⟨k0, k1, k2, k3⟩ := cells4_of HX2.out
        replace k0 := Bl.cell k0 hlr
        replace k1 := Bl.cell k1 hlr
        replace k2 := Bl.cell k2 hlr
        replace k3 := Bl.cell k3 hlr
        refine wp_region_bl (by kernel_rfl) (by kernel_rfl) ?_
        repeat (go_big_quiet_step ((first | (go_at_call 142; exact calls_bl (HPP.out _)))))
        refine wpQuiet_nil ?_
        intro w8 hw8
        obtain ⟨⟨w8, hb8⟩, rfl⟩ := hw8
        have HX8 : Hid (w8.heap[w1.heap.size]? = some (.cells #[.bool (decide (M / 4096 % 2 = 1)), .int .i64 ((M : Int) % 2048), .int .i64 ((C : Int) % 16384), .string (t.extract (A + 6) (A + (L + 7)))] 79)) := get_below hb8 HX2.out hlr
        have HG8 : Hid (w8.heap[w.heap.size]? = some (.cells #[.bool false, .int .i64 0, .int .i64 0, .string ⟨#[]⟩] 79)) := get_below hb8 HG2.out (size_of_get HG2.out)
        have HB8 : Hid (Below w.heap.size w w8) := HB2.out.trans (hb8.mono HB2.out.size)
        clear hb8 k0 k1 k2 k3 HG HB HG2 HB2 HX2
        obtain ⟨r0, r1, r2, r3⟩ := cells4_of HG8.out
        obtain ⟨x0, x1, x2, x3⟩ := cells4_of HX8.out
        have fz : ∀ j, w8.frozen? ⟨w.heap.size, j, none⟩ = false := fun j => frozen_get HG8.out
        have hl8 := size_of_get HX8.out
        go_wp2_with fail
        refine bodyPost_ret (v := .tuple #[.agg #[.bool false, .int .i64 0, .int .i64 0, .string ⟨#[]⟩], .int .i64 0]) (results_row_tmp Tryd.results113 _ _ (w.heap.size) 79 #[.bool false, .int .i64 0, .int .i64 0, .string ⟨#[]⟩] (0, 0) _ rfl ?_ Tryd.underlying79 rfl cellsPk _ rfl) rfl ⟨by rw [F1.out, F2.out], ?_⟩
        · exact get_set (get_set (get_set (get_set (HG8.out) rfl) rfl) rfl) rfl
        · exact belowS (belowS (belowS (belowS (HB8.out) (by omega)) (by omega)) (by omega)) (by omega)
      | true =>
        rw [hk] at p1
        have hne0 : (put.toList == (t.extract A (A + (L + 7))).toList) = true := by
          rw [beqP]; have := p1.symm; simpa using this
        have hne : (put.toList != (t.extract A (A + (L + 7))).toList) = false := by
          unfold bne; rw [beqP]; have := p1.symm; simpa using this
        obtain ⟨e1, e2⟩ := p2 hk
        have F1 : Hid _ := e1
        have F2 : Hid _ := e2
        clear e1 e2 p1 p2 hk
        have hlr := size_of_get HX2.out
        obtain ⟨k0, k1, k2, k3⟩ := cells4_of HX2.out
        replace k0 := Bl.cell k0 hlr
        replace k1 := Bl.cell k1 hlr
        replace k2 := Bl.cell k2 hlr
        replace k3 := Bl.cell k3 hlr
        refine wp_region_bl (by kernel_rfl) (by kernel_rfl) ?_
        repeat (go_big_quiet_step ((first | (go_at_call 142; exact calls_bl (HPP.out _)))))
        refine wpQuiet_nil ?_
        intro w8 hw8
        obtain ⟨⟨w8, hb8⟩, rfl⟩ := hw8
        have HX8 : Hid (w8.heap[w1.heap.size]? = some (.cells #[.bool (decide (M / 4096 % 2 = 1)), .int .i64 ((M : Int) % 2048), .int .i64 ((C : Int) % 16384), .string (t.extract (A + 6) (A + (L + 7)))] 79)) := get_below hb8 HX2.out hlr
        have HG8 : Hid (w8.heap[w.heap.size]? = some (.cells #[.bool false, .int .i64 0, .int .i64 0, .string ⟨#[]⟩] 79)) := get_below hb8 HG2.out (size_of_get HG2.out)
        have HB8 : Hid (Below w.heap.size w w8) := HB2.out.trans (hb8.mono HB2.out.size)
        clear hb8 k0 k1 k2 k3 HG HB HG2 HB2 HX2
        obtain ⟨r0, r1, r2, r3⟩ := cells4_of HG8.out
        obtain ⟨x0, x1, x2, x3⟩ := cells4_of HX8.out
        have fz : ∀ j, w8.frozen? ⟨w.heap.size, j, none⟩ = false := fun j => frozen_get HG8.out
        have hl8 := size_of_get HX8.out
        go_wp2_with fail
        refine bodyPost_ret (v := .tuple #[.agg #[.bool (decide (M / 4096 % 2 = 1)), .int .i64 ((M : Int) % 2048), .int .i64 ((C : Int) % 16384), .string (t.extract (A + 6) (A + (L + 7)))], .int .i64 ((L : Int) + 7)]) (results_row_tmp Tryd.results113 _ _ (w.heap.size) 79 #[.bool (decide (M / 4096 % 2 = 1)), .int .i64 ((M : Int) % 2048), .int .i64 ((C : Int) % 16384), .string (t.extract (A + 6) (A + (L + 7)))] (0, 0) _ rfl ?_ Tryd.underlying79 rfl cellsPk _ rfl) rfl ⟨by rw [F1.out, F2.out]; rfl, ?_⟩
        · exact get_set (get_set (get_set (get_set (HG8.out) rfl) rfl) rfl) rfl
        · exact belowS (belowS (belowS (belowS (HB8.out) (by omega)) (by omega)) (by omega)) (by omega)
  · have hLi : (t.size : Int) - A < (L : Int) + 7 := by omega
    have e0 : pgOk (t.extract A t.size) = false := by
      have hl : pgL (t.extract A t.size) = L + 7 := by unfold pgL; rw [HZ.out.2.2.1]
      unfold pgOk
      rw [hl, HZ.out.2.2.2, decide_eq_false (show ¬ L + 7 ≤ t.size - A by omega)]; simp
    obtain ⟨e1, e2⟩ := pgV_no e0
    have F1 : Hid _ := e1
    have F2 : Hid _ := e2
    clear e0 e1 e2
    go_wp2_with fail
    refine bodyPost_ret (v := .tuple #[.agg #[.bool false, .int .i64 0, .int .i64 0, .string ⟨#[]⟩], .int .i64 0]) (results_row_tmp Tryd.results113 _ _ (w.heap.size) 79 #[.bool false, .int .i64 0, .int .i64 0, .string ⟨#[]⟩] (0, 0) _ rfl ?_ Tryd.underlying79 rfl cellsPk _ rfl) rfl ⟨by rw [F1.out, F2.out], ?_⟩
    · exact HG.out
    · exact HB.out
theorem pgAt_in {t : ByteArray} {A : Nat} (h : A ≤ t.size) : pgAt t A = t.extract A t.size := by
  unfold pgAt; rw [if_pos ⟨by omega, by omega⟩]; rfl
theorem specPacketGet_any (t : ByteArray) (a : Int) (w : World) (ht : t.size ≤ 1048576) :
    Calls Tryd.prog 113 #[.string t, .int .i64 a] w fun e w' => e = .returned (.tuple #[pgV (pgAt t a), .int .i64 (pgN (pgAt t a))]) ∧ Below w.heap.size w w' := by
  by_cases h : 0 ≤ a ∧ a ≤ (t.size : Int) - 7
  · obtain ⟨A, rfl⟩ := Int.eq_ofNat_of_zero_le h.1
    rw [pgAt_in (by omega)]
    exact specPacketGet_in t A w ht (by omega)
  · exact specPacketGet_out t a w ht h
theorem implPacketGet_any (t : ByteArray) (a : Int) (w : World) (ht : t.size ≤ 1048576) (he : Eof w) :
    Calls Tryd.prog 54 #[.string t, .int .i64 a] w fun e w' => e = .returned (.tuple #[pgV (pgAt t a), .int .i64 (pgN (pgAt t a))]) ∧ Below w.heap.size w w' := by
  have hw : 3 < w.heap.size := by
    obtain ⟨v, _, h⟩ := he
    exact block_lt_of_cell h
  by_cases h : 0 ≤ a ∧ a ≤ (t.size : Int)
  · obtain ⟨A, rfl⟩ := Int.eq_ofNat_of_zero_le h.1
    rw [pgAt_in (by omega)]
    exact implPacketGet_in t A w ht (by omega) he hw
  · exact implPacketGet_out t a w ht h
theorem pgV_agg (s : ByteArray) : ∃ (u : Bool) (a c : Int) (d : ByteArray), pgV s = .agg #[.bool u, .int .i64 a, .int .i64 c, .string d] := by
  unfold pgV
  split
  · exact ⟨_, _, _, _, rfl⟩
  · exact ⟨_, _, _, _, rfl⟩
end Go.Proofs.YtgejiiaocgacmaaDoor
