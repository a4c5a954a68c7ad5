/- impl.CmdGet. -/
import Derived.Test.YtccpdadabndleaaDoorCgP
namespace Go.Proofs.YtccpdadabndleaaDoor
open Go.ChangeShapes Go.WideShapes Go.ChangeAt Go.RowKit
set_option linter.unusedVariables false
theorem cellsCg : (Tryd.prog.info? 29).map (·.size) = some 6 := by kernel_rfl
set_option maxHeartbeats 1000000 in
theorem sumFits_any (t T : ByteArray) (w : World) (ht : t.size ≤ 1048576) (h2 : 2 ≤ t.size) (hT : cgT t = T) :
    Calls Tryd.prog 57 #[.string t] w fun e w' => e = .returned (.bool (cgSumB t)) ∧ Below w.heap.size w w' := by
  have hz := cgT_size h2
  rw [hT] at hz
  obtain ⟨sum, hsum⟩ : ∃ sum, gt t (t.size - 2) 2 = sum := ⟨_, rfl⟩
  obtain ⟨cr, hcr⟩ : ∃ cr, crcTo T T.size = cr := ⟨_, rfl⟩
  have HN : Hid (∀ W, Calls Tryd.prog 104 #[.string t, .int .i64 ((t.size : Int) - 2), .int .i64 2] W fun e w' => e = .returned (.tuple #[.int .i64 (sum : Nat), .bool true]) ∧ w' = W) := fun W => by
    have := implNumGet_yes t ((t.size : Int) - 2) 2 W (by unfold maxLen; omega) (by decide) (by decide) (by omega) (by omega)
    rw [show ((t.size : Int) - 2).toNat = t.size - 2 by omega, show (2 : Int).toNat = 2 from rfl, hsum] at this
    exact this
  have HC : Hid (∀ W, Calls Tryd.prog 75 #[.string T] W fun e w' => e = .returned (.int .i64 (cr : Nat)) ∧ Below W.heap.size W w') := fun W => by
    have := implCrc16_any T W (by unfold maxLen; omega)
    rw [hcr] at this; exact this
  have hx : t.extract 0 (t.size - 2) = T := hT
  have hv : cgSumB t = decide (sum = cr) := by unfold cgSumB; rw [hT, hsum, hcr]
  have HX : Hid _ := hx
  rw [hv]
  clear hv hcr hsum hT hz hx
  go_enter Tryd.func57, Tryd.ntmps57
  go_wp2_with fail
  refine Calls.mono (HN.out _) ?_
  rintro e w1 ⟨rfl, rfl⟩
  go_wp2_with fail
  rw [HX.out]
  refine Calls.mono (HC.out _) ?_
  rintro e w2 ⟨rfl, hb⟩
  have HB : Hid _ := hb
  clear hb
  go_wp2_with fail
  go_ret
  exact ⟨by simp; rw [Bool.eq_iff_iff, beq_iff_eq, decide_eq_true_eq]; omega, HB.out⟩
set_option maxRecDepth 100000 in
set_option maxHeartbeats 1000000 in
theorem implCmdGet_len (t : ByteArray) (a c : Int) (d : ByteArray) (u : Bool) (n : Nat) (w : World) (ht : t.size ≤ 1048576) (he : Eof w) (HPG : Hid (∀ W, Eof W → Calls Tryd.prog 16 #[.string t, .int .i64 0] W fun e w' => e = .returned (.tuple #[.agg #[.bool u, .int .i64 a, .int .i64 c, .string d], .int .i64 (n : Nat)]) ∧ Below W.heap.size W w')) (hne : n ≠ t.size) :
    Calls Tryd.prog 19 #[.string t] w fun e w' => e = .returned (.tuple #[.agg #[.int .i64 0, .int .i64 0, .int .i64 0, .int .i64 0, .int .i64 0, .string ⟨#[]⟩], .int .i64 1]) ∧ Below w.heap.size w w' := by
  have hw : 1 < w.heap.size := by
    obtain ⟨v, _, h⟩ := he
    exact block_lt_of_cell h
  have HEW : Hid (Eof w) := he
  have HG : Hid ((w.alloc (.cells #[.int .i64 0, .int .i64 0, .int .i64 0, .int .i64 0, .int .i64 0, .string ⟨#[]⟩] 29)).heap[w.heap.size]? = some (.cells #[.int .i64 0, .int .i64 0, .int .i64 0, .int .i64 0, .int .i64 0, .string ⟨#[]⟩] 29)) := get_new rfl
  have HB : Hid (Below w.heap.size w (w.alloc (.cells #[.int .i64 0, .int .i64 0, .int .i64 0, .int .i64 0, .int .i64 0, .string ⟨#[]⟩] 29))) := (Below.refl _ _).alloc (Nat.le_refl _) _
  clear he
  go_enter Tryd.func19, Tryd.ntmps19
  go_wp2_with fail
  refine Calls.mono (HPG.out _ (HEW.out.below HB.out)) ?_
  rintro e w1 ⟨rfl, hb⟩
  have HG1 : Hid (w1.heap[w.heap.size]? = some (.cells #[.int .i64 0, .int .i64 0, .int .i64 0, .int .i64 0, .int .i64 0, .string ⟨#[]⟩] 29)) := get_below hb HG.out (by simp)
  have HB1 : Hid (Below w.heap.size w w1) := HB.out.trans (hb.mono HB.out.size)
  have hl1 := size_of_get HG1.out
  clear hb HG HB HPG
  have HG2 : Hid ((w1.alloc (.cells #[.bool u, .int .i64 a, .int .i64 c, .string d] 23)).heap[w.heap.size]? = some (.cells #[.int .i64 0, .int .i64 0, .int .i64 0, .int .i64 0, .int .i64 0, .string ⟨#[]⟩] 29)) := get_alloc HG1.out hl1
  have HB2 : Hid (Below w.heap.size w (w1.alloc (.cells #[.bool u, .int .i64 a, .int .i64 c, .string d] 23))) := HB1.out.alloc HB1.out.size _
  have HK2 : Hid ((w1.alloc (.cells #[.bool u, .int .i64 a, .int .i64 c, .string d] 23)).heap[w1.heap.size]? = some (.cells #[.bool u, .int .i64 a, .int .i64 c, .string d] 23)) := get_new rfl
  obtain ⟨k0, k1, k2, k3⟩ := cells4_of HK2.out
  obtain ⟨r0, r1, r2, r3, r4, r5⟩ := cells6_of HG1.out
  have fz : ∀ j, w1.frozen? ⟨w.heap.size, j, none⟩ = false := fun j => frozen_get HG1.out
  have hnj : ¬ ((n : Int) = (t.size : Int)) := by omega
  go_wp2_with fail
  refine bodyPost_ret (v := .tuple #[.agg #[.int .i64 0, .int .i64 0, .int .i64 0, .int .i64 0, .int .i64 0, .string ⟨#[]⟩], .int .i64 1]) (results_row_tmp Tryd.results19 _ _ (w.heap.size) 29 #[.int .i64 0, .int .i64 0, .int .i64 0, .int .i64 0, .int .i64 0, .string ⟨#[]⟩] (0, 0) _ rfl ?_ Tryd.underlying29 rfl cellsCg _ rfl) rfl ⟨rfl, ?_⟩
  · exact get_alloc (get_set (get_set (get_set (get_set (get_set (get_set (HG1.out) rfl) rfl) rfl) rfl) rfl) rfl) (by simp [World.setCell]; omega)
  · exact Below.alloc (belowS (belowS (belowS (belowS (belowS (belowS (HB1.out) (by omega)) (by omega)) (by omega)) (by omega)) (by omega)) (by omega)) (belowS (belowS (belowS (belowS (belowS (belowS (HB1.out) (by omega)) (by omega)) (by omega)) (by omega)) (by omega)) (by omega)).size _
set_option maxRecDepth 100000 in
set_option maxHeartbeats 1000000 in
theorem implCmdGet_down (t : ByteArray) (a c : Int) (d : ByteArray) (w : World) (ht : t.size ≤ 1048576) (he : Eof w) (HPG : Hid (∀ W, Eof W → Calls Tryd.prog 16 #[.string t, .int .i64 0] W fun e w' => e = .returned (.tuple #[.agg #[.bool false, .int .i64 a, .int .i64 c, .string d], .int .i64 (t.size : Nat)]) ∧ Below W.heap.size W w')) :
    Calls Tryd.prog 19 #[.string t] w fun e w' => e = .returned (.tuple #[.agg #[.int .i64 0, .int .i64 0, .int .i64 0, .int .i64 0, .int .i64 0, .string ⟨#[]⟩], .int .i64 1]) ∧ Below w.heap.size w w' := by
  have hw : 1 < w.heap.size := by
    obtain ⟨v, _, h⟩ := he
    exact block_lt_of_cell h
  have HEW : Hid (Eof w) := he
  have HG : Hid ((w.alloc (.cells #[.int .i64 0, .int .i64 0, .int .i64 0, .int .i64 0, .int .i64 0, .string ⟨#[]⟩] 29)).heap[w.heap.size]? = some (.cells #[.int .i64 0, .int .i64 0, .int .i64 0, .int .i64 0, .int .i64 0, .string ⟨#[]⟩] 29)) := get_new rfl
  have HB : Hid (Below w.heap.size w (w.alloc (.cells #[.int .i64 0, .int .i64 0, .int .i64 0, .int .i64 0, .int .i64 0, .string ⟨#[]⟩] 29))) := (Below.refl _ _).alloc (Nat.le_refl _) _
  clear he
  go_enter Tryd.func19, Tryd.ntmps19
  go_wp2_with fail
  refine Calls.mono (HPG.out _ (HEW.out.below HB.out)) ?_
  rintro e w1 ⟨rfl, hb⟩
  have HG1 : Hid (w1.heap[w.heap.size]? = some (.cells #[.int .i64 0, .int .i64 0, .int .i64 0, .int .i64 0, .int .i64 0, .string ⟨#[]⟩] 29)) := get_below hb HG.out (by simp)
  have HB1 : Hid (Below w.heap.size w w1) := HB.out.trans (hb.mono HB.out.size)
  have hl1 := size_of_get HG1.out
  clear hb HG HB HPG
  have HG2 : Hid ((w1.alloc (.cells #[.bool false, .int .i64 a, .int .i64 c, .string d] 23)).heap[w.heap.size]? = some (.cells #[.int .i64 0, .int .i64 0, .int .i64 0, .int .i64 0, .int .i64 0, .string ⟨#[]⟩] 29)) := get_alloc HG1.out hl1
  have HB2 : Hid (Below w.heap.size w (w1.alloc (.cells #[.bool false, .int .i64 a, .int .i64 c, .string d] 23))) := HB1.out.alloc HB1.out.size _
  have HK2 : Hid ((w1.alloc (.cells #[.bool false, .int .i64 a, .int .i64 c, .string d] 23)).heap[w1.heap.size]? = some (.cells #[.bool false, .int .i64 a, .int .i64 c, .string d] 23)) := get_new rfl
  obtain ⟨k0, k1, k2, k3⟩ := cells4_of HK2.out
  obtain ⟨r0, r1, r2, r3, r4, r5⟩ := cells6_of HG1.out
  have fz : ∀ j, w1.frozen? ⟨w.heap.size, j, none⟩ = false := fun j => frozen_get HG1.out
  go_wp2_with fail
  refine bodyPost_ret (v := .tuple #[.agg #[.int .i64 0, .int .i64 0, .int .i64 0, .int .i64 0, .int .i64 0, .string ⟨#[]⟩], .int .i64 1]) (results_row_tmp Tryd.results19 _ _ (w.heap.size) 29 #[.int .i64 0, .int .i64 0, .int .i64 0, .int .i64 0, .int .i64 0, .string ⟨#[]⟩] (0, 0) _ rfl ?_ Tryd.underlying29 rfl cellsCg _ rfl) rfl ⟨rfl, ?_⟩
  · exact get_alloc (get_set (get_set (get_set (get_set (get_set (get_set (HG1.out) rfl) rfl) rfl) rfl) rfl) rfl) (by simp [World.setCell]; omega)
  · exact Below.alloc (belowS (belowS (belowS (belowS (belowS (belowS (HB1.out) (by omega)) (by omega)) (by omega)) (by omega)) (by omega)) (by omega)) (belowS (belowS (belowS (belowS (belowS (belowS (HB1.out) (by omega)) (by omega)) (by omega)) (by omega)) (by omega)) (by omega)).size _
set_option maxRecDepth 100000 in
set_option maxHeartbeats 1000000 in
theorem implCmdGet_few (t : ByteArray) (a c : Int) (d : ByteArray) (w : World) (ht : t.size ≤ 1048576) (he : Eof w) (HPG : Hid (∀ W, Eof W → Calls Tryd.prog 16 #[.string t, .int .i64 0] W fun e w' => e = .returned (.tuple #[.agg #[.bool true, .int .i64 a, .int .i64 c, .string d], .int .i64 (t.size : Nat)]) ∧ Below W.heap.size W w')) (hd : d.size < 2) :
    Calls Tryd.prog 19 #[.string t] w fun e w' => e = .returned (.tuple #[.agg #[.int .i64 0, .int .i64 0, .int .i64 0, .int .i64 0, .int .i64 0, .string ⟨#[]⟩], .int .i64 2]) ∧ Below w.heap.size w w' := by
  have hw : 1 < w.heap.size := by
    obtain ⟨v, _, h⟩ := he
    exact block_lt_of_cell h
  have HEW : Hid (Eof w) := he
  have HG : Hid ((w.alloc (.cells #[.int .i64 0, .int .i64 0, .int .i64 0, .int .i64 0, .int .i64 0, .string ⟨#[]⟩] 29)).heap[w.heap.size]? = some (.cells #[.int .i64 0, .int .i64 0, .int .i64 0, .int .i64 0, .int .i64 0, .string ⟨#[]⟩] 29)) := get_new rfl
  have HB : Hid (Below w.heap.size w (w.alloc (.cells #[.int .i64 0, .int .i64 0, .int .i64 0, .int .i64 0, .int .i64 0, .string ⟨#[]⟩] 29))) := (Below.refl _ _).alloc (Nat.le_refl _) _
  clear he
  go_enter Tryd.func19, Tryd.ntmps19
  go_wp2_with fail
  refine Calls.mono (HPG.out _ (HEW.out.below HB.out)) ?_
  rintro e w1 ⟨rfl, hb⟩
  have HG1 : Hid (w1.heap[w.heap.size]? = some (.cells #[.int .i64 0, .int .i64 0, .int .i64 0, .int .i64 0, .int .i64 0, .string ⟨#[]⟩] 29)) := get_below hb HG.out (by simp)
  have HB1 : Hid (Below w.heap.size w w1) := HB.out.trans (hb.mono HB.out.size)
  have hl1 := size_of_get HG1.out
  clear hb HG HB HPG
  have HG2 : Hid ((w1.alloc (.cells #[.bool true, .int .i64 a, .int .i64 c, .string d] 23)).heap[w.heap.size]? = some (.cells #[.int .i64 0, .int .i64 0, .int .i64 0, .int .i64 0, .int .i64 0, .string ⟨#[]⟩] 29)) := get_alloc HG1.out hl1
  have HB2 : Hid (Below w.heap.size w (w1.alloc (.cells #[.bool true, .int .i64 a, .int .i64 c, .string d] 23))) := HB1.out.alloc HB1.out.size _
  have HK2 : Hid ((w1.alloc (.cells #[.bool true, .int .i64 a, .int .i64 c, .string d] 23)).heap[w1.heap.size]? = some (.cells #[.bool true, .int .i64 a, .int .i64 c, .string d] 23)) := get_new rfl
  obtain ⟨k0, k1, k2, k3⟩ := cells4_of HK2.out
  obtain ⟨r0, r1, r2, r3, r4, r5⟩ := cells6_of HG1.out
  have fz : ∀ j, w1.frozen? ⟨w.heap.size, j, none⟩ = false := fun j => frozen_get HG1.out
  have hdi : (d.size : Int) < 2 := by omega
  go_wp2_with fail
  refine bodyPost_ret (v := .tuple #[.agg #[.int .i64 0, .int .i64 0, .int .i64 0, .int .i64 0, .int .i64 0, .string ⟨#[]⟩], .int .i64 2]) (results_row_tmp Tryd.results19 _ _ (w.heap.size) 29 #[.int .i64 0, .int .i64 0, .int .i64 0, .int .i64 0, .int .i64 0, .string ⟨#[]⟩] (0, 0) _ rfl ?_ Tryd.underlying29 rfl cellsCg _ rfl) rfl ⟨rfl, ?_⟩
  · exact get_alloc (get_set (get_set (get_set (get_set (get_set (get_set (HG1.out) rfl) rfl) rfl) rfl) rfl) rfl) (by simp [World.setCell]; omega)
  · exact Below.alloc (belowS (belowS (belowS (belowS (belowS (belowS (HB1.out) (by omega)) (by omega)) (by omega)) (by omega)) (by omega)) (by omega)) (belowS (belowS (belowS (belowS (belowS (belowS (HB1.out) (by omega)) (by omega)) (by omega)) (by omega)) (by omega)) (by omega)).size _
set_option maxRecDepth 100000 in
set_option maxHeartbeats 1000000 in
theorem implCmdGet_sum (t : ByteArray) (a c : Int) (d : ByteArray) (w : World) (ht : t.size ≤ 1048576) (he : Eof w) (HPG : Hid (∀ W, Eof W → Calls Tryd.prog 16 #[.string t, .int .i64 0] W fun e w' => e = .returned (.tuple #[.agg #[.bool true, .int .i64 a, .int .i64 c, .string d], .int .i64 (t.size : Nat)]) ∧ Below W.heap.size W w')) (hd : 2 ≤ d.size) (HSF : Hid (∀ W, Calls Tryd.prog 57 #[.string t] W fun e w' => e = .returned (.bool false) ∧ Below W.heap.size W w')) :
    Calls Tryd.prog 19 #[.string t] w fun e w' => e = .returned (.tuple #[.agg #[.int .i64 0, .int .i64 0, .int .i64 0, .int .i64 0, .int .i64 0, .string ⟨#[]⟩], .int .i64 2]) ∧ Below w.heap.size w w' := by
  have hw : 1 < w.heap.size := by
    obtain ⟨v, _, h⟩ := he
    exact block_lt_of_cell h
  have HEW : Hid (Eof w) := he
  have HG : Hid ((w.alloc (.cells #[.int .i64 0, .int .i64 0, .int .i64 0, .int .i64 0, .int .i64 0, .string ⟨#[]⟩] 29)).heap[w.heap.size]? = some (.cells #[.int .i64 0, .int .i64 0, .int .i64 0, .int .i64 0, .int .i64 0, .string ⟨#[]⟩] 29)) := get_new rfl
  have HB : Hid (Below w.heap.size w (w.alloc (.cells #[.int .i64 0, .int .i64 0, .int .i64 0, .int .i64 0, .int .i64 0, .string ⟨#[]⟩] 29))) := (Below.refl _ _).alloc (Nat.le_refl _) _
  clear he
  go_enter Tryd.func19, Tryd.ntmps19
  go_wp2_with fail
  refine Calls.mono (HPG.out _ (HEW.out.below HB.out)) ?_
  rintro e w1 ⟨rfl, hb⟩
  have HG1 : Hid (w1.heap[w.heap.size]? = some (.cells #[.int .i64 0, .int .i64 0, .int .i64 0, .int .i64 0, .int .i64 0, .string ⟨#[]⟩] 29)) := get_below hb HG.out (by simp)
  have HB1 : Hid (Below w.heap.size w w1) := HB.out.trans (hb.mono HB.out.size)
  have hl1 := size_of_get HG1.out
  clear hb HG HB HPG
  have HG2 : Hid ((w1.alloc (.cells #[.bool true, .int .i64 a, .int .i64 c, .string d] 23)).heap[w.heap.size]? = some (.cells #[.int .i64 0, .int .i64 0, .int .i64 0, .int .i64 0, .int .i64 0, .string ⟨#[]⟩] 29)) := get_alloc HG1.out hl1
  have HB2 : Hid (Below w.heap.size w (w1.alloc (.cells #[.bool true, .int .i64 a, .int .i64 c, .string d] 23))) := HB1.out.alloc HB1.out.size _
  have HK2 : Hid ((w1.alloc (.cells #[.bool true, .int .i64 a, .int .i64 c, .string d] 23)).heap[w1.heap.size]? = some (.cells #[.bool true, .int .i64 a, .int .i64 c, .string d] 23)) := get_new rfl
  obtain ⟨k0, k1, k2, k3⟩ := cells4_of HK2.out
  obtain ⟨r0, r1, r2, r3, r4, r5⟩ := cells6_of HG1.out
  have fz : ∀ j, w1.frozen? ⟨w.heap.size, j, none⟩ = false := fun j => frozen_get HG1.out
  have hdi : ¬ (d.size : Int) < 2 := by omega
  go_wp2_with fail
  refine Calls.mono (HSF.out _) ?_
  rintro e w2 ⟨rfl, hb⟩
  have HG : Hid (w2.heap[w.heap.size]? = some (.cells #[.int .i64 0, .int .i64 0, .int .i64 0, .int .i64 0, .int .i64 0, .string ⟨#[]⟩] 29)) := get_below hb HG2.out (by simp; omega)
  have HK : Hid (w2.heap[w1.heap.size]? = some (.cells #[.bool true, .int .i64 a, .int .i64 c, .string d] 23)) := get_below hb HK2.out (by simp)
  have HB : Hid (Below w.heap.size w w2) := HB2.out.trans (hb.mono HB2.out.size)
  clear hb k0 k1 k2 k3 r0 r1 r2 r3 r4 r5 fz HG1 HB1 HG2 HB2 HK2 HSF
  have hl2 := size_of_get HK.out
  obtain ⟨k0, k1, k2, k3⟩ := cells4_of HK.out
  obtain ⟨r0, r1, r2, r3, r4, r5⟩ := cells6_of HG.out
  have fz : ∀ j, w2.frozen? ⟨w.heap.size, j, none⟩ = false := fun j => frozen_get HG.out
  go_wp2_with fail
  refine bodyPost_ret (v := .tuple #[.agg #[.int .i64 0, .int .i64 0, .int .i64 0, .int .i64 0, .int .i64 0, .string ⟨#[]⟩], .int .i64 2]) (results_row_tmp Tryd.results19 _ _ (w.heap.size) 29 #[.int .i64 0, .int .i64 0, .int .i64 0, .int .i64 0, .int .i64 0, .string ⟨#[]⟩] (0, 0) _ rfl ?_ Tryd.underlying29 rfl cellsCg _ rfl) rfl ⟨rfl, ?_⟩
  · exact get_set (get_set (get_set (get_set (get_set (get_set (HG.out) rfl) rfl) rfl) rfl) rfl) rfl
  · exact belowS (belowS (belowS (belowS (belowS (belowS (HB.out) (by omega)) (by omega)) (by omega)) (by omega)) (by omega)) (by omega)
set_option maxRecDepth 100000 in
set_option maxHeartbeats 1000000 in
theorem implCmdGet_mark (t : ByteArray) (a c : Int) (d : ByteArray) (w : World) (ht : t.size ≤ 1048576) (he : Eof w) (HPG : Hid (∀ W, Eof W → Calls Tryd.prog 16 #[.string t, .int .i64 0] W fun e w' => e = .returned (.tuple #[.agg #[.bool true, .int .i64 a, .int .i64 c, .string d], .int .i64 (t.size : Nat)]) ∧ Below W.heap.size W w')) (d2 : ByteArray) (hd : 2 ≤ d.size) (hds : d.size ≤ 1048576) (hz : d2.size = d.size - 2) (HX : Hid (d.extract 0 (d.size - 2) = d2)) (HSF : Hid (∀ W, Calls Tryd.prog 57 #[.string t] W fun e w' => e = .returned (.bool true) ∧ Below W.heap.size W w')) (hq : (if 1 ≤ d2.size - 0 then gt d2 0 1 else 0) ≠ 47) :
    Calls Tryd.prog 19 #[.string t] w fun e w' => e = .returned (.tuple #[.agg #[.int .i64 0, .int .i64 0, .int .i64 0, .int .i64 0, .int .i64 0, .string ⟨#[]⟩], .int .i64 3]) ∧ Below w.heap.size w w' := by
  have hw : 1 < w.heap.size := by
    obtain ⟨v, _, h⟩ := he
    exact block_lt_of_cell h
  have HEW : Hid (Eof w) := he
  have HG : Hid ((w.alloc (.cells #[.int .i64 0, .int .i64 0, .int .i64 0, .int .i64 0, .int .i64 0, .string ⟨#[]⟩] 29)).heap[w.heap.size]? = some (.cells #[.int .i64 0, .int .i64 0, .int .i64 0, .int .i64 0, .int .i64 0, .string ⟨#[]⟩] 29)) := get_new rfl
  have HB : Hid (Below w.heap.size w (w.alloc (.cells #[.int .i64 0, .int .i64 0, .int .i64 0, .int .i64 0, .int .i64 0, .string ⟨#[]⟩] 29))) := (Below.refl _ _).alloc (Nat.le_refl _) _
  clear he
  go_enter Tryd.func19, Tryd.ntmps19
  go_wp2_with fail
  refine Calls.mono (HPG.out _ (HEW.out.below HB.out)) ?_
  rintro e w1 ⟨rfl, hb⟩
  have HG1 : Hid (w1.heap[w.heap.size]? = some (.cells #[.int .i64 0, .int .i64 0, .int .i64 0, .int .i64 0, .int .i64 0, .string ⟨#[]⟩] 29)) := get_below hb HG.out (by simp)
  have HB1 : Hid (Below w.heap.size w w1) := HB.out.trans (hb.mono HB.out.size)
  have hl1 := size_of_get HG1.out
  clear hb HG HB HPG
  have HG2 : Hid ((w1.alloc (.cells #[.bool true, .int .i64 a, .int .i64 c, .string d] 23)).heap[w.heap.size]? = some (.cells #[.int .i64 0, .int .i64 0, .int .i64 0, .int .i64 0, .int .i64 0, .string ⟨#[]⟩] 29)) := get_alloc HG1.out hl1
  have HB2 : Hid (Below w.heap.size w (w1.alloc (.cells #[.bool true, .int .i64 a, .int .i64 c, .string d] 23))) := HB1.out.alloc HB1.out.size _
  have HK2 : Hid ((w1.alloc (.cells #[.bool true, .int .i64 a, .int .i64 c, .string d] 23)).heap[w1.heap.size]? = some (.cells #[.bool true, .int .i64 a, .int .i64 c, .string d] 23)) := get_new rfl
  obtain ⟨k0, k1, k2, k3⟩ := cells4_of HK2.out
  obtain ⟨r0, r1, r2, r3, r4, r5⟩ := cells6_of HG1.out
  have fz : ∀ j, w1.frozen? ⟨w.heap.size, j, none⟩ = false := fun j => frozen_get HG1.out
  have hdi : ¬ (d.size : Int) < 2 := by omega
  go_wp2_with fail
  refine Calls.mono (HSF.out _) ?_
  rintro e w2 ⟨rfl, hb⟩
  have HG : Hid (w2.heap[w.heap.size]? = some (.cells #[.int .i64 0, .int .i64 0, .int .i64 0, .int .i64 0, .int .i64 0, .string ⟨#[]⟩] 29)) := get_below hb HG2.out (by simp; omega)
  have HK : Hid (w2.heap[w1.heap.size]? = some (.cells #[.bool true, .int .i64 a, .int .i64 c, .string d] 23)) := get_below hb HK2.out (by simp)
  have HB : Hid (Below w.heap.size w w2) := HB2.out.trans (hb.mono HB2.out.size)
  clear hb k0 k1 k2 k3 r0 r1 r2 r3 r4 r5 fz HG1 HB1 HG2 HB2 HK2 HSF
  have hl2 := size_of_get HK.out
  obtain ⟨k0, k1, k2, k3⟩ := cells4_of HK.out
  obtain ⟨r0, r1, r2, r3, r4, r5⟩ := cells6_of HG.out
  have fz : ∀ j, w2.frozen? ⟨w.heap.size, j, none⟩ = false := fun j => frozen_get HG.out
  go_wp2_with fail
  rw [HX.out]
  refine (newReader_any d2 _).mono ?_
  rintro e w3 ⟨rfl, hp, hb⟩
  have HP : Hid (Prd w3 w2.heap.size d2 0) := hp
  have HG3 : Hid (w3.heap[w.heap.size]? = some (.cells #[.int .i64 0, .int .i64 0, .int .i64 0, .int .i64 0, .int .i64 0, .string ⟨#[]⟩] 29)) := get_below hb HG.out (by omega)
  have HK3 : Hid (w3.heap[w1.heap.size]? = some (.cells #[.bool true, .int .i64 a, .int .i64 c, .string d] 23)) := get_below hb HK.out (by omega)
  have HB3 : Hid (Below w.heap.size w w3) := HB.out.trans (hb.mono HB.out.size)
  have hl3 := hp.lt
  clear hp hb k0 k1 k2 k3 r0 r1 r2 r3 r4 r5 fz HG HK HB HX
  go_wp2_with fail
  refine (rnumber1 w2.heap.size d2 0 w3 (by omega) HP.out (HEW.out.below HB3.out) (by omega)).mono ?_
  rintro e w4 ⟨rfl, hp, ho⟩
  have HP4 : Hid (Prd w4 w2.heap.size d2 (0 + min 1 (d2.size - 0))) := hp
  have HG4 : Hid (w4.heap[w.heap.size]? = some (.cells #[.int .i64 0, .int .i64 0, .int .i64 0, .int .i64 0, .int .i64 0, .string ⟨#[]⟩] 29)) := getOP ho HG3.out (by omega)
  have HK4 : Hid (w4.heap[w1.heap.size]? = some (.cells #[.bool true, .int .i64 a, .int .i64 c, .string d] 23)) := getOP ho HK3.out (by omega)
  have HB4 : Hid (Below w.heap.size w w4) := HB3.out.trans (ho.below (by omega) HB3.out.size)
  have hl4 := size_of_get HK4.out
  have hl4' := hp.lt
  clear hp ho HG3 HK3 HB3 HP
  obtain ⟨k0, k1, k2, k3⟩ := cells4_of HK4.out
  obtain ⟨r0, r1, r2, r3, r4, r5⟩ := cells6_of HG4.out
  have fz : ∀ j, w4.frozen? ⟨w.heap.size, j, none⟩ = false := fun j => frozen_get HG4.out
  generalize hv0 : (if 1 ≤ d2.size - 0 then gt d2 0 1 else 0) = v0 at *
  have hvi : ¬ ((v0 : Int) = 47) := by omega
  go_wp2_with fail
  refine bodyPost_ret (v := .tuple #[.agg #[.int .i64 0, .int .i64 0, .int .i64 0, .int .i64 0, .int .i64 0, .string ⟨#[]⟩], .int .i64 3]) (results_row_tmp Tryd.results19 _ _ (w.heap.size) 29 #[.int .i64 0, .int .i64 0, .int .i64 0, .int .i64 0, .int .i64 0, .string ⟨#[]⟩] (0, 0) _ rfl ?_ Tryd.underlying29 rfl cellsCg _ rfl) rfl ⟨rfl, ?_⟩
  · exact get_set (get_set (get_set (get_set (get_set (get_set (HG4.out) rfl) rfl) rfl) rfl) rfl) rfl
  · exact belowS (belowS (belowS (belowS (belowS (belowS (HB4.out) (by omega)) (by omega)) (by omega)) (by omega)) (by omega)) (by omega)
set_option maxRecDepth 100000 in
set_option maxHeartbeats 1000000 in
theorem implCmdGet_long (t : ByteArray) (a c : Int) (d : ByteArray) (w : World) (ht : t.size ≤ 1048576) (he : Eof w) (HPG : Hid (∀ W, Eof W → Calls Tryd.prog 16 #[.string t, .int .i64 0] W fun e w' => e = .returned (.tuple #[.agg #[.bool true, .int .i64 a, .int .i64 c, .string d], .int .i64 (t.size : Nat)]) ∧ Below W.heap.size W w')) (d2 : ByteArray) (hd : 2 ≤ d.size) (hds : d.size ≤ 1048576) (hz : d2.size = d.size - 2) (HX : Hid (d.extract 0 (d.size - 2) = d2)) (HSF : Hid (∀ W, Calls Tryd.prog 57 #[.string t] W fun e w' => e = .returned (.bool true) ∧ Below W.heap.size W w')) (hq : (if 1 ≤ d2.size - 0 then gt d2 0 1 else 0) = 47) (hi : inB ((d.size : Int) - 6) 0 60 = false) :
    Calls Tryd.prog 19 #[.string t] w fun e w' => e = .returned (.tuple #[.agg #[.int .i64 0, .int .i64 0, .int .i64 0, .int .i64 0, .int .i64 0, .string ⟨#[]⟩], .int .i64 3]) ∧ Below w.heap.size w w' := by
  have hw : 1 < w.heap.size := by
    obtain ⟨v, _, h⟩ := he
    exact block_lt_of_cell h
  have HEW : Hid (Eof w) := he
  have HG : Hid ((w.alloc (.cells #[.int .i64 0, .int .i64 0, .int .i64 0, .int .i64 0, .int .i64 0, .string ⟨#[]⟩] 29)).heap[w.heap.size]? = some (.cells #[.int .i64 0, .int .i64 0, .int .i64 0, .int .i64 0, .int .i64 0, .string ⟨#[]⟩] 29)) := get_new rfl
  have HB : Hid (Below w.heap.size w (w.alloc (.cells #[.int .i64 0, .int .i64 0, .int .i64 0, .int .i64 0, .int .i64 0, .string ⟨#[]⟩] 29))) := (Below.refl _ _).alloc (Nat.le_refl _) _
  clear he
  go_enter Tryd.func19, Tryd.ntmps19
  go_wp2_with fail
  refine Calls.mono (HPG.out _ (HEW.out.below HB.out)) ?_
  rintro e w1 ⟨rfl, hb⟩
  have HG1 : Hid (w1.heap[w.heap.size]? = some (.cells #[.int .i64 0, .int .i64 0, .int .i64 0, .int .i64 0, .int .i64 0, .string ⟨#[]⟩] 29)) := get_below hb HG.out (by simp)
  have HB1 : Hid (Below w.heap.size w w1) := HB.out.trans (hb.mono HB.out.size)
  have hl1 := size_of_get HG1.out
  clear hb HG HB HPG
  have HG2 : Hid ((w1.alloc (.cells #[.bool true, .int .i64 a, .int .i64 c, .string d] 23)).heap[w.heap.size]? = some (.cells #[.int .i64 0, .int .i64 0, .int .i64 0, .int .i64 0, .int .i64 0, .string ⟨#[]⟩] 29)) := get_alloc HG1.out hl1
  have HB2 : Hid (Below w.heap.size w (w1.alloc (.cells #[.bool true, .int .i64 a, .int .i64 c, .string d] 23))) := HB1.out.alloc HB1.out.size _
  have HK2 : Hid ((w1.alloc (.cells #[.bool true, .int .i64 a, .int .i64 c, .string d] 23)).heap[w1.heap.size]? = some (.cells #[.bool true, .int .i64 a, .int .i64 c, .string d] 23)) := get_new rfl
  obtain ⟨k0, k1, k2, k3⟩ := cells4_of HK2.out
  obtain ⟨r0, r1, r2, r3, r4, r5⟩ := cells6_of HG1.out
  have fz : ∀ j, w1.frozen? ⟨w.heap.size, j, none⟩ = false := fun j => frozen_get HG1.out
  have hdi : ¬ (d.size : Int) < 2 := by omega
  go_wp2_with fail
  refine Calls.mono (HSF.out _) ?_
  rintro e w2 ⟨rfl, hb⟩
  have HG : Hid (w2.heap[w.heap.size]? = some (.cells #[.int .i64 0, .int .i64 0, .int .i64 0, .int .i64 0, .int .i64 0, .string ⟨#[]⟩] 29)) := get_below hb HG2.out (by simp; omega)
  have HK : Hid (w2.heap[w1.heap.size]? = some (.cells #[.bool true, .int .i64 a, .int .i64 c, .string d] 23)) := get_below hb HK2.out (by simp)
  have HB : Hid (Below w.heap.size w w2) := HB2.out.trans (hb.mono HB2.out.size)
  clear hb k0 k1 k2 k3 r0 r1 r2 r3 r4 r5 fz HG1 HB1 HG2 HB2 HK2 HSF
  have hl2 := size_of_get HK.out
  obtain ⟨k0, k1, k2, k3⟩ := cells4_of HK.out
  obtain ⟨r0, r1, r2, r3, r4, r5⟩ := cells6_of HG.out
  have fz : ∀ j, w2.frozen? ⟨w.heap.size, j, none⟩ = false := fun j => frozen_get HG.out
  go_wp2_with fail
  rw [HX.out]
  refine (newReader_any d2 _).mono ?_
  rintro e w3 ⟨rfl, hp, hb⟩
  have HP : Hid (Prd w3 w2.heap.size d2 0) := hp
  have HG3 : Hid (w3.heap[w.heap.size]? = some (.cells #[.int .i64 0, .int .i64 0, .int .i64 0, .int .i64 0, .int .i64 0, .string ⟨#[]⟩] 29)) := get_below hb HG.out (by omega)
  have HK3 : Hid (w3.heap[w1.heap.size]? = some (.cells #[.bool true, .int .i64 a, .int .i64 c, .string d] 23)) := get_below hb HK.out (by omega)
  have HB3 : Hid (Below w.heap.size w w3) := HB.out.trans (hb.mono HB.out.size)
  have hl3 := hp.lt
  clear hp hb k0 k1 k2 k3 r0 r1 r2 r3 r4 r5 fz HG HK HB HX
  go_wp2_with fail
  refine (rnumber1 w2.heap.size d2 0 w3 (by omega) HP.out (HEW.out.below HB3.out) (by omega)).mono ?_
  rintro e w4 ⟨rfl, hp, ho⟩
  have HP4 : Hid (Prd w4 w2.heap.size d2 (0 + min 1 (d2.size - 0))) := hp
  have HG4 : Hid (w4.heap[w.heap.size]? = some (.cells #[.int .i64 0, .int .i64 0, .int .i64 0, .int .i64 0, .int .i64 0, .string ⟨#[]⟩] 29)) := getOP ho HG3.out (by omega)
  have HK4 : Hid (w4.heap[w1.heap.size]? = some (.cells #[.bool true, .int .i64 a, .int .i64 c, .string d] 23)) := getOP ho HK3.out (by omega)
  have HB4 : Hid (Below w.heap.size w w4) := HB3.out.trans (ho.below (by omega) HB3.out.size)
  have hl4 := size_of_get HK4.out
  have hl4' := hp.lt
  clear hp ho HG3 HK3 HB3 HP
  obtain ⟨k0, k1, k2, k3⟩ := cells4_of HK4.out
  obtain ⟨r0, r1, r2, r3, r4, r5⟩ := cells6_of HG4.out
  have fz : ∀ j, w4.frozen? ⟨w.heap.size, j, none⟩ = false := fun j => frozen_get HG4.out
  generalize hv0 : (if 1 ≤ d2.size - 0 then gt d2 0 1 else 0) = v0 at *
  subst hq
  go_wp2_with (go_at_call 52; refine (upTo_any _ _ _).mono ?_; rintro e w5 ⟨rfl, h5⟩; obtain rfl := h5.symm)
  refine bodyPost_ret (v := .tuple #[.agg #[.int .i64 0, .int .i64 0, .int .i64 0, .int .i64 0, .int .i64 0, .string ⟨#[]⟩], .int .i64 3]) (results_row_tmp Tryd.results19 _ _ (w.heap.size) 29 #[.int .i64 0, .int .i64 0, .int .i64 0, .int .i64 0, .int .i64 0, .string ⟨#[]⟩] (0, 0) _ rfl ?_ Tryd.underlying29 rfl cellsCg _ rfl) rfl ⟨rfl, ?_⟩
  · exact get_set (get_set (get_set (get_set (get_set (get_set (HG4.out) rfl) rfl) rfl) rfl) rfl) rfl
  · exact belowS (belowS (belowS (belowS (belowS (belowS (HB4.out) (by omega)) (by omega)) (by omega)) (by omega)) (by omega)) (by omega)
set_option maxRecDepth 100000 in
set_option maxHeartbeats 2000000 in
theorem implCmdGet_fine (t : ByteArray) (a c : Int) (d : ByteArray) (d2 : ByteArray) (sv sb so : Nat) (x : ByteArray) (w : World) (ht : t.size ≤ 1048576) (he : Eof w) (HPG : Hid (∀ W, Eof W → Calls Tryd.prog 16 #[.string t, .int .i64 0] W fun e w' => e = .returned (.tuple #[.agg #[.bool true, .int .i64 a, .int .i64 c, .string d], .int .i64 (t.size : Nat)]) ∧ Below W.heap.size W w')) (hd : 6 ≤ d.size) (hds : d.size ≤ 1048576) (hz : d2.size = d.size - 2) (HX : Hid (d.extract 0 (d.size - 2) = d2)) (HSF : Hid (∀ W, Calls Tryd.prog 57 #[.string t] W fun e w' => e = .returned (.bool true) ∧ Below W.heap.size W w')) (hq : (if 1 ≤ d2.size - 0 then gt d2 0 1 else 0) = 47) (hi : inB ((d.size : Int) - 6) 0 60 = true) (HSV : Hid (byteAt d2 1 = sv)) (HSB : Hid (byteAt d2 2 = sb)) (HSO : Hid (byteAt d2 3 = so)) (HXX : Hid (d2.extract 4 d2.size = x)) :
    Calls Tryd.prog 19 #[.string t] w fun e w' => e = .returned (.tuple #[.agg #[.int .i64 a, .int .i64 c, .int .i64 (so : Nat), .int .i64 (sv : Nat), .int .i64 (sb : Nat), .string x], .int .i64 0]) ∧ Below w.heap.size w w' := by
  have hw : 1 < w.heap.size := by
    obtain ⟨v, _, h⟩ := he
    exact block_lt_of_cell h
  have HEW : Hid (Eof w) := he
  have HG : Hid ((w.alloc (.cells #[.int .i64 0, .int .i64 0, .int .i64 0, .int .i64 0, .int .i64 0, .string ⟨#[]⟩] 29)).heap[w.heap.size]? = some (.cells #[.int .i64 0, .int .i64 0, .int .i64 0, .int .i64 0, .int .i64 0, .string ⟨#[]⟩] 29)) := get_new rfl
  have HB : Hid (Below w.heap.size w (w.alloc (.cells #[.int .i64 0, .int .i64 0, .int .i64 0, .int .i64 0, .int .i64 0, .string ⟨#[]⟩] 29))) := (Below.refl _ _).alloc (Nat.le_refl _) _
  clear he
  go_enter Tryd.func19, Tryd.ntmps19
  go_wp2_with fail
  refine Calls.mono (HPG.out _ (HEW.out.below HB.out)) ?_
  rintro e w1 ⟨rfl, hb⟩
  have HG1 : Hid (w1.heap[w.heap.size]? = some (.cells #[.int .i64 0, .int .i64 0, .int .i64 0, .int .i64 0, .int .i64 0, .string ⟨#[]⟩] 29)) := get_below hb HG.out (by simp)
  have HB1 : Hid (Below w.heap.size w w1) := HB.out.trans (hb.mono HB.out.size)
  have hl1 := size_of_get HG1.out
  clear hb HG HB HPG
  have HG2 : Hid ((w1.alloc (.cells #[.bool true, .int .i64 a, .int .i64 c, .string d] 23)).heap[w.heap.size]? = some (.cells #[.int .i64 0, .int .i64 0, .int .i64 0, .int .i64 0, .int .i64 0, .string ⟨#[]⟩] 29)) := get_alloc HG1.out hl1
  have HB2 : Hid (Below w.heap.size w (w1.alloc (.cells #[.bool true, .int .i64 a, .int .i64 c, .string d] 23))) := HB1.out.alloc HB1.out.size _
  have HK2 : Hid ((w1.alloc (.cells #[.bool true, .int .i64 a, .int .i64 c, .string d] 23)).heap[w1.heap.size]? = some (.cells #[.bool true, .int .i64 a, .int .i64 c, .string d] 23)) := get_new rfl
  obtain ⟨k0, k1, k2, k3⟩ := cells4_of HK2.out
  obtain ⟨r0, r1, r2, r3, r4, r5⟩ := cells6_of HG1.out
  have fz : ∀ j, w1.frozen? ⟨w.heap.size, j, none⟩ = false := fun j => frozen_get HG1.out
  have HZ : Hid (d2.size = d.size - 2) := hz
  have hd2 : 4 ≤ d2.size ∧ d2.size ≤ 1048576 := by omega
  have HD2 : Hid (4 ≤ d2.size ∧ d2.size ≤ 1048576) := hd2
  have hdd : 2 ≤ d.size := by omega
  have hdi : ¬ (d.size : Int) < 2 := by omega
  go_wp2_with fail
  refine Calls.mono (HSF.out _) ?_
  rintro e w2 ⟨rfl, hb⟩
  have HG : Hid (w2.heap[w.heap.size]? = some (.cells #[.int .i64 0, .int .i64 0, .int .i64 0, .int .i64 0, .int .i64 0, .string ⟨#[]⟩] 29)) := get_below hb HG2.out (by simp; omega)
  have HK : Hid (w2.heap[w1.heap.size]? = some (.cells #[.bool true, .int .i64 a, .int .i64 c, .string d] 23)) := get_below hb HK2.out (by simp)
  have HB : Hid (Below w.heap.size w w2) := HB2.out.trans (hb.mono HB2.out.size)
  clear hb k0 k1 k2 k3 r0 r1 r2 r3 r4 r5 fz HG1 HB1 HG2 HB2 HK2 HSF
  have hl2 := size_of_get HK.out
  obtain ⟨k0, k1, k2, k3⟩ := cells4_of HK.out
  obtain ⟨r0, r1, r2, r3, r4, r5⟩ := cells6_of HG.out
  have fz : ∀ j, w2.frozen? ⟨w.heap.size, j, none⟩ = false := fun j => frozen_get HG.out
  go_wp2_with fail
  rw [HX.out]
  refine (newReader_any d2 _).mono ?_
  rintro e w3 ⟨rfl, hp, hb⟩
  have HP : Hid (Prd w3 w2.heap.size d2 0) := hp
  have HG3 : Hid (w3.heap[w.heap.size]? = some (.cells #[.int .i64 0, .int .i64 0, .int .i64 0, .int .i64 0, .int .i64 0, .string ⟨#[]⟩] 29)) := get_below hb HG.out (by omega)
  have HK3 : Hid (w3.heap[w1.heap.size]? = some (.cells #[.bool true, .int .i64 a, .int .i64 c, .string d] 23)) := get_below hb HK.out (by omega)
  have HB3 : Hid (Below w.heap.size w w3) := HB.out.trans (hb.mono HB.out.size)
  have hl3 := hp.lt
  clear hp hb k0 k1 k2 k3 r0 r1 r2 r3 r4 r5 fz HG HK HB HX
  go_wp2_with fail
  refine (rnumber1 w2.heap.size d2 0 w3 (by omega) HP.out (HEW.out.below HB3.out) (by omega)).mono ?_
  rintro e w4 ⟨rfl, hp, ho⟩
  have HP4 : Hid (Prd w4 w2.heap.size d2 (0 + min 1 (d2.size - 0))) := hp
  have HG4 : Hid (w4.heap[w.heap.size]? = some (.cells #[.int .i64 0, .int .i64 0, .int .i64 0, .int .i64 0, .int .i64 0, .string ⟨#[]⟩] 29)) := getOP ho HG3.out (by omega)
  have HK4 : Hid (w4.heap[w1.heap.size]? = some (.cells #[.bool true, .int .i64 a, .int .i64 c, .string d] 23)) := getOP ho HK3.out (by omega)
  have HB4 : Hid (Below w.heap.size w w4) := HB3.out.trans (ho.below (by omega) HB3.out.size)
  have hl4 := size_of_get HK4.out
  have hl4' := hp.lt
  clear hp ho HG3 HK3 HB3 HP
  obtain ⟨k0, k1, k2, k3⟩ := cells4_of HK4.out
  obtain ⟨r0, r1, r2, r3, r4, r5⟩ := cells6_of HG4.out
  have fz : ∀ j, w4.frozen? ⟨w.heap.size, j, none⟩ = false := fun j => frozen_get HG4.out
  generalize hv0 : (if 1 ≤ d2.size - 0 then gt d2 0 1 else 0) = v0 at *
  subst hq
  clear hz
  have hm1 : 0 + min 1 (d2.size - 0) = 1 := by omega
  rw [hm1] at HP4
  clear hm1
  go_wp2_with (go_at_call 52; refine (upTo_any _ _ _).mono ?_; rintro e w5 ⟨rfl, h5⟩; obtain rfl := h5.symm)
  clear k0 k1 k2 k3 r0 r1 r2 r3 r4 r5 fz
  have HT : Hid ((w4.alloc (.cells #[.int .i64 a, .int .i64 c, .int .i64 0, .int .i64 0, .int .i64 0, .string ⟨#[]⟩] 29)).heap[w4.heap.size]? = some (.cells #[.int .i64 a, .int .i64 c, .int .i64 0, .int .i64 0, .int .i64 0, .string ⟨#[]⟩] 29)) := get_new rfl
  have HG5 : Hid ((w4.alloc (.cells #[.int .i64 a, .int .i64 c, .int .i64 0, .int .i64 0, .int .i64 0, .string ⟨#[]⟩] 29)).heap[w.heap.size]? = some (.cells #[.int .i64 0, .int .i64 0, .int .i64 0, .int .i64 0, .int .i64 0, .string ⟨#[]⟩] 29)) := get_alloc HG4.out (by omega)
  have HB5 : Hid (Below w.heap.size w (w4.alloc (.cells #[.int .i64 a, .int .i64 c, .int .i64 0, .int .i64 0, .int .i64 0, .string ⟨#[]⟩] 29))) := HB4.out.alloc HB4.out.size _
  have HP5 : Hid (Prd (w4.alloc (.cells #[.int .i64 a, .int .i64 c, .int .i64 0, .int .i64 0, .int .i64 0, .string ⟨#[]⟩] 29)) w2.heap.size d2 1) := HP4.out.below ((Below.refl _ _).alloc (Nat.le_refl _) _)
  clear HB4 HG4 HK4 HP4
  refine (rnum1 w2.heap.size d2 1 _ HD2.out.2 HP5.out (HEW.out.below HB5.out) (by omega) (by have := HD2.out.1; omega)).mono ?_
  rintro e w5 ⟨rfl, hpn, ho⟩
  rw [HSV.out]
  have HT5 : Hid (w5.heap[w4.heap.size]? = some (.cells #[.int .i64 a, .int .i64 c, .int .i64 0, .int .i64 0, .int .i64 0, .string ⟨#[]⟩] 29)) := getOP ho HT.out (by omega)
  have HG5x : Hid (w5.heap[w.heap.size]? = some (.cells #[.int .i64 0, .int .i64 0, .int .i64 0, .int .i64 0, .int .i64 0, .string ⟨#[]⟩] 29)) := getOP ho HG5.out (by omega)
  have HB5x : Hid (Below w.heap.size w w5) := HB5.out.trans (ho.below (by omega) HB5.out.size)
  have HP5x : Hid (Prd w5 w2.heap.size d2 2) := hpn
  clear hpn ho HT HG5 HB5 HP5
  have hl5t := size_of_get HT5.out
  obtain ⟨t0, t1, t2, t3, t4, t5⟩ := cells6_of HT5.out
  have fz : ∀ j, w5.frozen? ⟨w4.heap.size, j, none⟩ = false := fun j => frozen_get HT5.out
  have HT5s : Hid ((w5.setCell ⟨w4.heap.size, 3, none⟩ (.int .i64 (sv : Nat))).heap[w4.heap.size]? = some (.cells #[.int .i64 a, .int .i64 c, .int .i64 0, .int .i64 (sv : Nat), .int .i64 0, .string ⟨#[]⟩] 29)) := get_set HT5.out rfl
  have HG5s : Hid ((w5.setCell ⟨w4.heap.size, 3, none⟩ (.int .i64 (sv : Nat))).heap[w.heap.size]? = some (.cells #[.int .i64 0, .int .i64 0, .int .i64 0, .int .i64 0, .int .i64 0, .string ⟨#[]⟩] 29)) := get_set_ne HG5x.out (by omega)
  have HB5s : Hid (Below w.heap.size w (w5.setCell ⟨w4.heap.size, 3, none⟩ (.int .i64 (sv : Nat)))) := belowS HB5x.out (by omega)
  have HP5s : Hid (Prd (w5.setCell ⟨w4.heap.size, 3, none⟩ (.int .i64 (sv : Nat))) w2.heap.size d2 2) := HP5x.out.set (by omega)
  clear HG5x HB5x HP5x HT5
  go_wp2_with fail
  refine (rnum1 w2.heap.size d2 2 _ HD2.out.2 HP5s.out (HEW.out.below HB5s.out) (by omega) (by have := HD2.out.1; omega)).mono ?_
  rintro e w6 ⟨rfl, hpn, ho⟩
  rw [HSB.out]
  have HT6 : Hid (w6.heap[w4.heap.size]? = some (.cells #[.int .i64 a, .int .i64 c, .int .i64 0, .int .i64 (sv : Nat), .int .i64 0, .string ⟨#[]⟩] 29)) := getOP ho HT5s.out (by omega)
  have HG6x : Hid (w6.heap[w.heap.size]? = some (.cells #[.int .i64 0, .int .i64 0, .int .i64 0, .int .i64 0, .int .i64 0, .string ⟨#[]⟩] 29)) := getOP ho HG5s.out (by omega)
  have HB6x : Hid (Below w.heap.size w w6) := HB5s.out.trans (ho.below (by omega) HB5s.out.size)
  have HP6x : Hid (Prd w6 w2.heap.size d2 3) := hpn
  clear hpn ho HT5s HG5s HB5s HP5s
  clear t0 t1 t2 t3 t4 t5 fz
  have hl6t := size_of_get HT6.out
  obtain ⟨t0, t1, t2, t3, t4, t5⟩ := cells6_of HT6.out
  have fz : ∀ j, w6.frozen? ⟨w4.heap.size, j, none⟩ = false := fun j => frozen_get HT6.out
  have HT6s : Hid ((w6.setCell ⟨w4.heap.size, 4, none⟩ (.int .i64 (sb : Nat))).heap[w4.heap.size]? = some (.cells #[.int .i64 a, .int .i64 c, .int .i64 0, .int .i64 (sv : Nat), .int .i64 (sb : Nat), .string ⟨#[]⟩] 29)) := get_set HT6.out rfl
  have HG6s : Hid ((w6.setCell ⟨w4.heap.size, 4, none⟩ (.int .i64 (sb : Nat))).heap[w.heap.size]? = some (.cells #[.int .i64 0, .int .i64 0, .int .i64 0, .int .i64 0, .int .i64 0, .string ⟨#[]⟩] 29)) := get_set_ne HG6x.out (by omega)
  have HB6s : Hid (Below w.heap.size w (w6.setCell ⟨w4.heap.size, 4, none⟩ (.int .i64 (sb : Nat)))) := belowS HB6x.out (by omega)
  have HP6s : Hid (Prd (w6.setCell ⟨w4.heap.size, 4, none⟩ (.int .i64 (sb : Nat))) w2.heap.size d2 3) := HP6x.out.set (by omega)
  clear HG6x HB6x HP6x HT6
  go_wp2_with fail
  refine (rnum1 w2.heap.size d2 3 _ HD2.out.2 HP6s.out (HEW.out.below HB6s.out) (by omega) (by have := HD2.out.1; omega)).mono ?_
  rintro e w7 ⟨rfl, hpn, ho⟩
  rw [HSO.out]
  have HT7 : Hid (w7.heap[w4.heap.size]? = some (.cells #[.int .i64 a, .int .i64 c, .int .i64 0, .int .i64 (sv : Nat), .int .i64 (sb : Nat), .string ⟨#[]⟩] 29)) := getOP ho HT6s.out (by omega)
  have HG7x : Hid (w7.heap[w.heap.size]? = some (.cells #[.int .i64 0, .int .i64 0, .int .i64 0, .int .i64 0, .int .i64 0, .string ⟨#[]⟩] 29)) := getOP ho HG6s.out (by omega)
  have HB7x : Hid (Below w.heap.size w w7) := HB6s.out.trans (ho.below (by omega) HB6s.out.size)
  have HP7x : Hid (Prd w7 w2.heap.size d2 4) := hpn
  clear hpn ho HT6s HG6s HB6s HP6s
  clear t0 t1 t2 t3 t4 t5 fz
  have hl7t := size_of_get HT7.out
  obtain ⟨t0, t1, t2, t3, t4, t5⟩ := cells6_of HT7.out
  have fz : ∀ j, w7.frozen? ⟨w4.heap.size, j, none⟩ = false := fun j => frozen_get HT7.out
  have HT7s : Hid ((w7.setCell ⟨w4.heap.size, 2, none⟩ (.int .i64 (so : Nat))).heap[w4.heap.size]? = some (.cells #[.int .i64 a, .int .i64 c, .int .i64 (so : Nat), .int .i64 (sv : Nat), .int .i64 (sb : Nat), .string ⟨#[]⟩] 29)) := get_set HT7.out rfl
  have HG7s : Hid ((w7.setCell ⟨w4.heap.size, 2, none⟩ (.int .i64 (so : Nat))).heap[w.heap.size]? = some (.cells #[.int .i64 0, .int .i64 0, .int .i64 0, .int .i64 0, .int .i64 0, .string ⟨#[]⟩] 29)) := get_set_ne HG7x.out (by omega)
  have HB7s : Hid (Below w.heap.size w (w7.setCell ⟨w4.heap.size, 2, none⟩ (.int .i64 (so : Nat)))) := belowS HB7x.out (by omega)
  have HP7s : Hid (Prd (w7.setCell ⟨w4.heap.size, 2, none⟩ (.int .i64 (so : Nat))) w2.heap.size d2 4) := HP7x.out.set (by omega)
  clear HG7x HB7x HP7x HT7
  go_wp2_with fail
  refine (rlen_any w2.heap.size d2 4 _ (by unfold maxLen; have := HD2.out.2; omega) HP7s.out).mono ?_
  rintro e w8 ⟨rfl, hb⟩
  have hls := size_of_get HT7s.out
  have HT8 : Hid (w8.heap[w4.heap.size]? = some (.cells #[.int .i64 a, .int .i64 c, .int .i64 (so : Nat), .int .i64 (sv : Nat), .int .i64 (sb : Nat), .string ⟨#[]⟩] 29)) := get_below hb HT7s.out hls
  have HG8 : Hid (w8.heap[w.heap.size]? = some (.cells #[.int .i64 0, .int .i64 0, .int .i64 0, .int .i64 0, .int .i64 0, .string ⟨#[]⟩] 29)) := get_below hb HG7s.out (size_of_get HG7s.out)
  have HP8 : Hid (Prd w8 w2.heap.size d2 4) := HP7s.out.below hb
  have HB8 : Hid (Below w.heap.size w w8) := HB7s.out.trans (hb.mono HB7s.out.size)
  clear hb hls t0 t1 t2 t3 t4 t5 fz HT7s HG7s HB7s HP7s
  go_wp2_with fail
  refine (rtextE w2.heap.size d2 4 _ HD2.out.2 HP8.out (HEW.out.below HB8.out) (by omega) HD2.out.1).mono ?_
  rintro e w9 ⟨rfl, ho⟩
  rw [HXX.out]
  have HT9 : Hid (w9.heap[w4.heap.size]? = some (.cells #[.int .i64 a, .int .i64 c, .int .i64 (so : Nat), .int .i64 (sv : Nat), .int .i64 (sb : Nat), .string ⟨#[]⟩] 29)) := getOP ho HT8.out (by omega)
  have HG9 : Hid (w9.heap[w.heap.size]? = some (.cells #[.int .i64 0, .int .i64 0, .int .i64 0, .int .i64 0, .int .i64 0, .string ⟨#[]⟩] 29)) := getOP ho HG8.out (by omega)
  have HB9 : Hid (Below w.heap.size w w9) := HB8.out.trans (ho.below (by omega) HB8.out.size)
  clear ho HT8 HG8 HP8 HB8
  have hl9 := size_of_get HT9.out
  obtain ⟨t0, t1, t2, t3, t4, t5⟩ := cells6_of HT9.out
  have fz : ∀ j, w9.frozen? ⟨w4.heap.size, j, none⟩ = false := fun j => frozen_get HT9.out
  have HT9s : Hid ((w9.setCell ⟨w4.heap.size, 5, none⟩ (.string x)).heap[w4.heap.size]? = some (.cells #[.int .i64 a, .int .i64 c, .int .i64 (so : Nat), .int .i64 (sv : Nat), .int .i64 (sb : Nat), .string x] 29)) := get_set HT9.out rfl
  have HG9s : Hid ((w9.setCell ⟨w4.heap.size, 5, none⟩ (.string x)).heap[w.heap.size]? = some (.cells #[.int .i64 0, .int .i64 0, .int .i64 0, .int .i64 0, .int .i64 0, .string ⟨#[]⟩] 29)) := get_set_ne HG9.out (by omega)
  have HB9s : Hid (Below w.heap.size w (w9.setCell ⟨w4.heap.size, 5, none⟩ (.string x))) := belowS HB9.out (by omega)
  obtain ⟨r0, r1, r2, r3, r4, r5⟩ := cells6_of HG9.out
  have fy : ∀ j, w9.frozen? ⟨w.heap.size, j, none⟩ = false := fun j => frozen_get HG9.out
  clear HT9 HG9 HB9
  have hne : ¬ w.heap.size = w4.heap.size := by omega
  have hne' : ¬ w4.heap.size = w.heap.size := by omega
  go_wp2_with fail
  refine bodyPost_ret (v := .tuple #[.agg #[.int .i64 a, .int .i64 c, .int .i64 (so : Nat), .int .i64 (sv : Nat), .int .i64 (sb : Nat), .string x], .int .i64 0]) (results_row_tmp Tryd.results19 _ _ (w.heap.size) 29 #[.int .i64 a, .int .i64 c, .int .i64 (so : Nat), .int .i64 (sv : Nat), .int .i64 (sb : Nat), .string x] (0, 0) _ rfl ?_ Tryd.underlying29 rfl cellsCg _ rfl) rfl ⟨rfl, ?_⟩
  · exact get_set (get_set (get_set (get_set (get_set (get_set (HG9s.out) rfl) rfl) rfl) rfl) rfl) rfl
  · exact belowS (belowS (belowS (belowS (belowS (belowS (HB9s.out) (by omega)) (by omega)) (by omega)) (by omega)) (by omega)) (by omega)
theorem implCmdGet_any (t : ByteArray) (w : World) (ht : t.size ≤ 1048576) (he : Eof w) :
    Calls Tryd.prog 19 #[.string t] w fun e w' => e = .returned (.tuple #[cgV t, .int .i64 (cgK t)]) ∧ Below w.heap.size w w' := by
  have hpg := fun W he => implPacketGet_any t 0 W ht he
  rw [pgAt_zero] at hpg
  cases hp : pgOk t with
  | false =>
    have hs : cgShape t = false := by unfold cgShape; rw [hp]; rfl
    have hk := cgK_1 hs
    rw [cgV_no (by rw [hk]; decide), hk]
    rw [(pgV_no hp).1, (pgV_no hp).2] at hpg
    by_cases h0 : (0 : Nat) = t.size
    · rw [show (0 : Int) = ((t.size : Nat) : Int) by omega] at hpg
      exact implCmdGet_down t _ _ _ w ht he (by have := hpg; rw [← h0] at this ⊢; exact this)
    · exact implCmdGet_len t _ _ _ false 0 w ht he hpg h0
  | true =>
    obtain ⟨h1, h2, h3⟩ := pgOk_all hp
    have e1 : pgV t = .agg #[.bool (pgU t), .int .i64 (pgA t), .int .i64 (pgC t), .string (pgD t)] := by unfold pgV; rw [if_pos hp]
    have e2 : pgN t = (pgL t : Nat) := by unfold pgN; rw [if_pos hp]
    rw [e1, e2] at hpg
    by_cases hc : pgL t = t.size
    · rw [hc] at hpg
      cases hu : pgU t with
      | false =>
        have hs : cgShape t = false := by unfold cgShape; rw [hu, Bool.and_false]
        have hk := cgK_1 hs
        rw [cgV_no (by rw [hk]; decide), hk]
        rw [hu] at hpg
        exact implCmdGet_down t _ _ _ w ht he hpg
      | true =>
        rw [hu] at hpg
        have hs : cgShape t = true := by unfold cgShape; rw [hp, hu, decide_eq_true hc]; rfl
        by_cases hd : (pgD t).size < 2
        · have hk := cgK_2 hs (by unfold cgSum; rw [decide_eq_false (by omega : ¬ 2 ≤ (pgD t).size)]; rfl)
          rw [cgV_no (by rw [hk]; decide), hk]
          exact implCmdGet_few t _ _ _ w ht he hpg hd
        · have hd2 : 2 ≤ (pgD t).size := by omega
          have hsf := fun W => sumFits_any t (cgT t) W ht (by omega) rfl
          cases hb : cgSumB t with
          | false =>
            have hk := cgK_2 hs (by unfold cgSum; rw [hb, Bool.and_false])
            rw [cgV_no (by rw [hk]; decide), hk]
            rw [hb] at hsf
            exact implCmdGet_sum t _ _ _ w ht he hpg hd2 hsf
          | true =>
            rw [hb] at hsf
            have hsm : cgSum t = true := by unfold cgSum; rw [hb, decide_eq_true hd2]; rfl
            obtain ⟨d2, hdd⟩ : ∃ d2, d2 = (pgD t).extract 0 ((pgD t).size - 2) := ⟨_, rfl⟩
            obtain ⟨z1, z2, z3⟩ := cg_ext hdd
            have hx : (pgD t).extract 0 ((pgD t).size - 2) = d2 := hdd.symm
            have hds : (pgD t).size ≤ 1048576 := by omega
            by_cases hm : (if 1 ≤ d2.size - 0 then gt d2 0 1 else 0) = 47
            · have h3d : 3 ≤ (pgD t).size := by
                by_cases q : 1 ≤ d2.size - 0
                · omega
                · rw [if_neg q] at hm; cases hm
              rw [if_pos (by omega)] at hm
              have hm2 : byteAt (pgD t) 0 = 47 := by rw [← z2 0 (by omega)]; simpa [gt] using hm
              cases hi : inB (((pgD t).size : Int) - 6) 0 60 with
              | false =>
                have hh : cgHead t = false := by
                  cases q : cgHead t with
                  | false => rfl
                  | true =>
                    simp only [cgHead, Bool.and_eq_true, decide_eq_true_eq] at q
                    rw [show inB (((pgD t).size : Int) - 6) 0 60 = true by simp only [inB, Bool.and_eq_true, decide_eq_true_eq]; omega] at hi
                    cases hi
                have hk := cgK_3 hs hsm hh
                rw [cgV_no (by rw [hk]; decide), hk]
                exact implCmdGet_long t _ _ _ w ht he hpg d2 hd2 hds z1 hx hsf (by rw [if_pos (by omega)]; exact hm) hi
              | true =>
                have hi2 := hi
                simp only [inB, Bool.and_eq_true, decide_eq_true_eq] at hi2
                have hh : cgHead t = true := by
                  simp only [cgHead, Bool.and_eq_true, decide_eq_true_eq]
                  omega
                have hk := cgK_0 hs hsm hh
                rw [cgV_yes hk, hk]
                exact implCmdGet_fine t _ _ _ d2 _ _ _ _ w ht he hpg (by omega) hds z1 hx hsf (by rw [if_pos (by omega)]; exact hm) hi (z2 1 (by omega)) (z2 2 (by omega)) (z2 3 (by omega)) z3
            · have hh : cgHead t = false := by
                cases q : cgHead t with
                | false => rfl
                | true =>
                  simp only [cgHead, Bool.and_eq_true, decide_eq_true_eq] at q
                  exfalso; apply hm
                  rw [if_pos (by omega)]
                  have := z2 0 (by omega)
                  simp only [gt]
                  rw [this, q.1.2]
              have hk := cgK_3 hs hsm hh
              rw [cgV_no (by rw [hk]; decide), hk]
              exact implCmdGet_mark t _ _ _ w ht he hpg d2 hd2 hds z1 hx hsf hm
    · have hs : cgShape t = false := by unfold cgShape; rw [decide_eq_false hc, Bool.and_false]; rfl
      have hk := cgK_1 hs
      rw [cgV_no (by rw [hk]; decide), hk]
      exact implCmdGet_len t _ _ _ _ _ w ht he hpg hc
end Go.Proofs.YtccpdadabndleaaDoor
