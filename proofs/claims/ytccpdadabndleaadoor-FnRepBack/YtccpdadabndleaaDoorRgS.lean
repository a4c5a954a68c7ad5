/- spec.RepGet. -/
import Derived.Test.YtccpdadabndleaaDoorRgI
import Derived.Deep.RegionHeld2
namespace Go.Proofs.YtccpdadabndleaaDoor
open Go.ChangeShapes Go.WideShapes Go.ChangeAt Go.RowKit
set_option linter.unusedVariables false
set_option maxRecDepth 100000 in
set_option maxHeartbeats 1000000 in
theorem specRepGet_no (t : ByteArray) (w : World) (ht : t.size ≤ 1048576) (HPG : Hid (∀ W, Calls Tryd.prog 15 #[.string t, .int .i64 0] W fun e w' => e = .returned (.tuple #[.agg #[.bool false, .int .i64 0, .int .i64 0, .string ⟨#[]⟩], .int .i64 0]) ∧ Below W.heap.size W w')) :
    Calls Tryd.prog 21 #[.string t] w fun e w' => e = .returned (.tuple #[.agg #[.int .i64 0, .int .i64 0, .int .i64 0, .int .i64 0, .int .i64 0, .string ⟨#[]⟩], .bool false]) ∧ Below w.heap.size w w' := by
  have HG : Hid ((w.alloc (.cells #[.int .i64 0, .int .i64 0, .int .i64 0, .int .i64 0, .int .i64 0, .string ⟨#[]⟩] 35)).heap[w.heap.size]? = some (.cells #[.int .i64 0, .int .i64 0, .int .i64 0, .int .i64 0, .int .i64 0, .string ⟨#[]⟩] 35)) := get_new rfl
  have HB : Hid (Below w.heap.size w (w.alloc (.cells #[.int .i64 0, .int .i64 0, .int .i64 0, .int .i64 0, .int .i64 0, .string ⟨#[]⟩] 35))) := (Below.refl _ _).alloc (Nat.le_refl _) _
  go_enter Tryd.func21, Tryd.ntmps21
  go_wp2_with fail
  refine Calls.mono (HPG.out _) ?_
  rintro e w1 ⟨rfl, hb⟩
  have HG1 : Hid (w1.heap[w.heap.size]? = some (.cells #[.int .i64 0, .int .i64 0, .int .i64 0, .int .i64 0, .int .i64 0, .string ⟨#[]⟩] 35)) := get_below hb HG.out (by simp)
  have HK2 : Hid ((w1.alloc (.cells #[.bool false, .int .i64 0, .int .i64 0, .string ⟨#[]⟩] 23)).heap[w1.heap.size]? = some (.cells #[.bool false, .int .i64 0, .int .i64 0, .string ⟨#[]⟩] 23)) := get_new rfl
  obtain ⟨k0, k1, k2, k3⟩ := cells4_of HK2.out
  have HB1 : Hid (Below w.heap.size w w1) := HB.out.trans (hb.mono HB.out.size)
  have hl1 := size_of_get HG1.out
  clear hb HG HB HPG
  obtain ⟨r0, r1, r2, r3, r4, r5⟩ := cells6_of HG1.out
  have fz : ∀ j, w1.frozen? ⟨w.heap.size, j, none⟩ = false := fun j => frozen_get HG1.out
  go_wp2_with fail
  refine bodyPost_ret (v := .tuple #[.agg #[.int .i64 0, .int .i64 0, .int .i64 0, .int .i64 0, .int .i64 0, .string ⟨#[]⟩], .bool false]) (results_row_tmp Tryd.results21 _ _ (w.heap.size) 35 #[.int .i64 0, .int .i64 0, .int .i64 0, .int .i64 0, .int .i64 0, .string ⟨#[]⟩] (0, 0) _ rfl ?_ Tryd.underlying35 rfl cellsRg _ rfl) rfl ⟨rfl, ?_⟩
  · exact get_alloc (get_set (get_set (get_set (get_set (get_set (get_set (HG1.out) rfl) rfl) rfl) rfl) rfl) rfl) (by simpa [World.setCell] using hl1)
  · exact Below.alloc (belowS (belowS (belowS (belowS (belowS (belowS (HB1.out) (by omega)) (by omega)) (by omega)) (by omega)) (by omega)) (by omega)) (belowS (belowS (belowS (belowS (belowS (belowS (HB1.out) (by omega)) (by omega)) (by omega)) (by omega)) (by omega)) (by omega)).size _
set_option maxRecDepth 100000 in
set_option maxHeartbeats 1000000 in
theorem specRepGet_long (t : ByteArray) (u : Bool) (a c : Int) (d : ByteArray) (n : Nat) (w : World) (ht : t.size ≤ 1048576) (HPG : Hid (∀ W, Calls Tryd.prog 15 #[.string t, .int .i64 0] W fun e w' => e = .returned (.tuple #[.agg #[.bool u, .int .i64 a, .int .i64 c, .string d], .int .i64 n]) ∧ Below W.heap.size W w')) (hn : 7 ≤ n) (hne : n ≠ t.size) :
    Calls Tryd.prog 21 #[.string t] w fun e w' => e = .returned (.tuple #[.agg #[.int .i64 0, .int .i64 0, .int .i64 0, .int .i64 0, .int .i64 0, .string ⟨#[]⟩], .bool false]) ∧ Below w.heap.size w w' := by
  have HG : Hid ((w.alloc (.cells #[.int .i64 0, .int .i64 0, .int .i64 0, .int .i64 0, .int .i64 0, .string ⟨#[]⟩] 35)).heap[w.heap.size]? = some (.cells #[.int .i64 0, .int .i64 0, .int .i64 0, .int .i64 0, .int .i64 0, .string ⟨#[]⟩] 35)) := get_new rfl
  have HB : Hid (Below w.heap.size w (w.alloc (.cells #[.int .i64 0, .int .i64 0, .int .i64 0, .int .i64 0, .int .i64 0, .string ⟨#[]⟩] 35))) := (Below.refl _ _).alloc (Nat.le_refl _) _
  have hni : ¬ ((n : Int) = 0) := by omega
  have hnj : ¬ ((n : Int) = (t.size : Int)) := by omega
  go_enter Tryd.func21, Tryd.ntmps21
  go_wp2_with fail
  refine Calls.mono (HPG.out _) ?_
  rintro e w1 ⟨rfl, hb⟩
  have HG1 : Hid (w1.heap[w.heap.size]? = some (.cells #[.int .i64 0, .int .i64 0, .int .i64 0, .int .i64 0, .int .i64 0, .string ⟨#[]⟩] 35)) := get_below hb HG.out (by simp)
  have HK2 : Hid ((w1.alloc (.cells #[.bool u, .int .i64 a, .int .i64 c, .string d] 23)).heap[w1.heap.size]? = some (.cells #[.bool u, .int .i64 a, .int .i64 c, .string d] 23)) := get_new rfl
  obtain ⟨k0, k1, k2, k3⟩ := cells4_of HK2.out
  have HB1 : Hid (Below w.heap.size w w1) := HB.out.trans (hb.mono HB.out.size)
  have hl1 := size_of_get HG1.out
  clear hb HG HB HPG
  obtain ⟨r0, r1, r2, r3, r4, r5⟩ := cells6_of HG1.out
  have fz : ∀ j, w1.frozen? ⟨w.heap.size, j, none⟩ = false := fun j => frozen_get HG1.out
  go_wp2_with fail
  refine bodyPost_ret (v := .tuple #[.agg #[.int .i64 0, .int .i64 0, .int .i64 0, .int .i64 0, .int .i64 0, .string ⟨#[]⟩], .bool false]) (results_row_tmp Tryd.results21 _ _ (w.heap.size) 35 #[.int .i64 0, .int .i64 0, .int .i64 0, .int .i64 0, .int .i64 0, .string ⟨#[]⟩] (0, 0) _ rfl ?_ Tryd.underlying35 rfl cellsRg _ rfl) rfl ⟨rfl, ?_⟩
  · exact get_alloc (get_set (get_set (get_set (get_set (get_set (get_set (HG1.out) rfl) rfl) rfl) rfl) rfl) rfl) (by simpa [World.setCell] using hl1)
  · exact Below.alloc (belowS (belowS (belowS (belowS (belowS (belowS (HB1.out) (by omega)) (by omega)) (by omega)) (by omega)) (by omega)) (by omega)) (belowS (belowS (belowS (belowS (belowS (belowS (HB1.out) (by omega)) (by omega)) (by omega)) (by omega)) (by omega)) (by omega)).size _
set_option maxRecDepth 100000 in
set_option maxHeartbeats 1000000 in
theorem specRepGet_short (t : ByteArray) (u : Bool) (a c : Int) (d : ByteArray) (w : World) (ht : t.size ≤ 1048576) (HPG : Hid (∀ W, Calls Tryd.prog 15 #[.string t, .int .i64 0] W fun e w' => e = .returned (.tuple #[.agg #[.bool u, .int .i64 a, .int .i64 c, .string d], .int .i64 t.size]) ∧ Below W.heap.size W w')) (hn : 7 ≤ t.size) (hd : d.size < 7) :
    Calls Tryd.prog 21 #[.string t] w fun e w' => e = .returned (.tuple #[.agg #[.int .i64 0, .int .i64 0, .int .i64 0, .int .i64 0, .int .i64 0, .string ⟨#[]⟩], .bool false]) ∧ Below w.heap.size w w' := by
  have HG : Hid ((w.alloc (.cells #[.int .i64 0, .int .i64 0, .int .i64 0, .int .i64 0, .int .i64 0, .string ⟨#[]⟩] 35)).heap[w.heap.size]? = some (.cells #[.int .i64 0, .int .i64 0, .int .i64 0, .int .i64 0, .int .i64 0, .string ⟨#[]⟩] 35)) := get_new rfl
  have HB : Hid (Below w.heap.size w (w.alloc (.cells #[.int .i64 0, .int .i64 0, .int .i64 0, .int .i64 0, .int .i64 0, .string ⟨#[]⟩] 35))) := (Below.refl _ _).alloc (Nat.le_refl _) _
  have hte : ¬ t = ByteArray.empty := by intro e; subst e; exact absurd hn (by decide)
  have hdi : (d.size : Int) < 7 := by omega
  go_enter Tryd.func21, Tryd.ntmps21
  go_wp2_with fail
  refine Calls.mono (HPG.out _) ?_
  rintro e w1 ⟨rfl, hb⟩
  have HG1 : Hid (w1.heap[w.heap.size]? = some (.cells #[.int .i64 0, .int .i64 0, .int .i64 0, .int .i64 0, .int .i64 0, .string ⟨#[]⟩] 35)) := get_below hb HG.out (by simp)
  have HK2 : Hid ((w1.alloc (.cells #[.bool u, .int .i64 a, .int .i64 c, .string d] 23)).heap[w1.heap.size]? = some (.cells #[.bool u, .int .i64 a, .int .i64 c, .string d] 23)) := get_new rfl
  obtain ⟨k0, k1, k2, k3⟩ := cells4_of HK2.out
  have HB1 : Hid (Below w.heap.size w w1) := HB.out.trans (hb.mono HB.out.size)
  have hl1 := size_of_get HG1.out
  clear hb HG HB HPG
  obtain ⟨r0, r1, r2, r3, r4, r5⟩ := cells6_of HG1.out
  have fz : ∀ j, w1.frozen? ⟨w.heap.size, j, none⟩ = false := fun j => frozen_get HG1.out
  go_wp2_with fail
  refine bodyPost_ret (v := .tuple #[.agg #[.int .i64 0, .int .i64 0, .int .i64 0, .int .i64 0, .int .i64 0, .string ⟨#[]⟩], .bool false]) (results_row_tmp Tryd.results21 _ _ (w.heap.size) 35 #[.int .i64 0, .int .i64 0, .int .i64 0, .int .i64 0, .int .i64 0, .string ⟨#[]⟩] (0, 0) _ rfl ?_ Tryd.underlying35 rfl cellsRg _ rfl) rfl ⟨rfl, ?_⟩
  · exact get_alloc (get_set (get_set (get_set (get_set (get_set (get_set (HG1.out) rfl) rfl) rfl) rfl) rfl) rfl) (by simpa [World.setCell] using hl1)
  · exact Below.alloc (belowS (belowS (belowS (belowS (belowS (belowS (HB1.out) (by omega)) (by omega)) (by omega)) (by omega)) (by omega)) (by omega)) (belowS (belowS (belowS (belowS (belowS (belowS (HB1.out) (by omega)) (by omega)) (by omega)) (by omega)) (by omega)) (by omega)).size _
set_option maxRecDepth 100000 in
set_option maxHeartbeats 4000000 in
theorem specRepGet_in (t : ByteArray) (u : Bool) (a c : Int) (d : ByteArray) (w : World) (ht : t.size ≤ 1048576) (HPG : Hid (∀ W, Calls Tryd.prog 15 #[.string t, .int .i64 0] W fun e w' => e = .returned (.tuple #[.agg #[.bool u, .int .i64 a, .int .i64 c, .string d], .int .i64 t.size]) ∧ Below W.heap.size W w')) (hn : 7 ≤ t.size) (hd : 7 ≤ d.size) (hds : d.size ≤ 1048576) (q : Bool) (sv sb tm : Nat) (x : ByteArray) (esv : sv = byteAt d 1) (esb : sb = byteAt d 2) (etm : tm = gt d 3 4) (ex : x = d.extract 7 d.size) (hq : q = decide (rpPut a c sv sb tm x = t)) (V : Value) (hV0 : q = false → V = .agg #[.int .i64 0, .int .i64 0, .int .i64 0, .int .i64 0, .int .i64 0, .string ⟨#[]⟩]) (hV1 : q = true → V = .agg #[.int .i64 a, .int .i64 c, .int .i64 (sv : Nat), .int .i64 (sb : Nat), .int .i64 (tm : Nat), .string x]) :
    Calls Tryd.prog 21 #[.string t] w fun e w' => e = .returned (.tuple #[V, .bool q]) ∧ Below w.heap.size w w' := by
  have HG : Hid ((w.alloc (.cells #[.int .i64 0, .int .i64 0, .int .i64 0, .int .i64 0, .int .i64 0, .string ⟨#[]⟩] 35)).heap[w.heap.size]? = some (.cells #[.int .i64 0, .int .i64 0, .int .i64 0, .int .i64 0, .int .i64 0, .string ⟨#[]⟩] 35)) := get_new rfl
  have HB : Hid (Below w.heap.size w (w.alloc (.cells #[.int .i64 0, .int .i64 0, .int .i64 0, .int .i64 0, .int .i64 0, .string ⟨#[]⟩] 35))) := (Below.refl _ _).alloc (Nat.le_refl _) _
  have hte : ¬ t = ByteArray.empty := by intro e; subst e; exact absurd hn (by decide)
  have htb : ((t.size : Int) == 0) = false := by rw [beq_eq_false_iff_ne]; omega
  have hdi : ¬ (d.size : Int) < 7 := by omega
  have hdb : decide ((d.size : Int) < 7) = false := by rw [decide_eq_false_iff_not]; omega
  have hdm : d.size ≤ maxLen := by unfold maxLen; omega
  have H4 : Hid (∀ W, Calls Tryd.prog 51 #[.string d, .int .i64 3, .int .i64 4] W fun e w' => e = .returned (.int .i64 (tm : Nat)) ∧ w' = W) := fun W => by
    rw [etm]; exact l1Get_any d 3 4 W hdm (by decide) (by omega)
  have hb1 : sv < 256 := esv ▸ byteAt_lt d 1
  have hb2 : sb < 256 := esb ▸ byteAt_lt d 2
  have hx1 : ∀ h : 1 < d.size, (d[1]'h).toNat = sv := fun h => by rw [esv]; exact byteAt_eq d 1 h
  have hx2 : ∀ h : 2 < d.size, (d[2]'h).toNat = sb := fun h => by rw [esb]; exact byteAt_eq d 2 h
  have hxs : x.size ≤ maxLen := by rw [ex, ByteArray.size_extract]; unfold maxLen; omega
  have HRP : Hid (∀ W, Calls Tryd.prog 34 #[.agg #[.int .i64 a, .int .i64 c, .int .i64 (sv : Nat), .int .i64 (sb : Nat), .int .i64 (tm : Nat), .string x]] W fun e w' => e = .returned (.string (rpPut a c sv sb tm x)) ∧ Below W.heap.size W w') := fun W => specRepPut_any a c sv sb tm x W hxs
  have HV0 : Hid _ := hV0
  have HV1 : Hid _ := hV1
  have HQ : Hid _ := hq
  have EX : Hid _ := ex
  clear esv esb etm hxs hdm hV0 hV1 hq ex
  go_enter Tryd.func21, Tryd.ntmps21
  go_wp2_with fail
  refine Calls.mono (HPG.out _) ?_
  rintro e w1 ⟨rfl, hb⟩
  have HG1 : Hid (w1.heap[w.heap.size]? = some (.cells #[.int .i64 0, .int .i64 0, .int .i64 0, .int .i64 0, .int .i64 0, .string ⟨#[]⟩] 35)) := get_below hb HG.out (by simp)
  have HB1 : Hid (Below w.heap.size w w1) := HB.out.trans (hb.mono HB.out.size)
  have hl1 := size_of_get HG1.out
  have HG2 : Hid ((w1.alloc (.cells #[.bool u, .int .i64 a, .int .i64 c, .string d] 23)).heap[w.heap.size]? = some (.cells #[.int .i64 0, .int .i64 0, .int .i64 0, .int .i64 0, .int .i64 0, .string ⟨#[]⟩] 35)) := get_alloc HG1.out hl1
  have HB2 : Hid (Below w.heap.size w (w1.alloc (.cells #[.bool u, .int .i64 a, .int .i64 c, .string d] 23))) := HB1.out.alloc HB1.out.size _
  have HK2 : Hid ((w1.alloc (.cells #[.bool u, .int .i64 a, .int .i64 c, .string d] 23)).heap[w1.heap.size]? = some (.cells #[.bool u, .int .i64 a, .int .i64 c, .string d] 23)) := get_new rfl
  clear hb HG HB HPG HG1 HB1
  obtain ⟨k0, k1, k2, k3⟩ := cells4_of HK2.out
  go_wp2_with fail
  clear k0 k1 k2 k3
  generalize (w1.alloc (.cells #[.bool u, .int .i64 a, .int .i64 c, .string d] 23)) = w2 at *
  obtain ⟨k0, k1, k2, k3⟩ := cells4_of HK2.out
  have hl2 := size_of_get HK2.out
  have hw1 : IntKind.i64.wrap (sv : Int) = (sv : Int) := wrapI64 _ (by omega) (by omega)
  have hw2 : IntKind.i64.wrap (sb : Int) = (sb : Int) := wrapI64 _ (by omega) (by omega)
  have HD : w2.drew.cell? ⟨w1.heap.size, 1, none⟩ = some (.int .i64 a) ∧ w2.drew.cell? ⟨w1.heap.size, 2, none⟩ = some (.int .i64 c) ∧ w2.drew.cell? ⟨w1.heap.size, 3, none⟩ = some (.string d) := ⟨k1, k2, k3⟩
  have KEEP : ∀ X, (w2.alloc X).drew.cell? ⟨w1.heap.size, 1, none⟩ = some (.int .i64 a) ∧ (w2.alloc X).drew.cell? ⟨w1.heap.size, 2, none⟩ = some (.int .i64 c) ∧ (w2.alloc X).drew.cell? ⟨w1.heap.size, 3, none⟩ = some (.string d) := fun X => by
    have hbx : Below w2.heap.size w2 (w2.alloc X).drew := ((Below.refl _ _).alloc (Nat.le_refl _) X).drew
    exact ⟨(hbx.cell (p := ⟨w1.heap.size, 1, none⟩) hl2).trans k1, (hbx.cell (p := ⟨w1.heap.size, 2, none⟩) hl2).trans k2, (hbx.cell (p := ⟨w1.heap.size, 3, none⟩) hl2).trans k3⟩
  have hlg := size_of_get HG2.out
  clear k0 k1 k2 k3 HK2
  go_region_held2 (fun W => W.cell? ⟨w1.heap.size, 1, none⟩ = some (.int .i64 a) ∧ W.cell? ⟨w1.heap.size, 2, none⟩ = some (.int .i64 c) ∧ W.cell? ⟨w1.heap.size, 3, none⟩ = some (.string d)) (first | with_reducible assumption | exact KEEP _) ((go_at_call 51; refine Calls.mono (H4.out _) ?_; rintro e w8 ⟨rfl, rfl⟩))
  all_goals (clear KEEP HD)
  all_goals (try simp only [hw1, hw2])
  all_goals (clear hw1 hw2)
  all_goals
    have HX2 : Hid (((w2.alloc (.cells #[.int .i64 a, .int .i64 c, .int .i64 (sv : Nat), .int .i64 (sb : Nat), .int .i64 (tm : Nat), .string (d.extract 7 d.size)] 35)).drew).heap[w2.heap.size]? = some (.cells #[.int .i64 a, .int .i64 c, .int .i64 (sv : Nat), .int .i64 (sb : Nat), .int .i64 (tm : Nat), .string x] 35)) := by rw [EX.out]; exact get_newD rfl
    have HG3 : Hid (((w2.alloc (.cells #[.int .i64 a, .int .i64 c, .int .i64 (sv : Nat), .int .i64 (sb : Nat), .int .i64 (tm : Nat), .string (d.extract 7 d.size)] 35)).drew).heap[w.heap.size]? = some (.cells #[.int .i64 0, .int .i64 0, .int .i64 0, .int .i64 0, .int .i64 0, .string ⟨#[]⟩] 35)) := get_alloc HG2.out (by omega)
    have HB3 : Hid (Below w.heap.size w ((w2.alloc (.cells #[.int .i64 a, .int .i64 c, .int .i64 (sv : Nat), .int .i64 (sb : Nat), .int .i64 (tm : Nat), .string (d.extract 7 d.size)] 35)).drew)) := (HB2.out.alloc HB2.out.size _).drew
    generalize ((w2.alloc (.cells #[.int .i64 a, .int .i64 c, .int .i64 (sv : Nat), .int .i64 (sb : Nat), .int .i64 (tm : Nat), .string (d.extract 7 d.size)] 35)).drew) = wr at *
    obtain ⟨k0, k1, k2, k3, k4, k5⟩ := cells6_of HX2.out
    go_wp2_with fail
    refine Calls.mono (HRP.out _) ?_
    rintro e w9 ⟨rfl, hb⟩
    have HT9 : Hid (w9.heap[w2.heap.size]? = some (.cells #[.int .i64 a, .int .i64 c, .int .i64 (sv : Nat), .int .i64 (sb : Nat), .int .i64 (tm : Nat), .string x] 35)) := get_below hb HX2.out (size_of_get HX2.out)
    have HG9 : Hid (w9.heap[w.heap.size]? = some (.cells #[.int .i64 0, .int .i64 0, .int .i64 0, .int .i64 0, .int .i64 0, .string ⟨#[]⟩] 35)) := get_below hb HG3.out (size_of_get HG3.out)
    have HB9 : Hid (Below w.heap.size w w9) := HB3.out.trans (hb.mono HB3.out.size)
    clear hb HX2 HG3 HB3 k0 k1 k2 k3 k4 k5 HRP
    have q1 := HQ.out
    generalize rpPut a c sv sb tm x = put at *
    obtain ⟨r0, r1, r2, r3, r4, r5⟩ := cells6_of HG9.out
    obtain ⟨t0, t1, t2, t3, t4, t5⟩ := cells6_of HT9.out
    have fz : ∀ j, w9.frozen? ⟨w.heap.size, j, none⟩ = false := fun j => frozen_get HG9.out
    have hl9 := size_of_get HT9.out
    cases q with
    | false =>
      have hne0 : (put.toList == t.toList) = false := by
        rw [beqP]; exact q1.symm
      have hne : (put.toList != t.toList) = true := by
        unfold bne; rw [beqP, ← q1]; rfl
      have F1 : Hid _ := HV0.out rfl
      clear q1 HQ HV0 HV1
      go_wp2_with fail
      refine bodyPost_ret (v := .tuple #[.agg #[.int .i64 0, .int .i64 0, .int .i64 0, .int .i64 0, .int .i64 0, .string ⟨#[]⟩], .bool false]) (results_row_tmp Tryd.results21 _ _ (w.heap.size) 35 #[.int .i64 0, .int .i64 0, .int .i64 0, .int .i64 0, .int .i64 0, .string ⟨#[]⟩] (0, 0) _ rfl ?_ Tryd.underlying35 rfl cellsRg _ rfl) rfl ⟨by rw [F1.out], ?_⟩
      · exact get_set (get_set (get_set (get_set (get_set (get_set (HG9.out) rfl) rfl) rfl) rfl) rfl) rfl
      · exact belowS (belowS (belowS (belowS (belowS (belowS (HB9.out) (by omega)) (by omega)) (by omega)) (by omega)) (by omega)) (by omega)
    | true =>
      have hne0 : (put.toList == t.toList) = true := by
        rw [beqP]; exact q1.symm
      have hne : (put.toList != t.toList) = false := by
        unfold bne; rw [beqP, ← q1]; rfl
      have F1 : Hid _ := HV1.out rfl
      clear q1 HQ HV0 HV1
      go_wp2_with fail
      refine bodyPost_ret (v := .tuple #[.agg #[.int .i64 a, .int .i64 c, .int .i64 (sv : Nat), .int .i64 (sb : Nat), .int .i64 (tm : Nat), .string x], .bool true]) (results_row_tmp Tryd.results21 _ _ (w.heap.size) 35 #[.int .i64 a, .int .i64 c, .int .i64 (sv : Nat), .int .i64 (sb : Nat), .int .i64 (tm : Nat), .string x] (0, 0) _ rfl ?_ Tryd.underlying35 rfl cellsRg _ rfl) rfl ⟨by rw [F1.out], ?_⟩
      · exact get_set (get_set (get_set (get_set (get_set (get_set (HG9.out) rfl) rfl) rfl) rfl) rfl) rfl
      · exact belowS (belowS (belowS (belowS (belowS (belowS (HB9.out) (by omega)) (by omega)) (by omega)) (by omega)) (by omega)) (by omega)
theorem specRepGet_any (t : ByteArray) (w : World) (ht : t.size ≤ 1048576) :
    Calls Tryd.prog 21 #[.string t] w fun e w' => e = .returned (.tuple #[rgV t, .bool (rgOk t)]) ∧ Below w.heap.size w w' := by
  have hpg := fun W => specPacketGet_any t 0 W ht
  rw [pgAt_zero] at hpg
  cases hp : pgOk t with
  | false =>
    rw [rgV_no (rg_pg hp), rg_pg hp]
    rw [(pgV_no hp).1, (pgV_no hp).2] at hpg
    exact specRepGet_no t w ht hpg
  | true =>
    obtain ⟨h1, h2, h3⟩ := pgOk_all hp
    have e1 : pgV t = .agg #[.bool (pgU t), .int .i64 (pgA t), .int .i64 (pgC t), .string (pgD t)] := by unfold pgV; rw [if_pos hp]
    have e2 : pgN t = (pgL t : Nat) := by unfold pgN; rw [if_pos hp]
    rw [e1, e2] at hpg
    by_cases hc : pgL t = t.size
    · rw [hc] at hpg
      by_cases hd : (pgD t).size < 7
      · rw [rgV_no (rg_short hd), rg_short hd]
        exact specRepGet_short t _ _ _ _ w ht hpg h1 hd
      · have hs := rg_spec hp (by omega)
        refine specRepGet_in t _ _ _ _ w ht hpg h1 (by omega) (by omega) (rgOk t) _ _ _ _ rfl rfl rfl rfl hs (rgV t) (fun h => rgV_no h) (fun h => ?_)
        unfold rgV; rw [if_pos h]
    · rw [rgV_no (rg_long hp hc), rg_long hp hc]
      exact specRepGet_long t _ _ _ _ _ w ht hpg (by unfold pgL; omega) hc
end Go.Proofs.YtccpdadabndleaaDoor
