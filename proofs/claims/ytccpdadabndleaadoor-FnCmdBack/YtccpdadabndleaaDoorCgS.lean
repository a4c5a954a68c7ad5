/- spec.CmdGet. -/
import Derived.Test.YtccpdadabndleaaDoorCgI
import Derived.Test.YtccpdadabndleaaDoorCrcS
import Derived.Deep.RegionHeld2
namespace Go.Proofs.YtccpdadabndleaaDoor
open Go.ChangeShapes Go.WideShapes Go.ChangeAt Go.RowKit
set_option linter.unusedVariables false
set_option maxRecDepth 100000 in
set_option maxHeartbeats 1000000 in
theorem specCmdGet_no (t : ByteArray) (a c : Int) (d : ByteArray) (u : Bool) (w : World) (ht : t.size ≤ 1048576) (HPG : Hid (∀ W, Calls Tryd.prog 15 #[.string t, .int .i64 0] W fun e w' => e = .returned (.tuple #[.agg #[.bool u, .int .i64 a, .int .i64 c, .string d], .int .i64 0]) ∧ Below W.heap.size W w')) :
    Calls Tryd.prog 18 #[.string t] w fun e w' => e = .returned (.tuple #[.agg #[.int .i64 0, .int .i64 0, .int .i64 0, .int .i64 0, .int .i64 0, .string ⟨#[]⟩], .int .i64 1]) ∧ Below w.heap.size w w' := by
  have HG : Hid ((w.alloc (.cells #[.int .i64 0, .int .i64 0, .int .i64 0, .int .i64 0, .int .i64 0, .string ⟨#[]⟩] 29)).heap[w.heap.size]? = some (.cells #[.int .i64 0, .int .i64 0, .int .i64 0, .int .i64 0, .int .i64 0, .string ⟨#[]⟩] 29)) := get_new rfl
  have HB : Hid (Below w.heap.size w (w.alloc (.cells #[.int .i64 0, .int .i64 0, .int .i64 0, .int .i64 0, .int .i64 0, .string ⟨#[]⟩] 29))) := (Below.refl _ _).alloc (Nat.le_refl _) _
  go_enter Tryd.func18, Tryd.ntmps18
  go_wp2_with fail
  refine Calls.mono (HPG.out _) ?_
  rintro e w1 ⟨rfl, hb⟩
  have HG1 : Hid (w1.heap[w.heap.size]? = some (.cells #[.int .i64 0, .int .i64 0, .int .i64 0, .int .i64 0, .int .i64 0, .string ⟨#[]⟩] 29)) := get_below hb HG.out (by simp)
  have HK2 : Hid ((w1.alloc (.cells #[.bool u, .int .i64 a, .int .i64 c, .string d] 23)).heap[w1.heap.size]? = some (.cells #[.bool u, .int .i64 a, .int .i64 c, .string d] 23)) := get_new rfl
  obtain ⟨k0, k1, k2, k3⟩ := cells4_of HK2.out
  have HB1 : Hid (Below w.heap.size w w1) := HB.out.trans (hb.mono HB.out.size)
  have hl1 := size_of_get HG1.out
  clear hb HG HB HPG
  obtain ⟨r0, r1, r2, r3, r4, r5⟩ := cells6_of HG1.out
  have fz : ∀ j, w1.frozen? ⟨w.heap.size, j, none⟩ = false := fun j => frozen_get HG1.out
  go_wp2_with fail
  refine bodyPost_ret (v := .tuple #[.agg #[.int .i64 0, .int .i64 0, .int .i64 0, .int .i64 0, .int .i64 0, .string ⟨#[]⟩], .int .i64 1]) (results_row_tmp Tryd.results18 _ _ (w.heap.size) 29 #[.int .i64 0, .int .i64 0, .int .i64 0, .int .i64 0, .int .i64 0, .string ⟨#[]⟩] (0, 0) _ rfl ?_ Tryd.underlying29 rfl cellsCg _ rfl) rfl ⟨rfl, ?_⟩
  · exact get_alloc (get_set (get_set (get_set (get_set (get_set (get_set (HG1.out) rfl) rfl) rfl) rfl) rfl) rfl) (by simp [World.setCell]; omega)
  · exact Below.alloc (belowS (belowS (belowS (belowS (belowS (belowS (HB1.out) (by omega)) (by omega)) (by omega)) (by omega)) (by omega)) (by omega)) (belowS (belowS (belowS (belowS (belowS (belowS (HB1.out) (by omega)) (by omega)) (by omega)) (by omega)) (by omega)) (by omega)).size _
set_option maxRecDepth 100000 in
set_option maxHeartbeats 1000000 in
theorem specCmdGet_len (t : ByteArray) (a c : Int) (d : ByteArray) (u : Bool) (n : Nat) (w : World) (ht : t.size ≤ 1048576) (HPG : Hid (∀ W, Calls Tryd.prog 15 #[.string t, .int .i64 0] W fun e w' => e = .returned (.tuple #[.agg #[.bool u, .int .i64 a, .int .i64 c, .string d], .int .i64 (n : Nat)]) ∧ Below W.heap.size W w')) (h0 : n ≠ 0) (hne : n ≠ t.size) :
    Calls Tryd.prog 18 #[.string t] w fun e w' => e = .returned (.tuple #[.agg #[.int .i64 0, .int .i64 0, .int .i64 0, .int .i64 0, .int .i64 0, .string ⟨#[]⟩], .int .i64 1]) ∧ Below w.heap.size w w' := by
  have HG : Hid ((w.alloc (.cells #[.int .i64 0, .int .i64 0, .int .i64 0, .int .i64 0, .int .i64 0, .string ⟨#[]⟩] 29)).heap[w.heap.size]? = some (.cells #[.int .i64 0, .int .i64 0, .int .i64 0, .int .i64 0, .int .i64 0, .string ⟨#[]⟩] 29)) := get_new rfl
  have HB : Hid (Below w.heap.size w (w.alloc (.cells #[.int .i64 0, .int .i64 0, .int .i64 0, .int .i64 0, .int .i64 0, .string ⟨#[]⟩] 29))) := (Below.refl _ _).alloc (Nat.le_refl _) _
  have hni : ¬ ((n : Int) = 0) := by omega
  have hnj : ¬ ((n : Int) = (t.size : Int)) := by omega
  go_enter Tryd.func18, Tryd.ntmps18
  go_wp2_with fail
  refine Calls.mono (HPG.out _) ?_
  rintro e w1 ⟨rfl, hb⟩
  have HG1 : Hid (w1.heap[w.heap.size]? = some (.cells #[.int .i64 0, .int .i64 0, .int .i64 0, .int .i64 0, .int .i64 0, .string ⟨#[]⟩] 29)) := get_below hb HG.out (by simp)
  have HK2 : Hid ((w1.alloc (.cells #[.bool u, .int .i64 a, .int .i64 c, .string d] 23)).heap[w1.heap.size]? = some (.cells #[.bool u, .int .i64 a, .int .i64 c, .string d] 23)) := get_new rfl
  obtain ⟨k0, k1, k2, k3⟩ := cells4_of HK2.out
  have HB1 : Hid (Below w.heap.size w w1) := HB.out.trans (hb.mono HB.out.size)
  have hl1 := size_of_get HG1.out
  clear hb HG HB HPG
  obtain ⟨r0, r1, r2, r3, r4, r5⟩ := cells6_of HG1.out
  have fz : ∀ j, w1.frozen? ⟨w.heap.size, j, none⟩ = false := fun j => frozen_get HG1.out
  go_wp2_with fail
  refine bodyPost_ret (v := .tuple #[.agg #[.int .i64 0, .int .i64 0, .int .i64 0, .int .i64 0, .int .i64 0, .string ⟨#[]⟩], .int .i64 1]) (results_row_tmp Tryd.results18 _ _ (w.heap.size) 29 #[.int .i64 0, .int .i64 0, .int .i64 0, .int .i64 0, .int .i64 0, .string ⟨#[]⟩] (0, 0) _ rfl ?_ Tryd.underlying29 rfl cellsCg _ rfl) rfl ⟨rfl, ?_⟩
  · exact get_alloc (get_set (get_set (get_set (get_set (get_set (get_set (HG1.out) rfl) rfl) rfl) rfl) rfl) rfl) (by simp [World.setCell]; omega)
  · exact Below.alloc (belowS (belowS (belowS (belowS (belowS (belowS (HB1.out) (by omega)) (by omega)) (by omega)) (by omega)) (by omega)) (by omega)) (belowS (belowS (belowS (belowS (belowS (belowS (HB1.out) (by omega)) (by omega)) (by omega)) (by omega)) (by omega)) (by omega)).size _
set_option maxRecDepth 100000 in
set_option maxHeartbeats 1000000 in
theorem specCmdGet_down (t : ByteArray) (a c : Int) (d : ByteArray) (w : World) (ht : t.size ≤ 1048576) (HPG : Hid (∀ W, Calls Tryd.prog 15 #[.string t, .int .i64 0] W fun e w' => e = .returned (.tuple #[.agg #[.bool false, .int .i64 a, .int .i64 c, .string d], .int .i64 (t.size : Nat)]) ∧ Below W.heap.size W w')) (hn : 7 ≤ t.size) :
    Calls Tryd.prog 18 #[.string t] w fun e w' => e = .returned (.tuple #[.agg #[.int .i64 0, .int .i64 0, .int .i64 0, .int .i64 0, .int .i64 0, .string ⟨#[]⟩], .int .i64 1]) ∧ Below w.heap.size w w' := by
  have HG : Hid ((w.alloc (.cells #[.int .i64 0, .int .i64 0, .int .i64 0, .int .i64 0, .int .i64 0, .string ⟨#[]⟩] 29)).heap[w.heap.size]? = some (.cells #[.int .i64 0, .int .i64 0, .int .i64 0, .int .i64 0, .int .i64 0, .string ⟨#[]⟩] 29)) := get_new rfl
  have HB : Hid (Below w.heap.size w (w.alloc (.cells #[.int .i64 0, .int .i64 0, .int .i64 0, .int .i64 0, .int .i64 0, .string ⟨#[]⟩] 29))) := (Below.refl _ _).alloc (Nat.le_refl _) _
  have hte : ¬ t = ByteArray.empty := by intro e; subst e; exact absurd hn (by decide)
  have htb : ((t.size : Int) == 0) = false := by rw [beq_eq_false_iff_ne]; omega
  go_enter Tryd.func18, Tryd.ntmps18
  go_wp2_with fail
  refine Calls.mono (HPG.out _) ?_
  rintro e w1 ⟨rfl, hb⟩
  have HG1 : Hid (w1.heap[w.heap.size]? = some (.cells #[.int .i64 0, .int .i64 0, .int .i64 0, .int .i64 0, .int .i64 0, .string ⟨#[]⟩] 29)) := get_below hb HG.out (by simp)
  have HK2 : Hid ((w1.alloc (.cells #[.bool false, .int .i64 a, .int .i64 c, .string d] 23)).heap[w1.heap.size]? = some (.cells #[.bool false, .int .i64 a, .int .i64 c, .string d] 23)) := get_new rfl
  obtain ⟨k0, k1, k2, k3⟩ := cells4_of HK2.out
  have HB1 : Hid (Below w.heap.size w w1) := HB.out.trans (hb.mono HB.out.size)
  have hl1 := size_of_get HG1.out
  clear hb HG HB HPG
  obtain ⟨r0, r1, r2, r3, r4, r5⟩ := cells6_of HG1.out
  have fz : ∀ j, w1.frozen? ⟨w.heap.size, j, none⟩ = false := fun j => frozen_get HG1.out
  go_wp2_with fail
  refine bodyPost_ret (v := .tuple #[.agg #[.int .i64 0, .int .i64 0, .int .i64 0, .int .i64 0, .int .i64 0, .string ⟨#[]⟩], .int .i64 1]) (results_row_tmp Tryd.results18 _ _ (w.heap.size) 29 #[.int .i64 0, .int .i64 0, .int .i64 0, .int .i64 0, .int .i64 0, .string ⟨#[]⟩] (0, 0) _ rfl ?_ Tryd.underlying29 rfl cellsCg _ rfl) rfl ⟨rfl, ?_⟩
  · exact get_alloc (get_set (get_set (get_set (get_set (get_set (get_set (HG1.out) rfl) rfl) rfl) rfl) rfl) rfl) (by simp [World.setCell]; omega)
  · exact Below.alloc (belowS (belowS (belowS (belowS (belowS (belowS (HB1.out) (by omega)) (by omega)) (by omega)) (by omega)) (by omega)) (by omega)) (belowS (belowS (belowS (belowS (belowS (belowS (HB1.out) (by omega)) (by omega)) (by omega)) (by omega)) (by omega)) (by omega)).size _
set_option maxRecDepth 100000 in
set_option maxHeartbeats 1000000 in
theorem specCmdGet_few (t : ByteArray) (a c : Int) (d : ByteArray) (w : World) (ht : t.size ≤ 1048576) (HPG : Hid (∀ W, Calls Tryd.prog 15 #[.string t, .int .i64 0] W fun e w' => e = .returned (.tuple #[.agg #[.bool true, .int .i64 a, .int .i64 c, .string d], .int .i64 (t.size : Nat)]) ∧ Below W.heap.size W w')) (hn : 7 ≤ t.size) (hd : d.size < 2) :
    Calls Tryd.prog 18 #[.string t] w fun e w' => e = .returned (.tuple #[.agg #[.int .i64 0, .int .i64 0, .int .i64 0, .int .i64 0, .int .i64 0, .string ⟨#[]⟩], .int .i64 2]) ∧ Below w.heap.size w w' := by
  have HG : Hid ((w.alloc (.cells #[.int .i64 0, .int .i64 0, .int .i64 0, .int .i64 0, .int .i64 0, .string ⟨#[]⟩] 29)).heap[w.heap.size]? = some (.cells #[.int .i64 0, .int .i64 0, .int .i64 0, .int .i64 0, .int .i64 0, .string ⟨#[]⟩] 29)) := get_new rfl
  have HB : Hid (Below w.heap.size w (w.alloc (.cells #[.int .i64 0, .int .i64 0, .int .i64 0, .int .i64 0, .int .i64 0, .string ⟨#[]⟩] 29))) := (Below.refl _ _).alloc (Nat.le_refl _) _
  have hte : ¬ t = ByteArray.empty := by intro e; subst e; exact absurd hn (by decide)
  have htb : ((t.size : Int) == 0) = false := by rw [beq_eq_false_iff_ne]; omega
  have hdi : (d.size : Int) < 2 := by omega
  go_enter Tryd.func18, Tryd.ntmps18
  go_wp2_with fail
  refine Calls.mono (HPG.out _) ?_
  rintro e w1 ⟨rfl, hb⟩
  have HG1 : Hid (w1.heap[w.heap.size]? = some (.cells #[.int .i64 0, .int .i64 0, .int .i64 0, .int .i64 0, .int .i64 0, .string ⟨#[]⟩] 29)) := get_below hb HG.out (by simp)
  have HK2 : Hid ((w1.alloc (.cells #[.bool true, .int .i64 a, .int .i64 c, .string d] 23)).heap[w1.heap.size]? = some (.cells #[.bool true, .int .i64 a, .int .i64 c, .string d] 23)) := get_new rfl
  obtain ⟨k0, k1, k2, k3⟩ := cells4_of HK2.out
  have HB1 : Hid (Below w.heap.size w w1) := HB.out.trans (hb.mono HB.out.size)
  have hl1 := size_of_get HG1.out
  clear hb HG HB HPG
  obtain ⟨r0, r1, r2, r3, r4, r5⟩ := cells6_of HG1.out
  have fz : ∀ j, w1.frozen? ⟨w.heap.size, j, none⟩ = false := fun j => frozen_get HG1.out
  go_wp2_with fail
  refine bodyPost_ret (v := .tuple #[.agg #[.int .i64 0, .int .i64 0, .int .i64 0, .int .i64 0, .int .i64 0, .string ⟨#[]⟩], .int .i64 2]) (results_row_tmp Tryd.results18 _ _ (w.heap.size) 29 #[.int .i64 0, .int .i64 0, .int .i64 0, .int .i64 0, .int .i64 0, .string ⟨#[]⟩] (0, 0) _ rfl ?_ Tryd.underlying29 rfl cellsCg _ rfl) rfl ⟨rfl, ?_⟩
  · exact get_alloc (get_set (get_set (get_set (get_set (get_set (get_set (HG1.out) rfl) rfl) rfl) rfl) rfl) rfl) (by simp [World.setCell]; omega)
  · exact Below.alloc (belowS (belowS (belowS (belowS (belowS (belowS (HB1.out) (by omega)) (by omega)) (by omega)) (by omega)) (by omega)) (by omega)) (belowS (belowS (belowS (belowS (belowS (belowS (HB1.out) (by omega)) (by omega)) (by omega)) (by omega)) (by omega)) (by omega)).size _
set_option maxRecDepth 100000 in
set_option maxHeartbeats 1000000 in
theorem specCmdGet_sum (t : ByteArray) (a c : Int) (d : ByteArray) (T : ByteArray) (cr sm : Nat) (w : World) (ht : t.size ≤ 1048576) (HPG : Hid (∀ W, Calls Tryd.prog 15 #[.string t, .int .i64 0] W fun e w' => e = .returned (.tuple #[.agg #[.bool true, .int .i64 a, .int .i64 c, .string d], .int .i64 (t.size : Nat)]) ∧ Below W.heap.size W w')) (hn : 7 ≤ t.size) (hd : 2 ≤ d.size) (hne : ¬ (cr : Int) = (sm : Int)) (hnb : ((cr : Int) != (sm : Int)) = true) (HT : Hid (t.extract 0 (t.size - 2) = T)) (HCR : Hid (∀ W, Calls Tryd.prog 56 #[.string T] W fun e w' => e = .returned (.int .i64 (cr : Nat)) ∧ w' = W)) (HGT : Hid (∀ W, Calls Tryd.prog 51 #[.string t, .int .i64 ((t.size : Int) - 2), .int .i64 2] W fun e w' => e = .returned (.int .i64 (sm : Nat)) ∧ w' = W)) :
    Calls Tryd.prog 18 #[.string t] w fun e w' => e = .returned (.tuple #[.agg #[.int .i64 0, .int .i64 0, .int .i64 0, .int .i64 0, .int .i64 0, .string ⟨#[]⟩], .int .i64 2]) ∧ Below w.heap.size w w' := by
  have HG : Hid ((w.alloc (.cells #[.int .i64 0, .int .i64 0, .int .i64 0, .int .i64 0, .int .i64 0, .string ⟨#[]⟩] 29)).heap[w.heap.size]? = some (.cells #[.int .i64 0, .int .i64 0, .int .i64 0, .int .i64 0, .int .i64 0, .string ⟨#[]⟩] 29)) := get_new rfl
  have HB : Hid (Below w.heap.size w (w.alloc (.cells #[.int .i64 0, .int .i64 0, .int .i64 0, .int .i64 0, .int .i64 0, .string ⟨#[]⟩] 29))) := (Below.refl _ _).alloc (Nat.le_refl _) _
  have hte : ¬ t = ByteArray.empty := by intro e; subst e; exact absurd hn (by decide)
  have htb : ((t.size : Int) == 0) = false := by rw [beq_eq_false_iff_ne]; omega
  have hdi : ¬ (d.size : Int) < 2 := by omega
  go_enter Tryd.func18, Tryd.ntmps18
  go_wp2_with fail
  refine Calls.mono (HPG.out _) ?_
  rintro e w1 ⟨rfl, hb⟩
  have HG1 : Hid (w1.heap[w.heap.size]? = some (.cells #[.int .i64 0, .int .i64 0, .int .i64 0, .int .i64 0, .int .i64 0, .string ⟨#[]⟩] 29)) := get_below hb HG.out (by simp)
  have HK2 : Hid ((w1.alloc (.cells #[.bool true, .int .i64 a, .int .i64 c, .string d] 23)).heap[w1.heap.size]? = some (.cells #[.bool true, .int .i64 a, .int .i64 c, .string d] 23)) := get_new rfl
  obtain ⟨k0, k1, k2, k3⟩ := cells4_of HK2.out
  have HB1 : Hid (Below w.heap.size w w1) := HB.out.trans (hb.mono HB.out.size)
  have hl1 := size_of_get HG1.out
  clear hb HG HB HPG
  obtain ⟨r0, r1, r2, r3, r4, r5⟩ := cells6_of HG1.out
  have fz : ∀ j, w1.frozen? ⟨w.heap.size, j, none⟩ = false := fun j => frozen_get HG1.out
  go_wp2_with fail
  rw [HT.out]
  refine Calls.mono (HCR.out _) ?_
  rintro e w2 ⟨rfl, rfl⟩
  go_wp2_with fail
  refine Calls.mono (HGT.out _) ?_
  rintro e w2 ⟨rfl, rfl⟩
  clear HT HCR HGT
  go_wp2_with fail
  refine bodyPost_ret (v := .tuple #[.agg #[.int .i64 0, .int .i64 0, .int .i64 0, .int .i64 0, .int .i64 0, .string ⟨#[]⟩], .int .i64 2]) (results_row_tmp Tryd.results18 _ _ (w.heap.size) 29 #[.int .i64 0, .int .i64 0, .int .i64 0, .int .i64 0, .int .i64 0, .string ⟨#[]⟩] (0, 0) _ rfl ?_ Tryd.underlying29 rfl cellsCg _ rfl) rfl ⟨rfl, ?_⟩
  · exact get_alloc (get_set (get_set (get_set (get_set (get_set (get_set (HG1.out) rfl) rfl) rfl) rfl) rfl) rfl) (by simp [World.setCell]; omega)
  · exact Below.alloc (belowS (belowS (belowS (belowS (belowS (belowS (HB1.out) (by omega)) (by omega)) (by omega)) (by omega)) (by omega)) (by omega)) (belowS (belowS (belowS (belowS (belowS (belowS (HB1.out) (by omega)) (by omega)) (by omega)) (by omega)) (by omega)) (by omega)).size _
set_option maxRecDepth 100000 in
set_option maxHeartbeats 1000000 in
theorem specCmdGet_short (t : ByteArray) (a c : Int) (d : ByteArray) (T : ByteArray) (cr : Nat) (w : World) (ht : t.size ≤ 1048576) (HPG : Hid (∀ W, Calls Tryd.prog 15 #[.string t, .int .i64 0] W fun e w' => e = .returned (.tuple #[.agg #[.bool true, .int .i64 a, .int .i64 c, .string d], .int .i64 (t.size : Nat)]) ∧ Below W.heap.size W w')) (hn : 7 ≤ t.size) (hd : 2 ≤ d.size) (hd6 : d.size < 6) (HT : Hid (t.extract 0 (t.size - 2) = T)) (HCR : Hid (∀ W, Calls Tryd.prog 56 #[.string T] W fun e w' => e = .returned (.int .i64 (cr : Nat)) ∧ w' = W)) (HGT : Hid (∀ W, Calls Tryd.prog 51 #[.string t, .int .i64 ((t.size : Int) - 2), .int .i64 2] W fun e w' => e = .returned (.int .i64 (cr : Nat)) ∧ w' = W)) :
    Calls Tryd.prog 18 #[.string t] w fun e w' => e = .returned (.tuple #[.agg #[.int .i64 0, .int .i64 0, .int .i64 0, .int .i64 0, .int .i64 0, .string ⟨#[]⟩], .int .i64 3]) ∧ Below w.heap.size w w' := by
  have HG : Hid ((w.alloc (.cells #[.int .i64 0, .int .i64 0, .int .i64 0, .int .i64 0, .int .i64 0, .string ⟨#[]⟩] 29)).heap[w.heap.size]? = some (.cells #[.int .i64 0, .int .i64 0, .int .i64 0, .int .i64 0, .int .i64 0, .string ⟨#[]⟩] 29)) := get_new rfl
  have HB : Hid (Below w.heap.size w (w.alloc (.cells #[.int .i64 0, .int .i64 0, .int .i64 0, .int .i64 0, .int .i64 0, .string ⟨#[]⟩] 29))) := (Below.refl _ _).alloc (Nat.le_refl _) _
  have hte : ¬ t = ByteArray.empty := by intro e; subst e; exact absurd hn (by decide)
  have htb : ((t.size : Int) == 0) = false := by rw [beq_eq_false_iff_ne]; omega
  have hdi : ¬ (d.size : Int) < 2 := by omega
  have hdj : (d.size : Int) < 6 := by omega
  go_enter Tryd.func18, Tryd.ntmps18
  go_wp2_with fail
  refine Calls.mono (HPG.out _) ?_
  rintro e w1 ⟨rfl, hb⟩
  have HG1 : Hid (w1.heap[w.heap.size]? = some (.cells #[.int .i64 0, .int .i64 0, .int .i64 0, .int .i64 0, .int .i64 0, .string ⟨#[]⟩] 29)) := get_below hb HG.out (by simp)
  have HK2 : Hid ((w1.alloc (.cells #[.bool true, .int .i64 a, .int .i64 c, .string d] 23)).heap[w1.heap.size]? = some (.cells #[.bool true, .int .i64 a, .int .i64 c, .string d] 23)) := get_new rfl
  obtain ⟨k0, k1, k2, k3⟩ := cells4_of HK2.out
  have HB1 : Hid (Below w.heap.size w w1) := HB.out.trans (hb.mono HB.out.size)
  have hl1 := size_of_get HG1.out
  clear hb HG HB HPG
  obtain ⟨r0, r1, r2, r3, r4, r5⟩ := cells6_of HG1.out
  have fz : ∀ j, w1.frozen? ⟨w.heap.size, j, none⟩ = false := fun j => frozen_get HG1.out
  go_wp2_with fail
  rw [HT.out]
  refine Calls.mono (HCR.out _) ?_
  rintro e w2 ⟨rfl, rfl⟩
  go_wp2_with fail
  refine Calls.mono (HGT.out _) ?_
  rintro e w2 ⟨rfl, rfl⟩
  clear HT HCR HGT
  go_wp2_with fail
  refine bodyPost_ret (v := .tuple #[.agg #[.int .i64 0, .int .i64 0, .int .i64 0, .int .i64 0, .int .i64 0, .string ⟨#[]⟩], .int .i64 3]) (results_row_tmp Tryd.results18 _ _ (w.heap.size) 29 #[.int .i64 0, .int .i64 0, .int .i64 0, .int .i64 0, .int .i64 0, .string ⟨#[]⟩] (0, 0) _ rfl ?_ Tryd.underlying29 rfl cellsCg _ rfl) rfl ⟨rfl, ?_⟩
  · exact get_alloc (get_set (get_set (get_set (get_set (get_set (get_set (HG1.out) rfl) rfl) rfl) rfl) rfl) rfl) (by simp [World.setCell]; omega)
  · exact Below.alloc (belowS (belowS (belowS (belowS (belowS (belowS (HB1.out) (by omega)) (by omega)) (by omega)) (by omega)) (by omega)) (by omega)) (belowS (belowS (belowS (belowS (belowS (belowS (HB1.out) (by omega)) (by omega)) (by omega)) (by omega)) (by omega)) (by omega)).size _
set_option maxRecDepth 100000 in
set_option maxHeartbeats 1000000 in
theorem specCmdGet_mark (t : ByteArray) (a c : Int) (d : ByteArray) (T : ByteArray) (cr b0 : Nat) (w : World) (ht : t.size ≤ 1048576) (HPG : Hid (∀ W, Calls Tryd.prog 15 #[.string t, .int .i64 0] W fun e w' => e = .returned (.tuple #[.agg #[.bool true, .int .i64 a, .int .i64 c, .string d], .int .i64 (t.size : Nat)]) ∧ Below W.heap.size W w')) (hn : 7 ≤ t.size) (hd : 6 ≤ d.size) (hb0 : byteAt d 0 = b0) (hne : ¬ (b0 : Int) = 47) (HT : Hid (t.extract 0 (t.size - 2) = T)) (HCR : Hid (∀ W, Calls Tryd.prog 56 #[.string T] W fun e w' => e = .returned (.int .i64 (cr : Nat)) ∧ w' = W)) (HGT : Hid (∀ W, Calls Tryd.prog 51 #[.string t, .int .i64 ((t.size : Int) - 2), .int .i64 2] W fun e w' => e = .returned (.int .i64 (cr : Nat)) ∧ w' = W)) :
    Calls Tryd.prog 18 #[.string t] w fun e w' => e = .returned (.tuple #[.agg #[.int .i64 0, .int .i64 0, .int .i64 0, .int .i64 0, .int .i64 0, .string ⟨#[]⟩], .int .i64 3]) ∧ Below w.heap.size w w' := by
  have HG : Hid ((w.alloc (.cells #[.int .i64 0, .int .i64 0, .int .i64 0, .int .i64 0, .int .i64 0, .string ⟨#[]⟩] 29)).heap[w.heap.size]? = some (.cells #[.int .i64 0, .int .i64 0, .int .i64 0, .int .i64 0, .int .i64 0, .string ⟨#[]⟩] 29)) := get_new rfl
  have HB : Hid (Below w.heap.size w (w.alloc (.cells #[.int .i64 0, .int .i64 0, .int .i64 0, .int .i64 0, .int .i64 0, .string ⟨#[]⟩] 29))) := (Below.refl _ _).alloc (Nat.le_refl _) _
  have hte : ¬ t = ByteArray.empty := by intro e; subst e; exact absurd hn (by decide)
  have htb : ((t.size : Int) == 0) = false := by rw [beq_eq_false_iff_ne]; omega
  have hdi : ¬ (d.size : Int) < 2 := by omega
  have hdj : ¬ (d.size : Int) < 6 := by omega
  have hx0 : ∀ h : 0 < d.size, (d[0]'h).toNat = b0 := fun h => by rw [← hb0]; exact byteAt_eq d 0 h
  go_enter Tryd.func18, Tryd.ntmps18
  go_wp2_with fail
  refine Calls.mono (HPG.out _) ?_
  rintro e w1 ⟨rfl, hb⟩
  have HG1 : Hid (w1.heap[w.heap.size]? = some (.cells #[.int .i64 0, .int .i64 0, .int .i64 0, .int .i64 0, .int .i64 0, .string ⟨#[]⟩] 29)) := get_below hb HG.out (by simp)
  have HK2 : Hid ((w1.alloc (.cells #[.bool true, .int .i64 a, .int .i64 c, .string d] 23)).heap[w1.heap.size]? = some (.cells #[.bool true, .int .i64 a, .int .i64 c, .string d] 23)) := get_new rfl
  obtain ⟨k0, k1, k2, k3⟩ := cells4_of HK2.out
  have HB1 : Hid (Below w.heap.size w w1) := HB.out.trans (hb.mono HB.out.size)
  have hl1 := size_of_get HG1.out
  clear hb HG HB HPG
  obtain ⟨r0, r1, r2, r3, r4, r5⟩ := cells6_of HG1.out
  have fz : ∀ j, w1.frozen? ⟨w.heap.size, j, none⟩ = false := fun j => frozen_get HG1.out
  go_wp2_with fail
  rw [HT.out]
  refine Calls.mono (HCR.out _) ?_
  rintro e w2 ⟨rfl, rfl⟩
  go_wp2_with fail
  refine Calls.mono (HGT.out _) ?_
  rintro e w2 ⟨rfl, rfl⟩
  clear HT HCR HGT
  go_wp2_with fail
  refine bodyPost_ret (v := .tuple #[.agg #[.int .i64 0, .int .i64 0, .int .i64 0, .int .i64 0, .int .i64 0, .string ⟨#[]⟩], .int .i64 3]) (results_row_tmp Tryd.results18 _ _ (w.heap.size) 29 #[.int .i64 0, .int .i64 0, .int .i64 0, .int .i64 0, .int .i64 0, .string ⟨#[]⟩] (0, 0) _ rfl ?_ Tryd.underlying29 rfl cellsCg _ rfl) rfl ⟨rfl, ?_⟩
  · exact get_alloc (get_set (get_set (get_set (get_set (get_set (get_set (HG1.out) rfl) rfl) rfl) rfl) rfl) rfl) (by simp [World.setCell]; omega)
  · exact Below.alloc (belowS (belowS (belowS (belowS (belowS (belowS (HB1.out) (by omega)) (by omega)) (by omega)) (by omega)) (by omega)) (by omega)) (belowS (belowS (belowS (belowS (belowS (belowS (HB1.out) (by omega)) (by omega)) (by omega)) (by omega)) (by omega)) (by omega)).size _
set_option maxRecDepth 100000 in
set_option maxHeartbeats 1000000 in
theorem specCmdGet_long (t : ByteArray) (a c : Int) (d : ByteArray) (T : ByteArray) (cr : Nat) (w : World) (ht : t.size ≤ 1048576) (HPG : Hid (∀ W, Calls Tryd.prog 15 #[.string t, .int .i64 0] W fun e w' => e = .returned (.tuple #[.agg #[.bool true, .int .i64 a, .int .i64 c, .string d], .int .i64 (t.size : Nat)]) ∧ Below W.heap.size W w')) (hn : 7 ≤ t.size) (hd : 66 < d.size) (hb0 : byteAt d 0 = 47) (hds : d.size ≤ 1048576) (HT : Hid (t.extract 0 (t.size - 2) = T)) (HCR : Hid (∀ W, Calls Tryd.prog 56 #[.string T] W fun e w' => e = .returned (.int .i64 (cr : Nat)) ∧ w' = W)) (HGT : Hid (∀ W, Calls Tryd.prog 51 #[.string t, .int .i64 ((t.size : Int) - 2), .int .i64 2] W fun e w' => e = .returned (.int .i64 (cr : Nat)) ∧ w' = W)) :
    Calls Tryd.prog 18 #[.string t] w fun e w' => e = .returned (.tuple #[.agg #[.int .i64 0, .int .i64 0, .int .i64 0, .int .i64 0, .int .i64 0, .string ⟨#[]⟩], .int .i64 3]) ∧ Below w.heap.size w w' := by
  have HG : Hid ((w.alloc (.cells #[.int .i64 0, .int .i64 0, .int .i64 0, .int .i64 0, .int .i64 0, .string ⟨#[]⟩] 29)).heap[w.heap.size]? = some (.cells #[.int .i64 0, .int .i64 0, .int .i64 0, .int .i64 0, .int .i64 0, .string ⟨#[]⟩] 29)) := get_new rfl
  have HB : Hid (Below w.heap.size w (w.alloc (.cells #[.int .i64 0, .int .i64 0, .int .i64 0, .int .i64 0, .int .i64 0, .string ⟨#[]⟩] 29))) := (Below.refl _ _).alloc (Nat.le_refl _) _
  have hte : ¬ t = ByteArray.empty := by intro e; subst e; exact absurd hn (by decide)
  have htb : ((t.size : Int) == 0) = false := by rw [beq_eq_false_iff_ne]; omega
  have hdi : ¬ (d.size : Int) < 2 := by omega
  have hdj : ¬ (d.size : Int) < 6 := by omega
  have hx0 : ∀ h : 0 < d.size, (d[0]'h).toNat = 47 := fun h => by rw [← hb0]; exact byteAt_eq d 0 h
  have hdk : 60 < (d.size : Int) - 6 := by omega
  go_enter Tryd.func18, Tryd.ntmps18
  go_wp2_with fail
  refine Calls.mono (HPG.out _) ?_
  rintro e w1 ⟨rfl, hb⟩
  have HG1 : Hid (w1.heap[w.heap.size]? = some (.cells #[.int .i64 0, .int .i64 0, .int .i64 0, .int .i64 0, .int .i64 0, .string ⟨#[]⟩] 29)) := get_below hb HG.out (by simp)
  have HK2 : Hid ((w1.alloc (.cells #[.bool true, .int .i64 a, .int .i64 c, .string d] 23)).heap[w1.heap.size]? = some (.cells #[.bool true, .int .i64 a, .int .i64 c, .string d] 23)) := get_new rfl
  obtain ⟨k0, k1, k2, k3⟩ := cells4_of HK2.out
  have HB1 : Hid (Below w.heap.size w w1) := HB.out.trans (hb.mono HB.out.size)
  have hl1 := size_of_get HG1.out
  clear hb HG HB HPG
  obtain ⟨r0, r1, r2, r3, r4, r5⟩ := cells6_of HG1.out
  have fz : ∀ j, w1.frozen? ⟨w.heap.size, j, none⟩ = false := fun j => frozen_get HG1.out
  go_wp2_with fail
  rw [HT.out]
  refine Calls.mono (HCR.out _) ?_
  rintro e w2 ⟨rfl, rfl⟩
  go_wp2_with fail
  refine Calls.mono (HGT.out _) ?_
  rintro e w2 ⟨rfl, rfl⟩
  clear HT HCR HGT
  go_wp2_with fail
  refine bodyPost_ret (v := .tuple #[.agg #[.int .i64 0, .int .i64 0, .int .i64 0, .int .i64 0, .int .i64 0, .string ⟨#[]⟩], .int .i64 3]) (results_row_tmp Tryd.results18 _ _ (w.heap.size) 29 #[.int .i64 0, .int .i64 0, .int .i64 0, .int .i64 0, .int .i64 0, .string ⟨#[]⟩] (0, 0) _ rfl ?_ Tryd.underlying29 rfl cellsCg _ rfl) rfl ⟨rfl, ?_⟩
  · exact get_alloc (get_set (get_set (get_set (get_set (get_set (get_set (HG1.out) rfl) rfl) rfl) rfl) rfl) rfl) (by simp [World.setCell]; omega)
  · exact Below.alloc (belowS (belowS (belowS (belowS (belowS (belowS (HB1.out) (by omega)) (by omega)) (by omega)) (by omega)) (by omega)) (by omega)) (belowS (belowS (belowS (belowS (belowS (belowS (HB1.out) (by omega)) (by omega)) (by omega)) (by omega)) (by omega)) (by omega)).size _
end Go.Proofs.YtccpdadabndleaaDoor
