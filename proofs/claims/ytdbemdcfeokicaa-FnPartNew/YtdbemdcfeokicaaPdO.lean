/- The draw of one op: some three ints. -/
import Derived.Test.YtdbemdcfeokicaaDrU
import Derived.Test.YtdbemdcfeokicaaSlOp
import Derived.Test.YtdbemdcfeokicaaCellsN
namespace Go.Proofs.Ytdbemdcfeokicaa
open Go.ChangeShapes Go.WideShapes Go.ChangeAt Go.RowKit
set_option linter.unusedVariables false

set_option maxRecDepth 100000 in
set_option maxHeartbeats 2000000 in
theorem l15Op_any (N g count : Nat) (w : World) (hN : N ≤ 500000) (hc1 : 1 ≤ count) (hc2 : count ≤ 16) (hr : Rd N w g) :
    Calls Try.prog 161 #[.pointer (some ⟨g, 0, none⟩), .int .i64 (count : Nat)] w fun e w' => ∃ d a b : Int, e = .returned (.agg #[.int .i64 d, .int .i64 a, .int .i64 b]) ∧ Only g w w' ∧ Rd (N + 5) w' g := by
  have hg := hr.lt
  have HO : Hid (Only g w (w.alloc (.cells #[.int .i64 0, .int .i64 0, .int .i64 0] 146))) := (Only.refl _ _).alloc _
  have HR : Hid (Rd N (w.alloc (.cells #[.int .i64 0, .int .i64 0, .int .i64 0] 146)) g) := hr.below ((Below.refl _ _).alloc (Nat.le_refl _) _)
  have HG : Hid ((w.alloc (.cells #[.int .i64 0, .int .i64 0, .int .i64 0] 146)).heap[w.heap.size]? = some (.cells #[.int .i64 0, .int .i64 0, .int .i64 0] 146)) := get_new rfl
  clear hr
  go_enter Try.func161, Try.ntmps161
  go_wp2_with fail
  refine (pickI N g _ _ (by omega) (by omega) (by omega) HR.out).mono ?_
  rintro e w1 ⟨v1, hv1, rfl, ho1, hr1⟩
  have HO : Hid (Only g w w1) := HO.out.trans ho1
  have HG : Hid (w1.heap[w.heap.size]? = some (.cells #[.int .i64 0, .int .i64 0, .int .i64 0] 146)) := get_only ho1 HG.out (by omega)
  have hz1 : w.heap.size < w1.heap.size := size_of_get HG.out
  clear HR ho1
  have HR : Hid (Rd (N + 1) w1 g) := hr1
  clear hr1
  have hd : v1 = 0 ∨ v1 = 1 ∨ v1 = 2 ∨ v1 = 3 ∨ v1 = 4 ∨ v1 = 5 ∨ v1 = 6 ∨ v1 = 7 ∨ v1 = 8 ∨ v1 = 9 ∨ v1 = 10 ∨ v1 = 11 ∨ v1 = 12 := by omega
  clear hv1
  rcases hd with rfl | rfl | rfl | rfl | rfl | rfl | rfl | rfl | rfl | rfl | rfl | rfl | rfl
  · go_wp2_with fail
    refine (pickI (N + 1) g _ _ (by omega) (by omega) (by omega) HR.out).mono ?_
    rintro e w2 ⟨v2, hv2, rfl, ho2, hr2⟩
    have HG : Hid (w2.heap[w.heap.size]? = some (.cells #[.int .i64 0, .int .i64 0, .int .i64 0] 146)) := get_only ho2 HG.out (by omega)
    have hz2 : w.heap.size < w2.heap.size := size_of_get HG.out
    have HO : Hid (Only g w w2) := HO.out.trans ho2
    clear HR ho2
    have HR : Hid (Rd (N + 2) w2 g) := hr2
    clear hr2
    have HB : Hid ((w2.alloc (.cells #[.int .i64 1, .int .i64 (v2 : Int), .int .i64 0] 146)).heap[w2.heap.size]? = some (.cells #[.int .i64 1, .int .i64 (v2 : Int), .int .i64 0] 146)) := get_new rfl
    have HZ : Hid ((w2.alloc (.cells #[.int .i64 1, .int .i64 (v2 : Int), .int .i64 0] 146)).heap[w.heap.size]? = some (.cells #[.int .i64 0, .int .i64 0, .int .i64 0] 146)) := get_allocS HG.out
    have HRa : Hid (Rd (N + 2) (w2.alloc (.cells #[.int .i64 1, .int .i64 (v2 : Int), .int .i64 0] 146)) g) := rdA HR.out
    have HOa : Hid (Only g w (w2.alloc (.cells #[.int .i64 1, .int .i64 (v2 : Int), .int .i64 0] 146))) := HO.out.alloc _
    go_wp2_with fail
    refine (pickI (N + 2) g _ _ (by omega) (by omega) (by omega) HRa.out).mono ?_
    rintro e w3 ⟨v3, hv3, rfl, ho3, hr3⟩
    have HB : Hid (w3.heap[w2.heap.size]? = some (.cells #[.int .i64 1, .int .i64 (v2 : Int), .int .i64 0] 146)) := get_only ho3 HB.out (by omega)
    have HZ : Hid (w3.heap[w.heap.size]? = some (.cells #[.int .i64 0, .int .i64 0, .int .i64 0] 146)) := get_only ho3 HZ.out (by omega)
    have HOa : Hid (Only g w w3) := HOa.out.trans ho3
    have HRa : Hid (Rd (N + 3) w3 g) := hr3
    have hz3 : w2.heap.size < w3.heap.size := size_of_get HB.out
    clear ho3 hr3
    have HI : Hid (Ints (w3.alloc (.cells ([(v3 : Int), 9999, 1].map (Value.int .i64 ·)).toArray 3)) w3.heap.size [(v3 : Int), 9999, 1]) := Ints.new _
    have HRb : Hid (Rd (N + 3) (w3.alloc (.cells ([(v3 : Int), 9999, 1].map (Value.int .i64 ·)).toArray 3)) g) := rdA HRa.out
    go_wp2_with fail
    refine (one_lit (N + 3) g _ 3 _ [(v3 : Int), 9999, 1] _ rfl (by omega) (by omega) (by omega) HRb.out (by omega) HI.out).mono ?_
    rintro e w4 ⟨y, hy, rfl, ho4, hr4⟩
    clear hy
    have HB : Hid (w4.heap[w2.heap.size]? = some (.cells #[.int .i64 1, .int .i64 (v2 : Int), .int .i64 0] 146)) := get_only ho4 (get_allocS HB.out) (by omega)
    have HZ : Hid (w4.heap[w.heap.size]? = some (.cells #[.int .i64 0, .int .i64 0, .int .i64 0] 146)) := get_only ho4 (get_allocS HZ.out) (by omega)
    have HOa : Hid (Only g w w4) := (HOa.out.alloc _).trans ho4
    have HRa : Hid (Rd (N + 4) w4 g) := hr4
    clear ho4 hr4
    obtain ⟨k0, k1, k2⟩ := cells3_of HZ.out
    obtain ⟨j0, j1, j2⟩ := cells3_of HB.out
    have f0 : ∀ j, w4.frozen? ⟨w.heap.size, j, none⟩ = false := fun j => frozen_get HZ.out
    have f1 : ∀ j, w4.frozen? ⟨w2.heap.size, j, none⟩ = false := fun j => frozen_get HB.out
    have hne : ¬ w.heap.size = w2.heap.size := by omega
    have hne' : ¬ w2.heap.size = w.heap.size := by omega
    have hs : ∀ u, (w4.setCell ⟨w2.heap.size, 2, none⟩ u).cell? ⟨w2.heap.size, 2, none⟩ = some u := fun u => World.cell?_setCell_same _ _ _ j2
    go_wp2_with fail
    refine bodyPost_ret (v := .agg #[.int .i64 1, .int .i64 (v2 : Int), .int .i64 y]) (results_cell_row Try.results161 _ _ w.heap.size 146 #[.int .i64 1, .int .i64 (v2 : Int), .int .i64 y] (0, 0) _ rfl ?_ Try.underlying146 rfl cellsOp) rfl ⟨_, _, _, rfl, ?_, ?_⟩
    · exact get_set (get_set (get_set (get_set_ne HZ.out hne) rfl) rfl) rfl
    · exact onlyS (onlyS (onlyS (onlyS (HOa.out) (by omega)) (by omega)) (by omega)) (by omega)
    · exact (rdS (rdS (rdS (rdS (HRa.out) (by omega)) (by omega)) (by omega)) (by omega)).mono (by omega)
  · go_wp2_with fail
    refine (pickI (N + 1) g _ _ (by omega) (by omega) (by omega) HR.out).mono ?_
    rintro e w2 ⟨v2, hv2, rfl, ho2, hr2⟩
    have HG : Hid (w2.heap[w.heap.size]? = some (.cells #[.int .i64 0, .int .i64 0, .int .i64 0] 146)) := get_only ho2 HG.out (by omega)
    have hz2 : w.heap.size < w2.heap.size := size_of_get HG.out
    have HO : Hid (Only g w w2) := HO.out.trans ho2
    clear HR ho2
    have HR : Hid (Rd (N + 2) w2 g) := hr2
    clear hr2
    have HB : Hid ((w2.alloc (.cells #[.int .i64 2, .int .i64 (v2 : Int), .int .i64 0] 146)).heap[w2.heap.size]? = some (.cells #[.int .i64 2, .int .i64 (v2 : Int), .int .i64 0] 146)) := get_new rfl
    have HZ : Hid ((w2.alloc (.cells #[.int .i64 2, .int .i64 (v2 : Int), .int .i64 0] 146)).heap[w.heap.size]? = some (.cells #[.int .i64 0, .int .i64 0, .int .i64 0] 146)) := get_allocS HG.out
    have HRa : Hid (Rd (N + 2) (w2.alloc (.cells #[.int .i64 2, .int .i64 (v2 : Int), .int .i64 0] 146)) g) := rdA HR.out
    have HOa : Hid (Only g w (w2.alloc (.cells #[.int .i64 2, .int .i64 (v2 : Int), .int .i64 0] 146))) := HO.out.alloc _
    go_wp2_with fail
    refine (pickI (N + 2) g _ _ (by omega) (by omega) (by omega) HRa.out).mono ?_
    rintro e w3 ⟨v3, hv3, rfl, ho3, hr3⟩
    have HB : Hid (w3.heap[w2.heap.size]? = some (.cells #[.int .i64 2, .int .i64 (v2 : Int), .int .i64 0] 146)) := get_only ho3 HB.out (by omega)
    have HZ : Hid (w3.heap[w.heap.size]? = some (.cells #[.int .i64 0, .int .i64 0, .int .i64 0] 146)) := get_only ho3 HZ.out (by omega)
    have HOa : Hid (Only g w w3) := HOa.out.trans ho3
    have HRa : Hid (Rd (N + 3) w3 g) := hr3
    have hz3 : w2.heap.size < w3.heap.size := size_of_get HB.out
    clear ho3 hr3
    obtain ⟨k0, k1, k2⟩ := cells3_of HZ.out
    obtain ⟨j0, j1, j2⟩ := cells3_of HB.out
    have f0 : ∀ j, w3.frozen? ⟨w.heap.size, j, none⟩ = false := fun j => frozen_get HZ.out
    have f1 : ∀ j, w3.frozen? ⟨w2.heap.size, j, none⟩ = false := fun j => frozen_get HB.out
    have hne : ¬ w.heap.size = w2.heap.size := by omega
    have hne' : ¬ w2.heap.size = w.heap.size := by omega
    have hs : ∀ u, (w3.setCell ⟨w2.heap.size, 2, none⟩ u).cell? ⟨w2.heap.size, 2, none⟩ = some u := fun u => World.cell?_setCell_same _ _ _ j2
    go_wp2_with fail
    refine bodyPost_ret (v := .agg #[.int .i64 2, .int .i64 (v2 : Int), .int .i64 (v3 : Int)]) (results_cell_row Try.results161 _ _ w.heap.size 146 #[.int .i64 2, .int .i64 (v2 : Int), .int .i64 (v3 : Int)] (0, 0) _ rfl ?_ Try.underlying146 rfl cellsOp) rfl ⟨_, _, _, rfl, ?_, ?_⟩
    · exact get_set (get_set (get_set (get_set_ne HZ.out hne) rfl) rfl) rfl
    · exact onlyS (onlyS (onlyS (onlyS (HOa.out) (by omega)) (by omega)) (by omega)) (by omega)
    · exact (rdS (rdS (rdS (rdS (HRa.out) (by omega)) (by omega)) (by omega)) (by omega)).mono (by omega)
  · go_wp2_with fail
    refine (pickI (N + 1) g _ _ (by omega) (by omega) (by omega) HR.out).mono ?_
    rintro e w2 ⟨v2, hv2, rfl, ho2, hr2⟩
    have HG : Hid (w2.heap[w.heap.size]? = some (.cells #[.int .i64 0, .int .i64 0, .int .i64 0] 146)) := get_only ho2 HG.out (by omega)
    have hz2 : w.heap.size < w2.heap.size := size_of_get HG.out
    have HO : Hid (Only g w w2) := HO.out.trans ho2
    clear HR ho2
    have HR : Hid (Rd (N + 2) w2 g) := hr2
    clear hr2
    have HB : Hid ((w2.alloc (.cells #[.int .i64 3, .int .i64 (v2 : Int), .int .i64 0] 146)).heap[w2.heap.size]? = some (.cells #[.int .i64 3, .int .i64 (v2 : Int), .int .i64 0] 146)) := get_new rfl
    have HZ : Hid ((w2.alloc (.cells #[.int .i64 3, .int .i64 (v2 : Int), .int .i64 0] 146)).heap[w.heap.size]? = some (.cells #[.int .i64 0, .int .i64 0, .int .i64 0] 146)) := get_allocS HG.out
    have HRa : Hid (Rd (N + 2) (w2.alloc (.cells #[.int .i64 3, .int .i64 (v2 : Int), .int .i64 0] 146)) g) := rdA HR.out
    have HOa : Hid (Only g w (w2.alloc (.cells #[.int .i64 3, .int .i64 (v2 : Int), .int .i64 0] 146))) := HO.out.alloc _
    go_wp2_with fail
    refine (pickI (N + 2) g _ _ (by omega) (by omega) (by omega) HRa.out).mono ?_
    rintro e w3 ⟨v3, hv3, rfl, ho3, hr3⟩
    have HB : Hid (w3.heap[w2.heap.size]? = some (.cells #[.int .i64 3, .int .i64 (v2 : Int), .int .i64 0] 146)) := get_only ho3 HB.out (by omega)
    have HZ : Hid (w3.heap[w.heap.size]? = some (.cells #[.int .i64 0, .int .i64 0, .int .i64 0] 146)) := get_only ho3 HZ.out (by omega)
    have HOa : Hid (Only g w w3) := HOa.out.trans ho3
    have HRa : Hid (Rd (N + 3) w3 g) := hr3
    have hz3 : w2.heap.size < w3.heap.size := size_of_get HB.out
    clear ho3 hr3
    have HI : Hid (Ints (w3.alloc (.cells ([(v3 : Int), 9999, 1].map (Value.int .i64 ·)).toArray 3)) w3.heap.size [(v3 : Int), 9999, 1]) := Ints.new _
    have HRb : Hid (Rd (N + 3) (w3.alloc (.cells ([(v3 : Int), 9999, 1].map (Value.int .i64 ·)).toArray 3)) g) := rdA HRa.out
    go_wp2_with fail
    refine (one_lit (N + 3) g _ 3 _ [(v3 : Int), 9999, 1] _ rfl (by omega) (by omega) (by omega) HRb.out (by omega) HI.out).mono ?_
    rintro e w4 ⟨y, hy, rfl, ho4, hr4⟩
    clear hy
    have HB : Hid (w4.heap[w2.heap.size]? = some (.cells #[.int .i64 3, .int .i64 (v2 : Int), .int .i64 0] 146)) := get_only ho4 (get_allocS HB.out) (by omega)
    have HZ : Hid (w4.heap[w.heap.size]? = some (.cells #[.int .i64 0, .int .i64 0, .int .i64 0] 146)) := get_only ho4 (get_allocS HZ.out) (by omega)
    have HOa : Hid (Only g w w4) := (HOa.out.alloc _).trans ho4
    have HRa : Hid (Rd (N + 4) w4 g) := hr4
    clear ho4 hr4
    obtain ⟨k0, k1, k2⟩ := cells3_of HZ.out
    obtain ⟨j0, j1, j2⟩ := cells3_of HB.out
    have f0 : ∀ j, w4.frozen? ⟨w.heap.size, j, none⟩ = false := fun j => frozen_get HZ.out
    have f1 : ∀ j, w4.frozen? ⟨w2.heap.size, j, none⟩ = false := fun j => frozen_get HB.out
    have hne : ¬ w.heap.size = w2.heap.size := by omega
    have hne' : ¬ w2.heap.size = w.heap.size := by omega
    have hs : ∀ u, (w4.setCell ⟨w2.heap.size, 2, none⟩ u).cell? ⟨w2.heap.size, 2, none⟩ = some u := fun u => World.cell?_setCell_same _ _ _ j2
    go_wp2_with fail
    refine bodyPost_ret (v := .agg #[.int .i64 3, .int .i64 (v2 : Int), .int .i64 y]) (results_cell_row Try.results161 _ _ w.heap.size 146 #[.int .i64 3, .int .i64 (v2 : Int), .int .i64 y] (0, 0) _ rfl ?_ Try.underlying146 rfl cellsOp) rfl ⟨_, _, _, rfl, ?_, ?_⟩
    · exact get_set (get_set (get_set (get_set_ne HZ.out hne) rfl) rfl) rfl
    · exact onlyS (onlyS (onlyS (onlyS (HOa.out) (by omega)) (by omega)) (by omega)) (by omega)
    · exact (rdS (rdS (rdS (rdS (HRa.out) (by omega)) (by omega)) (by omega)) (by omega)).mono (by omega)
  · go_wp2_with fail
    refine (pickI (N + 1) g _ _ (by omega) (by omega) (by omega) HR.out).mono ?_
    rintro e w2 ⟨v2, hv2, rfl, ho2, hr2⟩
    have HG : Hid (w2.heap[w.heap.size]? = some (.cells #[.int .i64 0, .int .i64 0, .int .i64 0] 146)) := get_only ho2 HG.out (by omega)
    have hz2 : w.heap.size < w2.heap.size := size_of_get HG.out
    have HO : Hid (Only g w w2) := HO.out.trans ho2
    clear HR ho2
    have HR : Hid (Rd (N + 2) w2 g) := hr2
    clear hr2
    have HB : Hid ((w2.alloc (.cells #[.int .i64 4, .int .i64 (v2 : Int), .int .i64 0] 146)).heap[w2.heap.size]? = some (.cells #[.int .i64 4, .int .i64 (v2 : Int), .int .i64 0] 146)) := get_new rfl
    have HZ : Hid ((w2.alloc (.cells #[.int .i64 4, .int .i64 (v2 : Int), .int .i64 0] 146)).heap[w.heap.size]? = some (.cells #[.int .i64 0, .int .i64 0, .int .i64 0] 146)) := get_allocS HG.out
    have HRa : Hid (Rd (N + 2) (w2.alloc (.cells #[.int .i64 4, .int .i64 (v2 : Int), .int .i64 0] 146)) g) := rdA HR.out
    have HOa : Hid (Only g w (w2.alloc (.cells #[.int .i64 4, .int .i64 (v2 : Int), .int .i64 0] 146))) := HO.out.alloc _
    obtain ⟨k0, k1, k2⟩ := cells3_of HG.out
    have f0 : ∀ j, w2.frozen? ⟨w.heap.size, j, none⟩ = false := fun j => frozen_get HG.out
    have hne : ¬ w.heap.size = w2.heap.size := by omega
    go_wp2_with fail
    refine bodyPost_ret (v := .agg #[.int .i64 4, .int .i64 (v2 : Int), .int .i64 0]) (results_cell_row Try.results161 _ _ w.heap.size 146 #[.int .i64 4, .int .i64 (v2 : Int), .int .i64 0] (0, 0) _ rfl ?_ Try.underlying146 rfl cellsOp) rfl ⟨_, _, _, rfl, ?_, ?_⟩
    · exact get_allocS (get_set (get_set (get_set (HG.out) rfl) rfl) rfl)
    · exact (onlyS (onlyS (onlyS (HO.out) (by omega)) (by omega)) (by omega)).alloc _
    · exact (rdA (rdS (rdS (rdS (HR.out) (by omega)) (by omega)) (by omega))).mono (by omega)
  · go_wp2_with fail
    refine (pickI (N + 1) g _ _ (by omega) (by omega) (by omega) HR.out).mono ?_
    rintro e w2 ⟨v2, hv2, rfl, ho2, hr2⟩
    have HG : Hid (w2.heap[w.heap.size]? = some (.cells #[.int .i64 0, .int .i64 0, .int .i64 0] 146)) := get_only ho2 HG.out (by omega)
    have hz2 : w.heap.size < w2.heap.size := size_of_get HG.out
    have HO : Hid (Only g w w2) := HO.out.trans ho2
    clear HR ho2
    have HR : Hid (Rd (N + 2) w2 g) := hr2
    clear hr2
    have HB : Hid ((w2.alloc (.cells #[.int .i64 5, .int .i64 (v2 : Int), .int .i64 0] 146)).heap[w2.heap.size]? = some (.cells #[.int .i64 5, .int .i64 (v2 : Int), .int .i64 0] 146)) := get_new rfl
    have HZ : Hid ((w2.alloc (.cells #[.int .i64 5, .int .i64 (v2 : Int), .int .i64 0] 146)).heap[w.heap.size]? = some (.cells #[.int .i64 0, .int .i64 0, .int .i64 0] 146)) := get_allocS HG.out
    have HRa : Hid (Rd (N + 2) (w2.alloc (.cells #[.int .i64 5, .int .i64 (v2 : Int), .int .i64 0] 146)) g) := rdA HR.out
    have HOa : Hid (Only g w (w2.alloc (.cells #[.int .i64 5, .int .i64 (v2 : Int), .int .i64 0] 146))) := HO.out.alloc _
    go_wp2_with fail
    refine (pickI (N + 2) g _ _ (by omega) (by omega) (by omega) HRa.out).mono ?_
    rintro e w3 ⟨v3, hv3, rfl, ho3, hr3⟩
    have HB : Hid (w3.heap[w2.heap.size]? = some (.cells #[.int .i64 5, .int .i64 (v2 : Int), .int .i64 0] 146)) := get_only ho3 HB.out (by omega)
    have HZ : Hid (w3.heap[w.heap.size]? = some (.cells #[.int .i64 0, .int .i64 0, .int .i64 0] 146)) := get_only ho3 HZ.out (by omega)
    have HOa : Hid (Only g w w3) := HOa.out.trans ho3
    have HRa : Hid (Rd (N + 3) w3 g) := hr3
    have hz3 : w2.heap.size < w3.heap.size := size_of_get HB.out
    clear ho3 hr3
    obtain ⟨k0, k1, k2⟩ := cells3_of HZ.out
    obtain ⟨j0, j1, j2⟩ := cells3_of HB.out
    have f0 : ∀ j, w3.frozen? ⟨w.heap.size, j, none⟩ = false := fun j => frozen_get HZ.out
    have f1 : ∀ j, w3.frozen? ⟨w2.heap.size, j, none⟩ = false := fun j => frozen_get HB.out
    have hne : ¬ w.heap.size = w2.heap.size := by omega
    have hne' : ¬ w2.heap.size = w.heap.size := by omega
    have hs : ∀ u, (w3.setCell ⟨w2.heap.size, 2, none⟩ u).cell? ⟨w2.heap.size, 2, none⟩ = some u := fun u => World.cell?_setCell_same _ _ _ j2
    go_wp2_with fail
    refine bodyPost_ret (v := .agg #[.int .i64 5, .int .i64 (v2 : Int), .int .i64 (v3 : Int)]) (results_cell_row Try.results161 _ _ w.heap.size 146 #[.int .i64 5, .int .i64 (v2 : Int), .int .i64 (v3 : Int)] (0, 0) _ rfl ?_ Try.underlying146 rfl cellsOp) rfl ⟨_, _, _, rfl, ?_, ?_⟩
    · exact get_set (get_set (get_set (get_set_ne HZ.out hne) rfl) rfl) rfl
    · exact onlyS (onlyS (onlyS (onlyS (HOa.out) (by omega)) (by omega)) (by omega)) (by omega)
    · exact (rdS (rdS (rdS (rdS (HRa.out) (by omega)) (by omega)) (by omega)) (by omega)).mono (by omega)
  · go_wp2_with fail
    refine (pickI (N + 1) g _ _ (by omega) (by omega) (by omega) HR.out).mono ?_
    rintro e w2 ⟨v2, hv2, rfl, ho2, hr2⟩
    have HG : Hid (w2.heap[w.heap.size]? = some (.cells #[.int .i64 0, .int .i64 0, .int .i64 0] 146)) := get_only ho2 HG.out (by omega)
    have hz2 : w.heap.size < w2.heap.size := size_of_get HG.out
    have HO : Hid (Only g w w2) := HO.out.trans ho2
    clear HR ho2
    have HR : Hid (Rd (N + 2) w2 g) := hr2
    clear hr2
    have HB : Hid ((w2.alloc (.cells #[.int .i64 6, .int .i64 (v2 : Int), .int .i64 0] 146)).heap[w2.heap.size]? = some (.cells #[.int .i64 6, .int .i64 (v2 : Int), .int .i64 0] 146)) := get_new rfl
    have HZ : Hid ((w2.alloc (.cells #[.int .i64 6, .int .i64 (v2 : Int), .int .i64 0] 146)).heap[w.heap.size]? = some (.cells #[.int .i64 0, .int .i64 0, .int .i64 0] 146)) := get_allocS HG.out
    have HRa : Hid (Rd (N + 2) (w2.alloc (.cells #[.int .i64 6, .int .i64 (v2 : Int), .int .i64 0] 146)) g) := rdA HR.out
    have HOa : Hid (Only g w (w2.alloc (.cells #[.int .i64 6, .int .i64 (v2 : Int), .int .i64 0] 146))) := HO.out.alloc _
    obtain ⟨k0, k1, k2⟩ := cells3_of HG.out
    have f0 : ∀ j, w2.frozen? ⟨w.heap.size, j, none⟩ = false := fun j => frozen_get HG.out
    have hne : ¬ w.heap.size = w2.heap.size := by omega
    go_wp2_with fail
    refine bodyPost_ret (v := .agg #[.int .i64 6, .int .i64 (v2 : Int), .int .i64 0]) (results_cell_row Try.results161 _ _ w.heap.size 146 #[.int .i64 6, .int .i64 (v2 : Int), .int .i64 0] (0, 0) _ rfl ?_ Try.underlying146 rfl cellsOp) rfl ⟨_, _, _, rfl, ?_, ?_⟩
    · exact get_allocS (get_set (get_set (get_set (HG.out) rfl) rfl) rfl)
    · exact (onlyS (onlyS (onlyS (HO.out) (by omega)) (by omega)) (by omega)).alloc _
    · exact (rdA (rdS (rdS (rdS (HR.out) (by omega)) (by omega)) (by omega))).mono (by omega)
  · go_wp2_with fail
    refine (pickI (N + 1) g _ _ (by omega) (by omega) (by omega) HR.out).mono ?_
    rintro e w2 ⟨v2, hv2, rfl, ho2, hr2⟩
    have HG : Hid (w2.heap[w.heap.size]? = some (.cells #[.int .i64 0, .int .i64 0, .int .i64 0] 146)) := get_only ho2 HG.out (by omega)
    have hz2 : w.heap.size < w2.heap.size := size_of_get HG.out
    have HO : Hid (Only g w w2) := HO.out.trans ho2
    clear HR ho2
    have HR : Hid (Rd (N + 2) w2 g) := hr2
    clear hr2
    have HB : Hid ((w2.alloc (.cells #[.int .i64 7, .int .i64 (v2 : Int), .int .i64 0] 146)).heap[w2.heap.size]? = some (.cells #[.int .i64 7, .int .i64 (v2 : Int), .int .i64 0] 146)) := get_new rfl
    have HZ : Hid ((w2.alloc (.cells #[.int .i64 7, .int .i64 (v2 : Int), .int .i64 0] 146)).heap[w.heap.size]? = some (.cells #[.int .i64 0, .int .i64 0, .int .i64 0] 146)) := get_allocS HG.out
    have HRa : Hid (Rd (N + 2) (w2.alloc (.cells #[.int .i64 7, .int .i64 (v2 : Int), .int .i64 0] 146)) g) := rdA HR.out
    have HOa : Hid (Only g w (w2.alloc (.cells #[.int .i64 7, .int .i64 (v2 : Int), .int .i64 0] 146))) := HO.out.alloc _
    obtain ⟨k0, k1, k2⟩ := cells3_of HG.out
    have f0 : ∀ j, w2.frozen? ⟨w.heap.size, j, none⟩ = false := fun j => frozen_get HG.out
    have hne : ¬ w.heap.size = w2.heap.size := by omega
    go_wp2_with fail
    refine bodyPost_ret (v := .agg #[.int .i64 7, .int .i64 (v2 : Int), .int .i64 0]) (results_cell_row Try.results161 _ _ w.heap.size 146 #[.int .i64 7, .int .i64 (v2 : Int), .int .i64 0] (0, 0) _ rfl ?_ Try.underlying146 rfl cellsOp) rfl ⟨_, _, _, rfl, ?_, ?_⟩
    · exact get_allocS (get_set (get_set (get_set (HG.out) rfl) rfl) rfl)
    · exact (onlyS (onlyS (onlyS (HO.out) (by omega)) (by omega)) (by omega)).alloc _
    · exact (rdA (rdS (rdS (rdS (HR.out) (by omega)) (by omega)) (by omega))).mono (by omega)
  · go_wp2_with fail
    refine (pickI (N + 1) g _ _ (by omega) (by omega) (by omega) HR.out).mono ?_
    rintro e w2 ⟨v2, hv2, rfl, ho2, hr2⟩
    have HG : Hid (w2.heap[w.heap.size]? = some (.cells #[.int .i64 0, .int .i64 0, .int .i64 0] 146)) := get_only ho2 HG.out (by omega)
    have hz2 : w.heap.size < w2.heap.size := size_of_get HG.out
    have HO : Hid (Only g w w2) := HO.out.trans ho2
    clear HR ho2
    have HR : Hid (Rd (N + 2) w2 g) := hr2
    clear hr2
    have HB : Hid ((w2.alloc (.cells #[.int .i64 8, .int .i64 (v2 : Int), .int .i64 0] 146)).heap[w2.heap.size]? = some (.cells #[.int .i64 8, .int .i64 (v2 : Int), .int .i64 0] 146)) := get_new rfl
    have HZ : Hid ((w2.alloc (.cells #[.int .i64 8, .int .i64 (v2 : Int), .int .i64 0] 146)).heap[w.heap.size]? = some (.cells #[.int .i64 0, .int .i64 0, .int .i64 0] 146)) := get_allocS HG.out
    have HRa : Hid (Rd (N + 2) (w2.alloc (.cells #[.int .i64 8, .int .i64 (v2 : Int), .int .i64 0] 146)) g) := rdA HR.out
    have HOa : Hid (Only g w (w2.alloc (.cells #[.int .i64 8, .int .i64 (v2 : Int), .int .i64 0] 146))) := HO.out.alloc _
    obtain ⟨k0, k1, k2⟩ := cells3_of HG.out
    have f0 : ∀ j, w2.frozen? ⟨w.heap.size, j, none⟩ = false := fun j => frozen_get HG.out
    have hne : ¬ w.heap.size = w2.heap.size := by omega
    go_wp2_with fail
    refine bodyPost_ret (v := .agg #[.int .i64 8, .int .i64 (v2 : Int), .int .i64 0]) (results_cell_row Try.results161 _ _ w.heap.size 146 #[.int .i64 8, .int .i64 (v2 : Int), .int .i64 0] (0, 0) _ rfl ?_ Try.underlying146 rfl cellsOp) rfl ⟨_, _, _, rfl, ?_, ?_⟩
    · exact get_allocS (get_set (get_set (get_set (HG.out) rfl) rfl) rfl)
    · exact (onlyS (onlyS (onlyS (HO.out) (by omega)) (by omega)) (by omega)).alloc _
    · exact (rdA (rdS (rdS (rdS (HR.out) (by omega)) (by omega)) (by omega))).mono (by omega)
  · go_wp2_with fail
    refine (pickI (N + 1) g _ _ (by omega) (by omega) (by omega) HR.out).mono ?_
    rintro e w2 ⟨v2, hv2, rfl, ho2, hr2⟩
    have HG : Hid (w2.heap[w.heap.size]? = some (.cells #[.int .i64 0, .int .i64 0, .int .i64 0] 146)) := get_only ho2 HG.out (by omega)
    have hz2 : w.heap.size < w2.heap.size := size_of_get HG.out
    have HO : Hid (Only g w w2) := HO.out.trans ho2
    clear HR ho2
    have HR : Hid (Rd (N + 2) w2 g) := hr2
    clear hr2
    have HB : Hid ((w2.alloc (.cells #[.int .i64 9, .int .i64 (v2 : Int), .int .i64 0] 146)).heap[w2.heap.size]? = some (.cells #[.int .i64 9, .int .i64 (v2 : Int), .int .i64 0] 146)) := get_new rfl
    have HZ : Hid ((w2.alloc (.cells #[.int .i64 9, .int .i64 (v2 : Int), .int .i64 0] 146)).heap[w.heap.size]? = some (.cells #[.int .i64 0, .int .i64 0, .int .i64 0] 146)) := get_allocS HG.out
    have HRa : Hid (Rd (N + 2) (w2.alloc (.cells #[.int .i64 9, .int .i64 (v2 : Int), .int .i64 0] 146)) g) := rdA HR.out
    have HOa : Hid (Only g w (w2.alloc (.cells #[.int .i64 9, .int .i64 (v2 : Int), .int .i64 0] 146))) := HO.out.alloc _
    go_wp2_with fail
    refine (pickI (N + 2) g _ _ (by omega) (by omega) (by omega) HRa.out).mono ?_
    rintro e w3 ⟨v3, hv3, rfl, ho3, hr3⟩
    have HB : Hid (w3.heap[w2.heap.size]? = some (.cells #[.int .i64 9, .int .i64 (v2 : Int), .int .i64 0] 146)) := get_only ho3 HB.out (by omega)
    have HZ : Hid (w3.heap[w.heap.size]? = some (.cells #[.int .i64 0, .int .i64 0, .int .i64 0] 146)) := get_only ho3 HZ.out (by omega)
    have HOa : Hid (Only g w w3) := HOa.out.trans ho3
    have HRa : Hid (Rd (N + 3) w3 g) := hr3
    have hz3 : w2.heap.size < w3.heap.size := size_of_get HB.out
    clear ho3 hr3
    obtain ⟨k0, k1, k2⟩ := cells3_of HZ.out
    obtain ⟨j0, j1, j2⟩ := cells3_of HB.out
    have f0 : ∀ j, w3.frozen? ⟨w.heap.size, j, none⟩ = false := fun j => frozen_get HZ.out
    have f1 : ∀ j, w3.frozen? ⟨w2.heap.size, j, none⟩ = false := fun j => frozen_get HB.out
    have hne : ¬ w.heap.size = w2.heap.size := by omega
    have hne' : ¬ w2.heap.size = w.heap.size := by omega
    have hs : ∀ u, (w3.setCell ⟨w2.heap.size, 2, none⟩ u).cell? ⟨w2.heap.size, 2, none⟩ = some u := fun u => World.cell?_setCell_same _ _ _ j2
    go_wp2_with fail
    refine bodyPost_ret (v := .agg #[.int .i64 9, .int .i64 (v2 : Int), .int .i64 (v3 : Int)]) (results_cell_row Try.results161 _ _ w.heap.size 146 #[.int .i64 9, .int .i64 (v2 : Int), .int .i64 (v3 : Int)] (0, 0) _ rfl ?_ Try.underlying146 rfl cellsOp) rfl ⟨_, _, _, rfl, ?_, ?_⟩
    · exact get_set (get_set (get_set (get_set_ne HZ.out hne) rfl) rfl) rfl
    · exact onlyS (onlyS (onlyS (onlyS (HOa.out) (by omega)) (by omega)) (by omega)) (by omega)
    · exact (rdS (rdS (rdS (rdS (HRa.out) (by omega)) (by omega)) (by omega)) (by omega)).mono (by omega)
  · go_wp2_with fail
    refine (pickI (N + 1) g _ _ (by omega) (by omega) (by omega) HR.out).mono ?_
    rintro e w2 ⟨v2, hv2, rfl, ho2, hr2⟩
    have HG : Hid (w2.heap[w.heap.size]? = some (.cells #[.int .i64 0, .int .i64 0, .int .i64 0] 146)) := get_only ho2 HG.out (by omega)
    have hz2 : w.heap.size < w2.heap.size := size_of_get HG.out
    have HO : Hid (Only g w w2) := HO.out.trans ho2
    clear HR ho2
    have HR : Hid (Rd (N + 2) w2 g) := hr2
    clear hr2
    have HB : Hid ((w2.alloc (.cells #[.int .i64 10, .int .i64 (v2 : Int), .int .i64 0] 146)).heap[w2.heap.size]? = some (.cells #[.int .i64 10, .int .i64 (v2 : Int), .int .i64 0] 146)) := get_new rfl
    have HZ : Hid ((w2.alloc (.cells #[.int .i64 10, .int .i64 (v2 : Int), .int .i64 0] 146)).heap[w.heap.size]? = some (.cells #[.int .i64 0, .int .i64 0, .int .i64 0] 146)) := get_allocS HG.out
    have HRa : Hid (Rd (N + 2) (w2.alloc (.cells #[.int .i64 10, .int .i64 (v2 : Int), .int .i64 0] 146)) g) := rdA HR.out
    have HOa : Hid (Only g w (w2.alloc (.cells #[.int .i64 10, .int .i64 (v2 : Int), .int .i64 0] 146))) := HO.out.alloc _
    go_wp2_with fail
    refine (pickI (N + 2) g _ _ (by omega) (by omega) (by omega) HRa.out).mono ?_
    rintro e w3 ⟨v3, hv3, rfl, ho3, hr3⟩
    have HB : Hid (w3.heap[w2.heap.size]? = some (.cells #[.int .i64 10, .int .i64 (v2 : Int), .int .i64 0] 146)) := get_only ho3 HB.out (by omega)
    have HZ : Hid (w3.heap[w.heap.size]? = some (.cells #[.int .i64 0, .int .i64 0, .int .i64 0] 146)) := get_only ho3 HZ.out (by omega)
    have HOa : Hid (Only g w w3) := HOa.out.trans ho3
    have HRa : Hid (Rd (N + 3) w3 g) := hr3
    have hz3 : w2.heap.size < w3.heap.size := size_of_get HB.out
    clear ho3 hr3
    obtain ⟨k0, k1, k2⟩ := cells3_of HZ.out
    obtain ⟨j0, j1, j2⟩ := cells3_of HB.out
    have f0 : ∀ j, w3.frozen? ⟨w.heap.size, j, none⟩ = false := fun j => frozen_get HZ.out
    have f1 : ∀ j, w3.frozen? ⟨w2.heap.size, j, none⟩ = false := fun j => frozen_get HB.out
    have hne : ¬ w.heap.size = w2.heap.size := by omega
    have hne' : ¬ w2.heap.size = w.heap.size := by omega
    have hs : ∀ u, (w3.setCell ⟨w2.heap.size, 2, none⟩ u).cell? ⟨w2.heap.size, 2, none⟩ = some u := fun u => World.cell?_setCell_same _ _ _ j2
    go_wp2_with fail
    refine bodyPost_ret (v := .agg #[.int .i64 10, .int .i64 (v2 : Int), .int .i64 (v3 : Int)]) (results_cell_row Try.results161 _ _ w.heap.size 146 #[.int .i64 10, .int .i64 (v2 : Int), .int .i64 (v3 : Int)] (0, 0) _ rfl ?_ Try.underlying146 rfl cellsOp) rfl ⟨_, _, _, rfl, ?_, ?_⟩
    · exact get_set (get_set (get_set (get_set_ne HZ.out hne) rfl) rfl) rfl
    · exact onlyS (onlyS (onlyS (onlyS (HOa.out) (by omega)) (by omega)) (by omega)) (by omega)
    · exact (rdS (rdS (rdS (rdS (HRa.out) (by omega)) (by omega)) (by omega)) (by omega)).mono (by omega)
  · go_wp2_with fail
    refine (pickI (N + 1) g _ _ (by omega) (by omega) (by omega) HR.out).mono ?_
    rintro e w2 ⟨v2, hv2, rfl, ho2, hr2⟩
    have HG : Hid (w2.heap[w.heap.size]? = some (.cells #[.int .i64 0, .int .i64 0, .int .i64 0] 146)) := get_only ho2 HG.out (by omega)
    have hz2 : w.heap.size < w2.heap.size := size_of_get HG.out
    have HO : Hid (Only g w w2) := HO.out.trans ho2
    clear HR ho2
    have HR : Hid (Rd (N + 2) w2 g) := hr2
    clear hr2
    have HB : Hid ((w2.alloc (.cells #[.int .i64 11, .int .i64 (v2 : Int), .int .i64 0] 146)).heap[w2.heap.size]? = some (.cells #[.int .i64 11, .int .i64 (v2 : Int), .int .i64 0] 146)) := get_new rfl
    have HZ : Hid ((w2.alloc (.cells #[.int .i64 11, .int .i64 (v2 : Int), .int .i64 0] 146)).heap[w.heap.size]? = some (.cells #[.int .i64 0, .int .i64 0, .int .i64 0] 146)) := get_allocS HG.out
    have HRa : Hid (Rd (N + 2) (w2.alloc (.cells #[.int .i64 11, .int .i64 (v2 : Int), .int .i64 0] 146)) g) := rdA HR.out
    have HOa : Hid (Only g w (w2.alloc (.cells #[.int .i64 11, .int .i64 (v2 : Int), .int .i64 0] 146))) := HO.out.alloc _
    obtain ⟨k0, k1, k2⟩ := cells3_of HG.out
    have f0 : ∀ j, w2.frozen? ⟨w.heap.size, j, none⟩ = false := fun j => frozen_get HG.out
    have hne : ¬ w.heap.size = w2.heap.size := by omega
    go_wp2_with fail
    refine bodyPost_ret (v := .agg #[.int .i64 11, .int .i64 0, .int .i64 0]) (results_cell_row Try.results161 _ _ w.heap.size 146 #[.int .i64 11, .int .i64 0, .int .i64 0] (0, 0) _ rfl ?_ Try.underlying146 rfl cellsOp) rfl ⟨_, _, _, rfl, ?_, ?_⟩
    · exact get_allocS (get_set (get_set (get_set (HG.out) rfl) rfl) rfl)
    · exact (onlyS (onlyS (onlyS (HO.out) (by omega)) (by omega)) (by omega)).alloc _
    · exact (rdA (rdS (rdS (rdS (HR.out) (by omega)) (by omega)) (by omega))).mono (by omega)
  · go_wp2_with fail
    refine (pickI (N + 1) g _ _ (by omega) (by omega) (by omega) HR.out).mono ?_
    rintro e w2 ⟨v2, hv2, rfl, ho2, hr2⟩
    have HG : Hid (w2.heap[w.heap.size]? = some (.cells #[.int .i64 0, .int .i64 0, .int .i64 0] 146)) := get_only ho2 HG.out (by omega)
    have hz2 : w.heap.size < w2.heap.size := size_of_get HG.out
    have HO : Hid (Only g w w2) := HO.out.trans ho2
    clear HR ho2
    have HR : Hid (Rd (N + 2) w2 g) := hr2
    clear hr2
    have HB : Hid ((w2.alloc (.cells #[.int .i64 12, .int .i64 (v2 : Int), .int .i64 0] 146)).heap[w2.heap.size]? = some (.cells #[.int .i64 12, .int .i64 (v2 : Int), .int .i64 0] 146)) := get_new rfl
    have HZ : Hid ((w2.alloc (.cells #[.int .i64 12, .int .i64 (v2 : Int), .int .i64 0] 146)).heap[w.heap.size]? = some (.cells #[.int .i64 0, .int .i64 0, .int .i64 0] 146)) := get_allocS HG.out
    have HRa : Hid (Rd (N + 2) (w2.alloc (.cells #[.int .i64 12, .int .i64 (v2 : Int), .int .i64 0] 146)) g) := rdA HR.out
    have HOa : Hid (Only g w (w2.alloc (.cells #[.int .i64 12, .int .i64 (v2 : Int), .int .i64 0] 146))) := HO.out.alloc _
    obtain ⟨k0, k1, k2⟩ := cells3_of HG.out
    have f0 : ∀ j, w2.frozen? ⟨w.heap.size, j, none⟩ = false := fun j => frozen_get HG.out
    have hne : ¬ w.heap.size = w2.heap.size := by omega
    go_wp2_with fail
    refine bodyPost_ret (v := .agg #[.int .i64 12, .int .i64 (v2 : Int), .int .i64 0]) (results_cell_row Try.results161 _ _ w.heap.size 146 #[.int .i64 12, .int .i64 (v2 : Int), .int .i64 0] (0, 0) _ rfl ?_ Try.underlying146 rfl cellsOp) rfl ⟨_, _, _, rfl, ?_, ?_⟩
    · exact get_allocS (get_set (get_set (get_set (HG.out) rfl) rfl) rfl)
    · exact (onlyS (onlyS (onlyS (HO.out) (by omega)) (by omega)) (by omega)).alloc _
    · exact (rdA (rdS (rdS (rdS (HR.out) (by omega)) (by omega)) (by omega))).mono (by omega)
  · go_wp2_with fail
    refine (pickI (N + 1) g _ _ (by omega) (by omega) (by omega) HR.out).mono ?_
    rintro e w2 ⟨v2, hv2, rfl, ho2, hr2⟩
    have HG : Hid (w2.heap[w.heap.size]? = some (.cells #[.int .i64 0, .int .i64 0, .int .i64 0] 146)) := get_only ho2 HG.out (by omega)
    have hz2 : w.heap.size < w2.heap.size := size_of_get HG.out
    have HO : Hid (Only g w w2) := HO.out.trans ho2
    clear HR ho2
    have HR : Hid (Rd (N + 2) w2 g) := hr2
    clear hr2
    have HB : Hid ((w2.alloc (.cells #[.int .i64 13, .int .i64 (v2 : Int), .int .i64 0] 146)).heap[w2.heap.size]? = some (.cells #[.int .i64 13, .int .i64 (v2 : Int), .int .i64 0] 146)) := get_new rfl
    have HZ : Hid ((w2.alloc (.cells #[.int .i64 13, .int .i64 (v2 : Int), .int .i64 0] 146)).heap[w.heap.size]? = some (.cells #[.int .i64 0, .int .i64 0, .int .i64 0] 146)) := get_allocS HG.out
    have HRa : Hid (Rd (N + 2) (w2.alloc (.cells #[.int .i64 13, .int .i64 (v2 : Int), .int .i64 0] 146)) g) := rdA HR.out
    have HOa : Hid (Only g w (w2.alloc (.cells #[.int .i64 13, .int .i64 (v2 : Int), .int .i64 0] 146))) := HO.out.alloc _
    go_wp2_with fail
    refine (pickI (N + 2) g _ _ (by omega) (by omega) (by omega) HRa.out).mono ?_
    rintro e w3 ⟨v3, hv3, rfl, ho3, hr3⟩
    have HB : Hid (w3.heap[w2.heap.size]? = some (.cells #[.int .i64 13, .int .i64 (v2 : Int), .int .i64 0] 146)) := get_only ho3 HB.out (by omega)
    have HZ : Hid (w3.heap[w.heap.size]? = some (.cells #[.int .i64 0, .int .i64 0, .int .i64 0] 146)) := get_only ho3 HZ.out (by omega)
    have HOa : Hid (Only g w w3) := HOa.out.trans ho3
    have HRa : Hid (Rd (N + 3) w3 g) := hr3
    have hz3 : w2.heap.size < w3.heap.size := size_of_get HB.out
    clear ho3 hr3
    obtain ⟨k0, k1, k2⟩ := cells3_of HZ.out
    obtain ⟨j0, j1, j2⟩ := cells3_of HB.out
    have f0 : ∀ j, w3.frozen? ⟨w.heap.size, j, none⟩ = false := fun j => frozen_get HZ.out
    have f1 : ∀ j, w3.frozen? ⟨w2.heap.size, j, none⟩ = false := fun j => frozen_get HB.out
    have hne : ¬ w.heap.size = w2.heap.size := by omega
    have hne' : ¬ w2.heap.size = w.heap.size := by omega
    have hs : ∀ u, (w3.setCell ⟨w2.heap.size, 2, none⟩ u).cell? ⟨w2.heap.size, 2, none⟩ = some u := fun u => World.cell?_setCell_same _ _ _ j2
    go_wp2_with fail
    refine bodyPost_ret (v := .agg #[.int .i64 13, .int .i64 (v2 : Int), .int .i64 (v3 : Int)]) (results_cell_row Try.results161 _ _ w.heap.size 146 #[.int .i64 13, .int .i64 (v2 : Int), .int .i64 (v3 : Int)] (0, 0) _ rfl ?_ Try.underlying146 rfl cellsOp) rfl ⟨_, _, _, rfl, ?_, ?_⟩
    · exact get_set (get_set (get_set (get_set_ne HZ.out hne) rfl) rfl) rfl
    · exact onlyS (onlyS (onlyS (onlyS (HOa.out) (by omega)) (by omega)) (by omega)) (by omega)
    · exact (rdS (rdS (rdS (rdS (HRa.out) (by omega)) (by omega)) (by omega)) (by omega)).mono (by omega)
end Go.Proofs.Ytdbemdcfeokicaa
