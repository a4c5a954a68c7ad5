/- The contract of spec.l15AnyFarm, and of spec.DrawFarmRoom, spec.DrawFarmOk. -/
import Derived.Test.YtlifigpkjbnkhaaDoorDrawF
namespace Go.Proofs.YtlifigpkjbnkhaaDoor
open Go.ChangeShapes Go.WideShapes Go.ChangeAt Go.RowKit
set_option linter.unusedVariables false

theorem one_lit (N g b k cap : Nat) (l : List Int) (w : World) (hk : l.length = k) (hN : N ≤ 536870912) (hl : 1 ≤ k) (hl2 : k ≤ 1000) (hr : Rd N w g) (hb : b ≠ g) (hi : Ints w b l) :
    Calls Tryd.prog 52 #[.pointer (some ⟨g, 0, none⟩), .slice (some ⟨b, 0, none⟩) k cap] w fun e w' => ∃ y ∈ l, e = .returned (.int .i64 y) ∧ Only g w w' ∧ Rd (N + 1) w' g := by
  subst hk; exact one_any N g b cap l w hN hl hl2 hr hb hi
set_option maxRecDepth 100000 in
set_option maxHeartbeats 2000000 in
theorem l15AnyFarm_any (N g : Nat) (w : World) (hN : N ≤ 400000) (hr : Rd N w g) :
    Calls Tryd.prog 32 #[.pointer (some ⟨g, 0, none⟩)] w fun e w' => ∃ (s wt ag : Bool) (c n : Int), -1 ≤ n ∧ n ≤ 256 ∧ e = .returned (.agg #[.bool s, .bool wt, .bool ag, .int .i64 c, .int .i64 n]) ∧ Only g w w' ∧ Rd (N + 10) w' g := by
  have hg := hr.lt
  have HR : Hid (Rd N (w.alloc (.cells #[.bool false, .bool false, .bool false, .int .i64 0, .int .i64 0] 29)) g) := rdA hr
  clear hr
  go_enter Tryd.func32, Tryd.ntmps32
  go_wp2_with fail
  refine (l15Farm_any N g _ (by omega) HR.out).mono ?_
  rintro e w1 ⟨s, wt, ag, c, n, hn0, hn1, rfl, ho1, hr1⟩
  have hz1 : w.heap.size < w1.heap.size := by have := ho1.size; simp at this; omega
  have hne : ¬ w.heap.size = w1.heap.size := by omega
  have hne' : ¬ w1.heap.size = w.heap.size := by omega
  have HW : Hid (Only g w w1) := ((Only.refl _ _).alloc _).trans ho1
  have HG1 : Hid (w1.heap[w.heap.size]? = some (.cells #[.bool false, .bool false, .bool false, .int .i64 0, .int .i64 0] 29)) := get_only ho1 (get_new rfl) (by omega)
  have HR : Hid (Rd (N + 8) (w1.alloc (.cells #[.bool s, .bool wt, .bool ag, .int .i64 c, .int .i64 n] 29)) g) := rdA hr1
  clear ho1 hr1
  go_wp2_with fail
  refine (pickI (N + 8) g _ _ (by omega) (by omega) (by omega) HR.out).mono ?_
  rintro e w2 ⟨v2, hv2, rfl, ho2, hr2⟩
  have hG2 : w2.heap[w.heap.size]? = some (.cells #[.bool false, .bool false, .bool false, .int .i64 0, .int .i64 0] 29) := get_only ho2 (get_allocS HG1.out) (by omega)
  have hF2 : w2.heap[w1.heap.size]? = some (.cells #[.bool s, .bool wt, .bool ag, .int .i64 c, .int .i64 n] 29) := get_only ho2 (get_new rfl) (by omega)
  obtain ⟨k0, k1, k2, k3, k4⟩ := cells5_of hG2
  obtain ⟨j0, j1, j2, j3, j4⟩ := cells5_of hF2
  have f0 : ∀ j, w2.frozen? ⟨w.heap.size, j, none⟩ = false := fun j => frozen_get hG2
  have f1 : ∀ j, w2.frozen? ⟨w1.heap.size, j, none⟩ = false := fun j => frozen_get hF2
  have s1 : ∀ u, (w2.setCell ⟨w1.heap.size, 1, none⟩ u).cell? ⟨w1.heap.size, 1, none⟩ = some u := fun u => World.cell?_setCell_same _ _ _ j1
  have s2 : ∀ u, (w2.setCell ⟨w1.heap.size, 2, none⟩ u).cell? ⟨w1.heap.size, 2, none⟩ = some u := fun u => World.cell?_setCell_same _ _ _ j2
  have s3 : ∀ u, (w2.setCell ⟨w1.heap.size, 3, none⟩ u).cell? ⟨w1.heap.size, 3, none⟩ = some u := fun u => World.cell?_setCell_same _ _ _ j3
  have s4 : ∀ u, (w2.setCell ⟨w1.heap.size, 4, none⟩ u).cell? ⟨w1.heap.size, 4, none⟩ = some u := fun u => World.cell?_setCell_same _ _ _ j4
  have HG : Hid _ := hG2
  have HF : Hid _ := hF2
  clear hG2 hF2
  have HW : Hid (Only g w w2) := (HW.out.alloc _).trans ho2
  have HR : Hid (Rd (N + 8 + 1) w2 g) := hr2
  have hz2 : w1.heap.size < w2.heap.size := by have := ho2.size; simp at this; omega
  have hz0 : w.heap.size < w2.heap.size := by omega
  clear ho2 hr2
  have hcase : v2 = 0 ∨ v2 = 1 ∨ v2 = 2 ∨ 3 ≤ v2 := by omega
  rcases hcase with rfl | rfl | rfl | h3
  · clear k0 k1 k2 k3 k4 j0 j1 j2 j3 j4 f0 f1 s1 s2 s3 s4
    have HR : Hid (Rd (N + 9) (w2.alloc (.cells #[.int .i64 (-1), .int .i64 (4)] 3)) g) := rdA HR.out
    go_wp2_with fail
    refine (one_lit (N + 9) g w2.heap.size 2 2 [-1, 4] _ rfl (by omega) (by omega) (by omega) HR.out (by omega) (Ints.new _)).mono ?_
    rintro e w3 ⟨y, hy, rfl, ho3, hr3⟩
    have hy' : y = -1 ∨ y = 4 := by simpa using hy
    clear hy
    have hG3 : w3.heap[w.heap.size]? = some (.cells #[.bool false, .bool false, .bool false, .int .i64 0, .int .i64 0] 29) := get_only ho3 (get_allocS HG.out) (by omega)
    have hF3 : w3.heap[w1.heap.size]? = some (.cells #[.bool s, .bool wt, .bool ag, .int .i64 c, .int .i64 n] 29) := get_only ho3 (get_allocS HF.out) (by omega)
    obtain ⟨k0, k1, k2, k3, k4⟩ := cells5_of hG3
    obtain ⟨j0, j1, j2, j3, j4⟩ := cells5_of hF3
    have f0 : ∀ j, w3.frozen? ⟨w.heap.size, j, none⟩ = false := fun j => frozen_get hG3
    have f1 : ∀ j, w3.frozen? ⟨w1.heap.size, j, none⟩ = false := fun j => frozen_get hF3
    have s1 : ∀ u, (w3.setCell ⟨w1.heap.size, 1, none⟩ u).cell? ⟨w1.heap.size, 1, none⟩ = some u := fun u => World.cell?_setCell_same _ _ _ j1
    have s2 : ∀ u, (w3.setCell ⟨w1.heap.size, 2, none⟩ u).cell? ⟨w1.heap.size, 2, none⟩ = some u := fun u => World.cell?_setCell_same _ _ _ j2
    have s3 : ∀ u, (w3.setCell ⟨w1.heap.size, 3, none⟩ u).cell? ⟨w1.heap.size, 3, none⟩ = some u := fun u => World.cell?_setCell_same _ _ _ j3
    have s4 : ∀ u, (w3.setCell ⟨w1.heap.size, 4, none⟩ u).cell? ⟨w1.heap.size, 4, none⟩ = some u := fun u => World.cell?_setCell_same _ _ _ j4
    have HG : Hid _ := hG3
    have HF : Hid _ := hF3
    clear hG3 hF3
    have HW : Hid (Only g w w3) := (HW.out.alloc _).trans ho3
    have HR : Hid (Rd (N + 9 + 1) w3 g) := hr3
    have hz3 : w1.heap.size < w3.heap.size := by have := ho3.size; simp at this; omega
    have HY : Hid _ := hy'
    clear ho3 hr3 hy'
    go_wp2_with fail
    refine bodyPost_ret (v := .agg #[.bool s, .bool wt, .bool ag, .int .i64 y, .int .i64 n]) (results_cell_row Tryd.results32 _ _ w.heap.size 29 #[.bool s, .bool wt, .bool ag, .int .i64 y, .int .i64 n] (0, 0) _ rfl ?_ Tryd.underlying29 rfl cellsFarm) rfl ⟨_, _, _, _, _, by omega, by omega, rfl, ?_, ?_⟩
    · exact get_set (get_set (get_set (get_set (get_set (get_set_ne (HG.out) hne) rfl) rfl) rfl) rfl) rfl
    · exact onlyS (onlyS (onlyS (onlyS (onlyS (onlyS (HW.out) (by omega)) (by omega)) (by omega)) (by omega)) (by omega)) (by omega)
    · exact (rdS (rdS (rdS (rdS (rdS (rdS (HR.out) (by omega)) (by omega)) (by omega)) (by omega)) (by omega)) (by omega)).mono (by omega)
  · clear k0 k1 k2 k3 k4 j0 j1 j2 j3 j4 f0 f1 s1 s2 s3 s4
    have HR : Hid (Rd (N + 9) (w2.alloc (.cells #[.int .i64 (-1), .int .i64 (256)] 3)) g) := rdA HR.out
    go_wp2_with fail
    refine (one_lit (N + 9) g w2.heap.size 2 2 [-1, 256] _ rfl (by omega) (by omega) (by omega) HR.out (by omega) (Ints.new _)).mono ?_
    rintro e w3 ⟨y, hy, rfl, ho3, hr3⟩
    have hy' : y = -1 ∨ y = 256 := by simpa using hy
    clear hy
    have hG3 : w3.heap[w.heap.size]? = some (.cells #[.bool false, .bool false, .bool false, .int .i64 0, .int .i64 0] 29) := get_only ho3 (get_allocS HG.out) (by omega)
    have hF3 : w3.heap[w1.heap.size]? = some (.cells #[.bool s, .bool wt, .bool ag, .int .i64 c, .int .i64 n] 29) := get_only ho3 (get_allocS HF.out) (by omega)
    obtain ⟨k0, k1, k2, k3, k4⟩ := cells5_of hG3
    obtain ⟨j0, j1, j2, j3, j4⟩ := cells5_of hF3
    have f0 : ∀ j, w3.frozen? ⟨w.heap.size, j, none⟩ = false := fun j => frozen_get hG3
    have f1 : ∀ j, w3.frozen? ⟨w1.heap.size, j, none⟩ = false := fun j => frozen_get hF3
    have s1 : ∀ u, (w3.setCell ⟨w1.heap.size, 1, none⟩ u).cell? ⟨w1.heap.size, 1, none⟩ = some u := fun u => World.cell?_setCell_same _ _ _ j1
    have s2 : ∀ u, (w3.setCell ⟨w1.heap.size, 2, none⟩ u).cell? ⟨w1.heap.size, 2, none⟩ = some u := fun u => World.cell?_setCell_same _ _ _ j2
    have s3 : ∀ u, (w3.setCell ⟨w1.heap.size, 3, none⟩ u).cell? ⟨w1.heap.size, 3, none⟩ = some u := fun u => World.cell?_setCell_same _ _ _ j3
    have s4 : ∀ u, (w3.setCell ⟨w1.heap.size, 4, none⟩ u).cell? ⟨w1.heap.size, 4, none⟩ = some u := fun u => World.cell?_setCell_same _ _ _ j4
    have HG : Hid _ := hG3
    have HF : Hid _ := hF3
    clear hG3 hF3
    have HW : Hid (Only g w w3) := (HW.out.alloc _).trans ho3
    have HR : Hid (Rd (N + 9 + 1) w3 g) := hr3
    have hz3 : w1.heap.size < w3.heap.size := by have := ho3.size; simp at this; omega
    have HY : Hid _ := hy'
    clear ho3 hr3 hy'
    go_wp2_with fail
    refine bodyPost_ret (v := .agg #[.bool s, .bool wt, .bool ag, .int .i64 c, .int .i64 y]) (results_cell_row Tryd.results32 _ _ w.heap.size 29 #[.bool s, .bool wt, .bool ag, .int .i64 c, .int .i64 y] (0, 0) _ rfl ?_ Tryd.underlying29 rfl cellsFarm) rfl ⟨_, _, _, _, _, by rcases HY.out with h | h <;> omega, by rcases HY.out with h | h <;> omega, rfl, ?_, ?_⟩
    · exact get_set (get_set (get_set (get_set (get_set (get_set_ne (HG.out) hne) rfl) rfl) rfl) rfl) rfl
    · exact onlyS (onlyS (onlyS (onlyS (onlyS (onlyS (HW.out) (by omega)) (by omega)) (by omega)) (by omega)) (by omega)) (by omega)
    · exact (rdS (rdS (rdS (rdS (rdS (rdS (HR.out) (by omega)) (by omega)) (by omega)) (by omega)) (by omega)) (by omega)).mono (by omega)
  · go_wp2_with fail
    refine bodyPost_ret (v := .agg #[.bool s, .bool true, .bool false, .int .i64 c, .int .i64 n]) (results_cell_row Tryd.results32 _ _ w.heap.size 29 #[.bool s, .bool true, .bool false, .int .i64 c, .int .i64 n] (0, 0) _ rfl ?_ Tryd.underlying29 rfl cellsFarm) rfl ⟨_, _, _, _, _, by omega, by omega, rfl, ?_, ?_⟩
    · exact get_set (get_set (get_set (get_set (get_set (get_set_ne (get_set_ne (HG.out) hne) hne) rfl) rfl) rfl) rfl) rfl
    · exact onlyS (onlyS (onlyS (onlyS (onlyS (onlyS (onlyS (HW.out) (by omega)) (by omega)) (by omega)) (by omega)) (by omega)) (by omega)) (by omega)
    · exact (rdS (rdS (rdS (rdS (rdS (rdS (rdS (HR.out) (by omega)) (by omega)) (by omega)) (by omega)) (by omega)) (by omega)) (by omega)).mono (by omega)
  · have b0 : ((v2 : Int) == 0) = false := by rw [beq_eq_false_iff_ne]; omega
    have b1 : ((v2 : Int) == 1) = false := by rw [beq_eq_false_iff_ne]; omega
    have b2 : ((v2 : Int) == 2) = false := by rw [beq_eq_false_iff_ne]; omega
    go_wp2_with fail
    refine bodyPost_ret (v := .agg #[.bool s, .bool wt, .bool ag, .int .i64 c, .int .i64 n]) (results_cell_row Tryd.results32 _ _ w.heap.size 29 #[.bool s, .bool wt, .bool ag, .int .i64 c, .int .i64 n] (0, 0) _ rfl ?_ Tryd.underlying29 rfl cellsFarm) rfl ⟨_, _, _, _, _, by omega, by omega, rfl, ?_, ?_⟩
    · exact get_set (get_set (get_set (get_set (get_set (HG.out) rfl) rfl) rfl) rfl) rfl
    · exact onlyS (onlyS (onlyS (onlyS (onlyS (HW.out) (by omega)) (by omega)) (by omega)) (by omega)) (by omega)
    · exact (rdS (rdS (rdS (rdS (rdS (HR.out) (by omega)) (by omega)) (by omega)) (by omega)) (by omega)).mono (by omega)
theorem IsRow.keep {w w' : World} {a : Option Addr} {len cap : Nat} {zs : List Int} (h : IsRow .u8 w a len cap zs) (hb : Below w.heap.size w w') : IsRow .u8 w' a len cap zs := by
  rcases h with h | ⟨x, ha, hl, hm, hz, hcell, hwz⟩
  · exact .inl h
  · exact .inr ⟨x, ha, hl, hm, hz, fun i hi => by rw [hb.cell (block_lt_of_cell (hcell i hi))]; exact hcell i hi, hwz⟩
end Go.Proofs.YtlifigpkjbnkhaaDoor
