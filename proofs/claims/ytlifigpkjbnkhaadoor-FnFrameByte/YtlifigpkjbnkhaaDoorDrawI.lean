/- The contract of spec.l15AnyFrame. -/
import Derived.Test.YtlifigpkjbnkhaaDoorDrawH
namespace Go.Proofs.YtlifigpkjbnkhaaDoor
open Go.ChangeShapes Go.WideShapes Go.ChangeAt Go.RowKit
set_option linter.unusedVariables false
theorem ints_new {w : World} {b : Nat} {T : TypeId} (e : b = w.heap.size) (l : List Int) : Ints (w.alloc (.cells (l.map (Value.int .i64 ·)).toArray T)) b l := by subst e; exact Ints.new l
set_option maxRecDepth 100000 in
set_option maxHeartbeats 2000000 in
theorem l15AnyFrame_any (N g : Nat) (w : World) (hN : N ≤ 300000) (hr : Rd N w g) :
    Calls Tryd.prog 42 #[.pointer (some ⟨g, 0, none⟩)] w fun e w' => ∃ (p gv : Bool) (c v q : Int) (d : ByteArray), -1 ≤ c ∧ c ≤ 1024 ∧ -1 ≤ v ∧ v ≤ 64 ∧ -1 ≤ q ∧ q ≤ 256 ∧ d.size ≤ 54 ∧ e = .returned (.agg #[.bool p, .bool gv, .int .i64 c, .int .i64 v, .int .i64 q, .string d]) ∧ Only g w w' ∧ Rd (N + 70) w' g := by
  have hg := hr.lt
  have HR : Hid (Rd N (w.alloc (.cells #[.bool false, .bool false, .int .i64 0, .int .i64 0, .int .i64 0, .string ⟨#[]⟩] 23)) g) := rdA hr
  clear hr
  go_enter Tryd.func42, Tryd.ntmps42
  go_wp2_with fail
  refine (l15Frame_any N g _ (by omega) HR.out).mono ?_
  rintro e w1 ⟨p, gv, c, v, q, d, hc0, hc1, hv0, hv1, hq0, hq1, hd, rfl, ho1, hr1⟩
  have hz1 : w.heap.size < w1.heap.size := by have := ho1.size; simp at this; omega
  have hne : ¬ w.heap.size = w1.heap.size := by omega
  have hne' : ¬ w1.heap.size = w.heap.size := by omega
  have HG1 : Hid (w1.heap[w.heap.size]? = some (.cells #[.bool false, .bool false, .int .i64 0, .int .i64 0, .int .i64 0, .string ⟨#[]⟩] 23)) := get_only ho1 (get_new rfl) (by omega)
  have HW : Hid (Only g w w1) := ((Only.refl _ _).alloc _).trans ho1
  have HR : Hid (Rd (N + 68) (w1.alloc (.cells #[.bool p, .bool gv, .int .i64 c, .int .i64 v, .int .i64 q, .string d] 23)) g) := rdA hr1
  clear ho1 hr1
  go_wp2_with fail
  refine (pickI (N + 68) g _ _ (by omega) (by omega) (by omega) HR.out).mono ?_
  rintro e w2 ⟨v2, hv2, rfl, ho2, hr2⟩
  have hG2 : w2.heap[w.heap.size]? = some (.cells #[.bool false, .bool false, .int .i64 0, .int .i64 0, .int .i64 0, .string ⟨#[]⟩] 23) := get_only ho2 (get_allocS HG1.out) (by omega)
  have hF2 : w2.heap[w1.heap.size]? = some (.cells #[.bool p, .bool gv, .int .i64 c, .int .i64 v, .int .i64 q, .string d] 23) := get_only ho2 (get_new rfl) (by omega)
  obtain ⟨k0, k1, k2, k3, k4, k5⟩ := cells6_of hG2
  obtain ⟨j0, j1, j2, j3, j4, j5⟩ := cells6_of hF2
  have f0 : ∀ j, w2.frozen? ⟨w.heap.size, j, none⟩ = false := fun j => frozen_get hG2
  have f1 : ∀ j, w2.frozen? ⟨w1.heap.size, j, none⟩ = false := fun j => frozen_get hF2
  have s0 : ∀ u, (w2.setCell ⟨w1.heap.size, 0, none⟩ u).cell? ⟨w1.heap.size, 0, none⟩ = some u := fun u => World.cell?_setCell_same _ _ _ j0
  have s1 : ∀ u, (w2.setCell ⟨w1.heap.size, 1, none⟩ u).cell? ⟨w1.heap.size, 1, none⟩ = some u := fun u => World.cell?_setCell_same _ _ _ j1
  have s2 : ∀ u, (w2.setCell ⟨w1.heap.size, 2, none⟩ u).cell? ⟨w1.heap.size, 2, none⟩ = some u := fun u => World.cell?_setCell_same _ _ _ j2
  have s3 : ∀ u, (w2.setCell ⟨w1.heap.size, 3, none⟩ u).cell? ⟨w1.heap.size, 3, none⟩ = some u := fun u => World.cell?_setCell_same _ _ _ j3
  have s4 : ∀ u, (w2.setCell ⟨w1.heap.size, 4, none⟩ u).cell? ⟨w1.heap.size, 4, none⟩ = some u := fun u => World.cell?_setCell_same _ _ _ j4
  have s5 : ∀ u, (w2.setCell ⟨w1.heap.size, 5, none⟩ u).cell? ⟨w1.heap.size, 5, none⟩ = some u := fun u => World.cell?_setCell_same _ _ _ j5
  have HG : Hid _ := hG2
  have HF : Hid _ := hF2
  clear hG2 hF2
  have HW : Hid (Only g w w2) := (HW.out.alloc _).trans ho2
  have HR : Hid (Rd (N + 69) w2 g) := hr2
  have hz2 : w1.heap.size < w2.heap.size := size_of_get HF.out
  clear ho2 hr2
  have hcase : v2 = 0 ∨ v2 = 1 ∨ v2 = 2 ∨ v2 = 3 ∨ v2 = 4 ∨ 5 ≤ v2 := by omega
  rcases hcase with rfl | rfl | rfl | rfl | rfl | h3
  · clear k0 k1 k2 k3 k4 k5 j0 j1 j2 j3 j4 j5 f0 f1 s0 s1 s2 s3 s4 s5
    have HR : Hid (Rd (N + 69) (w2.alloc (.cells #[.int .i64 (-1), .int .i64 (1024)] 3)) g) := rdA HR.out
    go_wp2_with fail
    refine (one_lit (N + 69) g w2.heap.size 2 2 [-1, 1024] _ rfl (by omega) (by omega) (by omega) HR.out (by omega) (Ints.new _)).mono ?_
    rintro e w3 ⟨y, hy, rfl, ho3, hr3⟩
    have HY : Hid (y = -1 ∨ y = 1024) := (show y = -1 ∨ y = 1024 by simpa using hy)
    have hG3 : w3.heap[w.heap.size]? = some (.cells #[.bool false, .bool false, .int .i64 0, .int .i64 0, .int .i64 0, .string ⟨#[]⟩] 23) := get_only ho3 (get_allocS HG.out) (by omega)
    have hF3 : w3.heap[w1.heap.size]? = some (.cells #[.bool p, .bool gv, .int .i64 c, .int .i64 v, .int .i64 q, .string d] 23) := get_only ho3 (get_allocS HF.out) (by omega)
    obtain ⟨k0, k1, k2, k3, k4, k5⟩ := cells6_of hG3
    obtain ⟨j0, j1, j2, j3, j4, j5⟩ := cells6_of hF3
    have f0 : ∀ j, w3.frozen? ⟨w.heap.size, j, none⟩ = false := fun j => frozen_get hG3
    have f1 : ∀ j, w3.frozen? ⟨w1.heap.size, j, none⟩ = false := fun j => frozen_get hF3
    have s0 : ∀ u, (w3.setCell ⟨w1.heap.size, 0, none⟩ u).cell? ⟨w1.heap.size, 0, none⟩ = some u := fun u => World.cell?_setCell_same _ _ _ j0
    have s1 : ∀ u, (w3.setCell ⟨w1.heap.size, 1, none⟩ u).cell? ⟨w1.heap.size, 1, none⟩ = some u := fun u => World.cell?_setCell_same _ _ _ j1
    have s2 : ∀ u, (w3.setCell ⟨w1.heap.size, 2, none⟩ u).cell? ⟨w1.heap.size, 2, none⟩ = some u := fun u => World.cell?_setCell_same _ _ _ j2
    have s3 : ∀ u, (w3.setCell ⟨w1.heap.size, 3, none⟩ u).cell? ⟨w1.heap.size, 3, none⟩ = some u := fun u => World.cell?_setCell_same _ _ _ j3
    have s4 : ∀ u, (w3.setCell ⟨w1.heap.size, 4, none⟩ u).cell? ⟨w1.heap.size, 4, none⟩ = some u := fun u => World.cell?_setCell_same _ _ _ j4
    have s5 : ∀ u, (w3.setCell ⟨w1.heap.size, 5, none⟩ u).cell? ⟨w1.heap.size, 5, none⟩ = some u := fun u => World.cell?_setCell_same _ _ _ j5
    have HG : Hid _ := hG3
    have HF : Hid _ := hF3
    clear hG3 hF3
    have HW : Hid (Only g w w3) := (HW.out.alloc _).trans ho3
    have HR : Hid (Rd (N + 70) w3 g) := hr3
    have hz3 : w1.heap.size < w3.heap.size := size_of_get HF.out
    clear ho3 hr3 hy
    go_wp2_with fail
    refine bodyPost_ret (v := .agg #[.bool p, .bool gv, .int .i64 y, .int .i64 v, .int .i64 q, .string d]) (results_cell_row Tryd.results42 _ _ w.heap.size 23 #[.bool p, .bool gv, .int .i64 y, .int .i64 v, .int .i64 q, .string d] (0, 0) _ rfl ?_ Tryd.underlying23 rfl cells26) rfl ⟨_, _, _, _, _, _, by rcases HY.out with h | h <;> omega, by rcases HY.out with h | h <;> omega, by rcases HY.out with h | h <;> omega, by rcases HY.out with h | h <;> omega, by rcases HY.out with h | h <;> omega, by rcases HY.out with h | h <;> omega, by omega, rfl, ?_, ?_⟩
    · exact get_set (get_set (get_set (get_set (get_set (get_set (get_set_ne (HG.out) hne) rfl) rfl) rfl) rfl) rfl) rfl
    · exact onlyS (onlyS (onlyS (onlyS (onlyS (onlyS (onlyS (HW.out) (by omega)) (by omega)) (by omega)) (by omega)) (by omega)) (by omega)) (by omega)
    · exact (rdS (rdS (rdS (rdS (rdS (rdS (rdS (HR.out) (by omega)) (by omega)) (by omega)) (by omega)) (by omega)) (by omega)) (by omega)).mono (by omega)
  · clear k0 k1 k2 k3 k4 k5 j0 j1 j2 j3 j4 j5 f0 f1 s0 s1 s2 s3 s4 s5
    have HR : Hid (Rd (N + 69) (w2.alloc (.cells #[.int .i64 (-1), .int .i64 (64)] 3)) g) := rdA HR.out
    go_wp2_with fail
    refine (one_lit (N + 69) g w2.heap.size 2 2 [-1, 64] _ rfl (by omega) (by omega) (by omega) HR.out (by omega) (Ints.new _)).mono ?_
    rintro e w3 ⟨y, hy, rfl, ho3, hr3⟩
    have HY : Hid (y = -1 ∨ y = 64) := (show y = -1 ∨ y = 64 by simpa using hy)
    have hG3 : w3.heap[w.heap.size]? = some (.cells #[.bool false, .bool false, .int .i64 0, .int .i64 0, .int .i64 0, .string ⟨#[]⟩] 23) := get_only ho3 (get_allocS HG.out) (by omega)
    have hF3 : w3.heap[w1.heap.size]? = some (.cells #[.bool p, .bool gv, .int .i64 c, .int .i64 v, .int .i64 q, .string d] 23) := get_only ho3 (get_allocS HF.out) (by omega)
    obtain ⟨k0, k1, k2, k3, k4, k5⟩ := cells6_of hG3
    obtain ⟨j0, j1, j2, j3, j4, j5⟩ := cells6_of hF3
    have f0 : ∀ j, w3.frozen? ⟨w.heap.size, j, none⟩ = false := fun j => frozen_get hG3
    have f1 : ∀ j, w3.frozen? ⟨w1.heap.size, j, none⟩ = false := fun j => frozen_get hF3
    have s0 : ∀ u, (w3.setCell ⟨w1.heap.size, 0, none⟩ u).cell? ⟨w1.heap.size, 0, none⟩ = some u := fun u => World.cell?_setCell_same _ _ _ j0
    have s1 : ∀ u, (w3.setCell ⟨w1.heap.size, 1, none⟩ u).cell? ⟨w1.heap.size, 1, none⟩ = some u := fun u => World.cell?_setCell_same _ _ _ j1
    have s2 : ∀ u, (w3.setCell ⟨w1.heap.size, 2, none⟩ u).cell? ⟨w1.heap.size, 2, none⟩ = some u := fun u => World.cell?_setCell_same _ _ _ j2
    have s3 : ∀ u, (w3.setCell ⟨w1.heap.size, 3, none⟩ u).cell? ⟨w1.heap.size, 3, none⟩ = some u := fun u => World.cell?_setCell_same _ _ _ j3
    have s4 : ∀ u, (w3.setCell ⟨w1.heap.size, 4, none⟩ u).cell? ⟨w1.heap.size, 4, none⟩ = some u := fun u => World.cell?_setCell_same _ _ _ j4
    have s5 : ∀ u, (w3.setCell ⟨w1.heap.size, 5, none⟩ u).cell? ⟨w1.heap.size, 5, none⟩ = some u := fun u => World.cell?_setCell_same _ _ _ j5
    have HG : Hid _ := hG3
    have HF : Hid _ := hF3
    clear hG3 hF3
    have HW : Hid (Only g w w3) := (HW.out.alloc _).trans ho3
    have HR : Hid (Rd (N + 70) w3 g) := hr3
    have hz3 : w1.heap.size < w3.heap.size := size_of_get HF.out
    clear ho3 hr3 hy
    go_wp2_with fail
    refine bodyPost_ret (v := .agg #[.bool p, .bool gv, .int .i64 c, .int .i64 y, .int .i64 q, .string d]) (results_cell_row Tryd.results42 _ _ w.heap.size 23 #[.bool p, .bool gv, .int .i64 c, .int .i64 y, .int .i64 q, .string d] (0, 0) _ rfl ?_ Tryd.underlying23 rfl cells26) rfl ⟨_, _, _, _, _, _, by rcases HY.out with h | h <;> omega, by rcases HY.out with h | h <;> omega, by rcases HY.out with h | h <;> omega, by rcases HY.out with h | h <;> omega, by rcases HY.out with h | h <;> omega, by rcases HY.out with h | h <;> omega, by omega, rfl, ?_, ?_⟩
    · exact get_set (get_set (get_set (get_set (get_set (get_set (get_set_ne (HG.out) hne) rfl) rfl) rfl) rfl) rfl) rfl
    · exact onlyS (onlyS (onlyS (onlyS (onlyS (onlyS (onlyS (HW.out) (by omega)) (by omega)) (by omega)) (by omega)) (by omega)) (by omega)) (by omega)
    · exact (rdS (rdS (rdS (rdS (rdS (rdS (rdS (HR.out) (by omega)) (by omega)) (by omega)) (by omega)) (by omega)) (by omega)) (by omega)).mono (by omega)
  · clear k0 k1 k2 k3 k4 k5 j0 j1 j2 j3 j4 j5 f0 f1 s0 s1 s2 s3 s4 s5
    have HR : Hid (Rd (N + 69) (w2.alloc (.cells #[.int .i64 (-1), .int .i64 (256)] 3)) g) := rdA HR.out
    go_wp2_with fail
    refine (one_lit (N + 69) g w2.heap.size 2 2 [-1, 256] _ rfl (by omega) (by omega) (by omega) HR.out (by omega) (Ints.new _)).mono ?_
    rintro e w3 ⟨y, hy, rfl, ho3, hr3⟩
    have HY : Hid (y = -1 ∨ y = 256) := (show y = -1 ∨ y = 256 by simpa using hy)
    have hG3 : w3.heap[w.heap.size]? = some (.cells #[.bool false, .bool false, .int .i64 0, .int .i64 0, .int .i64 0, .string ⟨#[]⟩] 23) := get_only ho3 (get_allocS HG.out) (by omega)
    have hF3 : w3.heap[w1.heap.size]? = some (.cells #[.bool p, .bool gv, .int .i64 c, .int .i64 v, .int .i64 q, .string d] 23) := get_only ho3 (get_allocS HF.out) (by omega)
    obtain ⟨k0, k1, k2, k3, k4, k5⟩ := cells6_of hG3
    obtain ⟨j0, j1, j2, j3, j4, j5⟩ := cells6_of hF3
    have f0 : ∀ j, w3.frozen? ⟨w.heap.size, j, none⟩ = false := fun j => frozen_get hG3
    have f1 : ∀ j, w3.frozen? ⟨w1.heap.size, j, none⟩ = false := fun j => frozen_get hF3
    have s0 : ∀ u, (w3.setCell ⟨w1.heap.size, 0, none⟩ u).cell? ⟨w1.heap.size, 0, none⟩ = some u := fun u => World.cell?_setCell_same _ _ _ j0
    have s1 : ∀ u, (w3.setCell ⟨w1.heap.size, 1, none⟩ u).cell? ⟨w1.heap.size, 1, none⟩ = some u := fun u => World.cell?_setCell_same _ _ _ j1
    have s2 : ∀ u, (w3.setCell ⟨w1.heap.size, 2, none⟩ u).cell? ⟨w1.heap.size, 2, none⟩ = some u := fun u => World.cell?_setCell_same _ _ _ j2
    have s3 : ∀ u, (w3.setCell ⟨w1.heap.size, 3, none⟩ u).cell? ⟨w1.heap.size, 3, none⟩ = some u := fun u => World.cell?_setCell_same _ _ _ j3
    have s4 : ∀ u, (w3.setCell ⟨w1.heap.size, 4, none⟩ u).cell? ⟨w1.heap.size, 4, none⟩ = some u := fun u => World.cell?_setCell_same _ _ _ j4
    have s5 : ∀ u, (w3.setCell ⟨w1.heap.size, 5, none⟩ u).cell? ⟨w1.heap.size, 5, none⟩ = some u := fun u => World.cell?_setCell_same _ _ _ j5
    have HG : Hid _ := hG3
    have HF : Hid _ := hF3
    clear hG3 hF3
    have HW : Hid (Only g w w3) := (HW.out.alloc _).trans ho3
    have HR : Hid (Rd (N + 70) w3 g) := hr3
    have hz3 : w1.heap.size < w3.heap.size := size_of_get HF.out
    clear ho3 hr3 hy
    go_wp2_with fail
    refine bodyPost_ret (v := .agg #[.bool p, .bool gv, .int .i64 c, .int .i64 v, .int .i64 y, .string d]) (results_cell_row Tryd.results42 _ _ w.heap.size 23 #[.bool p, .bool gv, .int .i64 c, .int .i64 v, .int .i64 y, .string d] (0, 0) _ rfl ?_ Tryd.underlying23 rfl cells26) rfl ⟨_, _, _, _, _, _, by rcases HY.out with h | h <;> omega, by rcases HY.out with h | h <;> omega, by rcases HY.out with h | h <;> omega, by rcases HY.out with h | h <;> omega, by rcases HY.out with h | h <;> omega, by rcases HY.out with h | h <;> omega, by omega, rfl, ?_, ?_⟩
    · exact get_set (get_set (get_set (get_set (get_set (get_set (get_set_ne (HG.out) hne) rfl) rfl) rfl) rfl) rfl) rfl
    · exact onlyS (onlyS (onlyS (onlyS (onlyS (onlyS (onlyS (HW.out) (by omega)) (by omega)) (by omega)) (by omega)) (by omega)) (by omega)) (by omega)
    · exact (rdS (rdS (rdS (rdS (rdS (rdS (rdS (HR.out) (by omega)) (by omega)) (by omega)) (by omega)) (by omega)) (by omega)) (by omega)).mono (by omega)
  · clear k0 k1 k2 k3 k4 k5 j0 j1 j2 j3 j4 j5 f0 f1 s0 s1 s2 s3 s4 s5
    go_wp2_with fail
    refine (l1ManyI ⟨#[122]⟩ 54 w2 (by omega) (by omega) (by decide)).mono ?_
    rintro e w3 ⟨z, hz, rfl, hb3⟩
    have HZ : Hid (z.size ≤ 54) := hz
    have HG3 : Hid (w3.heap[w.heap.size]? = some (.cells #[.bool false, .bool false, .int .i64 0, .int .i64 0, .int .i64 0, .string ⟨#[]⟩] 23)) := get_below hb3 HG.out (size_of_get HG.out)
    have HF3 : Hid (w3.heap[w1.heap.size]? = some (.cells #[.bool p, .bool gv, .int .i64 c, .int .i64 v, .int .i64 q, .string d] 23)) := get_below hb3 HF.out (size_of_get HF.out)
    have HW : Hid (Only g w w3) := HW.out.trans (Only.of_below hb3)
    have HR : Hid (Rd (N + 69) (w3.alloc (.cells #[.string ⟨#[]⟩, .string z] 9)) g) := rdA (HR.out.below hb3)
    have hz3 : w1.heap.size < w3.heap.size := size_of_get HF3.out
    clear hb3 hz HG HF
    go_wp2_with fail
    refine (of_lit (N + 69) g w3.heap.size 2 2 [⟨#[]⟩, z] _ rfl (by omega) (by omega) (by omega) HR.out (by omega) (Strs.new _)).mono ?_
    rintro e w4 ⟨y, hy, rfl, ho4, hr4⟩
    have HY : Hid (y.size ≤ 54) := by
      simp only [List.mem_cons, List.not_mem_nil, or_false] at hy
      show y.size ≤ 54
      rcases hy with rfl | rfl
      · decide
      · exact HZ.out
    have hG4 : w4.heap[w.heap.size]? = some (.cells #[.bool false, .bool false, .int .i64 0, .int .i64 0, .int .i64 0, .string ⟨#[]⟩] 23) := get_only ho4 (get_allocS HG3.out) (by omega)
    have hF4 : w4.heap[w1.heap.size]? = some (.cells #[.bool p, .bool gv, .int .i64 c, .int .i64 v, .int .i64 q, .string d] 23) := get_only ho4 (get_allocS HF3.out) (by omega)
    obtain ⟨k0, k1, k2, k3, k4, k5⟩ := cells6_of hG4
    obtain ⟨j0, j1, j2, j3, j4, j5⟩ := cells6_of hF4
    have f0 : ∀ j, w4.frozen? ⟨w.heap.size, j, none⟩ = false := fun j => frozen_get hG4
    have f1 : ∀ j, w4.frozen? ⟨w1.heap.size, j, none⟩ = false := fun j => frozen_get hF4
    have s0 : ∀ u, (w4.setCell ⟨w1.heap.size, 0, none⟩ u).cell? ⟨w1.heap.size, 0, none⟩ = some u := fun u => World.cell?_setCell_same _ _ _ j0
    have s1 : ∀ u, (w4.setCell ⟨w1.heap.size, 1, none⟩ u).cell? ⟨w1.heap.size, 1, none⟩ = some u := fun u => World.cell?_setCell_same _ _ _ j1
    have s2 : ∀ u, (w4.setCell ⟨w1.heap.size, 2, none⟩ u).cell? ⟨w1.heap.size, 2, none⟩ = some u := fun u => World.cell?_setCell_same _ _ _ j2
    have s3 : ∀ u, (w4.setCell ⟨w1.heap.size, 3, none⟩ u).cell? ⟨w1.heap.size, 3, none⟩ = some u := fun u => World.cell?_setCell_same _ _ _ j3
    have s4 : ∀ u, (w4.setCell ⟨w1.heap.size, 4, none⟩ u).cell? ⟨w1.heap.size, 4, none⟩ = some u := fun u => World.cell?_setCell_same _ _ _ j4
    have s5 : ∀ u, (w4.setCell ⟨w1.heap.size, 5, none⟩ u).cell? ⟨w1.heap.size, 5, none⟩ = some u := fun u => World.cell?_setCell_same _ _ _ j5
    have HG : Hid _ := hG4
    have HF : Hid _ := hF4
    clear hG4 hF4
    have HW : Hid (Only g w w4) := (HW.out.alloc _).trans ho4
    have HR : Hid (Rd (N + 70) w4 g) := hr4
    have hz4 : w1.heap.size < w4.heap.size := size_of_get HF.out
    clear ho4 hr4 hy HG3 HF3
    go_wp2_with fail
    refine bodyPost_ret (v := .agg #[.bool p, .bool gv, .int .i64 c, .int .i64 v, .int .i64 q, .string y]) (results_cell_row Tryd.results42 _ _ w.heap.size 23 #[.bool p, .bool gv, .int .i64 c, .int .i64 v, .int .i64 q, .string y] (0, 0) _ rfl ?_ Tryd.underlying23 rfl cells26) rfl ⟨_, _, _, _, _, _, by omega, by omega, by omega, by omega, by omega, by omega, HY.out, rfl, ?_, ?_⟩
    · exact get_set (get_set (get_set (get_set (get_set (get_set (get_set_ne (HG.out) hne) rfl) rfl) rfl) rfl) rfl) rfl
    · exact onlyS (onlyS (onlyS (onlyS (onlyS (onlyS (onlyS (HW.out) (by omega)) (by omega)) (by omega)) (by omega)) (by omega)) (by omega)) (by omega)
    · exact (rdS (rdS (rdS (rdS (rdS (rdS (rdS (HR.out) (by omega)) (by omega)) (by omega)) (by omega)) (by omega)) (by omega)) (by omega)).mono (by omega)
  · go_wp2_with fail
    refine bodyPost_ret (v := .agg #[.bool false, .bool true, .int .i64 c, .int .i64 v, .int .i64 q, .string d]) (results_cell_row Tryd.results42 _ _ w.heap.size 23 #[.bool false, .bool true, .int .i64 c, .int .i64 v, .int .i64 q, .string d] (0, 0) _ rfl ?_ Tryd.underlying23 rfl cells26) rfl ⟨_, _, _, _, _, _, by omega, by omega, by omega, by omega, by omega, by omega, by omega, rfl, ?_, ?_⟩
    · exact get_set (get_set (get_set (get_set (get_set (get_set (get_set_ne (get_set_ne (HG.out) hne) hne) rfl) rfl) rfl) rfl) rfl) rfl
    · exact onlyS (onlyS (onlyS (onlyS (onlyS (onlyS (onlyS (onlyS (HW.out) (by omega)) (by omega)) (by omega)) (by omega)) (by omega)) (by omega)) (by omega)) (by omega)
    · exact (rdS (rdS (rdS (rdS (rdS (rdS (rdS (rdS (HR.out) (by omega)) (by omega)) (by omega)) (by omega)) (by omega)) (by omega)) (by omega)) (by omega)).mono (by omega)
  · have b0 : ((v2 : Int) == 0) = false := by rw [beq_eq_false_iff_ne]; omega
    have b1 : ((v2 : Int) == 1) = false := by rw [beq_eq_false_iff_ne]; omega
    have b2 : ((v2 : Int) == 2) = false := by rw [beq_eq_false_iff_ne]; omega
    have b3 : ((v2 : Int) == 3) = false := by rw [beq_eq_false_iff_ne]; omega
    have b4 : ((v2 : Int) == 4) = false := by rw [beq_eq_false_iff_ne]; omega
    go_wp2_with fail
    refine bodyPost_ret (v := .agg #[.bool p, .bool gv, .int .i64 c, .int .i64 v, .int .i64 q, .string d]) (results_cell_row Tryd.results42 _ _ w.heap.size 23 #[.bool p, .bool gv, .int .i64 c, .int .i64 v, .int .i64 q, .string d] (0, 0) _ rfl ?_ Tryd.underlying23 rfl cells26) rfl ⟨_, _, _, _, _, _, by omega, by omega, by omega, by omega, by omega, by omega, by omega, rfl, ?_, ?_⟩
    · exact get_set (get_set (get_set (get_set (get_set (get_set (HG.out) rfl) rfl) rfl) rfl) rfl) rfl
    · exact onlyS (onlyS (onlyS (onlyS (onlyS (onlyS (HW.out) (by omega)) (by omega)) (by omega)) (by omega)) (by omega)) (by omega)
    · exact (rdS (rdS (rdS (rdS (rdS (rdS (HR.out) (by omega)) (by omega)) (by omega)) (by omega)) (by omega)) (by omega)).mono (by omega)
end Go.Proofs.YtlifigpkjbnkhaaDoor
