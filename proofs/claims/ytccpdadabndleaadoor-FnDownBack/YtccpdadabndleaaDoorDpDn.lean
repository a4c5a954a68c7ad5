/- The draw of frames down. -/
import Derived.Test.YtccpdadabndleaaDoorDrDn
import Derived.Test.YtccpdadabndleaaDoorDrawY
namespace Go.Proofs.YtccpdadabndleaaDoor
open Go.ChangeShapes Go.WideShapes Go.ChangeAt Go.RowKit
set_option linter.unusedVariables false
set_option maxRecDepth 100000 in
set_option maxHeartbeats 1000000 in
theorem DrawDownPut_any (a : Option Addr) (len cap : Nat) (zs : List Int) (w : World) (h : IsRow .u8 w a len cap zs) :
    Calls Tryd.prog 43 #[.slice a len cap] w fun e w' => ∃ (cr wh al ow fi : Int) (d f : ByteArray), d.size ≤ 28 ∧ f.size ≤ 4 ∧ e = .returned (.agg #[.int .i64 cr, .int .i64 wh, .int .i64 al, .int .i64 ow, .int .i64 fi, .string d, .string f]) ∧ Below w.heap.size w w' := by
  have H : Hid (IsRow .u8 (w.alloc (.cells #[.int .i64 0, .int .i64 0, .int .i64 0, .int .i64 0, .int .i64 0, .string ⟨#[]⟩, .string ⟨#[]⟩] 54)) a len cap zs) := h.keep ((Below.refl _ _).alloc (Nat.le_refl _) _)
  clear h
  go_enter Tryd.func43, Tryd.ntmps43
  go_wp2_with fail
  refine (l1Open_any a len cap zs _ H.out).mono ?_
  rintro e w1 ⟨rfl, hb1, hr1⟩
  simp only [World.size_alloc] at hb1 hr1 ⊢
  obtain ⟨g, hgg⟩ : ∃ g, g = w.heap.size + 1 := ⟨_, rfl⟩
  rw [← hgg] at hr1 ⊢
  have RES : Hid (w1.heap[w.heap.size]? = some (.cells #[.int .i64 0, .int .i64 0, .int .i64 0, .int .i64 0, .int .i64 0, .string ⟨#[]⟩, .string ⟨#[]⟩] 54)) := get_below hb1 (get_new rfl) (by simp)
  have HW : Hid (Only g w w1) := Only.of_below (((Below.refl _ _).alloc (Nat.le_refl _) _).trans (hb1.mono (by omega)))
  have HR : Hid (Rd (0 + 0) w1 g) := hr1
  have hg1 : g < w1.heap.size := HR.out.lt
  have hgl : w.heap.size < g := by omega
  clear hb1 hr1 H hgg
  go_wp2_with fail
  refine (l15Down_any (0 + 0) g _ (by omega) HR.out).mono ?_
  rintro e w2 ⟨cr, wh, al, ow, fi, d, f, h1, h2, h3, h4, h5, h6, h7, h8, h9, h10, hd0, hd1, hf1, rfl, ho, hr⟩
  replace RES : Hid (w2.heap[w.heap.size]? = some (.cells #[.int .i64 0, .int .i64 0, .int .i64 0, .int .i64 0, .int .i64 0, .string ⟨#[]⟩, .string ⟨#[]⟩] 54)) := get_only ho RES.out (by omega)
  replace HW : Hid (Only g w w2) := HW.out.trans ho
  replace HR : Hid (Rd (0 + 99) w2 g) := hr
  clear ho hr
  have hg2 : g < w2.heap.size := HR.out.lt
  have hz1 : w.heap.size < w2.heap.size := size_of_get RES.out
  have hx : (d.extract 1 d.size).size ≤ 28 := by rw [ByteArray.size_extract]; omega
  have hci : (1 : Int) ≤ (d.size : Int) := by omega
  have hxx : (⟨#[120, 120, 120, 120]⟩ : ByteArray).size = 4 := rfl
  replace RES : Hid ((w2.alloc (.cells #[.int .i64 cr, .int .i64 wh, .int .i64 al, .int .i64 ow, .int .i64 fi, .string d, .string f] 54)).heap[w.heap.size]? = some (.cells #[.int .i64 0, .int .i64 0, .int .i64 0, .int .i64 0, .int .i64 0, .string ⟨#[]⟩, .string ⟨#[]⟩] 54)) := get_allocS RES.out
  replace HW : Hid (Only g w (w2.alloc (.cells #[.int .i64 cr, .int .i64 wh, .int .i64 al, .int .i64 ow, .int .i64 fi, .string d, .string f] 54))) := HW.out.alloc _
  replace HR : Hid (Rd (0 + 99) (w2.alloc (.cells #[.int .i64 cr, .int .i64 wh, .int .i64 al, .int .i64 ow, .int .i64 fi, .string d, .string f] 54)) g) := rdA HR.out
  have BOX : Hid ((w2.alloc (.cells #[.int .i64 cr, .int .i64 wh, .int .i64 al, .int .i64 ow, .int .i64 fi, .string d, .string f] 54)).heap[w2.heap.size]? = some (.cells #[.int .i64 cr, .int .i64 wh, .int .i64 al, .int .i64 ow, .int .i64 fi, .string d, .string f] 54)) := get_new rfl
  go_wp2_with fail
  refine (pickI (0 + 99) g 14 _ (by omega) (by omega) (by omega) HR.out).mono ?_
  rintro e w3 ⟨v, hv, rfl, ho, hr⟩
  replace RES : Hid (w3.heap[w.heap.size]? = some (.cells #[.int .i64 0, .int .i64 0, .int .i64 0, .int .i64 0, .int .i64 0, .string ⟨#[]⟩, .string ⟨#[]⟩] 54)) := get_only ho RES.out (by omega)
  replace BOX : Hid (w3.heap[w2.heap.size]? = some (.cells #[.int .i64 cr, .int .i64 wh, .int .i64 al, .int .i64 ow, .int .i64 fi, .string d, .string f] 54)) := get_only ho BOX.out (by omega)
  replace HW : Hid (Only g w w3) := HW.out.trans ho
  replace HR : Hid (Rd (0 + 100) w3 g) := hr
  clear ho hr
  have hg3 : g < w3.heap.size := HR.out.lt
  have hcase : v = 0 ∨ v = 1 ∨ v = 2 ∨ v = 3 ∨ v = 4 ∨ 5 ≤ v := by omega
  rcases hcase with rfl | rfl | rfl | rfl | rfl | hge
  · go_wp2_with fail
    replace RES : Hid ((w3.alloc (.cells #[.int .i64 (-1), .int .i64 8] 3)).heap[w.heap.size]? = some (.cells #[.int .i64 0, .int .i64 0, .int .i64 0, .int .i64 0, .int .i64 0, .string ⟨#[]⟩, .string ⟨#[]⟩] 54)) := get_allocS RES.out
    replace BOX : Hid ((w3.alloc (.cells #[.int .i64 (-1), .int .i64 8] 3)).heap[w2.heap.size]? = some (.cells #[.int .i64 cr, .int .i64 wh, .int .i64 al, .int .i64 ow, .int .i64 fi, .string d, .string f] 54)) := get_allocS BOX.out
    replace HW : Hid (Only g w (w3.alloc (.cells #[.int .i64 (-1), .int .i64 8] 3))) := HW.out.alloc _
    replace HR : Hid (Rd (0 + 100) (w3.alloc (.cells #[.int .i64 (-1), .int .i64 8] 3)) g) := rdA HR.out
    refine (one_lit (0 + 100) g w3.heap.size 2 2 [-1, 8] _ rfl (by omega) (by omega) (by omega) HR.out (by omega) (intsNew rfl _)).mono ?_
    rintro e w4 ⟨y, hy, rfl, ho, hr⟩
    replace RES : Hid (w4.heap[w.heap.size]? = some (.cells #[.int .i64 0, .int .i64 0, .int .i64 0, .int .i64 0, .int .i64 0, .string ⟨#[]⟩, .string ⟨#[]⟩] 54)) := get_only ho RES.out (by omega)
    replace BOX : Hid (w4.heap[w2.heap.size]? = some (.cells #[.int .i64 cr, .int .i64 wh, .int .i64 al, .int .i64 ow, .int .i64 fi, .string d, .string f] 54)) := get_only ho BOX.out (by omega)
    replace HW : Hid (Only g w w4) := HW.out.trans ho
    replace HR : Hid (Rd (0 + 101) w4 g) := hr
    clear ho hr
    have hg4 : g < w4.heap.size := HR.out.lt
    replace hy : -1 ≤ y ∧ y ≤ 8 := by simp only [List.mem_cons, List.not_mem_nil, or_false] at hy; omega
    obtain ⟨RES_0, RES_1, RES_2, RES_3, RES_4, RES_5, RES_6⟩ := cells7_of RES.out
    have RES_f : ∀ j, w4.frozen? ⟨w.heap.size, j, none⟩ = false := fun j => frozen_get RES.out
    obtain ⟨BOX_0, BOX_1, BOX_2, BOX_3, BOX_4, BOX_5, BOX_6⟩ := cells7_of BOX.out
    have BOX_f : ∀ j, w4.frozen? ⟨w2.heap.size, j, none⟩ = false := fun j => frozen_get BOX.out
    have hzb : w2.heap.size < w4.heap.size := size_of_get BOX.out
    have hne : ¬ w.heap.size = w2.heap.size := by omega
    have hne' : ¬ w2.heap.size = w.heap.size := by omega
    have s0 : ∀ u, (w4.setCell ⟨w2.heap.size, 0, none⟩ u).cell? ⟨w2.heap.size, 0, none⟩ = some u := fun u => World.cell?_setCell_same _ _ _ BOX_0
    have s1 : ∀ u, (w4.setCell ⟨w2.heap.size, 1, none⟩ u).cell? ⟨w2.heap.size, 1, none⟩ = some u := fun u => World.cell?_setCell_same _ _ _ BOX_1
    have s2 : ∀ u, (w4.setCell ⟨w2.heap.size, 2, none⟩ u).cell? ⟨w2.heap.size, 2, none⟩ = some u := fun u => World.cell?_setCell_same _ _ _ BOX_2
    have s3 : ∀ u, (w4.setCell ⟨w2.heap.size, 3, none⟩ u).cell? ⟨w2.heap.size, 3, none⟩ = some u := fun u => World.cell?_setCell_same _ _ _ BOX_3
    have s4 : ∀ u, (w4.setCell ⟨w2.heap.size, 4, none⟩ u).cell? ⟨w2.heap.size, 4, none⟩ = some u := fun u => World.cell?_setCell_same _ _ _ BOX_4
    have s5 : ∀ u, (w4.setCell ⟨w2.heap.size, 5, none⟩ u).cell? ⟨w2.heap.size, 5, none⟩ = some u := fun u => World.cell?_setCell_same _ _ _ BOX_5
    have s6 : ∀ u, (w4.setCell ⟨w2.heap.size, 6, none⟩ u).cell? ⟨w2.heap.size, 6, none⟩ = some u := fun u => World.cell?_setCell_same _ _ _ BOX_6
    go_wp2_with fail
    refine bodyPost_ret (v := .agg #[.int .i64 cr, .int .i64 y, .int .i64 al, .int .i64 ow, .int .i64 fi, .string d, .string f]) (results_cell_row Tryd.results43 _ _ w.heap.size 54 #[.int .i64 cr, .int .i64 y, .int .i64 al, .int .i64 ow, .int .i64 fi, .string d, .string f] (0, 0) _ rfl ?_ Tryd.underlying54 rfl cells_ddn) rfl ⟨_, _, _, _, _, _, _, by omega, by omega, rfl, ?_⟩
    · exact get_set (get_set (get_set (get_set (get_set (get_set (get_set (get_set_ne (RES.out) (by omega)) rfl) rfl) rfl) rfl) rfl) rfl) rfl
    · exact (onlyS (onlyS (onlyS (onlyS (onlyS (onlyS (onlyS (onlyS (HW.out) (by omega)) (by omega)) (by omega)) (by omega)) (by omega)) (by omega)) (by omega)) (by omega)).below (by omega) (Nat.le_refl _)
  · go_wp2_with fail
    replace RES : Hid ((w3.alloc (.cells #[.int .i64 28, .int .i64 (-1), .int .i64 2045] 3)).heap[w.heap.size]? = some (.cells #[.int .i64 0, .int .i64 0, .int .i64 0, .int .i64 0, .int .i64 0, .string ⟨#[]⟩, .string ⟨#[]⟩] 54)) := get_allocS RES.out
    replace BOX : Hid ((w3.alloc (.cells #[.int .i64 28, .int .i64 (-1), .int .i64 2045] 3)).heap[w2.heap.size]? = some (.cells #[.int .i64 cr, .int .i64 wh, .int .i64 al, .int .i64 ow, .int .i64 fi, .string d, .string f] 54)) := get_allocS BOX.out
    replace HW : Hid (Only g w (w3.alloc (.cells #[.int .i64 28, .int .i64 (-1), .int .i64 2045] 3))) := HW.out.alloc _
    replace HR : Hid (Rd (0 + 100) (w3.alloc (.cells #[.int .i64 28, .int .i64 (-1), .int .i64 2045] 3)) g) := rdA HR.out
    refine (one_lit (0 + 100) g w3.heap.size 3 3 [28, -1, 2045] _ rfl (by omega) (by omega) (by omega) HR.out (by omega) (intsNew rfl _)).mono ?_
    rintro e w4 ⟨y, hy, rfl, ho, hr⟩
    replace RES : Hid (w4.heap[w.heap.size]? = some (.cells #[.int .i64 0, .int .i64 0, .int .i64 0, .int .i64 0, .int .i64 0, .string ⟨#[]⟩, .string ⟨#[]⟩] 54)) := get_only ho RES.out (by omega)
    replace BOX : Hid (w4.heap[w2.heap.size]? = some (.cells #[.int .i64 cr, .int .i64 wh, .int .i64 al, .int .i64 ow, .int .i64 fi, .string d, .string f] 54)) := get_only ho BOX.out (by omega)
    replace HW : Hid (Only g w w4) := HW.out.trans ho
    replace HR : Hid (Rd (0 + 101) w4 g) := hr
    clear ho hr
    have hg4 : g < w4.heap.size := HR.out.lt
    replace hy : -1 ≤ y ∧ y ≤ 2045 := by simp only [List.mem_cons, List.not_mem_nil, or_false] at hy; omega
    obtain ⟨RES_0, RES_1, RES_2, RES_3, RES_4, RES_5, RES_6⟩ := cells7_of RES.out
    have RES_f : ∀ j, w4.frozen? ⟨w.heap.size, j, none⟩ = false := fun j => frozen_get RES.out
    obtain ⟨BOX_0, BOX_1, BOX_2, BOX_3, BOX_4, BOX_5, BOX_6⟩ := cells7_of BOX.out
    have BOX_f : ∀ j, w4.frozen? ⟨w2.heap.size, j, none⟩ = false := fun j => frozen_get BOX.out
    have hzb : w2.heap.size < w4.heap.size := size_of_get BOX.out
    have hne : ¬ w.heap.size = w2.heap.size := by omega
    have hne' : ¬ w2.heap.size = w.heap.size := by omega
    have s0 : ∀ u, (w4.setCell ⟨w2.heap.size, 0, none⟩ u).cell? ⟨w2.heap.size, 0, none⟩ = some u := fun u => World.cell?_setCell_same _ _ _ BOX_0
    have s1 : ∀ u, (w4.setCell ⟨w2.heap.size, 1, none⟩ u).cell? ⟨w2.heap.size, 1, none⟩ = some u := fun u => World.cell?_setCell_same _ _ _ BOX_1
    have s2 : ∀ u, (w4.setCell ⟨w2.heap.size, 2, none⟩ u).cell? ⟨w2.heap.size, 2, none⟩ = some u := fun u => World.cell?_setCell_same _ _ _ BOX_2
    have s3 : ∀ u, (w4.setCell ⟨w2.heap.size, 3, none⟩ u).cell? ⟨w2.heap.size, 3, none⟩ = some u := fun u => World.cell?_setCell_same _ _ _ BOX_3
    have s4 : ∀ u, (w4.setCell ⟨w2.heap.size, 4, none⟩ u).cell? ⟨w2.heap.size, 4, none⟩ = some u := fun u => World.cell?_setCell_same _ _ _ BOX_4
    have s5 : ∀ u, (w4.setCell ⟨w2.heap.size, 5, none⟩ u).cell? ⟨w2.heap.size, 5, none⟩ = some u := fun u => World.cell?_setCell_same _ _ _ BOX_5
    have s6 : ∀ u, (w4.setCell ⟨w2.heap.size, 6, none⟩ u).cell? ⟨w2.heap.size, 6, none⟩ = some u := fun u => World.cell?_setCell_same _ _ _ BOX_6
    go_wp2_with fail
    refine bodyPost_ret (v := .agg #[.int .i64 cr, .int .i64 wh, .int .i64 al, .int .i64 ow, .int .i64 y, .string d, .string f]) (results_cell_row Tryd.results43 _ _ w.heap.size 54 #[.int .i64 cr, .int .i64 wh, .int .i64 al, .int .i64 ow, .int .i64 y, .string d, .string f] (0, 0) _ rfl ?_ Tryd.underlying54 rfl cells_ddn) rfl ⟨_, _, _, _, _, _, _, by omega, by omega, rfl, ?_⟩
    · exact get_set (get_set (get_set (get_set (get_set (get_set (get_set (get_set_ne (RES.out) (by omega)) rfl) rfl) rfl) rfl) rfl) rfl) rfl
    · exact (onlyS (onlyS (onlyS (onlyS (onlyS (onlyS (onlyS (onlyS (HW.out) (by omega)) (by omega)) (by omega)) (by omega)) (by omega)) (by omega)) (by omega)) (by omega)).below (by omega) (Nat.le_refl _)
  · obtain ⟨RES_0, RES_1, RES_2, RES_3, RES_4, RES_5, RES_6⟩ := cells7_of RES.out
    have RES_f : ∀ j, w3.frozen? ⟨w.heap.size, j, none⟩ = false := fun j => frozen_get RES.out
    obtain ⟨BOX_0, BOX_1, BOX_2, BOX_3, BOX_4, BOX_5, BOX_6⟩ := cells7_of BOX.out
    have BOX_f : ∀ j, w3.frozen? ⟨w2.heap.size, j, none⟩ = false := fun j => frozen_get BOX.out
    have hzb : w2.heap.size < w3.heap.size := size_of_get BOX.out
    have hne : ¬ w.heap.size = w2.heap.size := by omega
    have hne' : ¬ w2.heap.size = w.heap.size := by omega
    have s0 : ∀ u, (w3.setCell ⟨w2.heap.size, 0, none⟩ u).cell? ⟨w2.heap.size, 0, none⟩ = some u := fun u => World.cell?_setCell_same _ _ _ BOX_0
    have s1 : ∀ u, (w3.setCell ⟨w2.heap.size, 1, none⟩ u).cell? ⟨w2.heap.size, 1, none⟩ = some u := fun u => World.cell?_setCell_same _ _ _ BOX_1
    have s2 : ∀ u, (w3.setCell ⟨w2.heap.size, 2, none⟩ u).cell? ⟨w2.heap.size, 2, none⟩ = some u := fun u => World.cell?_setCell_same _ _ _ BOX_2
    have s3 : ∀ u, (w3.setCell ⟨w2.heap.size, 3, none⟩ u).cell? ⟨w2.heap.size, 3, none⟩ = some u := fun u => World.cell?_setCell_same _ _ _ BOX_3
    have s4 : ∀ u, (w3.setCell ⟨w2.heap.size, 4, none⟩ u).cell? ⟨w2.heap.size, 4, none⟩ = some u := fun u => World.cell?_setCell_same _ _ _ BOX_4
    have s5 : ∀ u, (w3.setCell ⟨w2.heap.size, 5, none⟩ u).cell? ⟨w2.heap.size, 5, none⟩ = some u := fun u => World.cell?_setCell_same _ _ _ BOX_5
    have s6 : ∀ u, (w3.setCell ⟨w2.heap.size, 6, none⟩ u).cell? ⟨w2.heap.size, 6, none⟩ = some u := fun u => World.cell?_setCell_same _ _ _ BOX_6
    go_wp2_with fail
    refine bodyPost_ret (v := .agg #[.int .i64 cr, .int .i64 wh, .int .i64 al, .int .i64 ow, .int .i64 fi, .string (d.extract 1 d.size), .string f]) (results_cell_row Tryd.results43 _ _ w.heap.size 54 #[.int .i64 cr, .int .i64 wh, .int .i64 al, .int .i64 ow, .int .i64 fi, .string (d.extract 1 d.size), .string f] (0, 0) _ rfl ?_ Tryd.underlying54 rfl cells_ddn) rfl ⟨_, _, _, _, _, _, _, by omega, by omega, rfl, ?_⟩
    · exact get_set (get_set (get_set (get_set (get_set (get_set (get_set (get_set_ne (RES.out) (by omega)) rfl) rfl) rfl) rfl) rfl) rfl) rfl
    · exact (onlyS (onlyS (onlyS (onlyS (onlyS (onlyS (onlyS (onlyS (HW.out) (by omega)) (by omega)) (by omega)) (by omega)) (by omega)) (by omega)) (by omega)) (by omega)).below (by omega) (Nat.le_refl _)
  · obtain ⟨RES_0, RES_1, RES_2, RES_3, RES_4, RES_5, RES_6⟩ := cells7_of RES.out
    have RES_f : ∀ j, w3.frozen? ⟨w.heap.size, j, none⟩ = false := fun j => frozen_get RES.out
    obtain ⟨BOX_0, BOX_1, BOX_2, BOX_3, BOX_4, BOX_5, BOX_6⟩ := cells7_of BOX.out
    have BOX_f : ∀ j, w3.frozen? ⟨w2.heap.size, j, none⟩ = false := fun j => frozen_get BOX.out
    have hzb : w2.heap.size < w3.heap.size := size_of_get BOX.out
    have hne : ¬ w.heap.size = w2.heap.size := by omega
    have hne' : ¬ w2.heap.size = w.heap.size := by omega
    have s0 : ∀ u, (w3.setCell ⟨w2.heap.size, 0, none⟩ u).cell? ⟨w2.heap.size, 0, none⟩ = some u := fun u => World.cell?_setCell_same _ _ _ BOX_0
    have s1 : ∀ u, (w3.setCell ⟨w2.heap.size, 1, none⟩ u).cell? ⟨w2.heap.size, 1, none⟩ = some u := fun u => World.cell?_setCell_same _ _ _ BOX_1
    have s2 : ∀ u, (w3.setCell ⟨w2.heap.size, 2, none⟩ u).cell? ⟨w2.heap.size, 2, none⟩ = some u := fun u => World.cell?_setCell_same _ _ _ BOX_2
    have s3 : ∀ u, (w3.setCell ⟨w2.heap.size, 3, none⟩ u).cell? ⟨w2.heap.size, 3, none⟩ = some u := fun u => World.cell?_setCell_same _ _ _ BOX_3
    have s4 : ∀ u, (w3.setCell ⟨w2.heap.size, 4, none⟩ u).cell? ⟨w2.heap.size, 4, none⟩ = some u := fun u => World.cell?_setCell_same _ _ _ BOX_4
    have s5 : ∀ u, (w3.setCell ⟨w2.heap.size, 5, none⟩ u).cell? ⟨w2.heap.size, 5, none⟩ = some u := fun u => World.cell?_setCell_same _ _ _ BOX_5
    have s6 : ∀ u, (w3.setCell ⟨w2.heap.size, 6, none⟩ u).cell? ⟨w2.heap.size, 6, none⟩ = some u := fun u => World.cell?_setCell_same _ _ _ BOX_6
    go_wp2_with fail
    refine bodyPost_ret (v := .agg #[.int .i64 cr, .int .i64 wh, .int .i64 al, .int .i64 ow, .int .i64 fi, .string d, .string ⟨#[120, 120, 120, 120]⟩]) (results_cell_row Tryd.results43 _ _ w.heap.size 54 #[.int .i64 cr, .int .i64 wh, .int .i64 al, .int .i64 ow, .int .i64 fi, .string d, .string ⟨#[120, 120, 120, 120]⟩] (0, 0) _ rfl ?_ Tryd.underlying54 rfl cells_ddn) rfl ⟨_, _, _, _, _, _, _, by omega, by omega, rfl, ?_⟩
    · exact get_set (get_set (get_set (get_set (get_set (get_set (get_set (get_set_ne (RES.out) (by omega)) rfl) rfl) rfl) rfl) rfl) rfl) rfl
    · exact (onlyS (onlyS (onlyS (onlyS (onlyS (onlyS (onlyS (onlyS (HW.out) (by omega)) (by omega)) (by omega)) (by omega)) (by omega)) (by omega)) (by omega)) (by omega)).below (by omega) (Nat.le_refl _)
  · obtain ⟨RES_0, RES_1, RES_2, RES_3, RES_4, RES_5, RES_6⟩ := cells7_of RES.out
    have RES_f : ∀ j, w3.frozen? ⟨w.heap.size, j, none⟩ = false := fun j => frozen_get RES.out
    obtain ⟨BOX_0, BOX_1, BOX_2, BOX_3, BOX_4, BOX_5, BOX_6⟩ := cells7_of BOX.out
    have BOX_f : ∀ j, w3.frozen? ⟨w2.heap.size, j, none⟩ = false := fun j => frozen_get BOX.out
    have hzb : w2.heap.size < w3.heap.size := size_of_get BOX.out
    have hne : ¬ w.heap.size = w2.heap.size := by omega
    have hne' : ¬ w2.heap.size = w.heap.size := by omega
    have s0 : ∀ u, (w3.setCell ⟨w2.heap.size, 0, none⟩ u).cell? ⟨w2.heap.size, 0, none⟩ = some u := fun u => World.cell?_setCell_same _ _ _ BOX_0
    have s1 : ∀ u, (w3.setCell ⟨w2.heap.size, 1, none⟩ u).cell? ⟨w2.heap.size, 1, none⟩ = some u := fun u => World.cell?_setCell_same _ _ _ BOX_1
    have s2 : ∀ u, (w3.setCell ⟨w2.heap.size, 2, none⟩ u).cell? ⟨w2.heap.size, 2, none⟩ = some u := fun u => World.cell?_setCell_same _ _ _ BOX_2
    have s3 : ∀ u, (w3.setCell ⟨w2.heap.size, 3, none⟩ u).cell? ⟨w2.heap.size, 3, none⟩ = some u := fun u => World.cell?_setCell_same _ _ _ BOX_3
    have s4 : ∀ u, (w3.setCell ⟨w2.heap.size, 4, none⟩ u).cell? ⟨w2.heap.size, 4, none⟩ = some u := fun u => World.cell?_setCell_same _ _ _ BOX_4
    have s5 : ∀ u, (w3.setCell ⟨w2.heap.size, 5, none⟩ u).cell? ⟨w2.heap.size, 5, none⟩ = some u := fun u => World.cell?_setCell_same _ _ _ BOX_5
    have s6 : ∀ u, (w3.setCell ⟨w2.heap.size, 6, none⟩ u).cell? ⟨w2.heap.size, 6, none⟩ = some u := fun u => World.cell?_setCell_same _ _ _ BOX_6
    go_wp2_with fail
    refine bodyPost_ret (v := .agg #[.int .i64 cr, .int .i64 wh, .int .i64 al, .int .i64 256, .int .i64 fi, .string d, .string f]) (results_cell_row Tryd.results43 _ _ w.heap.size 54 #[.int .i64 cr, .int .i64 wh, .int .i64 al, .int .i64 256, .int .i64 fi, .string d, .string f] (0, 0) _ rfl ?_ Tryd.underlying54 rfl cells_ddn) rfl ⟨_, _, _, _, _, _, _, by omega, by omega, rfl, ?_⟩
    · exact get_set (get_set (get_set (get_set (get_set (get_set (get_set (get_set_ne (RES.out) (by omega)) rfl) rfl) rfl) rfl) rfl) rfl) rfl
    · exact (onlyS (onlyS (onlyS (onlyS (onlyS (onlyS (onlyS (onlyS (HW.out) (by omega)) (by omega)) (by omega)) (by omega)) (by omega)) (by omega)) (by omega)) (by omega)).below (by omega) (Nat.le_refl _)
  · have b0 : ((v : Int) == 0) = false := by rw [beq_eq_false_iff_ne]; omega
    have b1 : ((v : Int) == 1) = false := by rw [beq_eq_false_iff_ne]; omega
    have b2 : ((v : Int) == 2) = false := by rw [beq_eq_false_iff_ne]; omega
    have b3 : ((v : Int) == 3) = false := by rw [beq_eq_false_iff_ne]; omega
    have b4 : ((v : Int) == 4) = false := by rw [beq_eq_false_iff_ne]; omega
    obtain ⟨RES_0, RES_1, RES_2, RES_3, RES_4, RES_5, RES_6⟩ := cells7_of RES.out
    have RES_f : ∀ j, w3.frozen? ⟨w.heap.size, j, none⟩ = false := fun j => frozen_get RES.out
    obtain ⟨BOX_0, BOX_1, BOX_2, BOX_3, BOX_4, BOX_5, BOX_6⟩ := cells7_of BOX.out
    have BOX_f : ∀ j, w3.frozen? ⟨w2.heap.size, j, none⟩ = false := fun j => frozen_get BOX.out
    have hzb : w2.heap.size < w3.heap.size := size_of_get BOX.out
    have hne : ¬ w.heap.size = w2.heap.size := by omega
    have hne' : ¬ w2.heap.size = w.heap.size := by omega
    go_wp2_with fail
    refine bodyPost_ret (v := .agg #[.int .i64 cr, .int .i64 wh, .int .i64 al, .int .i64 ow, .int .i64 fi, .string d, .string f]) (results_cell_row Tryd.results43 _ _ w.heap.size 54 #[.int .i64 cr, .int .i64 wh, .int .i64 al, .int .i64 ow, .int .i64 fi, .string d, .string f] (0, 0) _ rfl ?_ Tryd.underlying54 rfl cells_ddn) rfl ⟨_, _, _, _, _, _, _, by omega, by omega, rfl, ?_⟩
    · exact get_set (get_set (get_set (get_set (get_set (get_set (get_set (RES.out) rfl) rfl) rfl) rfl) rfl) rfl) rfl
    · exact (onlyS (onlyS (onlyS (onlyS (onlyS (onlyS (onlyS (HW.out) (by omega)) (by omega)) (by omega)) (by omega)) (by omega)) (by omega)) (by omega)).below (by omega) (Nat.le_refl _)
end Go.Proofs.YtccpdadabndleaaDoor
