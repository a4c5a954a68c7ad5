/- The draws of what is told. -/
import Derived.Test.YtccpdadabndleaaDoorDrRp
import Derived.Test.YtccpdadabndleaaDoorDrawY
import Derived.Test.YtccpdadabndleaaDoorRpP
import Derived.Test.YtccpdadabndleaaDoorDpPk
namespace Go.Proofs.YtccpdadabndleaaDoor
open Go.ChangeShapes Go.WideShapes Go.ChangeAt Go.RowKit
set_option linter.unusedVariables false
theorem l6Rep_some (a c sv sb t : Int) (d : ByteArray) (w : World) (h1 : 0 ≤ a) (h2 : a ≤ 2046) (h3 : 0 ≤ c) (h4 : c ≤ 16383) (h5 : 0 ≤ sv) (h6 : sv ≤ 255) (h7 : 0 ≤ sb) (h8 : sb ≤ 255) (h9 : 0 ≤ t) (h10 : t ≤ 99999) (hd : d.size ≤ 60) :
    Calls Tryd.prog 86 #[.agg #[.int .i64 a, .int .i64 c, .int .i64 sv, .int .i64 sb, .int .i64 t, .string d]] w fun e w' => ∃ p : ByteArray, p.size ≤ 73 ∧ e = .returned (.string p) ∧ Below w.heap.size w w' := by
  have hsz := rpD_size (d := d) h5 h6 h7 h8 h9 h10
  have hk : pkOk a c (rpD sv sb t d) = true := by simp only [pkOk, inB, Bool.and_eq_true, decide_eq_true_eq, hsz]; omega
  have hz := pkPut_size (u := false) hk
  rw [pkPut_yes hk] at hz
  exact (l6Rep_any a c sv sb t d w (by unfold maxLen; omega) h1 h2 h3 h4 h5 h6 h7 h8 h9 h10 hd).mono fun e w' ⟨h1, h2⟩ => ⟨_, by omega, h1, h2⟩
set_option maxRecDepth 100000 in
set_option maxHeartbeats 1000000 in
theorem DrawRepPut_any (a : Option Addr) (len cap : Nat) (zs : List Int) (w : World) (h : IsRow .u8 w a len cap zs) :
    Calls Tryd.prog 32 #[.slice a len cap] w fun e w' => ∃ (a c sv sb tm : Int) (d : ByteArray), d.size ≤ 61 ∧ e = .returned (.agg #[.int .i64 a, .int .i64 c, .int .i64 sv, .int .i64 sb, .int .i64 tm, .string d]) ∧ Below w.heap.size w w' := by
  have H : Hid (IsRow .u8 (w.alloc (.cells #[.int .i64 0, .int .i64 0, .int .i64 0, .int .i64 0, .int .i64 0, .string ⟨#[]⟩] 35)) a len cap zs) := h.keep ((Below.refl _ _).alloc (Nat.le_refl _) _)
  clear h
  go_enter Tryd.func32, Tryd.ntmps32
  go_wp2_with fail
  refine (l1Open_any a len cap zs _ H.out).mono ?_
  rintro e w1 ⟨rfl, hb1, hr1⟩
  simp only [World.size_alloc] at hb1 hr1 ⊢
  obtain ⟨g, hgg⟩ : ∃ g, g = w.heap.size + 1 := ⟨_, rfl⟩
  rw [← hgg] at hr1 ⊢
  have RES : Hid (w1.heap[w.heap.size]? = some (.cells #[.int .i64 0, .int .i64 0, .int .i64 0, .int .i64 0, .int .i64 0, .string ⟨#[]⟩] 35)) := get_below hb1 (get_new rfl) (by simp)
  have HW : Hid (Only g w w1) := Only.of_below (((Below.refl _ _).alloc (Nat.le_refl _) _).trans (hb1.mono (by omega)))
  have HR : Hid (Rd (0 + 0) w1 g) := hr1
  have hg1 : g < w1.heap.size := HR.out.lt
  have hgl : w.heap.size < g := by omega
  clear hb1 hr1 H hgg
  go_wp2_with fail
  refine (l15Rep_any (0 + 0) g _ (by omega) HR.out).mono ?_
  rintro e w2 ⟨a, c, sv, sb, tm, d, h1, h2, h3, h4, h5, h6, h7, h8, h9, h10, hd, rfl, ho, hr⟩
  replace RES : Hid (w2.heap[w.heap.size]? = some (.cells #[.int .i64 0, .int .i64 0, .int .i64 0, .int .i64 0, .int .i64 0, .string ⟨#[]⟩] 35)) := get_only ho RES.out (by omega)
  replace HW : Hid (Only g w w2) := HW.out.trans ho
  replace HR : Hid (Rd (0 + 44) w2 g) := hr
  clear ho hr
  have hg2 : g < w2.heap.size := HR.out.lt
  have hz1 : w.heap.size < w2.heap.size := size_of_get RES.out
  replace RES : Hid ((w2.alloc (.cells #[.int .i64 a, .int .i64 c, .int .i64 sv, .int .i64 sb, .int .i64 tm, .string d] 35)).heap[w.heap.size]? = some (.cells #[.int .i64 0, .int .i64 0, .int .i64 0, .int .i64 0, .int .i64 0, .string ⟨#[]⟩] 35)) := get_allocS RES.out
  replace HW : Hid (Only g w (w2.alloc (.cells #[.int .i64 a, .int .i64 c, .int .i64 sv, .int .i64 sb, .int .i64 tm, .string d] 35))) := HW.out.alloc _
  replace HR : Hid (Rd (0 + 44) (w2.alloc (.cells #[.int .i64 a, .int .i64 c, .int .i64 sv, .int .i64 sb, .int .i64 tm, .string d] 35)) g) := rdA HR.out
  have BOX : Hid ((w2.alloc (.cells #[.int .i64 a, .int .i64 c, .int .i64 sv, .int .i64 sb, .int .i64 tm, .string d] 35)).heap[w2.heap.size]? = some (.cells #[.int .i64 a, .int .i64 c, .int .i64 sv, .int .i64 sb, .int .i64 tm, .string d] 35)) := get_new rfl
  go_wp2_with fail
  refine (pickI (0 + 44) g 12 _ (by omega) (by omega) (by omega) HR.out).mono ?_
  rintro e w3 ⟨v, hv, rfl, ho, hr⟩
  replace RES : Hid (w3.heap[w.heap.size]? = some (.cells #[.int .i64 0, .int .i64 0, .int .i64 0, .int .i64 0, .int .i64 0, .string ⟨#[]⟩] 35)) := get_only ho RES.out (by omega)
  replace BOX : Hid (w3.heap[w2.heap.size]? = some (.cells #[.int .i64 a, .int .i64 c, .int .i64 sv, .int .i64 sb, .int .i64 tm, .string d] 35)) := get_only ho BOX.out (by omega)
  replace HW : Hid (Only g w w3) := HW.out.trans ho
  replace HR : Hid (Rd (0 + 45) w3 g) := hr
  clear ho hr
  have hg3 : g < w3.heap.size := HR.out.lt
  have hcase : v = 0 ∨ v = 1 ∨ v = 2 ∨ 3 ≤ v := by omega
  rcases hcase with rfl | rfl | rfl | hge
  · go_wp2_with fail
    replace RES : Hid ((w3.alloc (.cells #[.int .i64 (-1), .int .i64 100000] 3)).heap[w.heap.size]? = some (.cells #[.int .i64 0, .int .i64 0, .int .i64 0, .int .i64 0, .int .i64 0, .string ⟨#[]⟩] 35)) := get_allocS RES.out
    replace BOX : Hid ((w3.alloc (.cells #[.int .i64 (-1), .int .i64 100000] 3)).heap[w2.heap.size]? = some (.cells #[.int .i64 a, .int .i64 c, .int .i64 sv, .int .i64 sb, .int .i64 tm, .string d] 35)) := get_allocS BOX.out
    replace HW : Hid (Only g w (w3.alloc (.cells #[.int .i64 (-1), .int .i64 100000] 3))) := HW.out.alloc _
    replace HR : Hid (Rd (0 + 45) (w3.alloc (.cells #[.int .i64 (-1), .int .i64 100000] 3)) g) := rdA HR.out
    refine (one_lit (0 + 45) g w3.heap.size 2 2 [-1, 100000] _ rfl (by omega) (by omega) (by omega) HR.out (by omega) (intsNew rfl _)).mono ?_
    rintro e w4 ⟨y, hy, rfl, ho, hr⟩
    replace RES : Hid (w4.heap[w.heap.size]? = some (.cells #[.int .i64 0, .int .i64 0, .int .i64 0, .int .i64 0, .int .i64 0, .string ⟨#[]⟩] 35)) := get_only ho RES.out (by omega)
    replace BOX : Hid (w4.heap[w2.heap.size]? = some (.cells #[.int .i64 a, .int .i64 c, .int .i64 sv, .int .i64 sb, .int .i64 tm, .string d] 35)) := get_only ho BOX.out (by omega)
    replace HW : Hid (Only g w w4) := HW.out.trans ho
    replace HR : Hid (Rd (0 + 46) w4 g) := hr
    clear ho hr
    have hg4 : g < w4.heap.size := HR.out.lt
    replace hy : -1 ≤ y ∧ y ≤ 100000 := by simp only [List.mem_cons, List.not_mem_nil, or_false] at hy; omega
    obtain ⟨RES_0, RES_1, RES_2, RES_3, RES_4, RES_5⟩ := cells6_of RES.out
    have RES_f : ∀ j, w4.frozen? ⟨w.heap.size, j, none⟩ = false := fun j => frozen_get RES.out
    obtain ⟨BOX_0, BOX_1, BOX_2, BOX_3, BOX_4, BOX_5⟩ := cells6_of BOX.out
    have BOX_f : ∀ j, w4.frozen? ⟨w2.heap.size, j, none⟩ = false := fun j => frozen_get BOX.out
    have hzb : w2.heap.size < w4.heap.size := size_of_get BOX.out
    have hne : ¬ w.heap.size = w2.heap.size := by omega
    have hne' : ¬ w2.heap.size = w.heap.size := by omega
    have s0 : ∀ u, (w4.setCell ⟨w2.heap.size, 0, none⟩ u).cell? ⟨w2.heap.size, 0, none⟩ = some u := fun u => World.cell?_setCell_same _ _ _ BOX_0
    have s1 : ∀ u, (w4.setCell ⟨w2.heap.size, 1, none⟩ u).cell? ⟨w2.heap.size, 1, none⟩ = some u := fun u => World.cell?_setCell_same _ _ _ BOX_1
    have s2 : ∀ u, (w4.setCell ⟨w2.heap.size, 2, none⟩ u).cell? ⟨w2.heap.size, 2, none⟩ = some u := fun u => World.cell?_setCell_same _ _ _ BOX_2
    have s3 : ∀ u, (w4.setCell ⟨w2.heap.size, 3, none⟩ u).cell? ⟨w2.heap.size, 3, none⟩ = some u := fun u => World.cell?_setCell_same _ _ _ BOX_3
    have s4 : ∀ u, (w4.setCell ⟨w2.heap.size, 4, none⟩ u).cell? ⟨w2.heap.size, 4, none⟩ = some u := fun u => World.cell?_setCell_same _ _ _ BOX_4
    have s5 : ∀ u, (w4.setCell ⟨w2.heap.size, 5, none⟩ u).cell? ⟨w2.heap.size, 5, none⟩ = some u := fun u => World.cell?_setCell_same _ _ _ BOX_5
    go_wp2_with fail
    refine bodyPost_ret (v := .agg #[.int .i64 a, .int .i64 c, .int .i64 sv, .int .i64 sb, .int .i64 y, .string d]) (results_cell_row Tryd.results32 _ _ w.heap.size 35 #[.int .i64 a, .int .i64 c, .int .i64 sv, .int .i64 sb, .int .i64 y, .string d] (0, 0) _ rfl ?_ Tryd.underlying35 rfl cellsDrp) rfl ⟨_, _, _, _, _, _, by omega, rfl, ?_⟩
    · exact get_set (get_set (get_set (get_set (get_set (get_set (get_set_ne (RES.out) (by omega)) rfl) rfl) rfl) rfl) rfl) rfl
    · exact (onlyS (onlyS (onlyS (onlyS (onlyS (onlyS (onlyS (HW.out) (by omega)) (by omega)) (by omega)) (by omega)) (by omega)) (by omega)) (by omega)).below (by omega) (Nat.le_refl _)
  · go_wp2_with fail
    replace RES : Hid ((w3.alloc (.cells #[.int .i64 (-1), .int .i64 2047] 3)).heap[w.heap.size]? = some (.cells #[.int .i64 0, .int .i64 0, .int .i64 0, .int .i64 0, .int .i64 0, .string ⟨#[]⟩] 35)) := get_allocS RES.out
    replace BOX : Hid ((w3.alloc (.cells #[.int .i64 (-1), .int .i64 2047] 3)).heap[w2.heap.size]? = some (.cells #[.int .i64 a, .int .i64 c, .int .i64 sv, .int .i64 sb, .int .i64 tm, .string d] 35)) := get_allocS BOX.out
    replace HW : Hid (Only g w (w3.alloc (.cells #[.int .i64 (-1), .int .i64 2047] 3))) := HW.out.alloc _
    replace HR : Hid (Rd (0 + 45) (w3.alloc (.cells #[.int .i64 (-1), .int .i64 2047] 3)) g) := rdA HR.out
    refine (one_lit (0 + 45) g w3.heap.size 2 2 [-1, 2047] _ rfl (by omega) (by omega) (by omega) HR.out (by omega) (intsNew rfl _)).mono ?_
    rintro e w4 ⟨y, hy, rfl, ho, hr⟩
    replace RES : Hid (w4.heap[w.heap.size]? = some (.cells #[.int .i64 0, .int .i64 0, .int .i64 0, .int .i64 0, .int .i64 0, .string ⟨#[]⟩] 35)) := get_only ho RES.out (by omega)
    replace BOX : Hid (w4.heap[w2.heap.size]? = some (.cells #[.int .i64 a, .int .i64 c, .int .i64 sv, .int .i64 sb, .int .i64 tm, .string d] 35)) := get_only ho BOX.out (by omega)
    replace HW : Hid (Only g w w4) := HW.out.trans ho
    replace HR : Hid (Rd (0 + 46) w4 g) := hr
    clear ho hr
    have hg4 : g < w4.heap.size := HR.out.lt
    replace hy : -1 ≤ y ∧ y ≤ 2047 := by simp only [List.mem_cons, List.not_mem_nil, or_false] at hy; omega
    obtain ⟨RES_0, RES_1, RES_2, RES_3, RES_4, RES_5⟩ := cells6_of RES.out
    have RES_f : ∀ j, w4.frozen? ⟨w.heap.size, j, none⟩ = false := fun j => frozen_get RES.out
    obtain ⟨BOX_0, BOX_1, BOX_2, BOX_3, BOX_4, BOX_5⟩ := cells6_of BOX.out
    have BOX_f : ∀ j, w4.frozen? ⟨w2.heap.size, j, none⟩ = false := fun j => frozen_get BOX.out
    have hzb : w2.heap.size < w4.heap.size := size_of_get BOX.out
    have hne : ¬ w.heap.size = w2.heap.size := by omega
    have hne' : ¬ w2.heap.size = w.heap.size := by omega
    have s0 : ∀ u, (w4.setCell ⟨w2.heap.size, 0, none⟩ u).cell? ⟨w2.heap.size, 0, none⟩ = some u := fun u => World.cell?_setCell_same _ _ _ BOX_0
    have s1 : ∀ u, (w4.setCell ⟨w2.heap.size, 1, none⟩ u).cell? ⟨w2.heap.size, 1, none⟩ = some u := fun u => World.cell?_setCell_same _ _ _ BOX_1
    have s2 : ∀ u, (w4.setCell ⟨w2.heap.size, 2, none⟩ u).cell? ⟨w2.heap.size, 2, none⟩ = some u := fun u => World.cell?_setCell_same _ _ _ BOX_2
    have s3 : ∀ u, (w4.setCell ⟨w2.heap.size, 3, none⟩ u).cell? ⟨w2.heap.size, 3, none⟩ = some u := fun u => World.cell?_setCell_same _ _ _ BOX_3
    have s4 : ∀ u, (w4.setCell ⟨w2.heap.size, 4, none⟩ u).cell? ⟨w2.heap.size, 4, none⟩ = some u := fun u => World.cell?_setCell_same _ _ _ BOX_4
    have s5 : ∀ u, (w4.setCell ⟨w2.heap.size, 5, none⟩ u).cell? ⟨w2.heap.size, 5, none⟩ = some u := fun u => World.cell?_setCell_same _ _ _ BOX_5
    go_wp2_with fail
    refine bodyPost_ret (v := .agg #[.int .i64 y, .int .i64 c, .int .i64 sv, .int .i64 sb, .int .i64 tm, .string d]) (results_cell_row Tryd.results32 _ _ w.heap.size 35 #[.int .i64 y, .int .i64 c, .int .i64 sv, .int .i64 sb, .int .i64 tm, .string d] (0, 0) _ rfl ?_ Tryd.underlying35 rfl cellsDrp) rfl ⟨_, _, _, _, _, _, by omega, rfl, ?_⟩
    · exact get_set (get_set (get_set (get_set (get_set (get_set (get_set_ne (RES.out) (by omega)) rfl) rfl) rfl) rfl) rfl) rfl
    · exact (onlyS (onlyS (onlyS (onlyS (onlyS (onlyS (onlyS (HW.out) (by omega)) (by omega)) (by omega)) (by omega)) (by omega)) (by omega)) (by omega)).below (by omega) (Nat.le_refl _)
  · go_wp2_with fail
    refine (l1ManyI ⟨#[122]⟩ 61 _ (by decide) (by decide) (by decide)).mono ?_
    rintro e w4 ⟨y, hy, rfl, hb⟩
    replace RES : Hid (w4.heap[w.heap.size]? = some (.cells #[.int .i64 0, .int .i64 0, .int .i64 0, .int .i64 0, .int .i64 0, .string ⟨#[]⟩] 35)) := get_below hb RES.out (size_of_get RES.out)
    replace BOX : Hid (w4.heap[w2.heap.size]? = some (.cells #[.int .i64 a, .int .i64 c, .int .i64 sv, .int .i64 sb, .int .i64 tm, .string d] 35)) := get_below hb BOX.out (size_of_get BOX.out)
    replace HW : Hid (Only g w w4) := HW.out.trans (Only.of_below hb)
    replace HR : Hid (Rd (0 + 45) w4 g) := HR.out.below hb
    clear hb
    have hg4 : g < w4.heap.size := HR.out.lt
    replace hy : y.size ≤ 61 := Nat.le_trans hy (by decide)
    obtain ⟨RES_0, RES_1, RES_2, RES_3, RES_4, RES_5⟩ := cells6_of RES.out
    have RES_f : ∀ j, w4.frozen? ⟨w.heap.size, j, none⟩ = false := fun j => frozen_get RES.out
    obtain ⟨BOX_0, BOX_1, BOX_2, BOX_3, BOX_4, BOX_5⟩ := cells6_of BOX.out
    have BOX_f : ∀ j, w4.frozen? ⟨w2.heap.size, j, none⟩ = false := fun j => frozen_get BOX.out
    have hzb : w2.heap.size < w4.heap.size := size_of_get BOX.out
    have hne : ¬ w.heap.size = w2.heap.size := by omega
    have hne' : ¬ w2.heap.size = w.heap.size := by omega
    have s0 : ∀ u, (w4.setCell ⟨w2.heap.size, 0, none⟩ u).cell? ⟨w2.heap.size, 0, none⟩ = some u := fun u => World.cell?_setCell_same _ _ _ BOX_0
    have s1 : ∀ u, (w4.setCell ⟨w2.heap.size, 1, none⟩ u).cell? ⟨w2.heap.size, 1, none⟩ = some u := fun u => World.cell?_setCell_same _ _ _ BOX_1
    have s2 : ∀ u, (w4.setCell ⟨w2.heap.size, 2, none⟩ u).cell? ⟨w2.heap.size, 2, none⟩ = some u := fun u => World.cell?_setCell_same _ _ _ BOX_2
    have s3 : ∀ u, (w4.setCell ⟨w2.heap.size, 3, none⟩ u).cell? ⟨w2.heap.size, 3, none⟩ = some u := fun u => World.cell?_setCell_same _ _ _ BOX_3
    have s4 : ∀ u, (w4.setCell ⟨w2.heap.size, 4, none⟩ u).cell? ⟨w2.heap.size, 4, none⟩ = some u := fun u => World.cell?_setCell_same _ _ _ BOX_4
    have s5 : ∀ u, (w4.setCell ⟨w2.heap.size, 5, none⟩ u).cell? ⟨w2.heap.size, 5, none⟩ = some u := fun u => World.cell?_setCell_same _ _ _ BOX_5
    go_wp2_with fail
    refine bodyPost_ret (v := .agg #[.int .i64 a, .int .i64 c, .int .i64 sv, .int .i64 sb, .int .i64 tm, .string y]) (results_cell_row Tryd.results32 _ _ w.heap.size 35 #[.int .i64 a, .int .i64 c, .int .i64 sv, .int .i64 sb, .int .i64 tm, .string y] (0, 0) _ rfl ?_ Tryd.underlying35 rfl cellsDrp) rfl ⟨_, _, _, _, _, _, by omega, rfl, ?_⟩
    · exact get_set (get_set (get_set (get_set (get_set (get_set (get_set_ne (RES.out) (by omega)) rfl) rfl) rfl) rfl) rfl) rfl
    · exact (onlyS (onlyS (onlyS (onlyS (onlyS (onlyS (onlyS (HW.out) (by omega)) (by omega)) (by omega)) (by omega)) (by omega)) (by omega)) (by omega)).below (by omega) (Nat.le_refl _)
  · have b0 : ((v : Int) == 0) = false := by rw [beq_eq_false_iff_ne]; omega
    have b1 : ((v : Int) == 1) = false := by rw [beq_eq_false_iff_ne]; omega
    have b2 : ((v : Int) == 2) = false := by rw [beq_eq_false_iff_ne]; omega
    obtain ⟨RES_0, RES_1, RES_2, RES_3, RES_4, RES_5⟩ := cells6_of RES.out
    have RES_f : ∀ j, w3.frozen? ⟨w.heap.size, j, none⟩ = false := fun j => frozen_get RES.out
    obtain ⟨BOX_0, BOX_1, BOX_2, BOX_3, BOX_4, BOX_5⟩ := cells6_of BOX.out
    have BOX_f : ∀ j, w3.frozen? ⟨w2.heap.size, j, none⟩ = false := fun j => frozen_get BOX.out
    have hzb : w2.heap.size < w3.heap.size := size_of_get BOX.out
    have hne : ¬ w.heap.size = w2.heap.size := by omega
    have hne' : ¬ w2.heap.size = w.heap.size := by omega
    go_wp2_with fail
    refine bodyPost_ret (v := .agg #[.int .i64 a, .int .i64 c, .int .i64 sv, .int .i64 sb, .int .i64 tm, .string d]) (results_cell_row Tryd.results32 _ _ w.heap.size 35 #[.int .i64 a, .int .i64 c, .int .i64 sv, .int .i64 sb, .int .i64 tm, .string d] (0, 0) _ rfl ?_ Tryd.underlying35 rfl cellsDrp) rfl ⟨_, _, _, _, _, _, by omega, rfl, ?_⟩
    · exact get_set (get_set (get_set (get_set (get_set (get_set (RES.out) rfl) rfl) rfl) rfl) rfl) rfl
    · exact (onlyS (onlyS (onlyS (onlyS (onlyS (onlyS (HW.out) (by omega)) (by omega)) (by omega)) (by omega)) (by omega)) (by omega)).below (by omega) (Nat.le_refl _)
set_option maxRecDepth 100000 in
set_option maxHeartbeats 1000000 in
theorem DrawRepGet_any (a : Option Addr) (len cap : Nat) (zs : List Int) (w : World) (h : IsRow .u8 w a len cap zs) :
    Calls Tryd.prog 35 #[.slice a len cap] w fun e w' => ∃ s : ByteArray, s.size ≤ 200 ∧ e = .returned (.string s) ∧ Below w.heap.size w w' := by
  have H : Hid (IsRow .u8 w a len cap zs) := h
  clear h
  go_enter Tryd.func35, Tryd.ntmps35
  go_wp2_with fail
  refine (l1Open_any a len cap zs _ H.out).mono ?_
  rintro e w1 ⟨rfl, hb1, hr1⟩
  obtain ⟨g, hgg⟩ : ∃ g, g = w.heap.size := ⟨_, rfl⟩
  rw [← hgg] at hr1 ⊢
  have HW : Hid (Only g w w1) := Only.of_below hb1
  have HR : Hid (Rd (0 + 0) w1 g) := hr1
  have hg1 : g < w1.heap.size := HR.out.lt
  have hgl : w.heap.size ≤ g := by omega
  clear hb1 hr1 H hgg
  go_wp2_with fail
  refine (l15Rep_any (0 + 0) g _ (by omega) HR.out).mono ?_
  rintro e w2 ⟨a, c, sv, sb, tm, d, h1, h2, h3, h4, h5, h6, h7, h8, h9, h10, hd, rfl, ho, hr⟩
  replace HW : Hid (Only g w w2) := HW.out.trans ho
  replace HR : Hid (Rd (0 + 44) w2 g) := hr
  clear ho hr
  have hg2 : g < w2.heap.size := HR.out.lt
  go_wp2_with fail
  refine (l6Rep_some a c sv sb tm d _ h1 h2 h3 h4 h5 h6 h7 h8 h9 h10 hd).mono ?_
  rintro e w3 ⟨S, hS, rfl, hb⟩
  replace HW : Hid (Only g w w3) := HW.out.trans (Only.of_below hb)
  replace HR : Hid (Rd (0 + 44) w3 g) := HR.out.below hb
  clear hb
  have hg3 : g < w3.heap.size := HR.out.lt
  go_wp2_with fail
  refine (pickI (0 + 44) g 4 _ (by omega) (by omega) (by omega) HR.out).mono ?_
  rintro e w4 ⟨v, hv, rfl, ho, hr⟩
  replace HW : Hid (Only g w w4) := HW.out.trans ho
  replace HR : Hid (Rd (0 + 45) w4 g) := hr
  clear ho hr
  have hg4 : g < w4.heap.size := HR.out.lt
  have hcase : v = 0 ∨ v = 1 ∨ 2 ≤ v := by omega
  rcases hcase with rfl | rfl | hge
  · go_wp2_with fail
    refine (l15Turn_any (0 + 45) g S _ (by omega) (by omega) HR.out).mono ?_
    rintro e w5 ⟨u, hu, rfl, ho, hr⟩
    replace HW : Hid (Only g w w5) := HW.out.trans ho
    replace HR : Hid (Rd (0 + 48) w5 g) := hr
    clear ho hr
    have hg5 : g < w5.heap.size := HR.out.lt
    go_wp2_with fail
    first | go_ret | go_ret2
    exact ⟨u, by omega, rfl, HW.out.below (by omega) (Nat.le_refl _)⟩
  · go_wp2_with fail
    refine (pickI (0 + 45) g ((S.size : Int) + 1) _ (by omega) (by omega) (by omega) HR.out).mono ?_
    rintro e w5 ⟨q, hq, rfl, ho, hr⟩
    replace HW : Hid (Only g w w5) := HW.out.trans ho
    replace HR : Hid (Rd (0 + 46) w5 g) := hr
    clear ho hr
    have hg5 : g < w5.heap.size := HR.out.lt
    have hbnd : (S.extract 0 q).size ≤ 200 := by rw [ByteArray.size_extract]; omega
    have hq6 : (q : Int) ≤ S.size := by omega
    go_wp2_with fail
    first | go_ret | go_ret2
    exact ⟨(S.extract 0 q), hbnd, rfl, HW.out.below (by omega) (Nat.le_refl _)⟩
  · have b0 : ((v : Int) == 0) = false := by rw [beq_eq_false_iff_ne]; omega
    have b1 : ((v : Int) == 1) = false := by rw [beq_eq_false_iff_ne]; omega
    go_wp2_with fail
    first | go_ret | go_ret2
    exact ⟨S, by omega, rfl, HW.out.below (by omega) (Nat.le_refl _)⟩
end Go.Proofs.YtccpdadabndleaaDoor
