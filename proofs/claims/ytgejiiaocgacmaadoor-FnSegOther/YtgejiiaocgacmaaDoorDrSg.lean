/- The draws of parts. -/
import Derived.Test.YtgejiiaocgacmaaDoorDrX
import Derived.Test.YtgejiiaocgacmaaDoorDrawY
import Derived.Test.YtgejiiaocgacmaaDoorJn
import Derived.Test.YtgejiiaocgacmaaDoorResX
namespace Go.Proofs.YtgejiiaocgacmaaDoor
open Go.ChangeShapes Go.WideShapes Go.ChangeAt Go.RowKit
set_option linter.unusedVariables false
theorem l1PutI (n : Int) (w : World) (h0 : 0 ≤ n) (h1 : n ≤ 255) : Calls Tryd.prog 71 #[.int .i64 n, .int .i64 1] w fun e w' => ∃ x : ByteArray, x.size = 1 ∧ e = .returned (.string x) ∧ Below w.heap.size w w' :=
  (l1Put_any n 1 w h0 (by omega) (by omega) (by omega)).mono fun e w' ⟨he, hb⟩ => ⟨_, by show (List.toArray _).size = 1; simp [pt], he, hb⟩
set_option maxRecDepth 100000 in
set_option maxHeartbeats 1000000 in
theorem l15Join_any (N g : Nat) (w : World) (hN : N ≤ 400000) (hr : Rd N w g) :
    Calls Tryd.prog 73 #[.pointer (some ⟨g, 0, none⟩)] w fun e w' => ∃ (o : Bool) (d : ByteArray), d.size ≤ 106 ∧ e = .returned (.agg #[.bool o, .string d]) ∧ Only g w w' ∧ Rd (N + 94) w' g := by
  have hg := hr.lt
  have RES : Hid ((w.alloc (.cells #[.bool false, .string ⟨#[]⟩] 25)).heap[w.heap.size]? = some (.cells #[.bool false, .string ⟨#[]⟩] 25)) := get_new rfl
  have HR : Hid (Rd (N + 0) (w.alloc (.cells #[.bool false, .string ⟨#[]⟩] 25)) g) := rdA hr
  have HW : Hid (Only g w (w.alloc (.cells #[.bool false, .string ⟨#[]⟩] 25))) := (Only.refl _ _).alloc _
  clear hr
  go_enter Tryd.func73, Tryd.ntmps73
  go_wp2_with fail
  refine (pickI (N + 0) g 3 _ (by omega) (by omega) (by omega) HR.out).mono ?_
  rintro e w1 ⟨v0, hv0, rfl, ho, hr⟩
  replace RES : Hid (w1.heap[w.heap.size]? = some (.cells #[.bool false, .string ⟨#[]⟩] 25)) := get_only ho RES.out (by omega)
  replace HW : Hid (Only g w w1) := HW.out.trans ho
  replace HR : Hid (Rd (N + 1) w1 g) := hr
  clear ho hr
  have hg1 : g < w1.heap.size := HR.out.lt
  by_cases hz : v0 = 0
  · subst hz
    obtain ⟨RES_0, RES_1⟩ := cells2_of RES.out
    have RES_f : ∀ j, w1.frozen? ⟨w.heap.size, j, none⟩ = false := fun j => frozen_get RES.out
    go_wp2_with fail
    refine bodyPost_ret (v := .agg #[.bool false, .string ⟨#[]⟩]) (results_cell_row Tryd.results73 _ _ w.heap.size 25 #[.bool false, .string ⟨#[]⟩] (0, 0) _ rfl ?_ Tryd.underlying25 rfl cellsJoin) rfl ⟨_, _, by decide, rfl, ?_, ?_⟩
    · exact get_set (get_set (RES.out) rfl) rfl
    · exact onlyS (onlyS (HW.out) (Nat.le_refl _)) (Nat.le_refl _)
    · exact (rdS (rdS (HR.out) hg) hg).mono (by omega)
  have hz2 : ((v0 : Int) == 0) = false := by rw [beq_eq_false_iff_ne]; omega
  go_wp2_with fail
  refine (l15Text_any (N + 1) 30 g _ (by omega) (by omega) HR.out).mono ?_
  rintro e w2 ⟨s, hs, rfl, ho, hr⟩
  replace RES : Hid (w2.heap[w.heap.size]? = some (.cells #[.bool false, .string ⟨#[]⟩] 25)) := get_only ho RES.out (by omega)
  replace HW : Hid (Only g w w2) := HW.out.trans ho
  replace HR : Hid (Rd (N + 92) w2 g) := hr
  clear ho hr
  have hg2 : g < w2.heap.size := HR.out.lt
  go_wp2_with fail
  refine (pickI (N + 92) g 22 _ (by omega) (by omega) (by omega) HR.out).mono ?_
  rintro e w3 ⟨v1, hv1, rfl, ho, hr⟩
  replace RES : Hid (w3.heap[w.heap.size]? = some (.cells #[.bool false, .string ⟨#[]⟩] 25)) := get_only ho RES.out (by omega)
  replace HW : Hid (Only g w w3) := HW.out.trans ho
  replace HR : Hid (Rd (N + 93) w3 g) := hr
  clear ho hr
  have hg3 : g < w3.heap.size := HR.out.lt
  go_wp2_with fail
  refine (l1ManyI ⟨#[122]⟩ (106 - v1) _ (by omega) (by omega) (by decide)).mono ?_
  rintro e w4 ⟨z, hz3, rfl, hb⟩
  replace RES : Hid (w4.heap[w.heap.size]? = some (.cells #[.bool false, .string ⟨#[]⟩] 25)) := get_below hb RES.out (size_of_get RES.out)
  replace HW : Hid (Only g w w4) := HW.out.trans (Only.of_below hb)
  replace HR : Hid (Rd (N + 93) w4 g) := HR.out.below hb
  clear hb
  have hg4 : g < w4.heap.size := HR.out.lt
  replace hz3 : z.size ≤ 106 := Nat.le_trans hz3 (by have : (⟨#[122]⟩ : ByteArray).size = 1 := rfl; rw [this]; omega)
  replace RES : Hid ((w4.alloc (.cells #[.string s, .string z] 9)).heap[w.heap.size]? = some (.cells #[.bool false, .string ⟨#[]⟩] 25)) := get_allocS RES.out
  replace HW : Hid (Only g w (w4.alloc (.cells #[.string s, .string z] 9))) := HW.out.alloc _
  replace HR : Hid (Rd (N + 93) (w4.alloc (.cells #[.string s, .string z] 9)) g) := rdA HR.out
  have STR : Hid ((w4.alloc (.cells #[.string s, .string z] 9)).heap[w4.heap.size]? = some (.cells #[.string s, .string z] 9)) := get_new rfl
  go_wp2_with fail
  refine (pickI (N + 93) g 6 _ (by omega) (by omega) (by omega) HR.out).mono ?_
  rintro e w5 ⟨vi, hvi, rfl, ho, hr⟩
  replace RES : Hid (w5.heap[w.heap.size]? = some (.cells #[.bool false, .string ⟨#[]⟩] 25)) := get_only ho RES.out (by omega)
  replace STR : Hid (w5.heap[w4.heap.size]? = some (.cells #[.string s, .string z] 9)) := get_only ho STR.out (by omega)
  replace HW : Hid (Only g w w5) := HW.out.trans ho
  replace HR : Hid (Rd (N + 94) w5 g) := hr
  clear ho hr
  have hg5 : g < w5.heap.size := HR.out.lt
  have hcase : (vi / 5 = 0) ∨ (vi / 5 = 1) := by omega
  rcases hcase with hc | hc
  · have hci : (vi : Int) / 5 = 0 := by omega
    clear hc
    obtain ⟨RES_0, RES_1⟩ := cells2_of RES.out
    have RES_f : ∀ j, w5.frozen? ⟨w.heap.size, j, none⟩ = false := fun j => frozen_get RES.out
    obtain ⟨STR_0, STR_1⟩ := cells2_of STR.out
    have STR_f : ∀ j, w5.frozen? ⟨w4.heap.size, j, none⟩ = false := fun j => frozen_get STR.out
    go_wp2_with fail
    refine bodyPost_ret (v := .agg #[.bool true, .string s]) (results_cell_row Tryd.results73 _ _ w.heap.size 25 #[.bool true, .string s] (0, 0) _ rfl ?_ Tryd.underlying25 rfl cellsJoin) rfl ⟨_, _, by omega, rfl, ?_, ?_⟩
    · exact get_set (get_set (RES.out) rfl) rfl
    · exact onlyS (onlyS (HW.out) (Nat.le_refl _)) (Nat.le_refl _)
    · exact (rdS (rdS (HR.out) hg) hg).mono (by omega)
  · have hci : (vi : Int) / 5 = 1 := by omega
    clear hc
    obtain ⟨RES_0, RES_1⟩ := cells2_of RES.out
    have RES_f : ∀ j, w5.frozen? ⟨w.heap.size, j, none⟩ = false := fun j => frozen_get RES.out
    obtain ⟨STR_0, STR_1⟩ := cells2_of STR.out
    have STR_f : ∀ j, w5.frozen? ⟨w4.heap.size, j, none⟩ = false := fun j => frozen_get STR.out
    go_wp2_with fail
    refine bodyPost_ret (v := .agg #[.bool true, .string z]) (results_cell_row Tryd.results73 _ _ w.heap.size 25 #[.bool true, .string z] (0, 0) _ rfl ?_ Tryd.underlying25 rfl cellsJoin) rfl ⟨_, _, by omega, rfl, ?_, ?_⟩
    · exact get_set (get_set (RES.out) rfl) rfl
    · exact onlyS (onlyS (HW.out) (Nat.le_refl _)) (Nat.le_refl _)
    · exact (rdS (rdS (HR.out) hg) hg).mono (by omega)
set_option maxRecDepth 100000 in
set_option maxHeartbeats 1000000 in
theorem DrawJoinOk_any (a : Option Addr) (len cap : Nat) (zs : List Int) (w : World) (h : IsRow .u8 w a len cap zs) :
    Calls Tryd.prog 72 #[.slice a len cap] w fun e w' => ∃ (o : Bool) (d : ByteArray), d.size ≤ 107 ∧ e = .returned (.agg #[.bool o, .string d]) ∧ Below w.heap.size w w' := by
  have H : Hid (IsRow .u8 (w.alloc (.cells #[.bool false, .string ⟨#[]⟩] 25)) a len cap zs) := h.keep ((Below.refl _ _).alloc (Nat.le_refl _) _)
  clear h
  go_enter Tryd.func72, Tryd.ntmps72
  go_wp2_with fail
  refine (l1Open_any a len cap zs _ H.out).mono ?_
  rintro e w1 ⟨rfl, hb1, hr1⟩
  simp only [World.size_alloc] at hb1 hr1 ⊢
  obtain ⟨g, hgg⟩ : ∃ g, g = w.heap.size + 1 := ⟨_, rfl⟩
  rw [← hgg] at hr1 ⊢
  have RES : Hid (w1.heap[w.heap.size]? = some (.cells #[.bool false, .string ⟨#[]⟩] 25)) := get_below hb1 (get_new rfl) (by simp)
  have HW : Hid (Only g w w1) := Only.of_below (((Below.refl _ _).alloc (Nat.le_refl _) _).trans (hb1.mono (by omega)))
  have HR : Hid (Rd (0 + 0) w1 g) := hr1
  have hg1 : g < w1.heap.size := HR.out.lt
  have hgl : w.heap.size < g := by omega
  clear hb1 hr1 H hgg
  go_wp2_with fail
  refine (l15Join_any (0 + 0) g _ (by omega) HR.out).mono ?_
  rintro e w2 ⟨o, d, hd, rfl, ho, hr⟩
  replace RES : Hid (w2.heap[w.heap.size]? = some (.cells #[.bool false, .string ⟨#[]⟩] 25)) := get_only ho RES.out (by omega)
  replace HW : Hid (Only g w w2) := HW.out.trans ho
  replace HR : Hid (Rd (0 + 94) w2 g) := hr
  clear ho hr
  have hg2 : g < w2.heap.size := HR.out.lt
  have hz1 : w.heap.size < w2.heap.size := size_of_get RES.out
  replace RES : Hid ((w2.alloc (.cells #[.bool o, .string d] 25)).heap[w.heap.size]? = some (.cells #[.bool false, .string ⟨#[]⟩] 25)) := get_allocS RES.out
  replace HW : Hid (Only g w (w2.alloc (.cells #[.bool o, .string d] 25))) := HW.out.alloc _
  replace HR : Hid (Rd (0 + 94) (w2.alloc (.cells #[.bool o, .string d] 25)) g) := rdA HR.out
  have BOX : Hid ((w2.alloc (.cells #[.bool o, .string d] 25)).heap[w2.heap.size]? = some (.cells #[.bool o, .string d] 25)) := get_new rfl
  go_wp2_with fail
  refine (pickI (0 + 94) g 6 _ (by omega) (by omega) (by omega) HR.out).mono ?_
  rintro e w3 ⟨v, hv, rfl, ho, hr⟩
  replace RES : Hid (w3.heap[w.heap.size]? = some (.cells #[.bool false, .string ⟨#[]⟩] 25)) := get_only ho RES.out (by omega)
  replace BOX : Hid (w3.heap[w2.heap.size]? = some (.cells #[.bool o, .string d] 25)) := get_only ho BOX.out (by omega)
  replace HW : Hid (Only g w w3) := HW.out.trans ho
  replace HR : Hid (Rd (0 + 95) w3 g) := hr
  clear ho hr
  have hg3 : g < w3.heap.size := HR.out.lt
  have hcase : v = 0 ∨ v = 1 ∨ 2 ≤ v := by omega
  rcases hcase with rfl | rfl | hge
  · obtain ⟨RES_0, RES_1⟩ := cells2_of RES.out
    have RES_f : ∀ j, w3.frozen? ⟨w.heap.size, j, none⟩ = false := fun j => frozen_get RES.out
    obtain ⟨BOX_0, BOX_1⟩ := cells2_of BOX.out
    have BOX_f : ∀ j, w3.frozen? ⟨w2.heap.size, j, none⟩ = false := fun j => frozen_get BOX.out
    have hzb : w2.heap.size < w3.heap.size := size_of_get BOX.out
    have hne : ¬ w.heap.size = w2.heap.size := by omega
    have hne' : ¬ w2.heap.size = w.heap.size := by omega
    have s0 : ∀ u, (w3.setCell ⟨w2.heap.size, 0, none⟩ u).cell? ⟨w2.heap.size, 0, none⟩ = some u := fun u => World.cell?_setCell_same _ _ _ BOX_0
    have s1 : ∀ u, (w3.setCell ⟨w2.heap.size, 1, none⟩ u).cell? ⟨w2.heap.size, 1, none⟩ = some u := fun u => World.cell?_setCell_same _ _ _ BOX_1
    go_wp2_with fail
    refine bodyPost_ret (v := .agg #[.bool false, .string d]) (results_cell_row Tryd.results72 _ _ w.heap.size 25 #[.bool false, .string d] (0, 0) _ rfl ?_ Tryd.underlying25 rfl cellsJoin) rfl ⟨_, _, by omega, rfl, ?_⟩
    · exact get_set (get_set (get_set_ne (RES.out) (by omega)) rfl) rfl
    · exact (onlyS (onlyS (onlyS (HW.out) (by omega)) (by omega)) (by omega)).below (by omega) (Nat.le_refl _)
  · go_wp2_with fail
    refine (l1ManyI ⟨#[122]⟩ 107 _ (by decide) (by decide) (by decide)).mono ?_
    rintro e w4 ⟨y, hy, rfl, hb⟩
    replace RES : Hid (w4.heap[w.heap.size]? = some (.cells #[.bool false, .string ⟨#[]⟩] 25)) := get_below hb RES.out (size_of_get RES.out)
    replace BOX : Hid (w4.heap[w2.heap.size]? = some (.cells #[.bool o, .string d] 25)) := get_below hb BOX.out (size_of_get BOX.out)
    replace HW : Hid (Only g w w4) := HW.out.trans (Only.of_below hb)
    replace HR : Hid (Rd (0 + 95) w4 g) := HR.out.below hb
    clear hb
    have hg4 : g < w4.heap.size := HR.out.lt
    replace hy : y.size ≤ 107 := Nat.le_trans hy (by decide)
    obtain ⟨RES_0, RES_1⟩ := cells2_of RES.out
    have RES_f : ∀ j, w4.frozen? ⟨w.heap.size, j, none⟩ = false := fun j => frozen_get RES.out
    obtain ⟨BOX_0, BOX_1⟩ := cells2_of BOX.out
    have BOX_f : ∀ j, w4.frozen? ⟨w2.heap.size, j, none⟩ = false := fun j => frozen_get BOX.out
    have hzb : w2.heap.size < w4.heap.size := size_of_get BOX.out
    have hne : ¬ w.heap.size = w2.heap.size := by omega
    have hne' : ¬ w2.heap.size = w.heap.size := by omega
    have s0 : ∀ u, (w4.setCell ⟨w2.heap.size, 0, none⟩ u).cell? ⟨w2.heap.size, 0, none⟩ = some u := fun u => World.cell?_setCell_same _ _ _ BOX_0
    have s1 : ∀ u, (w4.setCell ⟨w2.heap.size, 1, none⟩ u).cell? ⟨w2.heap.size, 1, none⟩ = some u := fun u => World.cell?_setCell_same _ _ _ BOX_1
    go_wp2_with fail
    refine bodyPost_ret (v := .agg #[.bool o, .string y]) (results_cell_row Tryd.results72 _ _ w.heap.size 25 #[.bool o, .string y] (0, 0) _ rfl ?_ Tryd.underlying25 rfl cellsJoin) rfl ⟨_, _, by omega, rfl, ?_⟩
    · exact get_set (get_set (get_set_ne (RES.out) (by omega)) rfl) rfl
    · exact (onlyS (onlyS (onlyS (HW.out) (by omega)) (by omega)) (by omega)).below (by omega) (Nat.le_refl _)
  · have b0 : ((v : Int) == 0) = false := by rw [beq_eq_false_iff_ne]; omega
    have b1 : ((v : Int) == 1) = false := by rw [beq_eq_false_iff_ne]; omega
    obtain ⟨RES_0, RES_1⟩ := cells2_of RES.out
    have RES_f : ∀ j, w3.frozen? ⟨w.heap.size, j, none⟩ = false := fun j => frozen_get RES.out
    obtain ⟨BOX_0, BOX_1⟩ := cells2_of BOX.out
    have BOX_f : ∀ j, w3.frozen? ⟨w2.heap.size, j, none⟩ = false := fun j => frozen_get BOX.out
    have hzb : w2.heap.size < w3.heap.size := size_of_get BOX.out
    have hne : ¬ w.heap.size = w2.heap.size := by omega
    have hne' : ¬ w2.heap.size = w.heap.size := by omega
    go_wp2_with fail
    refine bodyPost_ret (v := .agg #[.bool o, .string d]) (results_cell_row Tryd.results72 _ _ w.heap.size 25 #[.bool o, .string d] (0, 0) _ rfl ?_ Tryd.underlying25 rfl cellsJoin) rfl ⟨_, _, by omega, rfl, ?_⟩
    · exact get_set (get_set (RES.out) rfl) rfl
    · exact (onlyS (onlyS (HW.out) (by omega)) (by omega)).below (by omega) (Nat.le_refl _)
set_option maxRecDepth 100000 in
set_option maxHeartbeats 1000000 in
theorem DrawSegHear_any (a : Option Addr) (len cap : Nat) (zs : List Int) (w : World) (h : IsRow .u8 w a len cap zs) :
    Calls Tryd.prog 23 #[.slice a len cap] w fun e w' => ∃ (o : Bool) (d p : ByteArray) (via : Int), d.size ≤ 107 ∧ p.size ≤ 200 ∧ 0 ≤ via ∧ via ≤ 62 ∧ e = .returned (.tuple #[.agg #[.bool o, .string d], .string p, .int .i64 via]) ∧ Below w.heap.size w w' := by
  have H : Hid (IsRow .u8 (w.alloc (.cells #[.bool false, .string ⟨#[]⟩] 25)) a len cap zs) := h.keep ((Below.refl _ _).alloc (Nat.le_refl _) _)
  have HROW : Hid (IsRow .u8 w a len cap zs) := h
  clear h
  go_enter Tryd.func23, Tryd.ntmps23
  go_wp2_with fail
  refine (l1Open_any a len cap zs _ H.out).mono ?_
  rintro e w1 ⟨rfl, hb1, hr1⟩
  simp only [World.size_alloc] at hb1 hr1 ⊢
  obtain ⟨g, hgg⟩ : ∃ g, g = w.heap.size + 1 := ⟨_, rfl⟩
  rw [← hgg] at hr1 ⊢
  have RES : Hid (w1.heap[w.heap.size]? = some (.cells #[.bool false, .string ⟨#[]⟩] 25)) := get_below hb1 (get_new rfl) (by simp)
  have HW : Hid (Only g w w1) := Only.of_below (((Below.refl _ _).alloc (Nat.le_refl _) _).trans (hb1.mono (by omega)))
  have HR : Hid (Rd (0 + 0) w1 g) := hr1
  have hg1 : g < w1.heap.size := HR.out.lt
  have hgl : w.heap.size < g := by omega
  clear hb1 hr1 H hgg
  go_wp2_with fail
  refine (pickI (0 + 0) g 8 _ (by omega) (by omega) (by omega) HR.out).mono ?_
  rintro e w2 ⟨v0, hv0, rfl, ho, hr⟩
  replace RES : Hid (w2.heap[w.heap.size]? = some (.cells #[.bool false, .string ⟨#[]⟩] 25)) := get_only ho RES.out (by omega)
  replace HW : Hid (Only g w w2) := HW.out.trans ho
  replace HR : Hid (Rd (0 + 1) w2 g) := hr
  clear ho hr
  have hg2 : g < w2.heap.size := HR.out.lt
  by_cases hz0 : v0 = 0
  · subst hz0
    go_wp2_with fail
    refine (pickI (0 + 1) g 4 _ (by omega) (by omega) (by omega) HR.out).mono ?_
    rintro e w3 ⟨v1, hv1, rfl, ho, hr⟩
    replace RES : Hid (w3.heap[w.heap.size]? = some (.cells #[.bool false, .string ⟨#[]⟩] 25)) := get_only ho RES.out (by omega)
    replace HW : Hid (Only g w w3) := HW.out.trans ho
    replace HR : Hid (Rd (0 + 2) w3 g) := hr
    clear ho hr
    have hg3 : g < w3.heap.size := HR.out.lt
    have hv1i : (v1 : Int) * 64 + 3 ≤ 255 := by omega
    go_wp2_with fail
    refine (l1PutI ((v1 : Int) * 64 + 3) _ (by omega) (by omega)).mono ?_
    rintro e w4 ⟨x, hx, rfl, hb⟩
    replace RES : Hid (w4.heap[w.heap.size]? = some (.cells #[.bool false, .string ⟨#[]⟩] 25)) := get_below hb RES.out (size_of_get RES.out)
    replace HW : Hid (Only g w w4) := HW.out.trans (Only.of_below hb)
    replace HR : Hid (Rd (0 + 2) w4 g) := HR.out.below hb
    clear hb
    have hg4 : g < w4.heap.size := HR.out.lt
    go_wp2_with fail
    refine (l15Text_any (0 + 2) 19 g _ (by omega) (by omega) HR.out).mono ?_
    rintro e w5 ⟨s, hs, rfl, ho, hr⟩
    replace RES : Hid (w5.heap[w.heap.size]? = some (.cells #[.bool false, .string ⟨#[]⟩] 25)) := get_only ho RES.out (by omega)
    replace HW : Hid (Only g w w5) := HW.out.trans ho
    replace HR : Hid (Rd (0 + 60) w5 g) := hr
    clear ho hr
    have hg5 : g < w5.heap.size := HR.out.lt
    have hps : (⟨#[112]⟩ ++ s : ByteArray).size ≤ 20 := by rw [ByteArray.size_append]; have : (⟨#[112]⟩ : ByteArray).size = 1 := rfl; omega
    go_wp2_with fail
    generalize (⟨#[112]⟩ : ByteArray) ++ s = ps at *
    refine (pickI (0 + 60) g 2 _ (by omega) (by omega) (by omega) HR.out).mono ?_
    rintro e w6 ⟨v2, hv2, rfl, ho, hr⟩
    replace RES : Hid (w6.heap[w.heap.size]? = some (.cells #[.bool false, .string ⟨#[]⟩] 25)) := get_only ho RES.out (by omega)
    replace HW : Hid (Only g w w6) := HW.out.trans ho
    replace HR : Hid (Rd (0 + 61) w6 g) := hr
    clear ho hr
    have hg6 : g < w6.heap.size := HR.out.lt
    go_wp2_with fail
    refine (l1ManyI ⟨#[122]⟩ (20 + v2) _ (by omega) (by omega) (by decide)).mono ?_
    rintro e w7 ⟨z, hz, rfl, hb⟩
    replace RES : Hid (w7.heap[w.heap.size]? = some (.cells #[.bool false, .string ⟨#[]⟩] 25)) := get_below hb RES.out (size_of_get RES.out)
    replace HW : Hid (Only g w w7) := HW.out.trans (Only.of_below hb)
    replace HR : Hid (Rd (0 + 61) w7 g) := HR.out.below hb
    clear hb
    have hg7 : g < w7.heap.size := HR.out.lt
    replace hz : z.size ≤ 21 := Nat.le_trans hz (by have : (⟨#[122]⟩ : ByteArray).size = 1 := rfl; rw [this]; omega)
    replace RES : Hid ((w7.alloc (.cells #[.string ps, .string z, .string ⟨#[]⟩] 9)).heap[w.heap.size]? = some (.cells #[.bool false, .string ⟨#[]⟩] 25)) := get_allocS RES.out
    replace HW : Hid (Only g w (w7.alloc (.cells #[.string ps, .string z, .string ⟨#[]⟩] 9))) := HW.out.alloc _
    replace HR : Hid (Rd (0 + 61) (w7.alloc (.cells #[.string ps, .string z, .string ⟨#[]⟩] 9)) g) := rdA HR.out
    have STR : Hid ((w7.alloc (.cells #[.string ps, .string z, .string ⟨#[]⟩] 9)).heap[w7.heap.size]? = some (.cells #[.string ps, .string z, .string ⟨#[]⟩] 9)) := get_new rfl
    go_wp2_with fail
    refine (pickI (0 + 61) g 12 _ (by omega) (by omega) (by omega) HR.out).mono ?_
    rintro e w8 ⟨vi, hvi, rfl, ho, hr⟩
    replace RES : Hid (w8.heap[w.heap.size]? = some (.cells #[.bool false, .string ⟨#[]⟩] 25)) := get_only ho RES.out (by omega)
    replace STR : Hid (w8.heap[w7.heap.size]? = some (.cells #[.string ps, .string z, .string ⟨#[]⟩] 9)) := get_only ho STR.out (by omega)
    replace HW : Hid (Only g w w8) := HW.out.trans ho
    replace HR : Hid (Rd (0 + 62) w8 g) := hr
    clear ho hr
    have hg8 : g < w8.heap.size := HR.out.lt
    have hcase : (vi * 3 / 12 = 0) ∨ (vi * 3 / 12 = 1) ∨ (vi * 3 / 12 = 2) := by omega
    have hemp : (⟨#[]⟩ : ByteArray).size = 0 := rfl
    obtain ⟨q, hq, hIX⟩ : ∃ q : ByteArray, q.size ≤ 21 ∧ w8.cell? ⟨w7.heap.size, vi * 3 / 12, none⟩ = some (.string q) := by
      obtain ⟨STR_0, STR_1, STR_2⟩ := cells3_of STR.out
      rcases hcase with hc | hc | hc <;> rw [hc]
      · exact ⟨_, by omega, STR_0⟩
      · exact ⟨_, by omega, STR_1⟩
      · exact ⟨_, by omega, STR_2⟩
    have hi0 : (0 : Int) ≤ (vi : Int) * 3 / 12 := by omega
    have hi1 : (vi : Int) * 3 / 12 < 3 := by omega
    clear hcase
    go_wp2_with fail
    have hpz : (x ++ q : ByteArray).size ≤ 22 := by rw [ByteArray.size_append]; omega
    generalize x ++ q = p at *
    clear hIX
    refine (pickI (0 + 62) g 20 _ (by omega) (by omega) (by omega) HR.out).mono ?_
    rintro e w9 ⟨v3, hv3, rfl, ho, hr⟩
    replace RES : Hid (w9.heap[w.heap.size]? = some (.cells #[.bool false, .string ⟨#[]⟩] 25)) := get_only ho RES.out (by omega)
    replace STR : Hid (w9.heap[w7.heap.size]? = some (.cells #[.string ps, .string z, .string ⟨#[]⟩] 9)) := get_only ho STR.out (by omega)
    replace HW : Hid (Only g w w9) := HW.out.trans ho
    replace HR : Hid (Rd (0 + 63) w9 g) := hr
    clear ho hr
    have hg9 : g < w9.heap.size := HR.out.lt
    by_cases hz3 : v3 = 0
    · subst hz3
      go_wp2_with fail
      refine (DrawJoinOk_any a len cap zs _ (IsRow.keep HROW.out (HW.out.below (by omega) (Nat.le_refl _)))).mono ?_
      rintro e w10 ⟨o, d, hd, rfl, hb⟩
      replace RES : Hid (w10.heap[w.heap.size]? = some (.cells #[.bool false, .string ⟨#[]⟩] 25)) := get_below hb RES.out (size_of_get RES.out)
      replace STR : Hid (w10.heap[w7.heap.size]? = some (.cells #[.string ps, .string z, .string ⟨#[]⟩] 9)) := get_below hb STR.out (size_of_get STR.out)
      replace HW : Hid (Only g w w10) := HW.out.trans (Only.of_below hb)
      replace HR : Hid (Rd (0 + 63) w10 g) := HR.out.below hb
      clear hb
      have hg10 : g < w10.heap.size := HR.out.lt
      obtain ⟨RES_0, RES_1⟩ := cells2_of RES.out
      have RES_f : ∀ j, w10.frozen? ⟨w.heap.size, j, none⟩ = false := fun j => frozen_get RES.out
      go_wp2_with fail
      refine bodyPost_ret (v := .tuple #[.agg #[.bool o, .string d], .string p, .int .i64 4]) (results_row_tmp2 Tryd.results23 _ _ w.heap.size 25 #[.bool o, .string d] (0, 0) _ rfl ?_ Tryd.underlying25 rfl cellsJoin _ rfl _ rfl) rfl ⟨o, d, p, 4, by omega, by omega, by decide, by decide, rfl, ?_⟩
      · exact get_set (get_set (RES.out) rfl) rfl
      · exact (onlyS (onlyS (HW.out) (by omega)) (by omega)).below (by omega) (Nat.le_refl _)
    · have hz4 : ((v3 : Int) == 0) = false := by rw [beq_eq_false_iff_ne]; omega
      go_wp2_with fail
      refine (l15Join_any (0 + 63) g _ (by omega) HR.out).mono ?_
      rintro e w10 ⟨o, d, hd, rfl, ho, hr⟩
      replace RES : Hid (w10.heap[w.heap.size]? = some (.cells #[.bool false, .string ⟨#[]⟩] 25)) := get_only ho RES.out (by omega)
      replace STR : Hid (w10.heap[w7.heap.size]? = some (.cells #[.string ps, .string z, .string ⟨#[]⟩] 9)) := get_only ho STR.out (by omega)
      replace HW : Hid (Only g w w10) := HW.out.trans ho
      replace HR : Hid (Rd (0 + 157) w10 g) := hr
      clear ho hr
      have hg10 : g < w10.heap.size := HR.out.lt
      obtain ⟨RES_0, RES_1⟩ := cells2_of RES.out
      have RES_f : ∀ j, w10.frozen? ⟨w.heap.size, j, none⟩ = false := fun j => frozen_get RES.out
      go_wp2_with fail
      refine bodyPost_ret (v := .tuple #[.agg #[.bool o, .string d], .string p, .int .i64 4]) (results_row_tmp2 Tryd.results23 _ _ w.heap.size 25 #[.bool o, .string d] (0, 0) _ rfl ?_ Tryd.underlying25 rfl cellsJoin _ rfl _ rfl) rfl ⟨o, d, p, 4, by omega, by omega, by decide, by decide, rfl, ?_⟩
      · exact get_set (get_set (RES.out) rfl) rfl
      · exact (onlyS (onlyS (HW.out) (by omega)) (by omega)).below (by omega) (Nat.le_refl _)
  · have hz2 : ((v0 : Int) == 0) = false := by rw [beq_eq_false_iff_ne]; omega
    go_wp2_with fail
    refine (pickI (0 + 1) g 4 _ (by omega) (by omega) (by omega) HR.out).mono ?_
    rintro e w3 ⟨v1, hv1, rfl, ho, hr⟩
    replace RES : Hid (w3.heap[w.heap.size]? = some (.cells #[.bool false, .string ⟨#[]⟩] 25)) := get_only ho RES.out (by omega)
    replace HW : Hid (Only g w w3) := HW.out.trans ho
    replace HR : Hid (Rd (0 + 2) w3 g) := hr
    clear ho hr
    have hg3 : g < w3.heap.size := HR.out.lt
    have hv1i : (v1 : Int) * 64 + 3 ≤ 255 := by omega
    go_wp2_with fail
    refine (l1PutI ((v1 : Int) * 64 + 3) _ (by omega) (by omega)).mono ?_
    rintro e w4 ⟨x, hx, rfl, hb⟩
    replace RES : Hid (w4.heap[w.heap.size]? = some (.cells #[.bool false, .string ⟨#[]⟩] 25)) := get_below hb RES.out (size_of_get RES.out)
    replace HW : Hid (Only g w w4) := HW.out.trans (Only.of_below hb)
    replace HR : Hid (Rd (0 + 2) w4 g) := HR.out.below hb
    clear hb
    have hg4 : g < w4.heap.size := HR.out.lt
    go_wp2_with fail
    refine (l15Text_any (0 + 2) 19 g _ (by omega) (by omega) HR.out).mono ?_
    rintro e w5 ⟨s, hs, rfl, ho, hr⟩
    replace RES : Hid (w5.heap[w.heap.size]? = some (.cells #[.bool false, .string ⟨#[]⟩] 25)) := get_only ho RES.out (by omega)
    replace HW : Hid (Only g w w5) := HW.out.trans ho
    replace HR : Hid (Rd (0 + 60) w5 g) := hr
    clear ho hr
    have hg5 : g < w5.heap.size := HR.out.lt
    have hps : (⟨#[112]⟩ ++ s : ByteArray).size ≤ 20 := by rw [ByteArray.size_append]; have : (⟨#[112]⟩ : ByteArray).size = 1 := rfl; omega
    go_wp2_with fail
    generalize (⟨#[112]⟩ : ByteArray) ++ s = ps at *
    refine (pickI (0 + 60) g 2 _ (by omega) (by omega) (by omega) HR.out).mono ?_
    rintro e w6 ⟨v2, hv2, rfl, ho, hr⟩
    replace RES : Hid (w6.heap[w.heap.size]? = some (.cells #[.bool false, .string ⟨#[]⟩] 25)) := get_only ho RES.out (by omega)
    replace HW : Hid (Only g w w6) := HW.out.trans ho
    replace HR : Hid (Rd (0 + 61) w6 g) := hr
    clear ho hr
    have hg6 : g < w6.heap.size := HR.out.lt
    go_wp2_with fail
    refine (l1ManyI ⟨#[122]⟩ (20 + v2) _ (by omega) (by omega) (by decide)).mono ?_
    rintro e w7 ⟨z, hz, rfl, hb⟩
    replace RES : Hid (w7.heap[w.heap.size]? = some (.cells #[.bool false, .string ⟨#[]⟩] 25)) := get_below hb RES.out (size_of_get RES.out)
    replace HW : Hid (Only g w w7) := HW.out.trans (Only.of_below hb)
    replace HR : Hid (Rd (0 + 61) w7 g) := HR.out.below hb
    clear hb
    have hg7 : g < w7.heap.size := HR.out.lt
    replace hz : z.size ≤ 21 := Nat.le_trans hz (by have : (⟨#[122]⟩ : ByteArray).size = 1 := rfl; rw [this]; omega)
    replace RES : Hid ((w7.alloc (.cells #[.string ps, .string z, .string ⟨#[]⟩] 9)).heap[w.heap.size]? = some (.cells #[.bool false, .string ⟨#[]⟩] 25)) := get_allocS RES.out
    replace HW : Hid (Only g w (w7.alloc (.cells #[.string ps, .string z, .string ⟨#[]⟩] 9))) := HW.out.alloc _
    replace HR : Hid (Rd (0 + 61) (w7.alloc (.cells #[.string ps, .string z, .string ⟨#[]⟩] 9)) g) := rdA HR.out
    have STR : Hid ((w7.alloc (.cells #[.string ps, .string z, .string ⟨#[]⟩] 9)).heap[w7.heap.size]? = some (.cells #[.string ps, .string z, .string ⟨#[]⟩] 9)) := get_new rfl
    go_wp2_with fail
    refine (pickI (0 + 61) g 12 _ (by omega) (by omega) (by omega) HR.out).mono ?_
    rintro e w8 ⟨vi, hvi, rfl, ho, hr⟩
    replace RES : Hid (w8.heap[w.heap.size]? = some (.cells #[.bool false, .string ⟨#[]⟩] 25)) := get_only ho RES.out (by omega)
    replace STR : Hid (w8.heap[w7.heap.size]? = some (.cells #[.string ps, .string z, .string ⟨#[]⟩] 9)) := get_only ho STR.out (by omega)
    replace HW : Hid (Only g w w8) := HW.out.trans ho
    replace HR : Hid (Rd (0 + 62) w8 g) := hr
    clear ho hr
    have hg8 : g < w8.heap.size := HR.out.lt
    have hcase : (vi * 3 / 12 = 0) ∨ (vi * 3 / 12 = 1) ∨ (vi * 3 / 12 = 2) := by omega
    have hemp : (⟨#[]⟩ : ByteArray).size = 0 := rfl
    obtain ⟨q, hq, hIX⟩ : ∃ q : ByteArray, q.size ≤ 21 ∧ w8.cell? ⟨w7.heap.size, vi * 3 / 12, none⟩ = some (.string q) := by
      obtain ⟨STR_0, STR_1, STR_2⟩ := cells3_of STR.out
      rcases hcase with hc | hc | hc <;> rw [hc]
      · exact ⟨_, by omega, STR_0⟩
      · exact ⟨_, by omega, STR_1⟩
      · exact ⟨_, by omega, STR_2⟩
    have hi0 : (0 : Int) ≤ (vi : Int) * 3 / 12 := by omega
    have hi1 : (vi : Int) * 3 / 12 < 3 := by omega
    clear hcase
    go_wp2_with fail
    have hpz : (x ++ q : ByteArray).size ≤ 22 := by rw [ByteArray.size_append]; omega
    generalize x ++ q = p at *
    clear hIX
    refine (pickI (0 + 62) g 20 _ (by omega) (by omega) (by omega) HR.out).mono ?_
    rintro e w9 ⟨v3, hv3, rfl, ho, hr⟩
    replace RES : Hid (w9.heap[w.heap.size]? = some (.cells #[.bool false, .string ⟨#[]⟩] 25)) := get_only ho RES.out (by omega)
    replace STR : Hid (w9.heap[w7.heap.size]? = some (.cells #[.string ps, .string z, .string ⟨#[]⟩] 9)) := get_only ho STR.out (by omega)
    replace HW : Hid (Only g w w9) := HW.out.trans ho
    replace HR : Hid (Rd (0 + 63) w9 g) := hr
    clear ho hr
    have hg9 : g < w9.heap.size := HR.out.lt
    by_cases hz3 : v3 = 0
    · subst hz3
      go_wp2_with fail
      refine (DrawJoinOk_any a len cap zs _ (IsRow.keep HROW.out (HW.out.below (by omega) (Nat.le_refl _)))).mono ?_
      rintro e w10 ⟨o, d, hd, rfl, hb⟩
      replace RES : Hid (w10.heap[w.heap.size]? = some (.cells #[.bool false, .string ⟨#[]⟩] 25)) := get_below hb RES.out (size_of_get RES.out)
      replace STR : Hid (w10.heap[w7.heap.size]? = some (.cells #[.string ps, .string z, .string ⟨#[]⟩] 9)) := get_below hb STR.out (size_of_get STR.out)
      replace HW : Hid (Only g w w10) := HW.out.trans (Only.of_below hb)
      replace HR : Hid (Rd (0 + 63) w10 g) := HR.out.below hb
      clear hb
      have hg10 : g < w10.heap.size := HR.out.lt
      obtain ⟨RES_0, RES_1⟩ := cells2_of RES.out
      have RES_f : ∀ j, w10.frozen? ⟨w.heap.size, j, none⟩ = false := fun j => frozen_get RES.out
      go_wp2_with fail
      refine bodyPost_ret (v := .tuple #[.agg #[.bool o, .string d], .string p, .int .i64 3]) (results_row_tmp2 Tryd.results23 _ _ w.heap.size 25 #[.bool o, .string d] (0, 0) _ rfl ?_ Tryd.underlying25 rfl cellsJoin _ rfl _ rfl) rfl ⟨o, d, p, 3, by omega, by omega, by decide, by decide, rfl, ?_⟩
      · exact get_set (get_set (RES.out) rfl) rfl
      · exact (onlyS (onlyS (HW.out) (by omega)) (by omega)).below (by omega) (Nat.le_refl _)
    · have hz4 : ((v3 : Int) == 0) = false := by rw [beq_eq_false_iff_ne]; omega
      go_wp2_with fail
      refine (l15Join_any (0 + 63) g _ (by omega) HR.out).mono ?_
      rintro e w10 ⟨o, d, hd, rfl, ho, hr⟩
      replace RES : Hid (w10.heap[w.heap.size]? = some (.cells #[.bool false, .string ⟨#[]⟩] 25)) := get_only ho RES.out (by omega)
      replace STR : Hid (w10.heap[w7.heap.size]? = some (.cells #[.string ps, .string z, .string ⟨#[]⟩] 9)) := get_only ho STR.out (by omega)
      replace HW : Hid (Only g w w10) := HW.out.trans ho
      replace HR : Hid (Rd (0 + 157) w10 g) := hr
      clear ho hr
      have hg10 : g < w10.heap.size := HR.out.lt
      obtain ⟨RES_0, RES_1⟩ := cells2_of RES.out
      have RES_f : ∀ j, w10.frozen? ⟨w.heap.size, j, none⟩ = false := fun j => frozen_get RES.out
      go_wp2_with fail
      refine bodyPost_ret (v := .tuple #[.agg #[.bool o, .string d], .string p, .int .i64 3]) (results_row_tmp2 Tryd.results23 _ _ w.heap.size 25 #[.bool o, .string d] (0, 0) _ rfl ?_ Tryd.underlying25 rfl cellsJoin _ rfl _ rfl) rfl ⟨o, d, p, 3, by omega, by omega, by decide, by decide, rfl, ?_⟩
      · exact get_set (get_set (RES.out) rfl) rfl
      · exact (onlyS (onlyS (HW.out) (by omega)) (by omega)).below (by omega) (Nat.le_refl _)
end Go.Proofs.YtgejiiaocgacmaaDoor
