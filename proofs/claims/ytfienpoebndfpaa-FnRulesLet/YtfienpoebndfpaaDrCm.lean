/- The contract of spec.l15Cmd. -/
import Derived.Test.YtfienpoebndfpaaDrX
namespace Go.Proofs.Ytfienpoebndfpaa
open Go.ChangeShapes Go.WideShapes Go.ChangeAt Go.RowKit
set_option linter.unusedVariables false
theorem cellsDcm : (Try.prog.info? 52).map (·.size) = some 6 := by kernel_rfl
set_option maxRecDepth 100000 in
set_option maxHeartbeats 1000000 in
theorem l15Cmd_any (N g : Nat) (w : World) (hN : N ≤ 400000) (hr : Rd N w g) :
    Calls Try.prog 77 #[.pointer (some ⟨g, 0, none⟩)] w fun e w' => ∃ (a c so sv sb : Int) (d : ByteArray), 0 ≤ a ∧ a ≤ 2047 ∧ 0 ≤ c ∧ c ≤ 16383 ∧ 0 ≤ so ∧ so ≤ 255 ∧ 0 ≤ sv ∧ sv ≤ 255 ∧ 0 ≤ sb ∧ sb ≤ 255 ∧ d.size ≤ 60 ∧ e = .returned (.agg #[.int .i64 a, .int .i64 c, .int .i64 so, .int .i64 sv, .int .i64 sb, .string d]) ∧ Only g w w' ∧ Rd (N + 44) w' g := by
  have hg := hr.lt
  have RES : Hid ((w.alloc (.cells #[.int .i64 0, .int .i64 0, .int .i64 0, .int .i64 0, .int .i64 0, .string ⟨#[]⟩] 52)).heap[w.heap.size]? = some (.cells #[.int .i64 0, .int .i64 0, .int .i64 0, .int .i64 0, .int .i64 0, .string ⟨#[]⟩] 52)) := get_new rfl
  have HR : Hid (Rd (N + 0) (w.alloc (.cells #[.int .i64 0, .int .i64 0, .int .i64 0, .int .i64 0, .int .i64 0, .string ⟨#[]⟩] 52)) g) := rdA hr
  have HW : Hid (Only g w (w.alloc (.cells #[.int .i64 0, .int .i64 0, .int .i64 0, .int .i64 0, .int .i64 0, .string ⟨#[]⟩] 52))) := (Only.refl _ _).alloc _
  clear hr
  go_enter Try.func77, Try.ntmps77
  go_wp2_with fail
  replace RES : Hid (((w.alloc (.cells #[.int .i64 0, .int .i64 0, .int .i64 0, .int .i64 0, .int .i64 0, .string ⟨#[]⟩] 52)).alloc (.cells #[.int .i64 0, .int .i64 1, .int .i64 7] 3)).heap[w.heap.size]? = some (.cells #[.int .i64 0, .int .i64 0, .int .i64 0, .int .i64 0, .int .i64 0, .string ⟨#[]⟩] 52)) := get_allocS RES.out
  replace HW : Hid (Only g w ((w.alloc (.cells #[.int .i64 0, .int .i64 0, .int .i64 0, .int .i64 0, .int .i64 0, .string ⟨#[]⟩] 52)).alloc (.cells #[.int .i64 0, .int .i64 1, .int .i64 7] 3))) := HW.out.alloc _
  replace HR : Hid (Rd (N + 0) ((w.alloc (.cells #[.int .i64 0, .int .i64 0, .int .i64 0, .int .i64 0, .int .i64 0, .string ⟨#[]⟩] 52)).alloc (.cells #[.int .i64 0, .int .i64 1, .int .i64 7] 3)) g) := rdA HR.out
  refine (one_lit (N + 0) g (w.heap.size + 1) 3 3 [0, 1, 7] _ rfl (by omega) (by omega) (by omega) HR.out (by omega) (intsNew (by simp) _)).mono ?_
  rintro e w1 ⟨y0, hy0, rfl, ho, hr⟩
  replace RES : Hid (w1.heap[w.heap.size]? = some (.cells #[.int .i64 0, .int .i64 0, .int .i64 0, .int .i64 0, .int .i64 0, .string ⟨#[]⟩] 52)) := get_only ho RES.out (by omega)
  replace HW : Hid (Only g w w1) := HW.out.trans ho
  replace HR : Hid (Rd (N + 1) w1 g) := hr
  clear ho hr
  have hg1 : g < w1.heap.size := HR.out.lt
  replace hy0 : 0 ≤ y0 ∧ y0 ≤ 7 := by simp only [List.mem_cons, List.not_mem_nil, or_false] at hy0; omega
  go_wp2_with fail
  refine (pickI (N + 1) g 256 _ (by omega) (by omega) (by omega) HR.out).mono ?_
  rintro e w2 ⟨v1, hv1, rfl, ho, hr⟩
  replace RES : Hid (w2.heap[w.heap.size]? = some (.cells #[.int .i64 0, .int .i64 0, .int .i64 0, .int .i64 0, .int .i64 0, .string ⟨#[]⟩] 52)) := get_only ho RES.out (by omega)
  replace HW : Hid (Only g w w2) := HW.out.trans ho
  replace HR : Hid (Rd (N + 2) w2 g) := hr
  clear ho hr
  have hg2 : g < w2.heap.size := HR.out.lt
  go_wp2_with fail
  replace RES : Hid ((w2.alloc (.cells #[.int .i64 v1, .int .i64 16383] 3)).heap[w.heap.size]? = some (.cells #[.int .i64 0, .int .i64 0, .int .i64 0, .int .i64 0, .int .i64 0, .string ⟨#[]⟩] 52)) := get_allocS RES.out
  replace HW : Hid (Only g w (w2.alloc (.cells #[.int .i64 v1, .int .i64 16383] 3))) := HW.out.alloc _
  replace HR : Hid (Rd (N + 2) (w2.alloc (.cells #[.int .i64 v1, .int .i64 16383] 3)) g) := rdA HR.out
  refine (one_lit (N + 2) g w2.heap.size 2 2 [v1, 16383] _ rfl (by omega) (by omega) (by omega) HR.out (by omega) (intsNew rfl _)).mono ?_
  rintro e w3 ⟨y1, hy1, rfl, ho, hr⟩
  replace RES : Hid (w3.heap[w.heap.size]? = some (.cells #[.int .i64 0, .int .i64 0, .int .i64 0, .int .i64 0, .int .i64 0, .string ⟨#[]⟩] 52)) := get_only ho RES.out (by omega)
  replace HW : Hid (Only g w w3) := HW.out.trans ho
  replace HR : Hid (Rd (N + 3) w3 g) := hr
  clear ho hr
  have hg3 : g < w3.heap.size := HR.out.lt
  replace hy1 : 0 ≤ y1 ∧ y1 ≤ 16383 := by simp only [List.mem_cons, List.not_mem_nil, or_false] at hy1; omega
  go_wp2_with fail
  replace RES : Hid ((w3.alloc (.cells #[.int .i64 1, .int .i64 2, .int .i64 255] 3)).heap[w.heap.size]? = some (.cells #[.int .i64 0, .int .i64 0, .int .i64 0, .int .i64 0, .int .i64 0, .string ⟨#[]⟩] 52)) := get_allocS RES.out
  replace HW : Hid (Only g w (w3.alloc (.cells #[.int .i64 1, .int .i64 2, .int .i64 255] 3))) := HW.out.alloc _
  replace HR : Hid (Rd (N + 3) (w3.alloc (.cells #[.int .i64 1, .int .i64 2, .int .i64 255] 3)) g) := rdA HR.out
  refine (one_lit (N + 3) g w3.heap.size 3 3 [1, 2, 255] _ rfl (by omega) (by omega) (by omega) HR.out (by omega) (intsNew rfl _)).mono ?_
  rintro e w4 ⟨y2, hy2, rfl, ho, hr⟩
  replace RES : Hid (w4.heap[w.heap.size]? = some (.cells #[.int .i64 0, .int .i64 0, .int .i64 0, .int .i64 0, .int .i64 0, .string ⟨#[]⟩] 52)) := get_only ho RES.out (by omega)
  replace HW : Hid (Only g w w4) := HW.out.trans ho
  replace HR : Hid (Rd (N + 4) w4 g) := hr
  clear ho hr
  have hg4 : g < w4.heap.size := HR.out.lt
  replace hy2 : 1 ≤ y2 ∧ y2 ≤ 255 := by simp only [List.mem_cons, List.not_mem_nil, or_false] at hy2; omega
  go_wp2_with fail
  replace RES : Hid ((w4.alloc (.cells #[.int .i64 8, .int .i64 11, .int .i64 17, .int .i64 0, .int .i64 255] 3)).heap[w.heap.size]? = some (.cells #[.int .i64 0, .int .i64 0, .int .i64 0, .int .i64 0, .int .i64 0, .string ⟨#[]⟩] 52)) := get_allocS RES.out
  replace HW : Hid (Only g w (w4.alloc (.cells #[.int .i64 8, .int .i64 11, .int .i64 17, .int .i64 0, .int .i64 255] 3))) := HW.out.alloc _
  replace HR : Hid (Rd (N + 4) (w4.alloc (.cells #[.int .i64 8, .int .i64 11, .int .i64 17, .int .i64 0, .int .i64 255] 3)) g) := rdA HR.out
  refine (one_lit (N + 4) g w4.heap.size 5 5 [8, 11, 17, 0, 255] _ rfl (by omega) (by omega) (by omega) HR.out (by omega) (intsNew rfl _)).mono ?_
  rintro e w5 ⟨y3, hy3, rfl, ho, hr⟩
  replace RES : Hid (w5.heap[w.heap.size]? = some (.cells #[.int .i64 0, .int .i64 0, .int .i64 0, .int .i64 0, .int .i64 0, .string ⟨#[]⟩] 52)) := get_only ho RES.out (by omega)
  replace HW : Hid (Only g w w5) := HW.out.trans ho
  replace HR : Hid (Rd (N + 5) w5 g) := hr
  clear ho hr
  have hg5 : g < w5.heap.size := HR.out.lt
  replace hy3 : 0 ≤ y3 ∧ y3 ≤ 255 := by simp only [List.mem_cons, List.not_mem_nil, or_false] at hy3; omega
  go_wp2_with fail
  refine (pickI (N + 5) g 6 _ (by omega) (by omega) (by omega) HR.out).mono ?_
  rintro e w6 ⟨v4, hv4, rfl, ho, hr⟩
  replace RES : Hid (w6.heap[w.heap.size]? = some (.cells #[.int .i64 0, .int .i64 0, .int .i64 0, .int .i64 0, .int .i64 0, .string ⟨#[]⟩] 52)) := get_only ho RES.out (by omega)
  replace HW : Hid (Only g w w6) := HW.out.trans ho
  replace HR : Hid (Rd (N + 6) w6 g) := hr
  clear ho hr
  have hg6 : g < w6.heap.size := HR.out.lt
  go_wp2_with fail
  refine (l15Text_any (N + 6) 12 g _ (by omega) (by omega) HR.out).mono ?_
  rintro e w7 ⟨s, hs, rfl, ho, hr⟩
  replace RES : Hid (w7.heap[w.heap.size]? = some (.cells #[.int .i64 0, .int .i64 0, .int .i64 0, .int .i64 0, .int .i64 0, .string ⟨#[]⟩] 52)) := get_only ho RES.out (by omega)
  replace HW : Hid (Only g w w7) := HW.out.trans ho
  replace HR : Hid (Rd (N + 43) w7 g) := hr
  clear ho hr
  have hg7 : g < w7.heap.size := HR.out.lt
  go_wp2_with fail
  refine (l1ManyI ⟨#[122]⟩ 60 _ (by decide) (by decide) (by decide)).mono ?_
  rintro e w8 ⟨z, hz, rfl, hb⟩
  replace RES : Hid (w8.heap[w.heap.size]? = some (.cells #[.int .i64 0, .int .i64 0, .int .i64 0, .int .i64 0, .int .i64 0, .string ⟨#[]⟩] 52)) := get_below hb RES.out (size_of_get RES.out)
  replace HW : Hid (Only g w w8) := HW.out.trans (Only.of_below hb)
  replace HR : Hid (Rd (N + 43) w8 g) := HR.out.below hb
  clear hb
  have hg8 : g < w8.heap.size := HR.out.lt
  replace hz : z.size ≤ 60 := Nat.le_trans hz (by decide)
  go_wp2_with fail
  replace RES : Hid ((w8.alloc (.cells #[.string s, .string z, .string ⟨#[0, 7]⟩] 9)).heap[w.heap.size]? = some (.cells #[.int .i64 0, .int .i64 0, .int .i64 0, .int .i64 0, .int .i64 0, .string ⟨#[]⟩] 52)) := get_allocS RES.out
  replace HW : Hid (Only g w (w8.alloc (.cells #[.string s, .string z, .string ⟨#[0, 7]⟩] 9))) := HW.out.alloc _
  replace HR : Hid (Rd (N + 43) (w8.alloc (.cells #[.string s, .string z, .string ⟨#[0, 7]⟩] 9)) g) := rdA HR.out
  have STR : Hid ((w8.alloc (.cells #[.string s, .string z, .string ⟨#[0, 7]⟩] 9)).heap[w8.heap.size]? = some (.cells #[.string s, .string z, .string ⟨#[0, 7]⟩] 9)) := get_new rfl
  refine (pickI (N + 43) g 3 _ (by omega) (by omega) (by omega) HR.out).mono ?_
  rintro e w9 ⟨vi, hvi, rfl, ho, hr⟩
  replace RES : Hid (w9.heap[w.heap.size]? = some (.cells #[.int .i64 0, .int .i64 0, .int .i64 0, .int .i64 0, .int .i64 0, .string ⟨#[]⟩] 52)) := get_only ho RES.out (by omega)
  replace STR : Hid (w9.heap[w8.heap.size]? = some (.cells #[.string s, .string z, .string ⟨#[0, 7]⟩] 9)) := get_only ho STR.out (by omega)
  replace HW : Hid (Only g w w9) := HW.out.trans ho
  replace HR : Hid (Rd (N + 44) w9 g) := hr
  clear ho hr
  have hg9 : g < w9.heap.size := HR.out.lt
  have hsz : (s : ByteArray).size ≤ 12 ∧ (z : ByteArray).size ≤ 60 ∧ (⟨#[0, 7]⟩ : ByteArray).size ≤ 2 := by
    refine ⟨?_, ?_, ?_⟩ <;> first | omega | decide | (rw [ByteArray.size_append]; have : (⟨#[100]⟩ : ByteArray).size = 1 := rfl; omega)
  obtain ⟨hsz0, hsz1, hsz2⟩ := hsz
  have hcase : (vi / 1 = 0) ∨ (vi / 1 = 1) ∨ (vi / 1 = 2) := by omega
  rcases hcase with hc | hc | hc
  · have hcv : vi = 0 := by omega
    subst hcv
    clear hc
    obtain ⟨RES_0, RES_1, RES_2, RES_3, RES_4, RES_5⟩ := cells6_of RES.out
    have RES_f : ∀ j, w9.frozen? ⟨w.heap.size, j, none⟩ = false := fun j => frozen_get RES.out
    obtain ⟨STR_0, STR_1, STR_2⟩ := cells3_of STR.out
    have STR_f : ∀ j, w9.frozen? ⟨w8.heap.size, j, none⟩ = false := fun j => frozen_get STR.out
    go_wp2_with fail
    refine bodyPost_ret (v := .agg #[.int .i64 y0, .int .i64 y1, .int .i64 y2, .int .i64 y3, .int .i64 v4, .string (s)]) (results_cell_row Try.results77 _ _ w.heap.size 52 #[.int .i64 y0, .int .i64 y1, .int .i64 y2, .int .i64 y3, .int .i64 v4, .string (s)] (0, 0) _ rfl ?_ Try.underlying52 rfl cellsDcm) rfl ⟨_, _, _, _, _, _, by omega, by omega, by omega, by omega, by omega, by omega, by omega, by omega, by omega, by omega, by omega, rfl, ?_, ?_⟩
    · exact get_set (get_set (get_set (get_set (get_set (get_set (RES.out) rfl) rfl) rfl) rfl) rfl) rfl
    · exact onlyS (onlyS (onlyS (onlyS (onlyS (onlyS (HW.out) (Nat.le_refl _)) (Nat.le_refl _)) (Nat.le_refl _)) (Nat.le_refl _)) (Nat.le_refl _)) (Nat.le_refl _)
    · exact rdS (rdS (rdS (rdS (rdS (rdS (HR.out) hg) hg) hg) hg) hg) hg
  · have hcv : vi = 1 := by omega
    subst hcv
    clear hc
    obtain ⟨RES_0, RES_1, RES_2, RES_3, RES_4, RES_5⟩ := cells6_of RES.out
    have RES_f : ∀ j, w9.frozen? ⟨w.heap.size, j, none⟩ = false := fun j => frozen_get RES.out
    obtain ⟨STR_0, STR_1, STR_2⟩ := cells3_of STR.out
    have STR_f : ∀ j, w9.frozen? ⟨w8.heap.size, j, none⟩ = false := fun j => frozen_get STR.out
    go_wp2_with fail
    refine bodyPost_ret (v := .agg #[.int .i64 y0, .int .i64 y1, .int .i64 y2, .int .i64 y3, .int .i64 v4, .string (z)]) (results_cell_row Try.results77 _ _ w.heap.size 52 #[.int .i64 y0, .int .i64 y1, .int .i64 y2, .int .i64 y3, .int .i64 v4, .string (z)] (0, 0) _ rfl ?_ Try.underlying52 rfl cellsDcm) rfl ⟨_, _, _, _, _, _, by omega, by omega, by omega, by omega, by omega, by omega, by omega, by omega, by omega, by omega, by omega, rfl, ?_, ?_⟩
    · exact get_set (get_set (get_set (get_set (get_set (get_set (RES.out) rfl) rfl) rfl) rfl) rfl) rfl
    · exact onlyS (onlyS (onlyS (onlyS (onlyS (onlyS (HW.out) (Nat.le_refl _)) (Nat.le_refl _)) (Nat.le_refl _)) (Nat.le_refl _)) (Nat.le_refl _)) (Nat.le_refl _)
    · exact rdS (rdS (rdS (rdS (rdS (rdS (HR.out) hg) hg) hg) hg) hg) hg
  · have hcv : vi = 2 := by omega
    subst hcv
    clear hc
    obtain ⟨RES_0, RES_1, RES_2, RES_3, RES_4, RES_5⟩ := cells6_of RES.out
    have RES_f : ∀ j, w9.frozen? ⟨w.heap.size, j, none⟩ = false := fun j => frozen_get RES.out
    obtain ⟨STR_0, STR_1, STR_2⟩ := cells3_of STR.out
    have STR_f : ∀ j, w9.frozen? ⟨w8.heap.size, j, none⟩ = false := fun j => frozen_get STR.out
    go_wp2_with fail
    refine bodyPost_ret (v := .agg #[.int .i64 y0, .int .i64 y1, .int .i64 y2, .int .i64 y3, .int .i64 v4, .string (⟨#[0, 7]⟩)]) (results_cell_row Try.results77 _ _ w.heap.size 52 #[.int .i64 y0, .int .i64 y1, .int .i64 y2, .int .i64 y3, .int .i64 v4, .string (⟨#[0, 7]⟩)] (0, 0) _ rfl ?_ Try.underlying52 rfl cellsDcm) rfl ⟨_, _, _, _, _, _, by omega, by omega, by omega, by omega, by omega, by omega, by omega, by omega, by omega, by omega, by omega, rfl, ?_, ?_⟩
    · exact get_set (get_set (get_set (get_set (get_set (get_set (RES.out) rfl) rfl) rfl) rfl) rfl) rfl
    · exact onlyS (onlyS (onlyS (onlyS (onlyS (onlyS (HW.out) (Nat.le_refl _)) (Nat.le_refl _)) (Nat.le_refl _)) (Nat.le_refl _)) (Nat.le_refl _)) (Nat.le_refl _)
    · exact rdS (rdS (rdS (rdS (rdS (rdS (HR.out) hg) hg) hg) hg) hg) hg
end Go.Proofs.Ytfienpoebndfpaa
