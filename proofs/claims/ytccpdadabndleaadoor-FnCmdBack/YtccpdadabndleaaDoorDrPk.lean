/- The contract of spec.l15Packet. -/
import Derived.Test.YtccpdadabndleaaDoorDrX
namespace Go.Proofs.YtccpdadabndleaaDoor
open Go.ChangeShapes Go.WideShapes Go.ChangeAt Go.RowKit
set_option linter.unusedVariables false
theorem cellsDpk : (Tryd.prog.info? 23).map (·.size) = some 4 := by kernel_rfl
set_option maxRecDepth 100000 in
set_option maxHeartbeats 1000000 in
theorem l15Packet_any (N g : Nat) (w : World) (hN : N ≤ 400000) (hr : Rd N w g) :
    Calls Tryd.prog 69 #[.pointer (some ⟨g, 0, none⟩)] w fun e w' => ∃ (u : Bool) (a c : Int) (d : ByteArray), 0 ≤ a ∧ a ≤ 2047 ∧ 0 ≤ c ∧ c ≤ 16383 ∧ 1 ≤ d.size ∧ d.size ≤ 100 ∧ e = .returned (.agg #[.bool u, .int .i64 a, .int .i64 c, .string d]) ∧ Only g w w' ∧ Rd (N + 96) w' g := by
  have hg := hr.lt
  have RES : Hid ((w.alloc (.cells #[.bool false, .int .i64 0, .int .i64 0, .string ⟨#[]⟩] 23)).heap[w.heap.size]? = some (.cells #[.bool false, .int .i64 0, .int .i64 0, .string ⟨#[]⟩] 23)) := get_new rfl
  have HR : Hid (Rd (N + 0) (w.alloc (.cells #[.bool false, .int .i64 0, .int .i64 0, .string ⟨#[]⟩] 23)) g) := rdA hr
  have HW : Hid (Only g w (w.alloc (.cells #[.bool false, .int .i64 0, .int .i64 0, .string ⟨#[]⟩] 23))) := (Only.refl _ _).alloc _
  clear hr
  go_enter Tryd.func69, Tryd.ntmps69
  go_wp2_with fail
  refine (pickI (N + 0) g 2 _ (by omega) (by omega) (by omega) HR.out).mono ?_
  rintro e w1 ⟨v0, hv0, rfl, ho, hr⟩
  replace RES : Hid (w1.heap[w.heap.size]? = some (.cells #[.bool false, .int .i64 0, .int .i64 0, .string ⟨#[]⟩] 23)) := get_only ho RES.out (by omega)
  replace HW : Hid (Only g w w1) := HW.out.trans ho
  replace HR : Hid (Rd (N + 1) w1 g) := hr
  clear ho hr
  have hg1 : g < w1.heap.size := HR.out.lt
  go_wp2_with fail
  replace RES : Hid ((w1.alloc (.cells #[.int .i64 0, .int .i64 1, .int .i64 7, .int .i64 2047] 3)).heap[w.heap.size]? = some (.cells #[.bool false, .int .i64 0, .int .i64 0, .string ⟨#[]⟩] 23)) := get_allocS RES.out
  replace HW : Hid (Only g w (w1.alloc (.cells #[.int .i64 0, .int .i64 1, .int .i64 7, .int .i64 2047] 3))) := HW.out.alloc _
  replace HR : Hid (Rd (N + 1) (w1.alloc (.cells #[.int .i64 0, .int .i64 1, .int .i64 7, .int .i64 2047] 3)) g) := rdA HR.out
  refine (one_lit (N + 1) g w1.heap.size 4 4 [0, 1, 7, 2047] _ rfl (by omega) (by omega) (by omega) HR.out (by omega) (intsNew rfl _)).mono ?_
  rintro e w2 ⟨y1, hy1, rfl, ho, hr⟩
  replace RES : Hid (w2.heap[w.heap.size]? = some (.cells #[.bool false, .int .i64 0, .int .i64 0, .string ⟨#[]⟩] 23)) := get_only ho RES.out (by omega)
  replace HW : Hid (Only g w w2) := HW.out.trans ho
  replace HR : Hid (Rd (N + 2) w2 g) := hr
  clear ho hr
  have hg2 : g < w2.heap.size := HR.out.lt
  replace hy1 : 0 ≤ y1 ∧ y1 ≤ 2047 := by simp only [List.mem_cons, List.not_mem_nil, or_false] at hy1; omega
  go_wp2_with fail
  refine (pickI (N + 2) g 256 _ (by omega) (by omega) (by omega) HR.out).mono ?_
  rintro e w3 ⟨v2, hv2, rfl, ho, hr⟩
  replace RES : Hid (w3.heap[w.heap.size]? = some (.cells #[.bool false, .int .i64 0, .int .i64 0, .string ⟨#[]⟩] 23)) := get_only ho RES.out (by omega)
  replace HW : Hid (Only g w w3) := HW.out.trans ho
  replace HR : Hid (Rd (N + 3) w3 g) := hr
  clear ho hr
  have hg3 : g < w3.heap.size := HR.out.lt
  go_wp2_with fail
  replace RES : Hid ((w3.alloc (.cells #[.int .i64 v2, .int .i64 16383, .int .i64 0] 3)).heap[w.heap.size]? = some (.cells #[.bool false, .int .i64 0, .int .i64 0, .string ⟨#[]⟩] 23)) := get_allocS RES.out
  replace HW : Hid (Only g w (w3.alloc (.cells #[.int .i64 v2, .int .i64 16383, .int .i64 0] 3))) := HW.out.alloc _
  replace HR : Hid (Rd (N + 3) (w3.alloc (.cells #[.int .i64 v2, .int .i64 16383, .int .i64 0] 3)) g) := rdA HR.out
  refine (one_lit (N + 3) g w3.heap.size 3 3 [v2, 16383, 0] _ rfl (by omega) (by omega) (by omega) HR.out (by omega) (intsNew rfl _)).mono ?_
  rintro e w4 ⟨y3, hy3, rfl, ho, hr⟩
  replace RES : Hid (w4.heap[w.heap.size]? = some (.cells #[.bool false, .int .i64 0, .int .i64 0, .string ⟨#[]⟩] 23)) := get_only ho RES.out (by omega)
  replace HW : Hid (Only g w w4) := HW.out.trans ho
  replace HR : Hid (Rd (N + 4) w4 g) := hr
  clear ho hr
  have hg4 : g < w4.heap.size := HR.out.lt
  replace hy3 : 0 ≤ y3 ∧ y3 ≤ 16383 := by simp only [List.mem_cons, List.not_mem_nil, or_false] at hy3; omega
  go_wp2_with fail
  refine (l15Text_any (N + 4) 30 g _ (by omega) (by omega) HR.out).mono ?_
  rintro e w5 ⟨s, hs, rfl, ho, hr⟩
  replace RES : Hid (w5.heap[w.heap.size]? = some (.cells #[.bool false, .int .i64 0, .int .i64 0, .string ⟨#[]⟩] 23)) := get_only ho RES.out (by omega)
  replace HW : Hid (Only g w w5) := HW.out.trans ho
  replace HR : Hid (Rd (N + 95) w5 g) := hr
  clear ho hr
  have hg5 : g < w5.heap.size := HR.out.lt
  go_wp2_with fail
  refine (l1ManyE ⟨#[122]⟩ 100 _ (by decide) (by decide) (by decide)).mono ?_
  rintro e w6 ⟨z, hz, rfl, hb⟩
  replace RES : Hid (w6.heap[w.heap.size]? = some (.cells #[.bool false, .int .i64 0, .int .i64 0, .string ⟨#[]⟩] 23)) := get_below hb RES.out (size_of_get RES.out)
  replace HW : Hid (Only g w w6) := HW.out.trans (Only.of_below hb)
  replace HR : Hid (Rd (N + 95) w6 g) := HR.out.below hb
  clear hb
  have hg6 : g < w6.heap.size := HR.out.lt
  replace hz : z.size = 100 := hz.trans (by decide)
  go_wp2_with fail
  replace RES : Hid ((w6.alloc (.cells #[.string (⟨#[100]⟩ ++ s), .string z] 9)).heap[w.heap.size]? = some (.cells #[.bool false, .int .i64 0, .int .i64 0, .string ⟨#[]⟩] 23)) := get_allocS RES.out
  replace HW : Hid (Only g w (w6.alloc (.cells #[.string (⟨#[100]⟩ ++ s), .string z] 9))) := HW.out.alloc _
  replace HR : Hid (Rd (N + 95) (w6.alloc (.cells #[.string (⟨#[100]⟩ ++ s), .string z] 9)) g) := rdA HR.out
  have STR : Hid ((w6.alloc (.cells #[.string (⟨#[100]⟩ ++ s), .string z] 9)).heap[w6.heap.size]? = some (.cells #[.string (⟨#[100]⟩ ++ s), .string z] 9)) := get_new rfl
  refine (pickI (N + 95) g 8 _ (by omega) (by omega) (by omega) HR.out).mono ?_
  rintro e w7 ⟨vi, hvi, rfl, ho, hr⟩
  replace RES : Hid (w7.heap[w.heap.size]? = some (.cells #[.bool false, .int .i64 0, .int .i64 0, .string ⟨#[]⟩] 23)) := get_only ho RES.out (by omega)
  replace STR : Hid (w7.heap[w6.heap.size]? = some (.cells #[.string (⟨#[100]⟩ ++ s), .string z] 9)) := get_only ho STR.out (by omega)
  replace HW : Hid (Only g w w7) := HW.out.trans ho
  replace HR : Hid (Rd (N + 96) w7 g) := hr
  clear ho hr
  have hg7 : g < w7.heap.size := HR.out.lt
  have hsz : (⟨#[100]⟩ ++ s : ByteArray).size ≤ 31 ∧ (z : ByteArray).size ≤ 100 := by
    refine ⟨?_, ?_⟩ <;> first | omega | decide | (rw [ByteArray.size_append]; have : (⟨#[100]⟩ : ByteArray).size = 1 := rfl; omega)
  have hszl : 1 ≤ (⟨#[100]⟩ ++ s : ByteArray).size ∧ 1 ≤ (z : ByteArray).size := by
    refine ⟨?_, ?_⟩ <;> first | omega | decide | (rw [ByteArray.size_append]; have : (⟨#[100]⟩ : ByteArray).size = 1 := rfl; omega)
  obtain ⟨hszl0, hszl1⟩ := hszl
  obtain ⟨hsz0, hsz1⟩ := hsz
  have hcase : (vi / 7 = 0) ∨ (vi / 7 = 1) := by omega
  rcases hcase with hc | hc
  · have hci : (vi : Int) / 7 = 0 := by omega
    clear hc
    obtain ⟨RES_0, RES_1, RES_2, RES_3⟩ := cells4_of RES.out
    have RES_f : ∀ j, w7.frozen? ⟨w.heap.size, j, none⟩ = false := fun j => frozen_get RES.out
    obtain ⟨STR_0, STR_1⟩ := cells2_of STR.out
    have STR_f : ∀ j, w7.frozen? ⟨w6.heap.size, j, none⟩ = false := fun j => frozen_get STR.out
    go_wp2_with fail
    refine bodyPost_ret (v := .agg #[.bool ((v0 : Int) == 0), .int .i64 y1, .int .i64 y3, .string (⟨#[100]⟩ ++ s)]) (results_cell_row Tryd.results69 _ _ w.heap.size 23 #[.bool ((v0 : Int) == 0), .int .i64 y1, .int .i64 y3, .string (⟨#[100]⟩ ++ s)] (0, 0) _ rfl ?_ Tryd.underlying23 rfl cellsDpk) rfl ⟨_, _, _, _, hy1.1, hy1.2, hy3.1, hy3.2, hszl0, by omega, rfl, ?_, ?_⟩
    · exact get_set (get_set (get_set (get_set (RES.out) rfl) rfl) rfl) rfl
    · exact onlyS (onlyS (onlyS (onlyS (HW.out) (Nat.le_refl _)) (Nat.le_refl _)) (Nat.le_refl _)) (Nat.le_refl _)
    · exact rdS (rdS (rdS (rdS (HR.out) hg) hg) hg) hg
  · have hci : (vi : Int) / 7 = 1 := by omega
    clear hc
    obtain ⟨RES_0, RES_1, RES_2, RES_3⟩ := cells4_of RES.out
    have RES_f : ∀ j, w7.frozen? ⟨w.heap.size, j, none⟩ = false := fun j => frozen_get RES.out
    obtain ⟨STR_0, STR_1⟩ := cells2_of STR.out
    have STR_f : ∀ j, w7.frozen? ⟨w6.heap.size, j, none⟩ = false := fun j => frozen_get STR.out
    go_wp2_with fail
    refine bodyPost_ret (v := .agg #[.bool ((v0 : Int) == 0), .int .i64 y1, .int .i64 y3, .string (z)]) (results_cell_row Tryd.results69 _ _ w.heap.size 23 #[.bool ((v0 : Int) == 0), .int .i64 y1, .int .i64 y3, .string (z)] (0, 0) _ rfl ?_ Tryd.underlying23 rfl cellsDpk) rfl ⟨_, _, _, _, hy1.1, hy1.2, hy3.1, hy3.2, hszl1, by omega, rfl, ?_, ?_⟩
    · exact get_set (get_set (get_set (get_set (RES.out) rfl) rfl) rfl) rfl
    · exact onlyS (onlyS (onlyS (onlyS (HW.out) (Nat.le_refl _)) (Nat.le_refl _)) (Nat.le_refl _)) (Nat.le_refl _)
    · exact rdS (rdS (rdS (rdS (HR.out) hg) hg) hg) hg
end Go.Proofs.YtccpdadabndleaaDoor
