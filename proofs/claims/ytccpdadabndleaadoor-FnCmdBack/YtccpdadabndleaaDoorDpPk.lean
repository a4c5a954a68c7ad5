/- The draws of packets. -/
import Derived.Test.YtccpdadabndleaaDoorDrPk
import Derived.Test.YtccpdadabndleaaDoorDrawY
import Derived.Test.YtccpdadabndleaaDoorPkQ
import Derived.Test.YtccpdadabndleaaDoorPgP
namespace Go.Proofs.YtccpdadabndleaaDoor
open Go.ChangeShapes Go.WideShapes Go.ChangeAt Go.RowKit
set_option linter.unusedVariables false
theorem l6Put_any (u : Bool) (a c : Int) (d : ByteArray) (w : World) (ha0 : 0 ≤ a) (ha1 : a ≤ 2047) (hc0 : 0 ≤ c) (hc1 : c ≤ 16383) (hs0 : 1 ≤ d.size) (hs1 : d.size ≤ 100) :
    Calls Tryd.prog 67 #[.agg #[.bool u, .int .i64 a, .int .i64 c, .string d]] w fun e w' => e = .returned (.string (pkW u a c d)) ∧ Below w.heap.size w w' := by
  cases u
  · exact l6Put_false a c d w (by unfold maxLen; omega) ha0 ha1 hc0 hc1 hs0 hs1
  · exact l6Put_true a c d w (by unfold maxLen; omega) ha0 ha1 hc0 hc1 hs0 hs1
theorem l6Put_some (u : Bool) (a c : Int) (d : ByteArray) (w : World) (ha0 : 0 ≤ a) (ha1 : a ≤ 2047) (hc0 : 0 ≤ c) (hc1 : c ≤ 16383) (hs0 : 1 ≤ d.size) (hs1 : d.size ≤ 100) :
    Calls Tryd.prog 67 #[.agg #[.bool u, .int .i64 a, .int .i64 c, .string d]] w fun e w' => ∃ p : ByteArray, p.size = d.size + 6 ∧ e = .returned (.string p) ∧ Below w.heap.size w w' := by
  have hk : pkOk a c d = true := by simp only [pkOk, inB, Bool.and_eq_true, decide_eq_true_eq]; omega
  have hz := pkPut_size (u := u) hk
  rw [pkPut_yes hk] at hz
  exact (l6Put_any u a c d w ha0 ha1 hc0 hc1 hs0 hs1).mono fun e w' ⟨h1, h2⟩ => ⟨_, hz, h1, h2⟩
set_option maxRecDepth 100000 in
set_option maxHeartbeats 1000000 in
theorem l15AnyPacket_any (N g : Nat) (w : World) (hN : N ≤ 300000) (hr : Rd N w g) :
    Calls Tryd.prog 61 #[.pointer (some ⟨g, 0, none⟩)] w fun e w' => ∃ (u : Bool) (a c : Int) (d : ByteArray), d.size ≤ 101 ∧ e = .returned (.agg #[.bool u, .int .i64 a, .int .i64 c, .string d]) ∧ Only g w w' ∧ Rd (N + 98) w' g := by
  have hg := hr.lt
  have RES : Hid ((w.alloc (.cells #[.bool false, .int .i64 0, .int .i64 0, .string ⟨#[]⟩] 23)).heap[w.heap.size]? = some (.cells #[.bool false, .int .i64 0, .int .i64 0, .string ⟨#[]⟩] 23)) := get_new rfl
  have HR : Hid (Rd (N + 0) (w.alloc (.cells #[.bool false, .int .i64 0, .int .i64 0, .string ⟨#[]⟩] 23)) g) := rdA hr
  have HW : Hid (Only g w (w.alloc (.cells #[.bool false, .int .i64 0, .int .i64 0, .string ⟨#[]⟩] 23))) := (Only.refl _ _).alloc _
  clear hr
  go_enter Tryd.func61, Tryd.ntmps61
  go_wp2_with fail
  refine (l15Packet_any (N + 0) g _ (by omega) HR.out).mono ?_
  rintro e w1 ⟨u, a, c, d, ha0, ha1, hc0, hc1, hd0, hd1, rfl, ho, hr⟩
  replace RES : Hid (w1.heap[w.heap.size]? = some (.cells #[.bool false, .int .i64 0, .int .i64 0, .string ⟨#[]⟩] 23)) := get_only ho RES.out (by omega)
  replace HW : Hid (Only g w w1) := HW.out.trans ho
  replace HR : Hid (Rd (N + 96) w1 g) := hr
  clear ho hr
  have hg1 : g < w1.heap.size := HR.out.lt
  have hz1 : w.heap.size < w1.heap.size := size_of_get RES.out
  replace RES : Hid ((w1.alloc (.cells #[.bool u, .int .i64 a, .int .i64 c, .string d] 23)).heap[w.heap.size]? = some (.cells #[.bool false, .int .i64 0, .int .i64 0, .string ⟨#[]⟩] 23)) := get_allocS RES.out
  replace HW : Hid (Only g w (w1.alloc (.cells #[.bool u, .int .i64 a, .int .i64 c, .string d] 23))) := HW.out.alloc _
  replace HR : Hid (Rd (N + 96) (w1.alloc (.cells #[.bool u, .int .i64 a, .int .i64 c, .string d] 23)) g) := rdA HR.out
  have BOX : Hid ((w1.alloc (.cells #[.bool u, .int .i64 a, .int .i64 c, .string d] 23)).heap[w1.heap.size]? = some (.cells #[.bool u, .int .i64 a, .int .i64 c, .string d] 23)) := get_new rfl
  go_wp2_with fail
  refine (pickI (N + 96) g 16 _ (by omega) (by omega) (by omega) HR.out).mono ?_
  rintro e w2 ⟨v, hv, rfl, ho, hr⟩
  replace RES : Hid (w2.heap[w.heap.size]? = some (.cells #[.bool false, .int .i64 0, .int .i64 0, .string ⟨#[]⟩] 23)) := get_only ho RES.out (by omega)
  replace BOX : Hid (w2.heap[w1.heap.size]? = some (.cells #[.bool u, .int .i64 a, .int .i64 c, .string d] 23)) := get_only ho BOX.out (by omega)
  replace HW : Hid (Only g w w2) := HW.out.trans ho
  replace HR : Hid (Rd (N + 97) w2 g) := hr
  clear ho hr
  have hg2 : g < w2.heap.size := HR.out.lt
  have hcase : v = 0 ∨ v = 1 ∨ v = 2 ∨ 3 ≤ v := by omega
  rcases hcase with rfl | rfl | rfl | hge
  · go_wp2_with fail
    replace RES : Hid ((w2.alloc (.cells #[.int .i64 (-1), .int .i64 2048] 3)).heap[w.heap.size]? = some (.cells #[.bool false, .int .i64 0, .int .i64 0, .string ⟨#[]⟩] 23)) := get_allocS RES.out
    replace BOX : Hid ((w2.alloc (.cells #[.int .i64 (-1), .int .i64 2048] 3)).heap[w1.heap.size]? = some (.cells #[.bool u, .int .i64 a, .int .i64 c, .string d] 23)) := get_allocS BOX.out
    replace HW : Hid (Only g w (w2.alloc (.cells #[.int .i64 (-1), .int .i64 2048] 3))) := HW.out.alloc _
    replace HR : Hid (Rd (N + 97) (w2.alloc (.cells #[.int .i64 (-1), .int .i64 2048] 3)) g) := rdA HR.out
    refine (one_lit (N + 97) g w2.heap.size 2 2 [-1, 2048] _ rfl (by omega) (by omega) (by omega) HR.out (by omega) (intsNew rfl _)).mono ?_
    rintro e w3 ⟨y, hy, rfl, ho, hr⟩
    replace RES : Hid (w3.heap[w.heap.size]? = some (.cells #[.bool false, .int .i64 0, .int .i64 0, .string ⟨#[]⟩] 23)) := get_only ho RES.out (by omega)
    replace BOX : Hid (w3.heap[w1.heap.size]? = some (.cells #[.bool u, .int .i64 a, .int .i64 c, .string d] 23)) := get_only ho BOX.out (by omega)
    replace HW : Hid (Only g w w3) := HW.out.trans ho
    replace HR : Hid (Rd (N + 98) w3 g) := hr
    clear ho hr
    have hg3 : g < w3.heap.size := HR.out.lt
    replace hy : -1 ≤ y ∧ y ≤ 2048 := by simp only [List.mem_cons, List.not_mem_nil, or_false] at hy; omega
    obtain ⟨RES_0, RES_1, RES_2, RES_3⟩ := cells4_of RES.out
    have RES_f : ∀ j, w3.frozen? ⟨w.heap.size, j, none⟩ = false := fun j => frozen_get RES.out
    obtain ⟨BOX_0, BOX_1, BOX_2, BOX_3⟩ := cells4_of BOX.out
    have BOX_f : ∀ j, w3.frozen? ⟨w1.heap.size, j, none⟩ = false := fun j => frozen_get BOX.out
    have hzb : w1.heap.size < w3.heap.size := size_of_get BOX.out
    have hne : ¬ w.heap.size = w1.heap.size := by omega
    have hne' : ¬ w1.heap.size = w.heap.size := by omega
    have s0 : ∀ u, (w3.setCell ⟨w1.heap.size, 0, none⟩ u).cell? ⟨w1.heap.size, 0, none⟩ = some u := fun u => World.cell?_setCell_same _ _ _ BOX_0
    have s1 : ∀ u, (w3.setCell ⟨w1.heap.size, 1, none⟩ u).cell? ⟨w1.heap.size, 1, none⟩ = some u := fun u => World.cell?_setCell_same _ _ _ BOX_1
    have s2 : ∀ u, (w3.setCell ⟨w1.heap.size, 2, none⟩ u).cell? ⟨w1.heap.size, 2, none⟩ = some u := fun u => World.cell?_setCell_same _ _ _ BOX_2
    have s3 : ∀ u, (w3.setCell ⟨w1.heap.size, 3, none⟩ u).cell? ⟨w1.heap.size, 3, none⟩ = some u := fun u => World.cell?_setCell_same _ _ _ BOX_3
    go_wp2_with fail
    refine bodyPost_ret (v := .agg #[.bool u, .int .i64 y, .int .i64 c, .string d]) (results_cell_row Tryd.results61 _ _ w.heap.size 23 #[.bool u, .int .i64 y, .int .i64 c, .string d] (0, 0) _ rfl ?_ Tryd.underlying23 rfl cellsDpk) rfl ⟨_, _, _, _, by omega, rfl, ?_, ?_⟩
    · exact get_set (get_set (get_set (get_set (get_set_ne (RES.out) (by omega)) rfl) rfl) rfl) rfl
    · exact onlyS (onlyS (onlyS (onlyS (onlyS (HW.out) (by omega)) (by omega)) (by omega)) (by omega)) (by omega)
    · exact (rdS (rdS (rdS (rdS (rdS (HR.out) (by omega)) (by omega)) (by omega)) (by omega)) (by omega)).mono (by omega)
  · go_wp2_with fail
    replace RES : Hid ((w2.alloc (.cells #[.int .i64 (-1), .int .i64 16384] 3)).heap[w.heap.size]? = some (.cells #[.bool false, .int .i64 0, .int .i64 0, .string ⟨#[]⟩] 23)) := get_allocS RES.out
    replace BOX : Hid ((w2.alloc (.cells #[.int .i64 (-1), .int .i64 16384] 3)).heap[w1.heap.size]? = some (.cells #[.bool u, .int .i64 a, .int .i64 c, .string d] 23)) := get_allocS BOX.out
    replace HW : Hid (Only g w (w2.alloc (.cells #[.int .i64 (-1), .int .i64 16384] 3))) := HW.out.alloc _
    replace HR : Hid (Rd (N + 97) (w2.alloc (.cells #[.int .i64 (-1), .int .i64 16384] 3)) g) := rdA HR.out
    refine (one_lit (N + 97) g w2.heap.size 2 2 [-1, 16384] _ rfl (by omega) (by omega) (by omega) HR.out (by omega) (intsNew rfl _)).mono ?_
    rintro e w3 ⟨y, hy, rfl, ho, hr⟩
    replace RES : Hid (w3.heap[w.heap.size]? = some (.cells #[.bool false, .int .i64 0, .int .i64 0, .string ⟨#[]⟩] 23)) := get_only ho RES.out (by omega)
    replace BOX : Hid (w3.heap[w1.heap.size]? = some (.cells #[.bool u, .int .i64 a, .int .i64 c, .string d] 23)) := get_only ho BOX.out (by omega)
    replace HW : Hid (Only g w w3) := HW.out.trans ho
    replace HR : Hid (Rd (N + 98) w3 g) := hr
    clear ho hr
    have hg3 : g < w3.heap.size := HR.out.lt
    replace hy : -1 ≤ y ∧ y ≤ 16384 := by simp only [List.mem_cons, List.not_mem_nil, or_false] at hy; omega
    obtain ⟨RES_0, RES_1, RES_2, RES_3⟩ := cells4_of RES.out
    have RES_f : ∀ j, w3.frozen? ⟨w.heap.size, j, none⟩ = false := fun j => frozen_get RES.out
    obtain ⟨BOX_0, BOX_1, BOX_2, BOX_3⟩ := cells4_of BOX.out
    have BOX_f : ∀ j, w3.frozen? ⟨w1.heap.size, j, none⟩ = false := fun j => frozen_get BOX.out
    have hzb : w1.heap.size < w3.heap.size := size_of_get BOX.out
    have hne : ¬ w.heap.size = w1.heap.size := by omega
    have hne' : ¬ w1.heap.size = w.heap.size := by omega
    have s0 : ∀ u, (w3.setCell ⟨w1.heap.size, 0, none⟩ u).cell? ⟨w1.heap.size, 0, none⟩ = some u := fun u => World.cell?_setCell_same _ _ _ BOX_0
    have s1 : ∀ u, (w3.setCell ⟨w1.heap.size, 1, none⟩ u).cell? ⟨w1.heap.size, 1, none⟩ = some u := fun u => World.cell?_setCell_same _ _ _ BOX_1
    have s2 : ∀ u, (w3.setCell ⟨w1.heap.size, 2, none⟩ u).cell? ⟨w1.heap.size, 2, none⟩ = some u := fun u => World.cell?_setCell_same _ _ _ BOX_2
    have s3 : ∀ u, (w3.setCell ⟨w1.heap.size, 3, none⟩ u).cell? ⟨w1.heap.size, 3, none⟩ = some u := fun u => World.cell?_setCell_same _ _ _ BOX_3
    go_wp2_with fail
    refine bodyPost_ret (v := .agg #[.bool u, .int .i64 a, .int .i64 y, .string d]) (results_cell_row Tryd.results61 _ _ w.heap.size 23 #[.bool u, .int .i64 a, .int .i64 y, .string d] (0, 0) _ rfl ?_ Tryd.underlying23 rfl cellsDpk) rfl ⟨_, _, _, _, by omega, rfl, ?_, ?_⟩
    · exact get_set (get_set (get_set (get_set (get_set_ne (RES.out) (by omega)) rfl) rfl) rfl) rfl
    · exact onlyS (onlyS (onlyS (onlyS (onlyS (HW.out) (by omega)) (by omega)) (by omega)) (by omega)) (by omega)
    · exact (rdS (rdS (rdS (rdS (rdS (HR.out) (by omega)) (by omega)) (by omega)) (by omega)) (by omega)).mono (by omega)
  · go_wp2_with fail
    refine (l1ManyI ⟨#[122]⟩ 101 _ (by decide) (by decide) (by decide)).mono ?_
    rintro e w3 ⟨z, hz, rfl, hb⟩
    replace RES : Hid (w3.heap[w.heap.size]? = some (.cells #[.bool false, .int .i64 0, .int .i64 0, .string ⟨#[]⟩] 23)) := get_below hb RES.out (size_of_get RES.out)
    replace BOX : Hid (w3.heap[w1.heap.size]? = some (.cells #[.bool u, .int .i64 a, .int .i64 c, .string d] 23)) := get_below hb BOX.out (size_of_get BOX.out)
    replace HW : Hid (Only g w w3) := HW.out.trans (Only.of_below hb)
    replace HR : Hid (Rd (N + 97) w3 g) := HR.out.below hb
    clear hb
    have hg3 : g < w3.heap.size := HR.out.lt
    replace hz : z.size ≤ 101 := Nat.le_trans hz (by decide)
    go_wp2_with fail
    replace RES : Hid ((w3.alloc (.cells #[.string ⟨#[]⟩, .string z] 9)).heap[w.heap.size]? = some (.cells #[.bool false, .int .i64 0, .int .i64 0, .string ⟨#[]⟩] 23)) := get_allocS RES.out
    replace BOX : Hid ((w3.alloc (.cells #[.string ⟨#[]⟩, .string z] 9)).heap[w1.heap.size]? = some (.cells #[.bool u, .int .i64 a, .int .i64 c, .string d] 23)) := get_allocS BOX.out
    replace HW : Hid (Only g w (w3.alloc (.cells #[.string ⟨#[]⟩, .string z] 9))) := HW.out.alloc _
    replace HR : Hid (Rd (N + 97) (w3.alloc (.cells #[.string ⟨#[]⟩, .string z] 9)) g) := rdA HR.out
    refine (of_lit (N + 97) g w3.heap.size 2 2 [⟨#[]⟩, z] _ rfl (by omega) (by omega) (by omega) HR.out (by omega) (Strs.new _)).mono ?_
    rintro e w4 ⟨y, hy, rfl, ho, hr⟩
    replace RES : Hid (w4.heap[w.heap.size]? = some (.cells #[.bool false, .int .i64 0, .int .i64 0, .string ⟨#[]⟩] 23)) := get_only ho RES.out (by omega)
    replace BOX : Hid (w4.heap[w1.heap.size]? = some (.cells #[.bool u, .int .i64 a, .int .i64 c, .string d] 23)) := get_only ho BOX.out (by omega)
    replace HW : Hid (Only g w w4) := HW.out.trans ho
    replace HR : Hid (Rd (N + 98) w4 g) := hr
    clear ho hr
    have hg4 : g < w4.heap.size := HR.out.lt
    replace hy : y.size ≤ 101 := by
      simp only [List.mem_cons, List.not_mem_nil, or_false] at hy
      rcases hy with rfl | rfl
      · first | omega | decide
      · first | omega | decide
    obtain ⟨RES_0, RES_1, RES_2, RES_3⟩ := cells4_of RES.out
    have RES_f : ∀ j, w4.frozen? ⟨w.heap.size, j, none⟩ = false := fun j => frozen_get RES.out
    obtain ⟨BOX_0, BOX_1, BOX_2, BOX_3⟩ := cells4_of BOX.out
    have BOX_f : ∀ j, w4.frozen? ⟨w1.heap.size, j, none⟩ = false := fun j => frozen_get BOX.out
    have hzb : w1.heap.size < w4.heap.size := size_of_get BOX.out
    have hne : ¬ w.heap.size = w1.heap.size := by omega
    have hne' : ¬ w1.heap.size = w.heap.size := by omega
    have s0 : ∀ u, (w4.setCell ⟨w1.heap.size, 0, none⟩ u).cell? ⟨w1.heap.size, 0, none⟩ = some u := fun u => World.cell?_setCell_same _ _ _ BOX_0
    have s1 : ∀ u, (w4.setCell ⟨w1.heap.size, 1, none⟩ u).cell? ⟨w1.heap.size, 1, none⟩ = some u := fun u => World.cell?_setCell_same _ _ _ BOX_1
    have s2 : ∀ u, (w4.setCell ⟨w1.heap.size, 2, none⟩ u).cell? ⟨w1.heap.size, 2, none⟩ = some u := fun u => World.cell?_setCell_same _ _ _ BOX_2
    have s3 : ∀ u, (w4.setCell ⟨w1.heap.size, 3, none⟩ u).cell? ⟨w1.heap.size, 3, none⟩ = some u := fun u => World.cell?_setCell_same _ _ _ BOX_3
    go_wp2_with fail
    refine bodyPost_ret (v := .agg #[.bool u, .int .i64 a, .int .i64 c, .string y]) (results_cell_row Tryd.results61 _ _ w.heap.size 23 #[.bool u, .int .i64 a, .int .i64 c, .string y] (0, 0) _ rfl ?_ Tryd.underlying23 rfl cellsDpk) rfl ⟨_, _, _, _, by omega, rfl, ?_, ?_⟩
    · exact get_set (get_set (get_set (get_set (get_set_ne (RES.out) (by omega)) rfl) rfl) rfl) rfl
    · exact onlyS (onlyS (onlyS (onlyS (onlyS (HW.out) (by omega)) (by omega)) (by omega)) (by omega)) (by omega)
    · exact (rdS (rdS (rdS (rdS (rdS (HR.out) (by omega)) (by omega)) (by omega)) (by omega)) (by omega)).mono (by omega)
  · have b0 : ((v : Int) == 0) = false := by rw [beq_eq_false_iff_ne]; omega
    have b1 : ((v : Int) == 1) = false := by rw [beq_eq_false_iff_ne]; omega
    have b2 : ((v : Int) == 2) = false := by rw [beq_eq_false_iff_ne]; omega
    obtain ⟨RES_0, RES_1, RES_2, RES_3⟩ := cells4_of RES.out
    have RES_f : ∀ j, w2.frozen? ⟨w.heap.size, j, none⟩ = false := fun j => frozen_get RES.out
    obtain ⟨BOX_0, BOX_1, BOX_2, BOX_3⟩ := cells4_of BOX.out
    have BOX_f : ∀ j, w2.frozen? ⟨w1.heap.size, j, none⟩ = false := fun j => frozen_get BOX.out
    have hzb : w1.heap.size < w2.heap.size := size_of_get BOX.out
    have hne : ¬ w.heap.size = w1.heap.size := by omega
    have hne' : ¬ w1.heap.size = w.heap.size := by omega
    go_wp2_with fail
    refine bodyPost_ret (v := .agg #[.bool u, .int .i64 a, .int .i64 c, .string d]) (results_cell_row Tryd.results61 _ _ w.heap.size 23 #[.bool u, .int .i64 a, .int .i64 c, .string d] (0, 0) _ rfl ?_ Tryd.underlying23 rfl cellsDpk) rfl ⟨_, _, _, _, by omega, rfl, ?_, ?_⟩
    · exact get_set (get_set (get_set (get_set (RES.out) rfl) rfl) rfl) rfl
    · exact onlyS (onlyS (onlyS (onlyS (HW.out) (by omega)) (by omega)) (by omega)) (by omega)
    · exact (rdS (rdS (rdS (rdS (HR.out) (by omega)) (by omega)) (by omega)) (by omega)).mono (by omega)
set_option maxRecDepth 100000 in
set_option maxHeartbeats 1000000 in
theorem DrawPacketPut_any (a : Option Addr) (len cap : Nat) (zs : List Int) (w : World) (h : IsRow .u8 w a len cap zs) :
    Calls Tryd.prog 24 #[.slice a len cap] w fun e w' => ∃ (u : Bool) (a c : Int) (d : ByteArray), d.size ≤ 101 ∧ e = .returned (.agg #[.bool u, .int .i64 a, .int .i64 c, .string d]) ∧ Below w.heap.size w w' := by
  have H : Hid (IsRow .u8 (w.alloc (.cells #[.bool false, .int .i64 0, .int .i64 0, .string ⟨#[]⟩] 23)) a len cap zs) := h.keep ((Below.refl _ _).alloc (Nat.le_refl _) _)
  clear h
  go_enter Tryd.func24, Tryd.ntmps24
  go_wp2_with fail
  refine (l1Open_any a len cap zs _ H.out).mono ?_
  rintro e w1 ⟨rfl, hb1, hr1⟩
  simp only [World.size_alloc] at hb1 hr1 ⊢
  obtain ⟨g, hgg⟩ : ∃ g, g = w.heap.size + 1 := ⟨_, rfl⟩
  rw [← hgg] at hr1 ⊢
  have RES : Hid (w1.heap[w.heap.size]? = some (.cells #[.bool false, .int .i64 0, .int .i64 0, .string ⟨#[]⟩] 23)) := get_below hb1 (get_new rfl) (by simp)
  have HW : Hid (Only g w w1) := Only.of_below (((Below.refl _ _).alloc (Nat.le_refl _) _).trans (hb1.mono (by omega)))
  have HR : Hid (Rd (0 + 0) w1 g) := hr1
  have hg1 : g < w1.heap.size := HR.out.lt
  have hgl : w.heap.size < g := by omega
  clear hb1 hr1 H hgg
  go_wp2_with fail
  refine (l15AnyPacket_any (0 + 0) g _ (by omega) HR.out).mono ?_
  rintro e w2 ⟨u, a, c, d, hd, rfl, ho, hr⟩
  replace RES : Hid (w2.heap[w.heap.size]? = some (.cells #[.bool false, .int .i64 0, .int .i64 0, .string ⟨#[]⟩] 23)) := get_only ho RES.out (by omega)
  replace HW : Hid (Only g w w2) := HW.out.trans ho
  replace HR : Hid (Rd (0 + 98) w2 g) := hr
  clear ho hr
  have hg2 : g < w2.heap.size := HR.out.lt
  obtain ⟨RES_0, RES_1, RES_2, RES_3⟩ := cells4_of RES.out
  have RES_f : ∀ j, w2.frozen? ⟨w.heap.size, j, none⟩ = false := fun j => frozen_get RES.out
  go_wp2_with fail
  refine bodyPost_ret (v := .agg #[.bool u, .int .i64 a, .int .i64 c, .string d]) (results_cell_row Tryd.results24 _ _ w.heap.size 23 #[.bool u, .int .i64 a, .int .i64 c, .string d] (0, 0) _ rfl ?_ Tryd.underlying23 rfl cellsDpk) rfl ⟨_, _, _, _, hd, rfl, ?_⟩
  · exact get_set (get_set (get_set (get_set (RES.out) rfl) rfl) rfl) rfl
  · exact (onlyS (onlyS (onlyS (onlyS (HW.out) (by omega)) (by omega)) (by omega)) (by omega)).below (by omega) (Nat.le_refl _)
set_option maxRecDepth 100000 in
set_option maxHeartbeats 1000000 in
theorem DrawPacketGet_any (a : Option Addr) (len cap : Nat) (zs : List Int) (w : World) (h : IsRow .u8 w a len cap zs) :
    Calls Tryd.prog 27 #[.slice a len cap] w fun e w' => ∃ (s : ByteArray) (i : Int), s.size ≤ 200 ∧ e = .returned (.tuple #[.string s, .int .i64 i]) ∧ Below w.heap.size w w' := by
  have H : Hid (IsRow .u8 w a len cap zs) := h
  clear h
  go_enter Tryd.func27, Tryd.ntmps27
  go_wp2_with fail
  refine (l1Open_any a len cap zs _ H.out).mono ?_
  rintro e w1 ⟨rfl, hb1, hr1⟩
  obtain ⟨g, hgg⟩ : ∃ g, g = w.heap.size := ⟨_, rfl⟩
  rw [← hgg] at hr1 ⊢
  have HW : Hid (Only g w w1) := Only.of_below hb1
  have HR : Hid (Rd (0 + 0) w1 g) := hr1
  have hg1 : g < w1.heap.size := HR.out.lt
  have hgl : w.heap.size ≤ g := by omega
  clear hb1 hr1 H hgg
  go_wp2_with fail
  refine (l15Text_any (0 + 0) 5 g _ (by omega) (by omega) HR.out).mono ?_
  rintro e w2 ⟨t0, ht0, rfl, ho, hr⟩
  replace HW : Hid (Only g w w2) := HW.out.trans ho
  replace HR : Hid (Rd (0 + 16) w2 g) := hr
  clear ho hr
  have hg2 : g < w2.heap.size := HR.out.lt
  go_wp2_with fail
  refine (l15Packet_any (0 + 16) g _ (by omega) HR.out).mono ?_
  rintro e w3 ⟨u, a, c, d, ha0, ha1, hc0, hc1, hd0, hd1, rfl, ho, hr⟩
  replace HW : Hid (Only g w w3) := HW.out.trans ho
  replace HR : Hid (Rd (0 + 112) w3 g) := hr
  clear ho hr
  have hg3 : g < w3.heap.size := HR.out.lt
  go_wp2_with fail
  refine (l6Put_some u a c d _ ha0 ha1 hc0 hc1 hd0 hd1).mono ?_
  rintro e w4 ⟨p, hp, rfl, hb⟩
  replace HW : Hid (Only g w w4) := HW.out.trans (Only.of_below hb)
  replace HR : Hid (Rd (0 + 112) w4 g) := HR.out.below hb
  clear hb
  have hg4 : g < w4.heap.size := HR.out.lt
  have hS1 : (t0 ++ p : ByteArray).size ≤ 111 := by rw [ByteArray.size_append]; omega
  replace hp : p.size ≤ 106 := by omega
  clear ha0 ha1 hc0 hc1 hd0 hd1
  go_wp2_with fail
  generalize t0 ++ p = tp at *
  refine (l15Text_any (0 + 112) 5 g _ (by omega) (by omega) HR.out).mono ?_
  rintro e w5 ⟨t1, ht1, rfl, ho, hr⟩
  replace HW : Hid (Only g w w5) := HW.out.trans ho
  replace HR : Hid (Rd (0 + 128) w5 g) := hr
  clear ho hr
  have hg5 : g < w5.heap.size := HR.out.lt
  have hS : (tp ++ t1 : ByteArray).size ≤ 116 := by rw [ByteArray.size_append]; omega
  go_wp2_with fail
  generalize tp ++ t1 = S at *
  refine (pickI (0 + 128) g 6 _ (by omega) (by omega) (by omega) HR.out).mono ?_
  rintro e w6 ⟨v, hv, rfl, ho, hr⟩
  replace HW : Hid (Only g w w6) := HW.out.trans ho
  replace HR : Hid (Rd (0 + 129) w6 g) := hr
  clear ho hr
  have hg6 : g < w6.heap.size := HR.out.lt
  have hcase : v = 0 ∨ v = 1 ∨ v = 2 ∨ 3 ≤ v := by omega
  rcases hcase with rfl | rfl | rfl | hge
  · go_wp2_with fail
    refine (l15Turn_any (0 + 129) g S _ (by omega) (by omega) HR.out).mono ?_
    rintro e w7 ⟨u, hu, rfl, ho, hr⟩
    replace HW : Hid (Only g w w7) := HW.out.trans ho
    replace HR : Hid (Rd (0 + 132) w7 g) := hr
    clear ho hr
    have hg7 : g < w7.heap.size := HR.out.lt
    go_wp2_with fail
    first | go_ret | go_ret2
    exact ⟨u, _, by omega, rfl, HW.out.below (by omega) (Nat.le_refl _)⟩
  · go_wp2_with fail
    refine (pickI (0 + 129) g ((S.size : Int) + 2) _ (by omega) (by omega) (by omega) HR.out).mono ?_
    rintro e w7 ⟨q, hq, rfl, ho, hr⟩
    replace HW : Hid (Only g w w7) := HW.out.trans ho
    replace HR : Hid (Rd (0 + 130) w7 g) := hr
    clear ho hr
    have hg7 : g < w7.heap.size := HR.out.lt
    go_wp2_with fail
    first | go_ret | go_ret2
    exact ⟨S, _, by omega, rfl, HW.out.below (by omega) (Nat.le_refl _)⟩
  · go_wp2_with fail
    refine (pickI (0 + 129) g ((S.size : Int) + 1) _ (by omega) (by omega) (by omega) HR.out).mono ?_
    rintro e w7 ⟨q, hq, rfl, ho, hr⟩
    replace HW : Hid (Only g w w7) := HW.out.trans ho
    replace HR : Hid (Rd (0 + 130) w7 g) := hr
    clear ho hr
    have hg7 : g < w7.heap.size := HR.out.lt
    have hbnd : (S.extract 0 q).size ≤ 200 := by rw [ByteArray.size_extract]; omega
    have hq6 : (q : Int) ≤ S.size := by omega
    go_wp2_with fail
    first | go_ret | go_ret2
    exact ⟨(S.extract 0 q), _, hbnd, rfl, HW.out.below (by omega) (Nat.le_refl _)⟩
  · have b0 : ((v : Int) == 0) = false := by rw [beq_eq_false_iff_ne]; omega
    have b1 : ((v : Int) == 1) = false := by rw [beq_eq_false_iff_ne]; omega
    have b2 : ((v : Int) == 2) = false := by rw [beq_eq_false_iff_ne]; omega
    go_wp2_with fail
    first | go_ret | go_ret2
    exact ⟨S, _, by omega, rfl, HW.out.below (by omega) (Nat.le_refl _)⟩
end Go.Proofs.YtccpdadabndleaaDoor
