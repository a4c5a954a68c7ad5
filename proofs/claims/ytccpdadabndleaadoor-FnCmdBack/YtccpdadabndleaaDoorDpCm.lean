/- The draws of commands. -/
import Derived.Test.YtccpdadabndleaaDoorDrCm
import Derived.Test.YtccpdadabndleaaDoorDrawY
import Derived.Test.YtccpdadabndleaaDoorCmQ
import Derived.Test.YtccpdadabndleaaDoorDpPk
import Derived.Test.YtccpdadabndleaaDoorQuB
import Derived.Test.YtccpdadabndleaaDoorCrcS
import Derived.Test.YtccpdadabndleaaDoorCgB
namespace Go.Proofs.YtccpdadabndleaaDoor
open Go.ChangeShapes Go.WideShapes Go.ChangeAt Go.RowKit
set_option linter.unusedVariables false
theorem pkPut_le (u : Bool) (a c : Int) (d : ByteArray) : (pkPut u a c d).size ≤ 106 := by
  cases h : pkOk a c d with
  | true => exact (pk_ne h).2
  | false => unfold pkPut; rw [h]; exact Nat.zero_le _
theorem l6Cmd_some (a c so sv sb : Int) (d : ByteArray) (w : World) (h1 : 0 ≤ a) (h2 : a ≤ 2047) (h3 : 0 ≤ c) (h4 : c ≤ 16383) (h5 : 0 ≤ so) (h6 : so ≤ 255) (h7 : 0 ≤ sv) (h8 : sv ≤ 255) (h9 : 0 ≤ sb) (h10 : sb ≤ 255) (hd : d.size ≤ 60) :
    Calls Tryd.prog 77 #[.agg #[.int .i64 a, .int .i64 c, .int .i64 so, .int .i64 sv, .int .i64 sb, .string d]] w fun e w' => ∃ p : ByteArray, p.size ≤ 72 ∧ e = .returned (.string p) ∧ Below w.heap.size w w' := by
  have hk : cmOk a c so sv sb d = true := by simp only [cmOk, inB, Bool.and_eq_true, decide_eq_true_eq]; omega
  obtain ⟨_, _, _, h72, he⟩ := cg_back hk rfl
  rw [he] at h72
  exact (l6Cmd_any a c so sv sb d w (by unfold maxLen; omega) h1 h2 h3 h4 h5 h6 h7 h8 h9 h10 hd).mono fun e w' ⟨h1, h2⟩ => ⟨_, h72, h1, h2⟩
theorem crcPut (p : ByteArray) (hp : p.size ≤ 1000000) : ∃ (cr : Nat) (z : ByteArray), z.size = 2 ∧ (∀ W, Calls Tryd.prog 56 #[.string p] W fun e w' => e = .returned (.int .i64 (cr : Nat)) ∧ Below W.heap.size W w') ∧ (∀ W, Calls Tryd.prog 80 #[.int .i64 (cr : Nat), .int .i64 2] W fun e w' => e = .returned (.string z) ∧ Below W.heap.size W w') := by
  have hc := crc_le p
  refine ⟨_, ⟨(pt (crcTo p p.size) 2).toArray⟩, ?_, fun W => (specCrc16_any p W (by unfold maxLen; omega)).mono fun e w' ⟨h1, h2⟩ => ⟨h1, by rw [h2]; exact Below.refl _ _⟩, fun W => ?_⟩
  · show (List.toArray _).size = _
    simp [pt]
  · have := l1Put_any ((crcTo p p.size : Nat) : Int) 2 W hc.1 (by omega) (by decide) (by decide)
    rw [show ((crcTo p p.size : Nat) : Int).toNat = crcTo p p.size by simp, show (2 : Int).toNat = 2 from rfl] at this
    exact this
set_option maxRecDepth 100000 in
set_option maxHeartbeats 1000000 in
theorem l15AnyCmd_any (N g : Nat) (w : World) (hN : N ≤ 300000) (hr : Rd N w g) :
    Calls Tryd.prog 72 #[.pointer (some ⟨g, 0, none⟩)] w fun e w' => ∃ (a c so sv sb : Int) (d : ByteArray), d.size ≤ 61 ∧ e = .returned (.agg #[.int .i64 a, .int .i64 c, .int .i64 so, .int .i64 sv, .int .i64 sb, .string d]) ∧ Only g w w' ∧ Rd (N + 46) w' g := by
  have hg := hr.lt
  have RES : Hid ((w.alloc (.cells #[.int .i64 0, .int .i64 0, .int .i64 0, .int .i64 0, .int .i64 0, .string ⟨#[]⟩] 29)).heap[w.heap.size]? = some (.cells #[.int .i64 0, .int .i64 0, .int .i64 0, .int .i64 0, .int .i64 0, .string ⟨#[]⟩] 29)) := get_new rfl
  have HR : Hid (Rd (N + 0) (w.alloc (.cells #[.int .i64 0, .int .i64 0, .int .i64 0, .int .i64 0, .int .i64 0, .string ⟨#[]⟩] 29)) g) := rdA hr
  have HW : Hid (Only g w (w.alloc (.cells #[.int .i64 0, .int .i64 0, .int .i64 0, .int .i64 0, .int .i64 0, .string ⟨#[]⟩] 29))) := (Only.refl _ _).alloc _
  clear hr
  go_enter Tryd.func72, Tryd.ntmps72
  go_wp2_with fail
  refine (l15Cmd_any (N + 0) g _ (by omega) HR.out).mono ?_
  rintro e w1 ⟨a, c, so, sv, sb, d, h1, h2, h3, h4, h5, h6, h7, h8, h9, h10, hd, rfl, ho, hr⟩
  replace RES : Hid (w1.heap[w.heap.size]? = some (.cells #[.int .i64 0, .int .i64 0, .int .i64 0, .int .i64 0, .int .i64 0, .string ⟨#[]⟩] 29)) := get_only ho RES.out (by omega)
  replace HW : Hid (Only g w w1) := HW.out.trans ho
  replace HR : Hid (Rd (N + 44) w1 g) := hr
  clear ho hr
  have hg1 : g < w1.heap.size := HR.out.lt
  have hz1 : w.heap.size < w1.heap.size := size_of_get RES.out
  replace RES : Hid ((w1.alloc (.cells #[.int .i64 a, .int .i64 c, .int .i64 so, .int .i64 sv, .int .i64 sb, .string d] 29)).heap[w.heap.size]? = some (.cells #[.int .i64 0, .int .i64 0, .int .i64 0, .int .i64 0, .int .i64 0, .string ⟨#[]⟩] 29)) := get_allocS RES.out
  replace HW : Hid (Only g w (w1.alloc (.cells #[.int .i64 a, .int .i64 c, .int .i64 so, .int .i64 sv, .int .i64 sb, .string d] 29))) := HW.out.alloc _
  replace HR : Hid (Rd (N + 44) (w1.alloc (.cells #[.int .i64 a, .int .i64 c, .int .i64 so, .int .i64 sv, .int .i64 sb, .string d] 29)) g) := rdA HR.out
  have BOX : Hid ((w1.alloc (.cells #[.int .i64 a, .int .i64 c, .int .i64 so, .int .i64 sv, .int .i64 sb, .string d] 29)).heap[w1.heap.size]? = some (.cells #[.int .i64 a, .int .i64 c, .int .i64 so, .int .i64 sv, .int .i64 sb, .string d] 29)) := get_new rfl
  go_wp2_with fail
  refine (pickI (N + 44) g 20 _ (by omega) (by omega) (by omega) HR.out).mono ?_
  rintro e w2 ⟨v, hv, rfl, ho, hr⟩
  replace RES : Hid (w2.heap[w.heap.size]? = some (.cells #[.int .i64 0, .int .i64 0, .int .i64 0, .int .i64 0, .int .i64 0, .string ⟨#[]⟩] 29)) := get_only ho RES.out (by omega)
  replace BOX : Hid (w2.heap[w1.heap.size]? = some (.cells #[.int .i64 a, .int .i64 c, .int .i64 so, .int .i64 sv, .int .i64 sb, .string d] 29)) := get_only ho BOX.out (by omega)
  replace HW : Hid (Only g w w2) := HW.out.trans ho
  replace HR : Hid (Rd (N + 45) w2 g) := hr
  clear ho hr
  have hg2 : g < w2.heap.size := HR.out.lt
  have hcase : v = 0 ∨ v = 1 ∨ v = 2 ∨ v = 3 ∨ v = 4 ∨ v = 5 ∨ 6 ≤ v := by omega
  rcases hcase with rfl | rfl | rfl | rfl | rfl | rfl | hge
  · go_wp2_with fail
    replace RES : Hid ((w2.alloc (.cells #[.int .i64 (-1), .int .i64 2048] 3)).heap[w.heap.size]? = some (.cells #[.int .i64 0, .int .i64 0, .int .i64 0, .int .i64 0, .int .i64 0, .string ⟨#[]⟩] 29)) := get_allocS RES.out
    replace BOX : Hid ((w2.alloc (.cells #[.int .i64 (-1), .int .i64 2048] 3)).heap[w1.heap.size]? = some (.cells #[.int .i64 a, .int .i64 c, .int .i64 so, .int .i64 sv, .int .i64 sb, .string d] 29)) := get_allocS BOX.out
    replace HW : Hid (Only g w (w2.alloc (.cells #[.int .i64 (-1), .int .i64 2048] 3))) := HW.out.alloc _
    replace HR : Hid (Rd (N + 45) (w2.alloc (.cells #[.int .i64 (-1), .int .i64 2048] 3)) g) := rdA HR.out
    refine (one_lit (N + 45) g w2.heap.size 2 2 [-1, 2048] _ rfl (by omega) (by omega) (by omega) HR.out (by omega) (intsNew rfl _)).mono ?_
    rintro e w3 ⟨y, hy, rfl, ho, hr⟩
    replace RES : Hid (w3.heap[w.heap.size]? = some (.cells #[.int .i64 0, .int .i64 0, .int .i64 0, .int .i64 0, .int .i64 0, .string ⟨#[]⟩] 29)) := get_only ho RES.out (by omega)
    replace BOX : Hid (w3.heap[w1.heap.size]? = some (.cells #[.int .i64 a, .int .i64 c, .int .i64 so, .int .i64 sv, .int .i64 sb, .string d] 29)) := get_only ho BOX.out (by omega)
    replace HW : Hid (Only g w w3) := HW.out.trans ho
    replace HR : Hid (Rd (N + 46) w3 g) := hr
    clear ho hr
    have hg3 : g < w3.heap.size := HR.out.lt
    replace hy : -1 ≤ y ∧ y ≤ 2048 := by simp only [List.mem_cons, List.not_mem_nil, or_false] at hy; omega
    obtain ⟨RES_0, RES_1, RES_2, RES_3, RES_4, RES_5⟩ := cells6_of RES.out
    have RES_f : ∀ j, w3.frozen? ⟨w.heap.size, j, none⟩ = false := fun j => frozen_get RES.out
    obtain ⟨BOX_0, BOX_1, BOX_2, BOX_3, BOX_4, BOX_5⟩ := cells6_of BOX.out
    have BOX_f : ∀ j, w3.frozen? ⟨w1.heap.size, j, none⟩ = false := fun j => frozen_get BOX.out
    have hzb : w1.heap.size < w3.heap.size := size_of_get BOX.out
    have hne : ¬ w.heap.size = w1.heap.size := by omega
    have hne' : ¬ w1.heap.size = w.heap.size := by omega
    have s0 : ∀ u, (w3.setCell ⟨w1.heap.size, 0, none⟩ u).cell? ⟨w1.heap.size, 0, none⟩ = some u := fun u => World.cell?_setCell_same _ _ _ BOX_0
    have s1 : ∀ u, (w3.setCell ⟨w1.heap.size, 1, none⟩ u).cell? ⟨w1.heap.size, 1, none⟩ = some u := fun u => World.cell?_setCell_same _ _ _ BOX_1
    have s2 : ∀ u, (w3.setCell ⟨w1.heap.size, 2, none⟩ u).cell? ⟨w1.heap.size, 2, none⟩ = some u := fun u => World.cell?_setCell_same _ _ _ BOX_2
    have s3 : ∀ u, (w3.setCell ⟨w1.heap.size, 3, none⟩ u).cell? ⟨w1.heap.size, 3, none⟩ = some u := fun u => World.cell?_setCell_same _ _ _ BOX_3
    have s4 : ∀ u, (w3.setCell ⟨w1.heap.size, 4, none⟩ u).cell? ⟨w1.heap.size, 4, none⟩ = some u := fun u => World.cell?_setCell_same _ _ _ BOX_4
    have s5 : ∀ u, (w3.setCell ⟨w1.heap.size, 5, none⟩ u).cell? ⟨w1.heap.size, 5, none⟩ = some u := fun u => World.cell?_setCell_same _ _ _ BOX_5
    go_wp2_with fail
    refine bodyPost_ret (v := .agg #[.int .i64 y, .int .i64 c, .int .i64 so, .int .i64 sv, .int .i64 sb, .string d]) (results_cell_row Tryd.results72 _ _ w.heap.size 29 #[.int .i64 y, .int .i64 c, .int .i64 so, .int .i64 sv, .int .i64 sb, .string d] (0, 0) _ rfl ?_ Tryd.underlying29 rfl cellsDcm) rfl ⟨_, _, _, _, _, _, by omega, rfl, ?_, ?_⟩
    · exact get_set (get_set (get_set (get_set (get_set (get_set (get_set_ne (RES.out) (by omega)) rfl) rfl) rfl) rfl) rfl) rfl
    · exact onlyS (onlyS (onlyS (onlyS (onlyS (onlyS (onlyS (HW.out) (by omega)) (by omega)) (by omega)) (by omega)) (by omega)) (by omega)) (by omega)
    · exact (rdS (rdS (rdS (rdS (rdS (rdS (rdS (HR.out) (by omega)) (by omega)) (by omega)) (by omega)) (by omega)) (by omega)) (by omega)).mono (by omega)
  · go_wp2_with fail
    replace RES : Hid ((w2.alloc (.cells #[.int .i64 (-1), .int .i64 256] 3)).heap[w.heap.size]? = some (.cells #[.int .i64 0, .int .i64 0, .int .i64 0, .int .i64 0, .int .i64 0, .string ⟨#[]⟩] 29)) := get_allocS RES.out
    replace BOX : Hid ((w2.alloc (.cells #[.int .i64 (-1), .int .i64 256] 3)).heap[w1.heap.size]? = some (.cells #[.int .i64 a, .int .i64 c, .int .i64 so, .int .i64 sv, .int .i64 sb, .string d] 29)) := get_allocS BOX.out
    replace HW : Hid (Only g w (w2.alloc (.cells #[.int .i64 (-1), .int .i64 256] 3))) := HW.out.alloc _
    replace HR : Hid (Rd (N + 45) (w2.alloc (.cells #[.int .i64 (-1), .int .i64 256] 3)) g) := rdA HR.out
    refine (one_lit (N + 45) g w2.heap.size 2 2 [-1, 256] _ rfl (by omega) (by omega) (by omega) HR.out (by omega) (intsNew rfl _)).mono ?_
    rintro e w3 ⟨y, hy, rfl, ho, hr⟩
    replace RES : Hid (w3.heap[w.heap.size]? = some (.cells #[.int .i64 0, .int .i64 0, .int .i64 0, .int .i64 0, .int .i64 0, .string ⟨#[]⟩] 29)) := get_only ho RES.out (by omega)
    replace BOX : Hid (w3.heap[w1.heap.size]? = some (.cells #[.int .i64 a, .int .i64 c, .int .i64 so, .int .i64 sv, .int .i64 sb, .string d] 29)) := get_only ho BOX.out (by omega)
    replace HW : Hid (Only g w w3) := HW.out.trans ho
    replace HR : Hid (Rd (N + 46) w3 g) := hr
    clear ho hr
    have hg3 : g < w3.heap.size := HR.out.lt
    replace hy : -1 ≤ y ∧ y ≤ 256 := by simp only [List.mem_cons, List.not_mem_nil, or_false] at hy; omega
    obtain ⟨RES_0, RES_1, RES_2, RES_3, RES_4, RES_5⟩ := cells6_of RES.out
    have RES_f : ∀ j, w3.frozen? ⟨w.heap.size, j, none⟩ = false := fun j => frozen_get RES.out
    obtain ⟨BOX_0, BOX_1, BOX_2, BOX_3, BOX_4, BOX_5⟩ := cells6_of BOX.out
    have BOX_f : ∀ j, w3.frozen? ⟨w1.heap.size, j, none⟩ = false := fun j => frozen_get BOX.out
    have hzb : w1.heap.size < w3.heap.size := size_of_get BOX.out
    have hne : ¬ w.heap.size = w1.heap.size := by omega
    have hne' : ¬ w1.heap.size = w.heap.size := by omega
    have s0 : ∀ u, (w3.setCell ⟨w1.heap.size, 0, none⟩ u).cell? ⟨w1.heap.size, 0, none⟩ = some u := fun u => World.cell?_setCell_same _ _ _ BOX_0
    have s1 : ∀ u, (w3.setCell ⟨w1.heap.size, 1, none⟩ u).cell? ⟨w1.heap.size, 1, none⟩ = some u := fun u => World.cell?_setCell_same _ _ _ BOX_1
    have s2 : ∀ u, (w3.setCell ⟨w1.heap.size, 2, none⟩ u).cell? ⟨w1.heap.size, 2, none⟩ = some u := fun u => World.cell?_setCell_same _ _ _ BOX_2
    have s3 : ∀ u, (w3.setCell ⟨w1.heap.size, 3, none⟩ u).cell? ⟨w1.heap.size, 3, none⟩ = some u := fun u => World.cell?_setCell_same _ _ _ BOX_3
    have s4 : ∀ u, (w3.setCell ⟨w1.heap.size, 4, none⟩ u).cell? ⟨w1.heap.size, 4, none⟩ = some u := fun u => World.cell?_setCell_same _ _ _ BOX_4
    have s5 : ∀ u, (w3.setCell ⟨w1.heap.size, 5, none⟩ u).cell? ⟨w1.heap.size, 5, none⟩ = some u := fun u => World.cell?_setCell_same _ _ _ BOX_5
    go_wp2_with fail
    refine bodyPost_ret (v := .agg #[.int .i64 a, .int .i64 c, .int .i64 y, .int .i64 sv, .int .i64 sb, .string d]) (results_cell_row Tryd.results72 _ _ w.heap.size 29 #[.int .i64 a, .int .i64 c, .int .i64 y, .int .i64 sv, .int .i64 sb, .string d] (0, 0) _ rfl ?_ Tryd.underlying29 rfl cellsDcm) rfl ⟨_, _, _, _, _, _, by omega, rfl, ?_, ?_⟩
    · exact get_set (get_set (get_set (get_set (get_set (get_set (get_set_ne (RES.out) (by omega)) rfl) rfl) rfl) rfl) rfl) rfl
    · exact onlyS (onlyS (onlyS (onlyS (onlyS (onlyS (onlyS (HW.out) (by omega)) (by omega)) (by omega)) (by omega)) (by omega)) (by omega)) (by omega)
    · exact (rdS (rdS (rdS (rdS (rdS (rdS (rdS (HR.out) (by omega)) (by omega)) (by omega)) (by omega)) (by omega)) (by omega)) (by omega)).mono (by omega)
  · go_wp2_with fail
    replace RES : Hid ((w2.alloc (.cells #[.int .i64 (-1), .int .i64 256] 3)).heap[w.heap.size]? = some (.cells #[.int .i64 0, .int .i64 0, .int .i64 0, .int .i64 0, .int .i64 0, .string ⟨#[]⟩] 29)) := get_allocS RES.out
    replace BOX : Hid ((w2.alloc (.cells #[.int .i64 (-1), .int .i64 256] 3)).heap[w1.heap.size]? = some (.cells #[.int .i64 a, .int .i64 c, .int .i64 so, .int .i64 sv, .int .i64 sb, .string d] 29)) := get_allocS BOX.out
    replace HW : Hid (Only g w (w2.alloc (.cells #[.int .i64 (-1), .int .i64 256] 3))) := HW.out.alloc _
    replace HR : Hid (Rd (N + 45) (w2.alloc (.cells #[.int .i64 (-1), .int .i64 256] 3)) g) := rdA HR.out
    refine (one_lit (N + 45) g w2.heap.size 2 2 [-1, 256] _ rfl (by omega) (by omega) (by omega) HR.out (by omega) (intsNew rfl _)).mono ?_
    rintro e w3 ⟨y, hy, rfl, ho, hr⟩
    replace RES : Hid (w3.heap[w.heap.size]? = some (.cells #[.int .i64 0, .int .i64 0, .int .i64 0, .int .i64 0, .int .i64 0, .string ⟨#[]⟩] 29)) := get_only ho RES.out (by omega)
    replace BOX : Hid (w3.heap[w1.heap.size]? = some (.cells #[.int .i64 a, .int .i64 c, .int .i64 so, .int .i64 sv, .int .i64 sb, .string d] 29)) := get_only ho BOX.out (by omega)
    replace HW : Hid (Only g w w3) := HW.out.trans ho
    replace HR : Hid (Rd (N + 46) w3 g) := hr
    clear ho hr
    have hg3 : g < w3.heap.size := HR.out.lt
    replace hy : -1 ≤ y ∧ y ≤ 256 := by simp only [List.mem_cons, List.not_mem_nil, or_false] at hy; omega
    obtain ⟨RES_0, RES_1, RES_2, RES_3, RES_4, RES_5⟩ := cells6_of RES.out
    have RES_f : ∀ j, w3.frozen? ⟨w.heap.size, j, none⟩ = false := fun j => frozen_get RES.out
    obtain ⟨BOX_0, BOX_1, BOX_2, BOX_3, BOX_4, BOX_5⟩ := cells6_of BOX.out
    have BOX_f : ∀ j, w3.frozen? ⟨w1.heap.size, j, none⟩ = false := fun j => frozen_get BOX.out
    have hzb : w1.heap.size < w3.heap.size := size_of_get BOX.out
    have hne : ¬ w.heap.size = w1.heap.size := by omega
    have hne' : ¬ w1.heap.size = w.heap.size := by omega
    have s0 : ∀ u, (w3.setCell ⟨w1.heap.size, 0, none⟩ u).cell? ⟨w1.heap.size, 0, none⟩ = some u := fun u => World.cell?_setCell_same _ _ _ BOX_0
    have s1 : ∀ u, (w3.setCell ⟨w1.heap.size, 1, none⟩ u).cell? ⟨w1.heap.size, 1, none⟩ = some u := fun u => World.cell?_setCell_same _ _ _ BOX_1
    have s2 : ∀ u, (w3.setCell ⟨w1.heap.size, 2, none⟩ u).cell? ⟨w1.heap.size, 2, none⟩ = some u := fun u => World.cell?_setCell_same _ _ _ BOX_2
    have s3 : ∀ u, (w3.setCell ⟨w1.heap.size, 3, none⟩ u).cell? ⟨w1.heap.size, 3, none⟩ = some u := fun u => World.cell?_setCell_same _ _ _ BOX_3
    have s4 : ∀ u, (w3.setCell ⟨w1.heap.size, 4, none⟩ u).cell? ⟨w1.heap.size, 4, none⟩ = some u := fun u => World.cell?_setCell_same _ _ _ BOX_4
    have s5 : ∀ u, (w3.setCell ⟨w1.heap.size, 5, none⟩ u).cell? ⟨w1.heap.size, 5, none⟩ = some u := fun u => World.cell?_setCell_same _ _ _ BOX_5
    go_wp2_with fail
    refine bodyPost_ret (v := .agg #[.int .i64 a, .int .i64 c, .int .i64 so, .int .i64 y, .int .i64 sb, .string d]) (results_cell_row Tryd.results72 _ _ w.heap.size 29 #[.int .i64 a, .int .i64 c, .int .i64 so, .int .i64 y, .int .i64 sb, .string d] (0, 0) _ rfl ?_ Tryd.underlying29 rfl cellsDcm) rfl ⟨_, _, _, _, _, _, by omega, rfl, ?_, ?_⟩
    · exact get_set (get_set (get_set (get_set (get_set (get_set (get_set_ne (RES.out) (by omega)) rfl) rfl) rfl) rfl) rfl) rfl
    · exact onlyS (onlyS (onlyS (onlyS (onlyS (onlyS (onlyS (HW.out) (by omega)) (by omega)) (by omega)) (by omega)) (by omega)) (by omega)) (by omega)
    · exact (rdS (rdS (rdS (rdS (rdS (rdS (rdS (HR.out) (by omega)) (by omega)) (by omega)) (by omega)) (by omega)) (by omega)) (by omega)).mono (by omega)
  · obtain ⟨RES_0, RES_1, RES_2, RES_3, RES_4, RES_5⟩ := cells6_of RES.out
    have RES_f : ∀ j, w2.frozen? ⟨w.heap.size, j, none⟩ = false := fun j => frozen_get RES.out
    obtain ⟨BOX_0, BOX_1, BOX_2, BOX_3, BOX_4, BOX_5⟩ := cells6_of BOX.out
    have BOX_f : ∀ j, w2.frozen? ⟨w1.heap.size, j, none⟩ = false := fun j => frozen_get BOX.out
    have hzb : w1.heap.size < w2.heap.size := size_of_get BOX.out
    have hne : ¬ w.heap.size = w1.heap.size := by omega
    have hne' : ¬ w1.heap.size = w.heap.size := by omega
    have s0 : ∀ u, (w2.setCell ⟨w1.heap.size, 0, none⟩ u).cell? ⟨w1.heap.size, 0, none⟩ = some u := fun u => World.cell?_setCell_same _ _ _ BOX_0
    have s1 : ∀ u, (w2.setCell ⟨w1.heap.size, 1, none⟩ u).cell? ⟨w1.heap.size, 1, none⟩ = some u := fun u => World.cell?_setCell_same _ _ _ BOX_1
    have s2 : ∀ u, (w2.setCell ⟨w1.heap.size, 2, none⟩ u).cell? ⟨w1.heap.size, 2, none⟩ = some u := fun u => World.cell?_setCell_same _ _ _ BOX_2
    have s3 : ∀ u, (w2.setCell ⟨w1.heap.size, 3, none⟩ u).cell? ⟨w1.heap.size, 3, none⟩ = some u := fun u => World.cell?_setCell_same _ _ _ BOX_3
    have s4 : ∀ u, (w2.setCell ⟨w1.heap.size, 4, none⟩ u).cell? ⟨w1.heap.size, 4, none⟩ = some u := fun u => World.cell?_setCell_same _ _ _ BOX_4
    have s5 : ∀ u, (w2.setCell ⟨w1.heap.size, 5, none⟩ u).cell? ⟨w1.heap.size, 5, none⟩ = some u := fun u => World.cell?_setCell_same _ _ _ BOX_5
    go_wp2_with fail
    refine bodyPost_ret (v := .agg #[.int .i64 a, .int .i64 c, .int .i64 so, .int .i64 sv, .int .i64 256, .string d]) (results_cell_row Tryd.results72 _ _ w.heap.size 29 #[.int .i64 a, .int .i64 c, .int .i64 so, .int .i64 sv, .int .i64 256, .string d] (0, 0) _ rfl ?_ Tryd.underlying29 rfl cellsDcm) rfl ⟨_, _, _, _, _, _, by omega, rfl, ?_, ?_⟩
    · exact get_set (get_set (get_set (get_set (get_set (get_set (get_set_ne (RES.out) (by omega)) rfl) rfl) rfl) rfl) rfl) rfl
    · exact onlyS (onlyS (onlyS (onlyS (onlyS (onlyS (onlyS (HW.out) (by omega)) (by omega)) (by omega)) (by omega)) (by omega)) (by omega)) (by omega)
    · exact (rdS (rdS (rdS (rdS (rdS (rdS (rdS (HR.out) (by omega)) (by omega)) (by omega)) (by omega)) (by omega)) (by omega)) (by omega)).mono (by omega)
  · go_wp2_with fail
    refine (l1ManyI ⟨#[122]⟩ 61 _ (by decide) (by decide) (by decide)).mono ?_
    rintro e w3 ⟨y, hy, rfl, hb⟩
    replace RES : Hid (w3.heap[w.heap.size]? = some (.cells #[.int .i64 0, .int .i64 0, .int .i64 0, .int .i64 0, .int .i64 0, .string ⟨#[]⟩] 29)) := get_below hb RES.out (size_of_get RES.out)
    replace BOX : Hid (w3.heap[w1.heap.size]? = some (.cells #[.int .i64 a, .int .i64 c, .int .i64 so, .int .i64 sv, .int .i64 sb, .string d] 29)) := get_below hb BOX.out (size_of_get BOX.out)
    replace HW : Hid (Only g w w3) := HW.out.trans (Only.of_below hb)
    replace HR : Hid (Rd (N + 45) w3 g) := HR.out.below hb
    clear hb
    have hg3 : g < w3.heap.size := HR.out.lt
    replace hy : y.size ≤ 61 := Nat.le_trans hy (by decide)
    obtain ⟨RES_0, RES_1, RES_2, RES_3, RES_4, RES_5⟩ := cells6_of RES.out
    have RES_f : ∀ j, w3.frozen? ⟨w.heap.size, j, none⟩ = false := fun j => frozen_get RES.out
    obtain ⟨BOX_0, BOX_1, BOX_2, BOX_3, BOX_4, BOX_5⟩ := cells6_of BOX.out
    have BOX_f : ∀ j, w3.frozen? ⟨w1.heap.size, j, none⟩ = false := fun j => frozen_get BOX.out
    have hzb : w1.heap.size < w3.heap.size := size_of_get BOX.out
    have hne : ¬ w.heap.size = w1.heap.size := by omega
    have hne' : ¬ w1.heap.size = w.heap.size := by omega
    have s0 : ∀ u, (w3.setCell ⟨w1.heap.size, 0, none⟩ u).cell? ⟨w1.heap.size, 0, none⟩ = some u := fun u => World.cell?_setCell_same _ _ _ BOX_0
    have s1 : ∀ u, (w3.setCell ⟨w1.heap.size, 1, none⟩ u).cell? ⟨w1.heap.size, 1, none⟩ = some u := fun u => World.cell?_setCell_same _ _ _ BOX_1
    have s2 : ∀ u, (w3.setCell ⟨w1.heap.size, 2, none⟩ u).cell? ⟨w1.heap.size, 2, none⟩ = some u := fun u => World.cell?_setCell_same _ _ _ BOX_2
    have s3 : ∀ u, (w3.setCell ⟨w1.heap.size, 3, none⟩ u).cell? ⟨w1.heap.size, 3, none⟩ = some u := fun u => World.cell?_setCell_same _ _ _ BOX_3
    have s4 : ∀ u, (w3.setCell ⟨w1.heap.size, 4, none⟩ u).cell? ⟨w1.heap.size, 4, none⟩ = some u := fun u => World.cell?_setCell_same _ _ _ BOX_4
    have s5 : ∀ u, (w3.setCell ⟨w1.heap.size, 5, none⟩ u).cell? ⟨w1.heap.size, 5, none⟩ = some u := fun u => World.cell?_setCell_same _ _ _ BOX_5
    go_wp2_with fail
    refine bodyPost_ret (v := .agg #[.int .i64 a, .int .i64 c, .int .i64 so, .int .i64 sv, .int .i64 sb, .string y]) (results_cell_row Tryd.results72 _ _ w.heap.size 29 #[.int .i64 a, .int .i64 c, .int .i64 so, .int .i64 sv, .int .i64 sb, .string y] (0, 0) _ rfl ?_ Tryd.underlying29 rfl cellsDcm) rfl ⟨_, _, _, _, _, _, by omega, rfl, ?_, ?_⟩
    · exact get_set (get_set (get_set (get_set (get_set (get_set (get_set_ne (RES.out) (by omega)) rfl) rfl) rfl) rfl) rfl) rfl
    · exact onlyS (onlyS (onlyS (onlyS (onlyS (onlyS (onlyS (HW.out) (by omega)) (by omega)) (by omega)) (by omega)) (by omega)) (by omega)) (by omega)
    · exact (rdS (rdS (rdS (rdS (rdS (rdS (rdS (HR.out) (by omega)) (by omega)) (by omega)) (by omega)) (by omega)) (by omega)) (by omega)).mono (by omega)
  · obtain ⟨RES_0, RES_1, RES_2, RES_3, RES_4, RES_5⟩ := cells6_of RES.out
    have RES_f : ∀ j, w2.frozen? ⟨w.heap.size, j, none⟩ = false := fun j => frozen_get RES.out
    obtain ⟨BOX_0, BOX_1, BOX_2, BOX_3, BOX_4, BOX_5⟩ := cells6_of BOX.out
    have BOX_f : ∀ j, w2.frozen? ⟨w1.heap.size, j, none⟩ = false := fun j => frozen_get BOX.out
    have hzb : w1.heap.size < w2.heap.size := size_of_get BOX.out
    have hne : ¬ w.heap.size = w1.heap.size := by omega
    have hne' : ¬ w1.heap.size = w.heap.size := by omega
    have s0 : ∀ u, (w2.setCell ⟨w1.heap.size, 0, none⟩ u).cell? ⟨w1.heap.size, 0, none⟩ = some u := fun u => World.cell?_setCell_same _ _ _ BOX_0
    have s1 : ∀ u, (w2.setCell ⟨w1.heap.size, 1, none⟩ u).cell? ⟨w1.heap.size, 1, none⟩ = some u := fun u => World.cell?_setCell_same _ _ _ BOX_1
    have s2 : ∀ u, (w2.setCell ⟨w1.heap.size, 2, none⟩ u).cell? ⟨w1.heap.size, 2, none⟩ = some u := fun u => World.cell?_setCell_same _ _ _ BOX_2
    have s3 : ∀ u, (w2.setCell ⟨w1.heap.size, 3, none⟩ u).cell? ⟨w1.heap.size, 3, none⟩ = some u := fun u => World.cell?_setCell_same _ _ _ BOX_3
    have s4 : ∀ u, (w2.setCell ⟨w1.heap.size, 4, none⟩ u).cell? ⟨w1.heap.size, 4, none⟩ = some u := fun u => World.cell?_setCell_same _ _ _ BOX_4
    have s5 : ∀ u, (w2.setCell ⟨w1.heap.size, 5, none⟩ u).cell? ⟨w1.heap.size, 5, none⟩ = some u := fun u => World.cell?_setCell_same _ _ _ BOX_5
    go_wp2_with fail
    refine bodyPost_ret (v := .agg #[.int .i64 a, .int .i64 16384, .int .i64 so, .int .i64 sv, .int .i64 sb, .string d]) (results_cell_row Tryd.results72 _ _ w.heap.size 29 #[.int .i64 a, .int .i64 16384, .int .i64 so, .int .i64 sv, .int .i64 sb, .string d] (0, 0) _ rfl ?_ Tryd.underlying29 rfl cellsDcm) rfl ⟨_, _, _, _, _, _, by omega, rfl, ?_, ?_⟩
    · exact get_set (get_set (get_set (get_set (get_set (get_set (get_set_ne (RES.out) (by omega)) rfl) rfl) rfl) rfl) rfl) rfl
    · exact onlyS (onlyS (onlyS (onlyS (onlyS (onlyS (onlyS (HW.out) (by omega)) (by omega)) (by omega)) (by omega)) (by omega)) (by omega)) (by omega)
    · exact (rdS (rdS (rdS (rdS (rdS (rdS (rdS (HR.out) (by omega)) (by omega)) (by omega)) (by omega)) (by omega)) (by omega)) (by omega)).mono (by omega)
  · have b0 : ((v : Int) == 0) = false := by rw [beq_eq_false_iff_ne]; omega
    have b1 : ((v : Int) == 1) = false := by rw [beq_eq_false_iff_ne]; omega
    have b2 : ((v : Int) == 2) = false := by rw [beq_eq_false_iff_ne]; omega
    have b3 : ((v : Int) == 3) = false := by rw [beq_eq_false_iff_ne]; omega
    have b4 : ((v : Int) == 4) = false := by rw [beq_eq_false_iff_ne]; omega
    have b5 : ((v : Int) == 5) = false := by rw [beq_eq_false_iff_ne]; omega
    obtain ⟨RES_0, RES_1, RES_2, RES_3, RES_4, RES_5⟩ := cells6_of RES.out
    have RES_f : ∀ j, w2.frozen? ⟨w.heap.size, j, none⟩ = false := fun j => frozen_get RES.out
    obtain ⟨BOX_0, BOX_1, BOX_2, BOX_3, BOX_4, BOX_5⟩ := cells6_of BOX.out
    have BOX_f : ∀ j, w2.frozen? ⟨w1.heap.size, j, none⟩ = false := fun j => frozen_get BOX.out
    have hzb : w1.heap.size < w2.heap.size := size_of_get BOX.out
    have hne : ¬ w.heap.size = w1.heap.size := by omega
    have hne' : ¬ w1.heap.size = w.heap.size := by omega
    go_wp2_with fail
    refine bodyPost_ret (v := .agg #[.int .i64 a, .int .i64 c, .int .i64 so, .int .i64 sv, .int .i64 sb, .string d]) (results_cell_row Tryd.results72 _ _ w.heap.size 29 #[.int .i64 a, .int .i64 c, .int .i64 so, .int .i64 sv, .int .i64 sb, .string d] (0, 0) _ rfl ?_ Tryd.underlying29 rfl cellsDcm) rfl ⟨_, _, _, _, _, _, by omega, rfl, ?_, ?_⟩
    · exact get_set (get_set (get_set (get_set (get_set (get_set (RES.out) rfl) rfl) rfl) rfl) rfl) rfl
    · exact onlyS (onlyS (onlyS (onlyS (onlyS (onlyS (HW.out) (by omega)) (by omega)) (by omega)) (by omega)) (by omega)) (by omega)
    · exact (rdS (rdS (rdS (rdS (rdS (rdS (HR.out) (by omega)) (by omega)) (by omega)) (by omega)) (by omega)) (by omega)).mono (by omega)
set_option maxRecDepth 100000 in
set_option maxHeartbeats 1000000 in
theorem DrawCmdPut_any (a : Option Addr) (len cap : Nat) (zs : List Int) (w : World) (h : IsRow .u8 w a len cap zs) :
    Calls Tryd.prog 28 #[.slice a len cap] w fun e w' => ∃ (a c so sv sb : Int) (d : ByteArray), d.size ≤ 61 ∧ e = .returned (.agg #[.int .i64 a, .int .i64 c, .int .i64 so, .int .i64 sv, .int .i64 sb, .string d]) ∧ Below w.heap.size w w' := by
  have H : Hid (IsRow .u8 (w.alloc (.cells #[.int .i64 0, .int .i64 0, .int .i64 0, .int .i64 0, .int .i64 0, .string ⟨#[]⟩] 29)) a len cap zs) := h.keep ((Below.refl _ _).alloc (Nat.le_refl _) _)
  clear h
  go_enter Tryd.func28, Tryd.ntmps28
  go_wp2_with fail
  refine (l1Open_any a len cap zs _ H.out).mono ?_
  rintro e w1 ⟨rfl, hb1, hr1⟩
  simp only [World.size_alloc] at hb1 hr1 ⊢
  obtain ⟨g, hgg⟩ : ∃ g, g = w.heap.size + 1 := ⟨_, rfl⟩
  rw [← hgg] at hr1 ⊢
  have RES : Hid (w1.heap[w.heap.size]? = some (.cells #[.int .i64 0, .int .i64 0, .int .i64 0, .int .i64 0, .int .i64 0, .string ⟨#[]⟩] 29)) := get_below hb1 (get_new rfl) (by simp)
  have HW : Hid (Only g w w1) := Only.of_below (((Below.refl _ _).alloc (Nat.le_refl _) _).trans (hb1.mono (by omega)))
  have HR : Hid (Rd (0 + 0) w1 g) := hr1
  have hg1 : g < w1.heap.size := HR.out.lt
  have hgl : w.heap.size < g := by omega
  clear hb1 hr1 H hgg
  go_wp2_with fail
  refine (l15AnyCmd_any (0 + 0) g _ (by omega) HR.out).mono ?_
  rintro e w2 ⟨a, c, so, sv, sb, d, hd, rfl, ho, hr⟩
  replace RES : Hid (w2.heap[w.heap.size]? = some (.cells #[.int .i64 0, .int .i64 0, .int .i64 0, .int .i64 0, .int .i64 0, .string ⟨#[]⟩] 29)) := get_only ho RES.out (by omega)
  replace HW : Hid (Only g w w2) := HW.out.trans ho
  replace HR : Hid (Rd (0 + 46) w2 g) := hr
  clear ho hr
  have hg2 : g < w2.heap.size := HR.out.lt
  obtain ⟨RES_0, RES_1, RES_2, RES_3, RES_4, RES_5⟩ := cells6_of RES.out
  have RES_f : ∀ j, w2.frozen? ⟨w.heap.size, j, none⟩ = false := fun j => frozen_get RES.out
  go_wp2_with fail
  refine bodyPost_ret (v := .agg #[.int .i64 a, .int .i64 c, .int .i64 so, .int .i64 sv, .int .i64 sb, .string d]) (results_cell_row Tryd.results28 _ _ w.heap.size 29 #[.int .i64 a, .int .i64 c, .int .i64 so, .int .i64 sv, .int .i64 sb, .string d] (0, 0) _ rfl ?_ Tryd.underlying29 rfl cellsDcm) rfl ⟨_, _, _, _, _, _, hd, rfl, ?_⟩
  · exact get_set (get_set (get_set (get_set (get_set (get_set (RES.out) rfl) rfl) rfl) rfl) rfl) rfl
  · exact (onlyS (onlyS (onlyS (onlyS (onlyS (onlyS (HW.out) (by omega)) (by omega)) (by omega)) (by omega)) (by omega)) (by omega)).below (by omega) (Nat.le_refl _)
set_option maxRecDepth 100000 in
set_option maxHeartbeats 1000000 in
theorem DrawCmdGet_any (a : Option Addr) (len cap : Nat) (zs : List Int) (w : World) (h : IsRow .u8 w a len cap zs) :
    Calls Tryd.prog 31 #[.slice a len cap] w fun e w' => ∃ s : ByteArray, s.size ≤ 200 ∧ e = .returned (.string s) ∧ Below w.heap.size w w' := by
  have H : Hid (IsRow .u8 w a len cap zs) := h
  clear h
  go_enter Tryd.func31, Tryd.ntmps31
  go_wp2_with fail
  refine (l1Open_any a len cap zs _ H.out).mono ?_
  rintro e w1 ⟨rfl, hb1, hr1⟩
  obtain ⟨g, hgg⟩ : ∃ g, g = w.heap.size := ⟨_, rfl⟩
  rw [← hgg] at hr1 ⊢
  have HW : Hid (Only g w w1) := Only.of_below hb1
  have HR : Hid (Rd (0 + 0) w1 g) := hr1
  have hg1 : g < w1.heap.size := HR.out.lt
  have hgl : w.heap.size ≤ g := by omega
  clear hb1 hr1 H hgg
  go_wp2_with fail
  refine (l15Cmd_any (0 + 0) g _ (by omega) HR.out).mono ?_
  rintro e w2 ⟨a, c, so, sv, sb, d, h1, h2, h3, h4, h5, h6, h7, h8, h9, h10, hd, rfl, ho, hr⟩
  replace HW : Hid (Only g w w2) := HW.out.trans ho
  replace HR : Hid (Rd (0 + 44) w2 g) := hr
  clear ho hr
  have hg2 : g < w2.heap.size := HR.out.lt
  go_wp2_with fail
  refine (l6Cmd_some a c so sv sb d _ h1 h2 h3 h4 h5 h6 h7 h8 h9 h10 hd).mono ?_
  rintro e w3 ⟨S, hS, rfl, hb⟩
  replace HW : Hid (Only g w w3) := HW.out.trans (Only.of_below hb)
  replace HR : Hid (Rd (0 + 44) w3 g) := HR.out.below hb
  clear hb
  have hg3 : g < w3.heap.size := HR.out.lt
  go_wp2_with fail
  refine (pickI (0 + 44) g 6 _ (by omega) (by omega) (by omega) HR.out).mono ?_
  rintro e w4 ⟨v, hv, rfl, ho, hr⟩
  replace HW : Hid (Only g w w4) := HW.out.trans ho
  replace HR : Hid (Rd (0 + 45) w4 g) := hr
  clear ho hr
  have hg4 : g < w4.heap.size := HR.out.lt
  have hcase : v = 0 ∨ v = 1 ∨ v = 2 ∨ v = 3 ∨ 4 ≤ v := by omega
  rcases hcase with rfl | rfl | rfl | rfl | hge
  · go_wp2_with fail
    refine (l15Turn_any (0 + 45) g S _ (by omega) (by omega) HR.out).mono ?_
    rintro e w5 ⟨u, hu, rfl, ho, hr⟩
    replace HW : Hid (Only g w w5) := HW.out.trans ho
    replace HR : Hid (Rd (0 + 48) w5 g) := hr
    clear ho hr
    have hg5 : g < w5.heap.size := HR.out.lt
    go_wp2_with fail
    first | go_ret | go_ret2
    exact ⟨u, by omega, rfl, HW.out.below (by omega) (Nat.le_refl _)⟩
  · go_wp2_with fail
    refine (pickI (0 + 45) g ((S.size : Int) + 1) _ (by omega) (by omega) (by omega) HR.out).mono ?_
    rintro e w5 ⟨q, hq, rfl, ho, hr⟩
    replace HW : Hid (Only g w w5) := HW.out.trans ho
    replace HR : Hid (Rd (0 + 46) w5 g) := hr
    clear ho hr
    have hg5 : g < w5.heap.size := HR.out.lt
    have hbnd : (S.extract 0 q).size ≤ 200 := by rw [ByteArray.size_extract]; omega
    have hq6 : (q : Int) ≤ S.size := by omega
    go_wp2_with fail
    first | go_ret | go_ret2
    exact ⟨(S.extract 0 q), hbnd, rfl, HW.out.below (by omega) (Nat.le_refl _)⟩
  · go_wp2_with fail
    refine (l15AnyPacket_any (0 + 45) g _ (by omega) HR.out).mono ?_
    rintro e w5 ⟨u, a2, c2, d2, hd2, rfl, ho, hr⟩
    replace HW : Hid (Only g w w5) := HW.out.trans ho
    replace HR : Hid (Rd (0 + 143) w5 g) := hr
    clear ho hr
    have hg5 : g < w5.heap.size := HR.out.lt
    go_wp2_with fail
    refine (specPacketPut_any u a2 c2 d2 _ (by unfold maxLen; omega)).mono ?_
    rintro e w6 ⟨rfl, hb⟩
    replace HW : Hid (Only g w w6) := HW.out.trans (Only.of_below hb)
    replace HR : Hid (Rd (0 + 143) w6 g) := HR.out.below hb
    clear hb
    have hg6 : g < w6.heap.size := HR.out.lt
    have hpl := pkPut_le u a2 c2 d2
    generalize pkPut u a2 c2 d2 = q at *
    go_wp2_with fail
    first | go_ret | go_ret2
    exact ⟨q, by omega, rfl, HW.out.below (by omega) (Nat.le_refl _)⟩
  · go_wp2_with fail
    replace HW : Hid (Only g w (w4.alloc (.cells #[.string ⟨#[]⟩, .string ⟨#[97]⟩, .string ⟨#[46, 49, 50, 51]⟩, .string ⟨#[47, 49, 50]⟩] 9))) := HW.out.alloc _
    replace HR : Hid (Rd (0 + 45) (w4.alloc (.cells #[.string ⟨#[]⟩, .string ⟨#[97]⟩, .string ⟨#[46, 49, 50, 51]⟩, .string ⟨#[47, 49, 50]⟩] 9)) g) := rdA HR.out
    refine (of_lit (0 + 45) g w4.heap.size 4 4 [⟨#[]⟩, ⟨#[97]⟩, ⟨#[46, 49, 50, 51]⟩, ⟨#[47, 49, 50]⟩] _ rfl (by omega) (by omega) (by omega) HR.out (by omega) (Strs.new _)).mono ?_
    rintro e w5 ⟨y, hy, rfl, ho, hr⟩
    replace HW : Hid (Only g w w5) := HW.out.trans ho
    replace HR : Hid (Rd (0 + 46) w5 g) := hr
    clear ho hr
    have hg5 : g < w5.heap.size := HR.out.lt
    replace hy : y.size ≤ 4 := by
      simp only [List.mem_cons, List.not_mem_nil, or_false] at hy
      rcases hy with rfl | rfl | rfl | rfl
      · first | omega | decide
      · first | omega | decide
      · first | omega | decide
      · first | omega | decide
    have h00 : (⟨#[0, 0]⟩ : ByteArray).size = 2 := rfl
    have hY : (y ++ ⟨#[0, 0]⟩ : ByteArray).size = y.size + 2 := by rw [ByteArray.size_append]; rfl
    go_wp2_with fail
    generalize y ++ ⟨#[0, 0]⟩ = yy at *
    refine (l6Put_some true 1 0 yy _ (by decide) (by decide) (by decide) (by decide) (by omega) (by omega)).mono ?_
    rintro e w6 ⟨p, hp, rfl, hb⟩
    replace HW : Hid (Only g w w6) := HW.out.trans (Only.of_below hb)
    replace HR : Hid (Rd (0 + 46) w6 g) := HR.out.below hb
    clear hb
    have hg6 : g < w6.heap.size := HR.out.lt
    have hpz : 8 ≤ p.size ∧ p.size ≤ 12 := by omega
    clear hp hY h00
    have hq2 : (p.extract 0 (p.size - 2)).size = p.size - 2 := by rw [ByteArray.size_extract]; omega
    obtain ⟨cr, z, hz, hc1, hc2⟩ := crcPut (p.extract 0 (p.size - 2)) (by omega)
    have HC1 : Hid _ := hc1
    have HC2 : Hid _ := hc2
    clear hc1 hc2
    have hno : (9223372036854775807 < (p.extract 0 (p.size - 2)).size + z.size) = False := by simp; omega
    have hno2 : (9223372036854775807 < p.size - 2 + 2) = False := by simp; omega
    have hw1 : IntKind.i64.wrap ((p.size : Int) - 2) = (p.size : Int) - 2 := wrapI64 _ (by omega) (by omega)
    have hw2 : (0 : Int) ≤ (p.size : Int) - 2 := by omega
    have hw3 : (p.size : Int) - 2 ≤ (p.size : Int) := by omega
    have hw4 : ((p.size : Int) - 2).toNat = p.size - 2 := by omega
    go_wp2_with fail
    refine wp_region_bl (by kernel_rfl) (by kernel_rfl) ?_
    repeat (go_big_quiet_step ((first | (go_at_call 56; exact calls_bl (HC1.out _)) | (go_at_call 80; exact calls_bl (HC2.out _)))))
    refine wpQuiet_nil ?_
    intro w9 hw
    obtain ⟨⟨w9, hb⟩, rfl⟩ := hw
    replace HW : Hid (Only g w w9) := HW.out.trans (Only.of_below hb)
    clear hb
    have hbnd : (p.extract 0 (p.size - 2) ++ z).size ≤ 200 := by rw [ByteArray.size_append]; omega
    go_wp2_with fail
    first | go_ret | go_ret2
    exact ⟨_, hbnd, rfl, HW.out.below (by omega) (Nat.le_refl _)⟩
  · have b0 : ((v : Int) == 0) = false := by rw [beq_eq_false_iff_ne]; omega
    have b1 : ((v : Int) == 1) = false := by rw [beq_eq_false_iff_ne]; omega
    have b2 : ((v : Int) == 2) = false := by rw [beq_eq_false_iff_ne]; omega
    have b3 : ((v : Int) == 3) = false := by rw [beq_eq_false_iff_ne]; omega
    go_wp2_with fail
    first | go_ret | go_ret2
    exact ⟨S, by omega, rfl, HW.out.below (by omega) (Nat.le_refl _)⟩
end Go.Proofs.YtccpdadabndleaaDoor
