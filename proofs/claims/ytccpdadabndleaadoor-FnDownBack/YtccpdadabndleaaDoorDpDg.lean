/- The draw of texts that may be frames down. -/
import Derived.Test.YtccpdadabndleaaDoorDpDn
import Derived.Test.YtccpdadabndleaaDoorDnR
namespace Go.Proofs.YtccpdadabndleaaDoor
open Go.ChangeShapes Go.WideShapes Go.ChangeAt Go.RowKit
set_option linter.unusedVariables false
set_option maxRecDepth 100000 in
set_option maxHeartbeats 1000000 in
theorem DrawDownGet_any (a : Option Addr) (len cap : Nat) (zs : List Int) (w : World) (h : IsRow .u8 w a len cap zs) :
    Calls Tryd.prog 44 #[.slice a len cap] w fun e w' => ∃ s : ByteArray, s.size ≤ 200 ∧ e = .returned (.string s) ∧ Below w.heap.size w w' := by
  have H : Hid (IsRow .u8 w a len cap zs) := h
  clear h
  go_enter Tryd.func44, Tryd.ntmps44
  go_wp2_with fail
  refine (l1Open_any a len cap zs _ H.out).mono ?_
  rintro e w1 ⟨rfl, hb1, hr1⟩
  obtain ⟨g, hgg⟩ : ∃ g, g = w.heap.size := ⟨_, rfl⟩
  rw [← hgg] at hr1 ⊢
  have HW : Hid (Only g w w1) := Only.of_below hb1
  have HR : Hid (Rd (0 + 0) w1 g) := hr1
  have hg1 : g < w1.heap.size := HR.out.lt
  have hgl : w.heap.size ≤ g := by omega
  clear hb1 hr1 H hgg
  go_wp2_with fail
  refine (l15Down_any (0 + 0) g _ (by omega) HR.out).mono ?_
  rintro e w2 ⟨cr, wh, al, ow, fi, d, f, h1, h2, h3, h4, h5, h6, h7, h8, h9, h10, hd0, hd1, hf1, rfl, ho, hr⟩
  replace HW : Hid (Only g w w2) := HW.out.trans ho
  replace HR : Hid (Rd (0 + 99) w2 g) := hr
  clear ho hr
  have hg2 : g < w2.heap.size := HR.out.lt
  go_wp2_with fail
  refine (l12Put_some cr wh al ow fi d f _ h1 (by omega) h3 (by omega) h5 h6 h7 h8 h9 h10 (by omega) hf1).mono ?_
  rintro e w3 ⟨S, hS0, hS, rfl, hb⟩
  replace HW : Hid (Only g w w3) := HW.out.trans (Only.of_below hb)
  replace HR : Hid (Rd (0 + 99) w3 g) := HR.out.below hb
  clear hb
  have hg3 : g < w3.heap.size := HR.out.lt
  go_wp2_with fail
  refine (pickI (0 + 99) g 4 _ (by omega) (by omega) (by omega) HR.out).mono ?_
  rintro e w4 ⟨v, hv, rfl, ho, hr⟩
  replace HW : Hid (Only g w w4) := HW.out.trans ho
  replace HR : Hid (Rd (0 + 100) w4 g) := hr
  clear ho hr
  have hg4 : g < w4.heap.size := HR.out.lt
  have hcase : v = 0 ∨ v = 1 ∨ 2 ≤ v := by omega
  rcases hcase with rfl | rfl | hge
  · go_wp2_with fail
    refine (l15Turn_any (0 + 100) g S _ (by omega) (by omega) HR.out).mono ?_
    rintro e w5 ⟨u, hu, rfl, ho, hr⟩
    replace HW : Hid (Only g w w5) := HW.out.trans ho
    replace HR : Hid (Rd (0 + 103) w5 g) := hr
    clear ho hr
    have hg5 : g < w5.heap.size := HR.out.lt
    go_wp2_with fail
    first | go_ret | go_ret2
    exact ⟨u, by omega, rfl, HW.out.below (by omega) (Nat.le_refl _)⟩
  · have hbnd : (S.extract 1 S.size).size ≤ 200 := by rw [ByteArray.size_extract]; omega
    have hq6 : (1 : Int) ≤ (S.size : Int) := by omega
    go_wp2_with fail
    first | go_ret | go_ret2
    exact ⟨(S.extract 1 S.size), hbnd, rfl, HW.out.below (by omega) (Nat.le_refl _)⟩
  · have b0 : ((v : Int) == 0) = false := by rw [beq_eq_false_iff_ne]; omega
    have b1 : ((v : Int) == 1) = false := by rw [beq_eq_false_iff_ne]; omega
    go_wp2_with fail
    first | go_ret | go_ret2
    exact ⟨S, by omega, rfl, HW.out.below (by omega) (Nat.le_refl _)⟩
end Go.Proofs.YtccpdadabndleaaDoor
