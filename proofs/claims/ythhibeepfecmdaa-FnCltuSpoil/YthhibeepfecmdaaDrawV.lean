/- The contract of spec.DrawCltuPut. -/
import Derived.Test.YthhibeepfecmdaaMany
import Derived.Test.YthhibeepfecmdaaHeap
namespace Go.Proofs.Ythhibeepfecmdaa
open Go.ChangeShapes Go.WideShapes Go.ChangeAt Go.RowKit
set_option linter.unusedVariables false
theorem rdV {N g : Nat} {o : Obj} {W : World} (h : Rd N W g) : Rd N (W.alloc o) g := h.below ((Below.refl _ _).alloc (Nat.le_refl _) _)
set_option maxRecDepth 100000 in
set_option maxHeartbeats 1000000 in
theorem DrawCltuPut_any (a : Option Addr) (len cap : Nat) (zs : List Int) (w : World) (h : IsRow .u8 w a len cap zs) :
    Calls Try.prog 15 #[.slice a len cap] w fun e w' => ∃ s : ByteArray, s.size ≤ 64 ∧ e = .returned (.string s) ∧ Below w.heap.size w w' := by
  have H : Hid _ := h
  clear h
  go_enter Try.func15, Try.ntmps15
  go_wp2_with fail
  refine (l1Open_any a len cap zs _ H.out).mono ?_
  rintro e w1 ⟨rfl, hb1, hr1⟩
  have HB1 : Hid (Below w.heap.size w w1) := hb1
  have HR1 : Hid (Rd 0 w1 w.heap.size) := hr1
  have hz1 : w.heap.size < w1.heap.size := hr1.lt
  clear hb1 hr1
  go_wp2_with fail
  refine (l15Text_any 0 63 w.heap.size w1 (by omega) (by omega) HR1.out).mono ?_
  rintro e w2 ⟨s1, hs1, rfl, ho2, hr2⟩
  have HB2 : Hid (Below w.heap.size w w2) := HB1.out.trans (ho2.below (Nat.le_refl _) (by omega))
  have HR2 : Hid (Rd 190 w2 w.heap.size) := hr2
  have hz2 : w.heap.size < w2.heap.size := hr2.lt
  clear ho2 hr2
  go_wp2_with fail
  refine (pickI 190 w.heap.size _ _ (by omega) (by omega) (by omega) HR2.out).mono ?_
  rintro e w3 ⟨p1, hp1, rfl, ho3, hr3⟩
  have HB3 : Hid (Below w.heap.size w w3) := HB2.out.trans (ho3.below (Nat.le_refl _) (by omega))
  have HR3 : Hid (Rd 191 w3 w.heap.size) := hr3
  have hz3 : w.heap.size < w3.heap.size := hr3.lt
  clear ho3 hr3
  go_wp2_with fail
  refine (l1ManyI ⟨#[122]⟩ _ w3 (by omega) (by omega) (by decide)).mono ?_
  rintro e w4 ⟨s2, hs2, rfl, hb4⟩
  have hs2' : s2.size ≤ 64 := by
    have e1 : (⟨#[122]⟩ : ByteArray).size = 1 := rfl
    rw [e1, Nat.mul_one] at hs2
    omega
  have HB4 : Hid (Below w.heap.size w w4) := HB3.out.trans (hb4.mono (by omega))
  have HR4 : Hid (Rd 191 w4 w.heap.size) := HR3.out.below hb4
  have hz4 : w.heap.size < w4.heap.size := by have := hb4.size; omega
  clear hb4 hs2
  go_wp2_with fail
  refine (pickI 191 w.heap.size _ _ (by omega) (by omega) (by omega) (rdV HR4.out)).mono ?_
  rintro e w5 ⟨p2, hp2, rfl, ho5, hr5⟩
  have hc0 : w5.cell? ⟨w4.heap.size, 0, none⟩ = some (.string s1) := (ho5.cell (p := ⟨w4.heap.size, 0, none⟩) (by simp) (by simp; omega)).trans (cell_get (get_new rfl) rfl)
  have hc1 : w5.cell? ⟨w4.heap.size, 1, none⟩ = some (.string s2) := (ho5.cell (p := ⟨w4.heap.size, 1, none⟩) (by simp) (by simp; omega)).trans (cell_get (get_new rfl) rfl)
  have hc2 : w5.cell? ⟨w4.heap.size, 2, none⟩ = some (.string ⟨#[]⟩) := (ho5.cell (p := ⟨w4.heap.size, 2, none⟩) (by simp) (by simp; omega)).trans (cell_get (get_new rfl) rfl)
  have HB5 : Hid (Below w.heap.size w w5) := (HB4.out.alloc (by omega) _).trans (ho5.below (Nat.le_refl _) (by simp; omega))
  clear ho5 hr5
  have hcase : p2 < 4 ∨ (4 ≤ p2 ∧ p2 < 8) ∨ (8 ≤ p2 ∧ p2 < 12) := by omega
  rcases hcase with h | ⟨h, h'⟩ | ⟨h, h'⟩
  · have hq : (p2 : Int) * 3 / 12 = 0 := by omega
    go_wp2_with fail
    go_ret
    exact ⟨s1, by omega, rfl, HB5.out⟩
  · have hq : (p2 : Int) * 3 / 12 = 1 := by omega
    go_wp2_with fail
    go_ret
    exact ⟨s2, by omega, rfl, HB5.out⟩
  · have hq : (p2 : Int) * 3 / 12 = 2 := by omega
    go_wp2_with fail
    go_ret
    exact ⟨⟨#[]⟩, by show 0 ≤ 64; omega, rfl, HB5.out⟩
end Go.Proofs.Ythhibeepfecmdaa
