/- The contract of spec.DrawBch. -/
import Derived.Test.YtkpefhgkbifhcaaDrawT
namespace Go.Proofs.Ytkpefhgkbifhcaa
open Go.ChangeShapes Go.WideShapes Go.ChangeAt Go.RowKit
set_option linter.unusedVariables false

theorem size_x (s : ByteArray) : (s ++ (⟨#[120]⟩ : ByteArray)).size = s.size + 1 := by rw [ByteArray.size_append]; rfl
set_option maxHeartbeats 400000 in
theorem DrawBch_any (a : Option Addr) (len cap : Nat) (zs : List Int) (w : World) (h : IsRow .u8 w a len cap zs) :
    Calls Try.prog 21 #[.slice a len cap] w fun e w' => ∃ s : ByteArray, 7 ≤ s.size ∧ s.size ≤ 9 ∧ e = .returned (.string s) ∧ Below w.heap.size w w' := by
  have H : Hid (IsRow .u8 w a len cap zs) := h
  clear h
  go_enter Try.func21, Try.ntmps21
  go_wp2_with fail
  refine (l1Open_any a len cap zs _ H.out).mono ?_
  rintro e w1 ⟨rfl, hb1, hr1⟩
  go_wp2_with fail
  refine (l15Text_any 0 9 w.heap.size w1 (by omega) (by omega) hr1).mono ?_
  rintro e w2 ⟨s, hs, rfl, ho2, hr2⟩
  have HB : Hid (Below w.heap.size w w2) := hb1.trans (ho2.below (Nat.le_refl _) hb1.size)
  have HR : Hid (Rd (0 + 1 + 3 * 9) w2 w.heap.size) := hr2
  clear hb1 hr1 ho2 hr2
  go_wp2_with fail
  go_loop [4] (fun t => ∃ u : ByteArray, u.size ≤ 9 ∧ t = .string u) (fun t => match t with | .string u => 9 - u.size | _ => 0)
  case atStart => exact ⟨s, hs, rfl⟩
  case round =>
    obtain ⟨u, hu, rfl⟩ := hrel
    by_cases hlt : (u.size : Int) < 7
    · have hx := size_x u
      go_wp2_with fail
      exact ⟨⟨u ++ ⟨#[120]⟩, by omega, rfl⟩, by show 9 - (u ++ ⟨#[120]⟩ : ByteArray).size < 9 - u.size; omega⟩
    · go_wp2_with fail
      refine (pickI (0 + 1 + 3 * 9) w.heap.size _ _ (by omega) (by omega) (by omega) HR.out).mono ?_
      rintro e w3 ⟨v, hv, rfl, ho3, hr3⟩
      have HB3 : Hid (Below w.heap.size w w3) := HB.out.trans (ho3.below (Nat.le_refl _) HB.out.size)
      clear ho3 hr3
      by_cases h0 : v = 0
      · subst h0
        go_wp2_with fail
        go_ret
        exact ⟨u, by omega, hu, rfl, HB3.out⟩
      · have hz : ((v : Int) == 0) = false := by rw [beq_eq_false_iff_ne]; omega
        have hx : (u.extract 0 7).size = 7 := by rw [ByteArray.size_extract]; omega
        go_wp2_with fail
        go_ret
        exact ⟨u.extract 0 7, by omega, by omega, rfl, HB3.out⟩
end Go.Proofs.Ytkpefhgkbifhcaa
