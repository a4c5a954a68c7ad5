/- What strings.Repeat makes of the filling byte. -/
import Derived.Test.YthhibeepfecmdaaShelf
import Derived.Test.YthhibeepfecmdaaCltM
namespace Go.Proofs.Ythhibeepfecmdaa
open Go.ChangeShapes Go.WideShapes Go.ChangeAt Go.RowKit
set_option linter.unusedVariables false
theorem repeatL_85 : ∀ c : Nat, (⟨(Lib.repeatL (⟨#[85]⟩ : ByteArray).data.toList c).toArray⟩ : ByteArray) = rep85 c := by
  intro c
  have := Lib.repeatL_replicate (85 : UInt8) 1 c
  unfold rep85
  simp at this
  simp [this]
theorem repeat_any (c : Nat) (w : World) (h : c ≤ 7) :
    Calls Try.prog 137 #[.string ⟨#[85]⟩, .int .i64 (c : Int)] w fun e w' => e = .returned (.string (rep85 c)) ∧ Below w.heap.size w w' := by
  by_cases h0 : c = 0
  · subst h0
    exact (Try.strings_Repeat_zero ⟨#[85]⟩ w).mono fun e w' ⟨he, hw⟩ => ⟨he, by rw [hw]; exact Below.refl _ _⟩
  by_cases h1 : c = 1
  · subst h1
    exact (Try.strings_Repeat_one ⟨#[85]⟩ w).mono fun e w' ⟨he, hw⟩ => ⟨he, by rw [hw]; exact Below.refl _ _⟩
  refine (Try.strings_Repeat_main ⟨#[85]⟩ c w (by omega) (by omega) ?_ ?_).mono fun e w' ⟨he, hw⟩ => ⟨by rw [he, repeatL_85], hw⟩
  · show 1 * c ≤ _; omega
  · show 0 < 1; omega
end Go.Proofs.Ythhibeepfecmdaa
