/- A slice of ints that came in, in a field or by itself: its shape. -/
import Derived.Test.YthhibeepfecmdaaFrame
import Derived.Test.YthhibeepfecmdaaInS
import Derived.Lib.SmallJoins
import Derived.Deep.Strs
namespace Go.Proofs.Ythhibeepfecmdaa
open Go.ChangeShapes Go.WideShapes Go.ChangeAt Go.RowKit Go.Joins
set_option linter.unusedVariables false
section
variable {H : Type} {enc : TypeId × Value → H} {w : World} {base : Nat} {spare : Nat → Bool} {held : Bool}
theorem open_ints1 {fuel : Nat} {u : Value} {d : DataW H × List MemPlace} (h : DataW.trod enc Try.prog w base spare held fuel 78 [u] = some d) : ∃ (a : Option Addr) (n cap : Nat) (f : Nat → Int), u = .slice a n cap ∧ n ≤ maxLen ∧ IntS w a n f := by
  rcases open_ints Try.underlying78 Try.underlying3 (by kernel_rfl) h with ⟨hcs, _⟩ | ⟨⟨b, off, sp⟩, l, c, zs, hcs, _, hl, hm, hz, _, hcell, _⟩
  · simp at hcs
    subst hcs
    exact ⟨none, 0, 0, fun _ => 0, rfl, Nat.zero_le _, .inl rfl⟩
  · simp at hcs
    subst hcs
    have hlm : l ≤ zs.length := by rw [hz]; split <;> omega
    rcases Nat.eq_zero_or_pos l with h0 | h0
    · subst h0
      exact ⟨_, 0, c, fun _ => 0, rfl, Nat.zero_le _, .inl rfl⟩
    · have hc := hcell 0 (by omega)
      have hsp : sp = none := by simpa [Addr.add] using World.cell?_spot hc
      subst hsp
      have hadd : ∀ i, (⟨b, off, none⟩ : Addr).add i = ⟨b, off + i, none⟩ := fun i => by unfold Addr.add; split <;> simp_all
      refine ⟨_, l, c, fun i => zs.getD i 0, rfl, by omega, .inr ⟨b, off, rfl, ?_, fun i hi => ?_⟩⟩
      · rw [hadd] at hc
        exact block_lt_of_cell hc
      · have := hcell i (by omega)
        rw [hadd] at this
        exact this
end
end Go.Proofs.Ythhibeepfecmdaa
