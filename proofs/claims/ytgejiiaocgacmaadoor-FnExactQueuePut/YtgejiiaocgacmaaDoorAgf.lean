/- Who sends, as it came in: its shape. -/
import Derived.Test.YtgejiiaocgacmaaDoorFrame
import Derived.Test.YtgejiiaocgacmaaDoorTxS
import Derived.Lib.SmallJoins
import Derived.Deep.Strs
namespace Go.Proofs.YtgejiiaocgacmaaDoor
open Go.ChangeShapes Go.WideShapes Go.ChangeAt Go.RowKit Go.Joins
set_option linter.unusedVariables false
theorem arrayF {α : Type} {cs : Array α} (h : cs.size = 5) : ∃ c0 c1 c2 c3 c4, cs = #[c0, c1, c2, c3, c4] := by
  obtain ⟨l⟩ := cs
  match l, h with
  | [c0, c1, c2, c3, c4], _ => exact ⟨c0, c1, c2, c3, c4, rfl⟩
theorem listF {α : Type} {l : List α} (h : l.length = 5) : ∃ c0 c1 c2 c3 c4, l = [c0, c1, c2, c3, c4] := by
  match l, h with
  | [c0, c1, c2, c3, c4], _ => exact ⟨c0, c1, c2, c3, c4, rfl⟩
section
variable {H : Type} {enc : TypeId × Value → H} {w : World} {base : Nat} {spare : Nat → Bool} {held : Bool}
/-- A slice of texts that came in, in a field or by itself. -/
theorem open_texts {fuel : Nat} {u : Value} {d : DataW H × List MemPlace} (h : DataW.trod enc Tryd.prog w base spare held fuel 34 [u] = some d) : ∃ (a : Option Addr) (n cap : Nat) (f : Nat → ByteArray), u = .slice a n cap ∧ n ≤ maxLen ∧ Txt w a n f := by
  have k9 : Tryd.prog.cellsOf 9 = 1 := by kernel_rfl
  rcases Go.Deep.open_strs Tryd.underlying34 Tryd.underlying9 k9 h with ⟨hcs, _⟩ | ⟨⟨b, off, sp⟩, len, cap, m, Sx, hcs, hb, hl, hm, hmm, _, hcell⟩
  · simp at hcs
    subst hcs
    exact ⟨none, 0, 0, fun _ => ⟨#[]⟩, rfl, Nat.zero_le _, fun i hi => by omega, .inl rfl⟩
  · simp at hcs
    subst hcs
    have hlm : len ≤ m := by rw [hmm]; split <;> omega
    rcases Nat.eq_zero_or_pos len with h0 | h0
    · subst h0
      exact ⟨_, 0, cap, Sx, rfl, Nat.zero_le _, fun i hi => by omega, .inl rfl⟩
    · have hc := (hcell 0 (by omega)).1
      have hsp : sp = none := by simpa [Addr.add] using World.cell?_spot hc
      subst hsp
      have hadd : ∀ i, (⟨b, off, none⟩ : Addr).add i = ⟨b, off + i, none⟩ := fun i => by unfold Addr.add; split <;> simp_all
      refine ⟨_, len, cap, Sx, rfl, by omega, fun i hi => (hcell i (by omega)).2, .inr ⟨b, off, rfl, ?_, fun i hi => ?_⟩⟩
      · rw [hadd] at hc
        exact block_lt_of_cell hc
      · have := (hcell i (by omega)).1
        rw [hadd] at this
        exact this
end
end Go.Proofs.YtgejiiaocgacmaaDoor
