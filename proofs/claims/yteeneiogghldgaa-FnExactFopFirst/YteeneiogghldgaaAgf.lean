/- Who sends, as it came in: its shape. -/
import Derived.Test.YteeneiogghldgaaFrame
import Derived.Test.YteeneiogghldgaaTxS
import Derived.Lib.SmallJoins
import Derived.Deep.Strs
namespace Go.Proofs.Yteeneiogghldgaa
open Go.ChangeShapes Go.WideShapes Go.ChangeAt Go.RowKit Go.Joins
set_option linter.unusedVariables false
theorem arrayF {α : Type} {cs : Array α} (h : cs.size = 5) : ∃ c0 c1 c2 c3 c4, cs = #[c0, c1, c2, c3, c4] := by
  obtain ⟨l⟩ := cs
  match l, h with
  | [c0, c1, c2, c3, c4], _ => exact ⟨c0, c1, c2, c3, c4, rfl⟩
theorem listF {α : Type} {l : List α} (h : l.length = 5) : ∃ c0 c1 c2 c3 c4, l = [c0, c1, c2, c3, c4] := by
  match l, h with
  | [c0, c1, c2, c3, c4], _ => exact ⟨c0, c1, c2, c3, c4, rfl⟩
section
variable {H : Type} {enc : TypeId × Value → H} {w : World} {base : Nat} {spare : Nat → Bool} {held : Bool}
theorem cells_fop : Try.prog.cellsOf 51 = 5 := by kernel_rfl
/-- A slice of texts that came in, in a field or by itself. -/
theorem open_texts {fuel : Nat} {u : Value} {d : DataW H × List MemPlace} (h : DataW.trod enc Try.prog w base spare held fuel 49 [u] = some d) : ∃ (a : Option Addr) (n cap : Nat) (f : Nat → ByteArray), u = .slice a n cap ∧ n ≤ maxLen ∧ Txt w a n f := by
  have k9 : Try.prog.cellsOf 9 = 1 := by kernel_rfl
  rcases Go.Deep.open_strs Try.underlying49 Try.underlying9 k9 h with ⟨hcs, _⟩ | ⟨⟨b, off, sp⟩, len, cap, m, Sx, hcs, hb, hl, hm, hmm, _, hcell⟩
  · simp at hcs
    subst hcs
    exact ⟨none, 0, 0, fun _ => ⟨#[]⟩, rfl, Nat.zero_le _, fun i hi => by omega, .inl rfl⟩
  · simp at hcs
    subst hcs
    have hlm : len ≤ m := by rw [hmm]; split <;> omega
    rcases Nat.eq_zero_or_pos len with h0 | h0
    · subst h0
      exact ⟨_, 0, cap, Sx, rfl, Nat.zero_le _, fun i hi => by omega, .inl rfl⟩
    · have hc := (hcell 0 (by omega)).1
      have hsp : sp = none := by simpa [Addr.add] using World.cell?_spot hc
      subst hsp
      have hadd : ∀ i, (⟨b, off, none⟩ : Addr).add i = ⟨b, off + i, none⟩ := fun i => by unfold Addr.add; split <;> simp_all
      refine ⟨_, len, cap, Sx, rfl, by omega, fun i hi => (hcell i (by omega)).2, .inr ⟨b, off, rfl, ?_, fun i hi => ?_⟩⟩
      · rw [hadd] at hc
        exact block_lt_of_cell hc
      · have := (hcell i (by omega)).1
        rw [hadd] at this
        exact this
set_option maxRecDepth 100000 in
theorem open_fop {r : Reach} {b0 : Nat} {v : Value} {d : DataW H} {p : List MemPlace} (hv : Value.okWide Try.prog w r b0 51 v) (h : DataW.Trod enc Try.prog w base spare held 51 v d p) :
    ∃ (c u x : Int) (a : Option Addr) (n cap : Nat) (f : Nat → ByteArray) (s : Bool), v = .agg #[.int .i64 c, .int .i64 u, .int .i64 x, .slice a n cap, .bool s] ∧ n ≤ maxLen ∧ Txt w a n f := by
  obtain ⟨cs, rfl, hsz⟩ := okWide_struct Try.underlying51 hv
  obtain ⟨c0, c1, c2, c3, c4, rfl⟩ := arrayF (hsz.trans cells_fop)
  obtain ⟨fuel, hf⟩ := h
  obtain ⟨xs, n, _, _, hl, hlen, hfd⟩ := DataW.trod_struct Try.underlying51 hf
  obtain ⟨y0, y1, y2, y3, y4, rfl⟩ := listF hlen
  have k3 : Try.prog.cellsOf 3 = 1 := by kernel_rfl
  have k4 : Try.prog.cellsOf 4 = 1 := by kernel_rfl
  have kS : Try.prog.cellsOf 49 = 1 := by kernel_rfl
  have e0 := hfd 0 _ rfl
  have e1 := hfd 1 _ rfl
  have e2 := hfd 2 _ rfl
  have e3 := hfd 3 _ rfl
  have e4 := hfd 4 _ rfl
  simp [Value.cells, k3, k4, kS] at e0 e1 e2 e3 e4
  obtain ⟨c, hc, _⟩ := DataW.trod_int Try.underlying3 e0
  obtain ⟨u, hu, _⟩ := DataW.trod_int Try.underlying3 e1
  obtain ⟨x, hx, _⟩ := DataW.trod_int Try.underlying3 e2
  obtain ⟨a, m, cap, f, rfl, hm, ht⟩ := open_texts e3
  obtain ⟨s, hs, _⟩ := DataW.trod_bool Try.underlying4 e4
  simp only [List.cons.injEq, and_true] at hc hu hx hs
  subst hc hu hx hs
  exact ⟨c, u, x, a, m, cap, f, s, rfl, hm, ht⟩
end
end Go.Proofs.Yteeneiogghldgaa
