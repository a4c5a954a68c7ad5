/- A slice of laws.Op that came in: its shape. -/
import Derived.Test.YthhibeepfecmdaaFrame
import Derived.Test.YthhibeepfecmdaaSlOp
import Derived.Lib.SmallJoins
import Derived.Deep.Slices
namespace Go.Proofs.Ythhibeepfecmdaa
open Go.ChangeShapes Go.WideShapes Go.ChangeAt Go.RowKit Go.Joins
set_option linter.unusedVariables false
theorem listOp {α : Type} {l : List α} (h : l.length = 3) : ∃ x0 x1 x2, l = [x0, x1, x2] := by
  match l, h with
  | [x0, x1, x2], _ => exact ⟨x0, x1, x2, rfl⟩
section
variable {H : Type} {enc : TypeId × Value → H} {w : World} {base : Nat} {spare : Nat → Bool} {held : Bool}
theorem cellsOfOp : Try.prog.cellsOf 157 = 3 := by kernel_rfl
set_option maxRecDepth 100000 in
theorem open_Op {fuel : Nat} {cs : List Value} {d : DataW H × List MemPlace} (h : DataW.trod enc Try.prog w base spare held fuel 157 cs = some d) : ∃ (g : Int × Int × Int), cs = [.int .i64 g.1, .int .i64 g.2.1, .int .i64 g.2.2] := by
  obtain ⟨xs, n, _, _, hl, hlen, hfd⟩ := DataW.trod_struct Try.underlying157 h
  obtain ⟨c0, c1, c2, rfl⟩ := listOp (hl.trans cellsOfOp)
  obtain ⟨y0, y1, y2, rfl⟩ := listOp hlen
  have k_i : Try.prog.cellsOf 3 = 1 := by kernel_rfl
  have e0 := hfd 0 _ rfl
  have e1 := hfd 1 _ rfl
  have e2 := hfd 2 _ rfl
  simp [k_i] at e0 e1 e2
  obtain ⟨x0, h0, _⟩ := DataW.trod_int Try.underlying3 e0
  obtain ⟨x1, h1, _⟩ := DataW.trod_int Try.underlying3 e1
  obtain ⟨x2, h2, _⟩ := DataW.trod_int Try.underlying3 e2
  simp only [List.cons.injEq, and_true] at h0 h1 h2
  subst h0 h1 h2
  exact ⟨(x0, x1, x2), rfl⟩
set_option maxRecDepth 100000 in
theorem open_OpSf {fuel : Nat} {v : Value} {d : DataW H × List MemPlace} (hf : DataW.trod enc Try.prog w base spare held fuel 71 [v] = some d) :
    ∃ (a : Option Addr) (n cap : Nat) (f0 : Nat → Int) (f1 : Nat → Int) (f2 : Nat → Int), v = .slice a n cap ∧ n ≤ maxLen ∧ OpS w a n f0 f1 f2 := by
  rcases Go.Deep.open_slice Try.underlying71 hf with ⟨hcs, _⟩ | ⟨⟨b, off, sp⟩, len, cap, m, nn, D, Pl, hcs, hb, hl, hm, hmm, _, hcell⟩
  · simp at hcs
    subst hcs
    exact ⟨none, 0, 0, fun _ => 0, fun _ => 0, fun _ => 0, rfl, Nat.zero_le _, .inl rfl⟩
  · simp at hcs
    subst hcs
    have hlm : len ≤ m := by rw [hmm]; split <;> omega
    rw [cellsOfOp] at hcell
    have each : ∀ i, i < m → ∃ g : Int × Int × Int, w.cells? base ((⟨b, off, sp⟩ : Addr).add (i * 3)) 3 = some [.int .i64 g.1, .int .i64 g.2.1, .int .i64 g.2.2] := fun i hi => by
      obtain ⟨cs', h1, h2⟩ := hcell i hi
      obtain ⟨g, rfl⟩ := open_Op h2
      exact ⟨g, h1⟩
    obtain ⟨g, hg⟩ := Go.Deep.choose_lt each
    rcases Nat.eq_zero_or_pos len with h0 | h0
    · subst h0
      exact ⟨_, 0, cap, fun _ => 0, fun _ => 0, fun _ => 0, rfl, Nat.zero_le _, .inl rfl⟩
    · have hc := (World.cells?_some (hg 0 (by omega))).2.2 0 (by omega)
      obtain ⟨v0, hv0⟩ : ∃ v, w.cell? (((⟨b, off, sp⟩ : Addr).add (0 * 3)).add 0) = some v := ⟨_, hc.trans rfl⟩
      have hsp : sp = none := by simpa [Addr.add] using World.cell?_spot hv0
      subst hsp
      have hadd1 : ∀ o i, (⟨b, o, none⟩ : Addr).add i = ⟨b, o + i, none⟩ := fun o i => by unfold Addr.add; split <;> simp_all
      have hadd : ∀ i j, ((⟨b, off, none⟩ : Addr).add i).add j = ⟨b, off + i + j, none⟩ := fun i j => by rw [hadd1, hadd1]
      refine ⟨_, len, cap, fun i => (g i).1, fun i => (g i).2.1, fun i => (g i).2.2, rfl, by omega, .inr ⟨b, off, rfl, ?_, fun i hi => ?_⟩⟩
      · rw [hadd] at hv0
        exact block_lt_of_cell hv0
      · have hh := (World.cells?_some (hg i (by omega))).2.2
        refine ⟨by have := hh 0 (by omega); rw [hadd] at this; simpa using this, by have := hh 1 (by omega); rw [hadd] at this; simpa using this, by have := hh 2 (by omega); rw [hadd] at this; simpa using this⟩
set_option maxRecDepth 100000 in
theorem open_OpS {r : Reach} {b0 : Nat} {v : Value} {d : DataW H} {p : List MemPlace} (hv : Value.okWide Try.prog w r b0 71 v) (h : DataW.Trod enc Try.prog w base spare held 71 v d p) :
    ∃ (a : Option Addr) (n cap : Nat) (f0 : Nat → Int) (f1 : Nat → Int) (f2 : Nat → Int), v = .slice a n cap ∧ n ≤ maxLen ∧ OpS w a n f0 f1 f2 := by
  obtain ⟨a, len, cap, rfl⟩ := okWide_slice Try.underlying71 hv
  obtain ⟨fuel, hf⟩ := h
  exact open_OpSf hf
end
end Go.Proofs.Ythhibeepfecmdaa
