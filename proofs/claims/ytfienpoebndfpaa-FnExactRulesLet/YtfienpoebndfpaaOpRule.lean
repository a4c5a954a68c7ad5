/- A slice of laws.Rule that came in: its shape. -/
import Derived.Test.YtfienpoebndfpaaFrame
import Derived.Test.YtfienpoebndfpaaSlRule
import Derived.Lib.SmallJoins
import Derived.Deep.Slices
namespace Go.Proofs.Ytfienpoebndfpaa
open Go.ChangeShapes Go.WideShapes Go.ChangeAt Go.RowKit Go.Joins
set_option linter.unusedVariables false
theorem listRule {α : Type} {l : List α} (h : l.length = 6) : ∃ x0 x1 x2 x3 x4 x5, l = [x0, x1, x2, x3, x4, x5] := by
  match l, h with
  | [x0, x1, x2, x3, x4, x5], _ => exact ⟨x0, x1, x2, x3, x4, x5, rfl⟩
section
variable {H : Type} {enc : TypeId × Value → H} {w : World} {base : Nat} {spare : Nat → Bool} {held : Bool}
theorem cellsOfRule : Try.prog.cellsOf 106 = 6 := by kernel_rfl
set_option maxRecDepth 100000 in
theorem open_Rule {fuel : Nat} {cs : List Value} {d : DataW H × List MemPlace} (h : DataW.trod enc Try.prog w base spare held fuel 106 cs = some d) : ∃ (g : Int × Int × Int × Int × Bool × Bool), cs = [.int .i64 g.1, .int .i64 g.2.1, .int .i64 g.2.2.1, .int .i64 g.2.2.2.1, .bool g.2.2.2.2.1, .bool g.2.2.2.2.2] := by
  obtain ⟨xs, n, _, _, hl, hlen, hfd⟩ := DataW.trod_struct Try.underlying106 h
  obtain ⟨c0, c1, c2, c3, c4, c5, rfl⟩ := listRule (hl.trans cellsOfRule)
  obtain ⟨y0, y1, y2, y3, y4, y5, rfl⟩ := listRule hlen
  have k_b : Try.prog.cellsOf 4 = 1 := by kernel_rfl
  have k_i : Try.prog.cellsOf 3 = 1 := by kernel_rfl
  have e0 := hfd 0 _ rfl
  have e1 := hfd 1 _ rfl
  have e2 := hfd 2 _ rfl
  have e3 := hfd 3 _ rfl
  have e4 := hfd 4 _ rfl
  have e5 := hfd 5 _ rfl
  simp [k_b, k_i] at e0 e1 e2 e3 e4 e5
  obtain ⟨x0, h0, _⟩ := DataW.trod_int Try.underlying3 e0
  obtain ⟨x1, h1, _⟩ := DataW.trod_int Try.underlying3 e1
  obtain ⟨x2, h2, _⟩ := DataW.trod_int Try.underlying3 e2
  obtain ⟨x3, h3, _⟩ := DataW.trod_int Try.underlying3 e3
  obtain ⟨x4, h4, _⟩ := DataW.trod_bool Try.underlying4 e4
  obtain ⟨x5, h5, _⟩ := DataW.trod_bool Try.underlying4 e5
  simp only [List.cons.injEq, and_true] at h0 h1 h2 h3 h4 h5
  subst h0 h1 h2 h3 h4 h5
  exact ⟨(x0, x1, x2, x3, x4, x5), rfl⟩
set_option maxRecDepth 100000 in
theorem open_RuleS {r : Reach} {b0 : Nat} {v : Value} {d : DataW H} {p : List MemPlace} (hv : Value.okWide Try.prog w r b0 24 v) (h : DataW.Trod enc Try.prog w base spare held 24 v d p) :
    ∃ (a : Option Addr) (n cap : Nat) (f0 : Nat → Int) (f1 : Nat → Int) (f2 : Nat → Int) (f3 : Nat → Int) (f4 : Nat → Bool) (f5 : Nat → Bool), v = .slice a n cap ∧ n ≤ maxLen ∧ RuleS w a n f0 f1 f2 f3 f4 f5 := by
  obtain ⟨a, len, cap, rfl⟩ := okWide_slice Try.underlying24 hv
  obtain ⟨fuel, hf⟩ := h
  rcases Go.Deep.open_slice Try.underlying24 hf with ⟨hcs, _⟩ | ⟨⟨b, off, sp⟩, len', cap', m, nn, D, Pl, hcs, hb, hl, hm, hmm, _, hcell⟩
  · simp [Value.cells] at hcs
    obtain ⟨rfl, rfl, rfl⟩ := hcs
    exact ⟨none, 0, 0, fun _ => 0, fun _ => 0, fun _ => 0, fun _ => 0, fun _ => false, fun _ => false, rfl, Nat.zero_le _, .inl rfl⟩
  · simp [Value.cells] at hcs
    obtain ⟨rfl, rfl, rfl⟩ := hcs
    have hlm : len ≤ m := by rw [hmm]; split <;> omega
    rw [cellsOfRule] at hcell
    have each : ∀ i, i < m → ∃ g : Int × Int × Int × Int × Bool × Bool, w.cells? base ((⟨b, off, sp⟩ : Addr).add (i * 6)) 6 = some [.int .i64 g.1, .int .i64 g.2.1, .int .i64 g.2.2.1, .int .i64 g.2.2.2.1, .bool g.2.2.2.2.1, .bool g.2.2.2.2.2] := fun i hi => by
      obtain ⟨cs', h1, h2⟩ := hcell i hi
      obtain ⟨g, rfl⟩ := open_Rule h2
      exact ⟨g, h1⟩
    obtain ⟨g, hg⟩ := Go.Deep.choose_lt each
    rcases Nat.eq_zero_or_pos len with h0 | h0
    · subst h0
      exact ⟨_, 0, cap, fun _ => 0, fun _ => 0, fun _ => 0, fun _ => 0, fun _ => false, fun _ => false, rfl, Nat.zero_le _, .inl rfl⟩
    · have hc := (World.cells?_some (hg 0 (by omega))).2.2 0 (by omega)
      obtain ⟨v0, hv0⟩ : ∃ v, w.cell? (((⟨b, off, sp⟩ : Addr).add (0 * 6)).add 0) = some v := ⟨_, hc.trans rfl⟩
      have hsp : sp = none := by simpa [Addr.add] using World.cell?_spot hv0
      subst hsp
      have hadd1 : ∀ o i, (⟨b, o, none⟩ : Addr).add i = ⟨b, o + i, none⟩ := fun o i => by unfold Addr.add; split <;> simp_all
      have hadd : ∀ i j, ((⟨b, off, none⟩ : Addr).add i).add j = ⟨b, off + i + j, none⟩ := fun i j => by rw [hadd1, hadd1]
      refine ⟨_, len, cap, fun i => (g i).1, fun i => (g i).2.1, fun i => (g i).2.2.1, fun i => (g i).2.2.2.1, fun i => (g i).2.2.2.2.1, fun i => (g i).2.2.2.2.2, rfl, by omega, .inr ⟨b, off, rfl, ?_, fun i hi => ?_⟩⟩
      · rw [hadd] at hv0
        exact block_lt_of_cell hv0
      · have hh := (World.cells?_some (hg i (by omega))).2.2
        refine ⟨by have := hh 0 (by omega); rw [hadd] at this; simpa using this, by have := hh 1 (by omega); rw [hadd] at this; simpa using this, by have := hh 2 (by omega); rw [hadd] at this; simpa using this, by have := hh 3 (by omega); rw [hadd] at this; simpa using this, by have := hh 4 (by omega); rw [hadd] at this; simpa using this, by have := hh 5 (by omega); rw [hadd] at this; simpa using this⟩
end
end Go.Proofs.Ytfienpoebndfpaa
