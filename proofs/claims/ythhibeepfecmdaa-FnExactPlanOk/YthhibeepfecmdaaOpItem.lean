/- A slice of laws.Item that came in: its shape. -/
import Derived.Test.YthhibeepfecmdaaFrame
import Derived.Test.YthhibeepfecmdaaSlItem
import Derived.Lib.SmallJoins
import Derived.Deep.Slices
namespace Go.Proofs.Ythhibeepfecmdaa
open Go.ChangeShapes Go.WideShapes Go.ChangeAt Go.RowKit Go.Joins
set_option linter.unusedVariables false
theorem listItem {α : Type} {l : List α} (h : l.length = 2) : ∃ x0 x1, l = [x0, x1] := by
  match l, h with
  | [x0, x1], _ => exact ⟨x0, x1, rfl⟩
section
variable {H : Type} {enc : TypeId × Value → H} {w : World} {base : Nat} {spare : Nat → Bool} {held : Bool}
theorem cellsOfItem : Try.prog.cellsOf 184 = 2 := by kernel_rfl
set_option maxRecDepth 100000 in
theorem open_Item {fuel : Nat} {cs : List Value} {d : DataW H × List MemPlace} (h : DataW.trod enc Try.prog w base spare held fuel 184 cs = some d) : ∃ (g : Int × ByteArray), cs = [.int .i64 g.1, .string g.2] ∧ (g.2).size ≤ maxLen := by
  obtain ⟨xs, n, _, _, hl, hlen, hfd⟩ := DataW.trod_struct Try.underlying184 h
  obtain ⟨c0, c1, rfl⟩ := listItem (hl.trans cellsOfItem)
  obtain ⟨y0, y1, rfl⟩ := listItem hlen
  have k_i : Try.prog.cellsOf 3 = 1 := by kernel_rfl
  have k_s : Try.prog.cellsOf 9 = 1 := by kernel_rfl
  have e0 := hfd 0 _ rfl
  have e1 := hfd 1 _ rfl
  simp [k_i, k_s] at e0 e1
  obtain ⟨x0, h0, _⟩ := DataW.trod_int Try.underlying3 e0
  obtain ⟨x1, h1, _, m1⟩ := DataW.trod_string Try.underlying9 e1
  simp only [List.cons.injEq, and_true] at h0 h1
  subst h0 h1
  exact ⟨(x0, x1), rfl, m1⟩
set_option maxRecDepth 100000 in
theorem open_ItemSf {fuel : Nat} {v : Value} {d : DataW H × List MemPlace} (hf : DataW.trod enc Try.prog w base spare held fuel 60 [v] = some d) :
    ∃ (a : Option Addr) (n cap : Nat) (f0 : Nat → Int) (f1 : Nat → ByteArray), v = .slice a n cap ∧ n ≤ maxLen ∧ ItemS w a n f0 f1 := by
  rcases Go.Deep.open_slice Try.underlying60 hf with ⟨hcs, _⟩ | ⟨⟨b, off, sp⟩, len, cap, m, nn, D, Pl, hcs, hb, hl, hm, hmm, _, hcell⟩
  · simp at hcs
    subst hcs
    exact ⟨none, 0, 0, fun _ => 0, fun _ => ⟨#[]⟩, rfl, Nat.zero_le _, .inl rfl⟩
  · simp at hcs
    subst hcs
    have hlm : len ≤ m := by rw [hmm]; split <;> omega
    rw [cellsOfItem] at hcell
    have each : ∀ i, i < m → ∃ g : Int × ByteArray, w.cells? base ((⟨b, off, sp⟩ : Addr).add (i * 2)) 2 = some [.int .i64 g.1, .string g.2] ∧ (g.2).size ≤ maxLen := fun i hi => by
      obtain ⟨cs', h1, h2⟩ := hcell i hi
      obtain ⟨g, rfl, hg⟩ := open_Item h2
      exact ⟨g, h1, hg⟩
    obtain ⟨g, hg⟩ := Go.Deep.choose_lt each
    rcases Nat.eq_zero_or_pos len with h0 | h0
    · subst h0
      exact ⟨_, 0, cap, fun _ => 0, fun _ => ⟨#[]⟩, rfl, Nat.zero_le _, .inl rfl⟩
    · have hc := (World.cells?_some (hg 0 (by omega)).1).2.2 0 (by omega)
      obtain ⟨v0, hv0⟩ : ∃ v, w.cell? (((⟨b, off, sp⟩ : Addr).add (0 * 2)).add 0) = some v := ⟨_, hc.trans rfl⟩
      have hsp : sp = none := by simpa [Addr.add] using World.cell?_spot hv0
      subst hsp
      have hadd1 : ∀ o i, (⟨b, o, none⟩ : Addr).add i = ⟨b, o + i, none⟩ := fun o i => by unfold Addr.add; split <;> simp_all
      have hadd : ∀ i j, ((⟨b, off, none⟩ : Addr).add i).add j = ⟨b, off + i + j, none⟩ := fun i j => by rw [hadd1, hadd1]
      refine ⟨_, len, cap, fun i => (g i).1, fun i => (g i).2, rfl, by omega, .inr ⟨b, off, rfl, ?_, fun i hi => ?_⟩⟩
      · rw [hadd] at hv0
        exact block_lt_of_cell hv0
      · have hh := (World.cells?_some (hg i (by omega)).1).2.2
        refine ⟨by have := hh 0 (by omega); rw [hadd] at this; simpa using this, by have := hh 1 (by omega); rw [hadd] at this; simpa using this, (hg i (by omega)).2⟩
set_option maxRecDepth 100000 in
theorem open_ItemS {r : Reach} {b0 : Nat} {v : Value} {d : DataW H} {p : List MemPlace} (hv : Value.okWide Try.prog w r b0 60 v) (h : DataW.Trod enc Try.prog w base spare held 60 v d p) :
    ∃ (a : Option Addr) (n cap : Nat) (f0 : Nat → Int) (f1 : Nat → ByteArray), v = .slice a n cap ∧ n ≤ maxLen ∧ ItemS w a n f0 f1 := by
  obtain ⟨a, len, cap, rfl⟩ := okWide_slice Try.underlying60 hv
  obtain ⟨fuel, hf⟩ := h
  exact open_ItemSf hf
end
end Go.Proofs.Ythhibeepfecmdaa
