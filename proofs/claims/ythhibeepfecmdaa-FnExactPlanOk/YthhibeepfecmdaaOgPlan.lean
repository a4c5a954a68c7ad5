/- A struct of laws.Plan that came in: its shape. -/
import Derived.Test.YthhibeepfecmdaaFrame
import Derived.Test.YthhibeepfecmdaaStPlan
import Derived.Test.YthhibeepfecmdaaOpItem
import Derived.Lib.SmallJoins
import Derived.Deep.Slices
namespace Go.Proofs.Ythhibeepfecmdaa
open Go.ChangeShapes Go.WideShapes Go.ChangeAt Go.RowKit Go.Joins
set_option linter.unusedVariables false
theorem arrayPlan {α : Type} {cs : Array α} (h : cs.size = 2) : ∃ c0 c1, cs = #[c0, c1] := by
  obtain ⟨l⟩ := cs
  match l, h with
  | [c0, c1], _ => exact ⟨c0, c1, rfl⟩
theorem lstPlan {α : Type} {l : List α} (h : l.length = 2) : ∃ c0 c1, l = [c0, c1] := by
  match l, h with
  | [c0, c1], _ => exact ⟨c0, c1, rfl⟩
section
variable {H : Type} {enc : TypeId × Value → H} {w : World} {base : Nat} {spare : Nat → Bool} {held : Bool}
theorem cellsAllPlan : Try.prog.cellsOf 62 = 2 := by kernel_rfl
set_option maxRecDepth 100000 in
theorem opens_plan {r : Reach} {b0 : Nat} {v : Value} {d : DataW H} {p : List MemPlace} (hv : Value.okWide Try.prog w r b0 62 v) (h : DataW.Trod enc Try.prog w base spare held 62 v d p) :
    ∃ (v0 : Bool) (a1 : Option Addr) (n1 p1 : Nat) (g1_0 : Nat → Int) (g1_1 : Nat → ByteArray), v = .agg #[.bool v0, .slice a1 n1 p1] ∧ (n1 ≤ maxLen ∧ ItemS w a1 n1 g1_0 g1_1) := by
  obtain ⟨cs, rfl, hsz⟩ := okWide_struct Try.underlying62 hv
  obtain ⟨c0, c1, rfl⟩ := arrayPlan (hsz.trans cellsAllPlan)
  obtain ⟨fuel, hf⟩ := h
  obtain ⟨xs, n, _, _, hl, hlen, hfd⟩ := DataW.trod_struct Try.underlying62 hf
  obtain ⟨y0, y1, rfl⟩ := lstPlan hlen
  have kk0 : Try.prog.cellsOf 4 = 1 := by kernel_rfl
  have kk1 : Try.prog.cellsOf 60 = 1 := by kernel_rfl
  have e0 := hfd 0 _ rfl
  have e1 := hfd 1 _ rfl
  simp [Value.cells, kk0, kk1] at e0 e1
  obtain ⟨x0, hx0, _⟩ := DataW.trod_bool Try.underlying4 e0
  obtain ⟨xa1, xn1, xp1, xg1_0, xg1_1, rfl, hm1, ht1⟩ := open_ItemSf e1
  simp only [List.cons.injEq, and_true] at hx0
  subst hx0
  exact ⟨x0, xa1, xn1, xp1, xg1_0, xg1_1, rfl, hm1, ht1⟩
end
end Go.Proofs.Ythhibeepfecmdaa
