/- A struct of laws.Part that came in: its shape. -/
import Derived.Test.YthhibeepfecmdaaFrame
import Derived.Test.YthhibeepfecmdaaStPart
import Derived.Test.YthhibeepfecmdaaOpOp
import Derived.Test.YthhibeepfecmdaaOpInt
import Derived.Lib.SmallJoins
import Derived.Deep.Slices
namespace Go.Proofs.Ythhibeepfecmdaa
open Go.ChangeShapes Go.WideShapes Go.ChangeAt Go.RowKit Go.Joins
set_option linter.unusedVariables false
theorem arrayPart {α : Type} {cs : Array α} (h : cs.size = 5) : ∃ c0 c1 c2 c3 c4, cs = #[c0, c1, c2, c3, c4] := by
  obtain ⟨l⟩ := cs
  match l, h with
  | [c0, c1, c2, c3, c4], _ => exact ⟨c0, c1, c2, c3, c4, rfl⟩
theorem lstPart {α : Type} {l : List α} (h : l.length = 5) : ∃ c0 c1 c2 c3 c4, l = [c0, c1, c2, c3, c4] := by
  match l, h with
  | [c0, c1, c2, c3, c4], _ => exact ⟨c0, c1, c2, c3, c4, rfl⟩
section
variable {H : Type} {enc : TypeId × Value → H} {w : World} {base : Nat} {spare : Nat → Bool} {held : Bool}
theorem cellsAllPart : Try.prog.cellsOf 80 = 5 := by kernel_rfl
set_option maxRecDepth 100000 in
theorem opens_part {r : Reach} {b0 : Nat} {v : Value} {d : DataW H} {p : List MemPlace} (hv : Value.okWide Try.prog w r b0 80 v) (h : DataW.Trod enc Try.prog w base spare held 80 v d p) :
    ∃ (a0 : Option Addr) (n0 p0 : Nat) (g0_0 : Nat → Int) (g0_1 : Nat → Int) (g0_2 : Nat → Int) (a1 : Option Addr) (n1 p1 : Nat) (g1 : Nat → Int) (v2 : Int) (v3 : Bool) (a4 : Option Addr) (n4 p4 : Nat) (g4 : Nat → Int), v = .agg #[.slice a0 n0 p0, .slice a1 n1 p1, .int .i64 v2, .bool v3, .slice a4 n4 p4] ∧ (n0 ≤ maxLen ∧ OpS w a0 n0 g0_0 g0_1 g0_2 ∧ n1 ≤ maxLen ∧ IntS w a1 n1 g1 ∧ n4 ≤ maxLen ∧ IntS w a4 n4 g4) := by
  obtain ⟨cs, rfl, hsz⟩ := okWide_struct Try.underlying80 hv
  obtain ⟨c0, c1, c2, c3, c4, rfl⟩ := arrayPart (hsz.trans cellsAllPart)
  obtain ⟨fuel, hf⟩ := h
  obtain ⟨xs, n, _, _, hl, hlen, hfd⟩ := DataW.trod_struct Try.underlying80 hf
  obtain ⟨y0, y1, y2, y3, y4, rfl⟩ := lstPart hlen
  have kk0 : Try.prog.cellsOf 71 = 1 := by kernel_rfl
  have kk1 : Try.prog.cellsOf 78 = 1 := by kernel_rfl
  have kk2 : Try.prog.cellsOf 3 = 1 := by kernel_rfl
  have kk3 : Try.prog.cellsOf 4 = 1 := by kernel_rfl
  have e0 := hfd 0 _ rfl
  have e1 := hfd 1 _ rfl
  have e2 := hfd 2 _ rfl
  have e3 := hfd 3 _ rfl
  have e4 := hfd 4 _ rfl
  simp [Value.cells, kk0, kk1, kk2, kk3] at e0 e1 e2 e3 e4
  obtain ⟨xa0, xn0, xp0, xg0_0, xg0_1, xg0_2, rfl, hm0, ht0⟩ := open_OpSf e0
  obtain ⟨xa1, xn1, xp1, xg1, rfl, hm1, ht1⟩ := open_ints1 e1
  obtain ⟨x2, hx2, _⟩ := DataW.trod_int Try.underlying3 e2
  obtain ⟨x3, hx3, _⟩ := DataW.trod_bool Try.underlying4 e3
  obtain ⟨xa4, xn4, xp4, xg4, rfl, hm4, ht4⟩ := open_ints1 e4
  simp only [List.cons.injEq, and_true] at hx2 hx3
  subst hx2 hx3
  exact ⟨xa0, xn0, xp0, xg0_0, xg0_1, xg0_2, xa1, xn1, xp1, xg1, x2, x3, xa4, xn4, xp4, xg4, rfl, hm0, ht0, hm1, ht1, hm4, ht4⟩
end
end Go.Proofs.Ythhibeepfecmdaa
