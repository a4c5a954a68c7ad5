/- A struct of five or six one-cell fields that came in by value: its shape. -/
import Derived.Test.YteeneiogghldgaaFrame
import Derived.Lib.SmallJoins
namespace Go.Proofs.Yteeneiogghldgaa
open Go.ChangeShapes Go.WideShapes Go.ChangeAt Go.RowKit Go.Joins

theorem array6 {α : Type} {cs : Array α} (h : cs.size = 6) : ∃ c0 c1 c2 c3 c4 c5, cs = #[c0, c1, c2, c3, c4, c5] := by
  obtain ⟨l⟩ := cs
  match l, h with
  | [c0, c1, c2, c3, c4, c5], _ => exact ⟨c0, c1, c2, c3, c4, c5, rfl⟩
theorem list6 {α : Type} {l : List α} (h : l.length = 6) : ∃ c0 c1 c2 c3 c4 c5, l = [c0, c1, c2, c3, c4, c5] := by
  match l, h with
  | [c0, c1, c2, c3, c4, c5], _ => exact ⟨c0, c1, c2, c3, c4, c5, rfl⟩
theorem array5 {α : Type} {cs : Array α} (h : cs.size = 5) : ∃ c0 c1 c2 c3 c4, cs = #[c0, c1, c2, c3, c4] := by
  obtain ⟨l⟩ := cs
  match l, h with
  | [c0, c1, c2, c3, c4], _ => exact ⟨c0, c1, c2, c3, c4, rfl⟩
theorem list5 {α : Type} {l : List α} (h : l.length = 5) : ∃ c0 c1 c2 c3 c4, l = [c0, c1, c2, c3, c4] := by
  match l, h with
  | [c0, c1, c2, c3, c4], _ => exact ⟨c0, c1, c2, c3, c4, rfl⟩
section
variable {H : Type} {enc : TypeId × Value → H} {w : World} {base : Nat} {spare : Nat → Bool} {held : Bool}
theorem cells_frame : Try.prog.cellsOf 25 = 6 := by kernel_rfl
set_option maxRecDepth 100000 in
theorem open_frame {r : Reach} {b0 : Nat} {v : Value} {d : DataW H} {p : List MemPlace} (hv : Value.okWide Try.prog w r b0 25 v) (h : DataW.Trod enc Try.prog w base spare held 25 v d p) :
    ∃ (x g : Bool) (c u q : Int) (s : ByteArray), v = .agg #[.bool x, .bool g, .int .i64 c, .int .i64 u, .int .i64 q, .string s] ∧ s.size ≤ maxLen := by
  obtain ⟨cs, rfl, hsz⟩ := okWide_struct Try.underlying25 hv
  obtain ⟨c0, c1, c2, c3, c4, c5, rfl⟩ := array6 (hsz.trans cells_frame)
  obtain ⟨fuel, hf⟩ := h
  obtain ⟨xs, n, _, _, hl, hlen, hfd⟩ := DataW.trod_struct Try.underlying25 hf
  obtain ⟨y0, y1, y2, y3, y4, y5, rfl⟩ := list6 hlen
  have k3 : Try.prog.cellsOf 3 = 1 := by kernel_rfl
  have k4 : Try.prog.cellsOf 4 = 1 := by kernel_rfl
  have k9 : Try.prog.cellsOf 9 = 1 := by kernel_rfl
  have e0 := hfd 0 _ rfl
  have e1 := hfd 1 _ rfl
  have e2 := hfd 2 _ rfl
  have e3 := hfd 3 _ rfl
  have e4 := hfd 4 _ rfl
  have e5 := hfd 5 _ rfl
  simp [Value.cells, k3, k4, k9] at e0 e1 e2 e3 e4 e5
  obtain ⟨x, hx, _⟩ := DataW.trod_bool Try.underlying4 e0
  obtain ⟨g, hg, _⟩ := DataW.trod_bool Try.underlying4 e1
  obtain ⟨c, hc, _⟩ := DataW.trod_int Try.underlying3 e2
  obtain ⟨u, hu, _⟩ := DataW.trod_int Try.underlying3 e3
  obtain ⟨q, hq, _⟩ := DataW.trod_int Try.underlying3 e4
  obtain ⟨s, hs, _, hm⟩ := DataW.trod_string Try.underlying9 e5
  simp only [List.cons.injEq, and_true] at hx hg hc hu hq hs
  subst hx hg hc hu hq hs
  exact ⟨x, g, c, u, q, s, rfl, hm⟩
theorem cells_farm : Try.prog.cellsOf 23 = 5 := by kernel_rfl
set_option maxRecDepth 100000 in
theorem open_farm {r : Reach} {b0 : Nat} {v : Value} {d : DataW H} {p : List MemPlace} (hv : Value.okWide Try.prog w r b0 23 v) (h : DataW.Trod enc Try.prog w base spare held 23 v d p) :
    ∃ (x y z : Bool) (c n : Int), v = .agg #[.bool x, .bool y, .bool z, .int .i64 c, .int .i64 n] ∧ True := by
  obtain ⟨cs, rfl, hsz⟩ := okWide_struct Try.underlying23 hv
  obtain ⟨c0, c1, c2, c3, c4, rfl⟩ := array5 (hsz.trans cells_farm)
  obtain ⟨fuel, hf⟩ := h
  obtain ⟨xs, n, _, _, hl, hlen, hfd⟩ := DataW.trod_struct Try.underlying23 hf
  obtain ⟨y0, y1, y2, y3, y4, rfl⟩ := list5 hlen
  have k3 : Try.prog.cellsOf 3 = 1 := by kernel_rfl
  have k4 : Try.prog.cellsOf 4 = 1 := by kernel_rfl
  have e0 := hfd 0 _ rfl
  have e1 := hfd 1 _ rfl
  have e2 := hfd 2 _ rfl
  have e3 := hfd 3 _ rfl
  have e4 := hfd 4 _ rfl
  simp [Value.cells, k3, k4] at e0 e1 e2 e3 e4
  obtain ⟨x, hx, _⟩ := DataW.trod_bool Try.underlying4 e0
  obtain ⟨y, hy, _⟩ := DataW.trod_bool Try.underlying4 e1
  obtain ⟨z, hz, _⟩ := DataW.trod_bool Try.underlying4 e2
  obtain ⟨c, hc, _⟩ := DataW.trod_int Try.underlying3 e3
  obtain ⟨m, hm, _⟩ := DataW.trod_int Try.underlying3 e4
  simp only [List.cons.injEq, and_true] at hx hy hz hc hm
  subst hx hy hz hc hm
  exact ⟨x, y, z, c, m, rfl, trivial⟩
end
end Go.Proofs.Yteeneiogghldgaa
