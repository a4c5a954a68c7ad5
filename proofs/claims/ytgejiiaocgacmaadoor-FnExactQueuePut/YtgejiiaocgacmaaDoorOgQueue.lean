/- A struct of laws.Queue that came in: its shape. -/
import Derived.Test.YtgejiiaocgacmaaDoorFrame
import Derived.Test.YtgejiiaocgacmaaDoorStQueue
import Derived.Test.YtgejiiaocgacmaaDoorAgf
import Derived.Lib.SmallJoins
import Derived.Deep.Slices
namespace Go.Proofs.YtgejiiaocgacmaaDoor
open Go.ChangeShapes Go.WideShapes Go.ChangeAt Go.RowKit Go.Joins
set_option linter.unusedVariables false
theorem arrayQueue {α : Type} {cs : Array α} (h : cs.size = 2) : ∃ c0 c1, cs = #[c0, c1] := by
  obtain ⟨l⟩ := cs
  match l, h with
  | [c0, c1], _ => exact ⟨c0, c1, rfl⟩
theorem lstQueue {α : Type} {l : List α} (h : l.length = 2) : ∃ c0 c1, l = [c0, c1] := by
  match l, h with
  | [c0, c1], _ => exact ⟨c0, c1, rfl⟩
section
variable {H : Type} {enc : TypeId × Value → H} {w : World} {base : Nat} {spare : Nat → Bool} {held : Bool}
theorem cellsAllQueue : Tryd.prog.cellsOf 42 = 2 := by kernel_rfl
set_option maxRecDepth 100000 in
theorem opens_queue {r : Reach} {b0 : Nat} {v : Value} {d : DataW H} {p : List MemPlace} (hv : Value.okWide Tryd.prog w r b0 42 v) (h : DataW.Trod enc Tryd.prog w base spare held 42 v d p) :
    ∃ (a0 : Option Addr) (n0 p0 : Nat) (g0 : Nat → ByteArray) (v1 : Int), v = .agg #[.slice a0 n0 p0, .int .i64 v1] ∧ (n0 ≤ maxLen ∧ Txt w a0 n0 g0) := by
  obtain ⟨cs, rfl, hsz⟩ := okWide_struct Tryd.underlying42 hv
  obtain ⟨c0, c1, rfl⟩ := arrayQueue (hsz.trans cellsAllQueue)
  obtain ⟨fuel, hf⟩ := h
  obtain ⟨xs, n, _, _, hl, hlen, hfd⟩ := DataW.trod_struct Tryd.underlying42 hf
  obtain ⟨y0, y1, rfl⟩ := lstQueue hlen
  have kk0 : Tryd.prog.cellsOf 34 = 1 := by kernel_rfl
  have kk1 : Tryd.prog.cellsOf 3 = 1 := by kernel_rfl
  have e0 := hfd 0 _ rfl
  have e1 := hfd 1 _ rfl
  simp [Value.cells, kk0, kk1] at e0 e1
  obtain ⟨xa0, xn0, xp0, xg0, rfl, hm0, ht0⟩ := open_texts e0
  obtain ⟨x1, hx1, _⟩ := DataW.trod_int Tryd.underlying3 e1
  simp only [List.cons.injEq, and_true] at hx1
  subst hx1
  exact ⟨xa0, xn0, xp0, xg0, x1, rfl, hm0, ht0⟩
end
end Go.Proofs.YtgejiiaocgacmaaDoor
