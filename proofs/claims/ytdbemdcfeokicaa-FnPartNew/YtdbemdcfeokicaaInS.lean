/- Slices of ints: laws.szIntS, laws.toIntS, laws.eqIntS. -/
import Derived.Test.YtdbemdcfeokicaaNum
import Derived.Test.YtdbemdcfeokicaaHeap
import Derived.Deep.OwnRows
import Derived.Deep.QuietTactic
import Derived.BigQuiet
namespace Go.Proofs.Ytdbemdcfeokicaa
open Go.ChangeShapes Go.WideShapes Go.ChangeAt Go.RowKit
set_option linter.unusedVariables false
/-- A slice of n ints, the i-th one f i. -/
def IntS (w : World) (a : Option Addr) (n : Nat) (f : Nat → Int) : Prop :=
  n = 0 ∨ ∃ b off, a = some ⟨b, off, none⟩ ∧ b < w.heap.size ∧ ∀ i, i < n → w.cell? ⟨b, off + i, none⟩ = some (.int .i64 (f i))
theorem IntS.below {w w' : World} {a : Option Addr} {n : Nat} {f : Nat → Int} (h : IntS w a n f) (hb : Below w.heap.size w w') : IntS w' a n f := by
  refine h.imp id ?_
  rintro ⟨b, off, ha, hlt, hc⟩
  exact ⟨b, off, ha, Nat.lt_of_lt_of_le hlt hb.size, fun i hi => (hb.cell (p := ⟨b, off + i, none⟩) hlt).trans (hc i hi)⟩
theorem IntS.alloc {w : World} {a : Option Addr} {n : Nat} {f : Nat → Int} (h : IntS w a n f) (o : Obj) : IntS (w.alloc o) a n f := h.below ((Below.refl _ _).alloc (Nat.le_refl _) _)
theorem IntS.set {w : World} {b g j n : Nat} {v : Value} {f : Nat → Int} (h : IntS w (some ⟨b, 0, none⟩) n f) (hg : g ≠ b) : IntS (w.setCell ⟨g, j, none⟩ v) (some ⟨b, 0, none⟩) n f := by
  refine h.imp id ?_
  rintro ⟨b', off, ha, hlt, hc⟩
  cases ha
  have hh : ∀ k, (w.setCell ⟨g, j, none⟩ v).cell? ⟨b, k, none⟩ = w.cell? ⟨b, k, none⟩ := fun k => World.cell?_of_block (w := w) (Below.heap_setCell w ⟨g, j, none⟩ v b (fun e => hg e.symm))
  exact ⟨b, 0, rfl, by simpa [World.setCell] using hlt, fun i hi => (hh _).trans (hc i hi)⟩
theorem infoInt : (Try.prog.info? 3).map (fun i => (i.zero, i.size, i.bytes)) = some (some (.int .i64 0), 1, 8) := by kernel_rfl
theorem mkI0 (w : World) : (Instr.makeSlice 52 (.int .i64 0) (.int .i64 0)).run Try.prog w = .ok (.slice (some ⟨w.heap.size, 0, none⟩) 0 0) (w.alloc (.cells #[] 3)) := by kernel_rfl
/-- The first k ints of f, zeros behind. -/
def firstI (f : Nat → Int) (k : Nat) : Nat → Value := fun j => if j < k then .int .i64 (f j) else .int .i64 0
end Go.Proofs.Ytdbemdcfeokicaa
