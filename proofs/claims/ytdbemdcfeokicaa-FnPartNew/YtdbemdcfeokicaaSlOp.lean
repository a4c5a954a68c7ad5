/- Slices of laws.Op and impl.Op. -/
import Derived.Test.YtdbemdcfeokicaaNum
import Derived.Test.YtdbemdcfeokicaaHeap
import Derived.Test.YtdbemdcfeokicaaKeep
import Derived.Test.YtdbemdcfeokicaaCellsN
import Derived.Deep.OwnRows
import Derived.Laws.MakeOwn
import Derived.Deep.RegionHeld2
namespace Go.Proofs.Ytdbemdcfeokicaa
open Go.ChangeShapes Go.WideShapes Go.ChangeAt Go.RowKit
set_option linter.unusedVariables false

theorem cellsOp : (Try.prog.info? 146).map (·.size) = some 3 := by kernel_rfl
def OpS (w : World) (a : Option Addr) (n : Nat) (f0 : Nat → Int) (f1 : Nat → Int) (f2 : Nat → Int) : Prop := n = 0 ∨ ∃ b off, a = some ⟨b, off, none⟩ ∧ b < w.heap.size ∧ ∀ i, i < n → w.cell? ⟨b, off + i * 3, none⟩ = some (.int .i64 (f0 i)) ∧ w.cell? ⟨b, off + i * 3 + 1, none⟩ = some (.int .i64 (f1 i)) ∧ w.cell? ⟨b, off + i * 3 + 2, none⟩ = some (.int .i64 (f2 i))
theorem OpS.below {w w' : World} {a : Option Addr} {n : Nat} {f0 : Nat → Int} {f1 : Nat → Int} {f2 : Nat → Int} (h : OpS w a n f0 f1 f2) (hb : Below w.heap.size w w') : OpS w' a n f0 f1 f2 := by
  refine h.imp id ?_
  rintro ⟨b, off, ha, hlt, hc⟩
  refine ⟨b, off, ha, Nat.lt_of_lt_of_le hlt hb.size, fun i hi => ?_⟩
  have hh : ∀ q, w'.cell? ⟨b, q, none⟩ = w.cell? ⟨b, q, none⟩ := fun q => hb.cell (p := ⟨b, q, none⟩) hlt
  simp only [hh]
  exact hc i hi
theorem OpS.alloc {w : World} {a : Option Addr} {n : Nat} {f0 : Nat → Int} {f1 : Nat → Int} {f2 : Nat → Int} (h : OpS w a n f0 f1 f2) (o : Obj) : OpS (w.alloc o) a n f0 f1 f2 := h.below ((Below.refl _ _).alloc (Nat.le_refl _) _)
theorem OpS.set {w : World} {b g j n : Nat} {v : Value} {f0 : Nat → Int} {f1 : Nat → Int} {f2 : Nat → Int} (h : OpS w (some ⟨b, 0, none⟩) n f0 f1 f2) (hg : g ≠ b) : OpS (w.setCell ⟨g, j, none⟩ v) (some ⟨b, 0, none⟩) n f0 f1 f2 := by
  refine h.imp id ?_
  rintro ⟨b', off, ha, hlt, hc⟩
  cases ha
  have hh : ∀ k, (w.setCell ⟨g, j, none⟩ v).cell? ⟨b, k, none⟩ = w.cell? ⟨b, k, none⟩ := fun k => World.cell?_of_block (w := w) (Below.heap_setCell w ⟨g, j, none⟩ v b (fun e => hg e.symm))
  refine ⟨b, 0, rfl, by simpa [World.setCell] using hlt, fun i hi => ?_⟩
  simp only [hh]
  exact hc i hi
theorem mid_op (w : World) (A B C : Obj) : (((w.alloc A).alloc B).alloc C).heap[w.heap.size + 1]? = some B := get_alloc (get_new (by simp)) (by simp)
theorem infoOp : (Try.prog.info? 146).map (fun i => (i.zero, i.size)) = some (some (.agg #[.int .i64 0, .int .i64 0, .int .i64 0]), 3) := by kernel_rfl
theorem bytesOp : (Try.prog.info? 146).map (fun i => decide (i.bytes ≤ 256)) = some true := by kernel_rfl
theorem mkOpS (n : Nat) (hn : n ≤ 1048576) (w : World) : (Instr.makeSlice 50 (.int .i64 (n : Int)) (.int .i64 (n : Int))).run Try.prog w = .ok (.slice (some ⟨w.heap.size, 0, none⟩) n n) (w.alloc (.cells (madeCells #[.int .i64 0, .int .i64 0, .int .i64 0] (n * 3)) 146)) := by
  obtain ⟨i, hi, hz⟩ := Option.map_eq_some_iff.1 infoOp
  obtain ⟨i', hi', hb⟩ := Option.map_eq_some_iff.1 bytesOp
  rw [hi] at hi'
  cases hi'
  simp only [Prod.mk.injEq] at hz
  have hb2 : i.bytes ≤ 256 := by simpa using hb
  have hm : (i.bytes : Int) * (n : Int) ≤ 256 * 1048576 := Int.mul_le_mul (by omega) (by omega) (by omega) (by omega)
  have := run_make (P := Try.prog) w 50 146 i (.agg #[.int .i64 0, .int .i64 0, .int .i64 0]) Try.underlying50 hi hz.1 .i64 .i64 n n (by omega) (by omega) (by omega) (by omega)
  rw [hz.2] at this
  simpa [Value.cells] using this
/-- The first k of them, zeros behind. -/
def firstOp (f0 : Nat → Int) (f1 : Nat → Int) (f2 : Nat → Int) (k : Nat) : Nat → Value := fun q => match q % 3 with | 0 => if q / 3 < k then .int .i64 (f0 (q / 3)) else .int .i64 0 | 1 => if q / 3 < k then .int .i64 (f1 (q / 3)) else .int .i64 0 | _ => if q / 3 < k then .int .i64 (f2 (q / 3)) else .int .i64 0
theorem madeOp_at (f0 : Nat → Int) (f1 : Nat → Int) (f2 : Nat → Int) {m q : Nat} (hq : q < m) : (madeCells #[.int .i64 0, .int .i64 0, .int .i64 0] m)[q]? = some (firstOp f0 f1 f2 0 q) := by
  have h1 : (madeCells #[.int .i64 0, .int .i64 0, .int .i64 0] m)[q]? = some (#[.int .i64 0, .int .i64 0, .int .i64 0][q % 3]!) := by simp [madeCells, hq]
  rw [h1]
  unfold firstOp
  obtain ⟨r, hr⟩ : ∃ r, r = q % 3 := ⟨_, rfl⟩
  have hlt : r < 3 := by omega
  rw [← hr]
  have hc : r = 0 ∨ r = 1 ∨ r = 2 := by omega
  rcases hc with rfl | rfl | rfl <;> simp
theorem firstOp_step (f0 : Nat → Int) (f1 : Nat → Int) (f2 : Nat → Int) (k q : Nat) : (if q = k * 3 + 2 then .int .i64 (f2 k) else (if q = k * 3 + 1 then .int .i64 (f1 k) else (if q = k * 3 then .int .i64 (f0 k) else firstOp f0 f1 f2 k q))) = firstOp f0 f1 f2 (k + 1) q := by
  obtain ⟨d, r, hr, rfl⟩ : ∃ d r, r < 3 ∧ q = d * 3 + r := ⟨q / 3, q % 3, Nat.mod_lt _ (by omega), by omega⟩
  have e1 : (d * 3 + r) / 3 = d := by omega
  have e2 : (d * 3 + r) % 3 = r := by omega
  unfold firstOp
  rw [e1, e2]
  by_cases hd : d = k
  · subst hd
    have hc : r = 0 ∨ r = 1 ∨ r = 2 := by omega
    rcases hc with rfl | rfl | rfl <;> simp
  · have n0 : ¬ d * 3 + r = k * 3 := by omega
    have n1 : ¬ d * 3 + r = k * 3 + 1 := by omega
    have n2 : ¬ d * 3 + r = k * 3 + 2 := by omega
    have hlt : (d < k + 1) = (d < k) := by simp; omega
    rw [if_neg n2, if_neg n1, if_neg n0]
    simp only [hlt]
end Go.Proofs.Ytdbemdcfeokicaa
