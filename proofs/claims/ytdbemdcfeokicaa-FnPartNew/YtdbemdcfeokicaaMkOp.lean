/- A slice of impl.Op that is the call's own: rows, marks. -/
import Derived.Test.YtdbemdcfeokicaaOwn
import Derived.Test.YtdbemdcfeokicaaSlOp
namespace Go.Proofs.Ytdbemdcfeokicaa
open Go.ChangeShapes Go.WideShapes Go.ChangeAt Go.RowKit
set_option linter.unusedVariables false

def allOp (f0 : Nat → Int) (f1 : Nat → Int) (f2 : Nat → Int) : Nat → Value := fun q => match q % 3 with | 0 => .int .i64 (f0 (q / 3)) | 1 => .int .i64 (f1 (q / 3)) | _ => .int .i64 (f2 (q / 3))
def mkOp (k0 : Int) : Nat → Value := fun q => match q % 3 with | 0 => .int .i64 (k0 + (q : Int)) | 1 => .int .i64 (k0 + (q : Int)) | _ => .int .i64 (k0 + (q : Int))
def upOp (f0 : Nat → Int) (f1 : Nat → Int) (f2 : Nat → Int) (k0 : Int) (k : Nat) : Nat → Value := fun q => if q / 3 < k then mkOp k0 q else allOp f0 f1 f2 q
def mkOp_0 (k0 : Int) : Nat → Int := fun i => k0 + ((i * 3 : Nat) : Int)
def mkOp_1 (k0 : Int) : Nat → Int := fun i => k0 + ((i * 3 + 1 : Nat) : Int)
def mkOp_2 (k0 : Int) : Nat → Int := fun i => k0 + ((i * 3 + 2 : Nat) : Int)
theorem OpS.off {S : List Nat} {w w' : World} {a : Option Addr} {b n : Nat} {f0 : Nat → Int} {f1 : Nat → Int} {f2 : Nat → Int} (h : OpS w a n f0 f1 f2) (hin : In b a n) (k : Off S w w') (hS : n ≠ 0 → b ∉ S) : OpS w' a n f0 f1 f2 := by
  refine h.imp id ?_
  rintro ⟨b', off, rfl, hlt, hc⟩
  by_cases hn : n = 0
  · exact ⟨b', off, rfl, Nat.lt_of_lt_of_le hlt k.size, fun i hi => by omega⟩
  rcases hin with h0 | ⟨off', e⟩
  · exact absurd h0 hn
  cases e
  have hh : ∀ q, w'.cell? ⟨b, q, none⟩ = w.cell? ⟨b, q, none⟩ := fun q => World.cell?_of_block (k.block b hlt (hS hn))
  refine ⟨b, off, rfl, Nat.lt_of_lt_of_le hlt k.size, fun i hi => ?_⟩
  simp only [hh]
  exact hc i hi
theorem OpS.inn {w : World} {a : Option Addr} {n : Nat} {f0 : Nat → Int} {f1 : Nat → Int} {f2 : Nat → Int} (h : OpS w a n f0 f1 f2) : ∃ y, In y a n ∧ (n ≠ 0 → y < w.heap.size) := by
  rcases h with h0 | ⟨b, off, rfl, hlt, _⟩
  · exact ⟨0, .inl h0, fun hn => absurd h0 hn⟩
  · exact ⟨b, .inr ⟨off, rfl⟩, fun _ => hlt⟩
theorem rowOp_of {w : World} {b off n : Nat} {f0 : Nat → Int} {f1 : Nat → Int} {f2 : Nat → Int} (h : ∀ i, i < n → w.cell? ⟨b, off + i * 3, none⟩ = some (.int .i64 (f0 i)) ∧ w.cell? ⟨b, off + i * 3 + 1, none⟩ = some (.int .i64 (f1 i)) ∧ w.cell? ⟨b, off + i * 3 + 2, none⟩ = some (.int .i64 (f2 i))) : FRow w b off (n * 3) (allOp f0 f1 f2) := by
  intro q hq
  obtain ⟨d, r, hr, rfl⟩ : ∃ d r, r < 3 ∧ q = d * 3 + r := ⟨q / 3, q % 3, Nat.mod_lt _ (by omega), by omega⟩
  have e1 : (d * 3 + r) / 3 = d := by omega
  have e2 : (d * 3 + r) % 3 = r := by omega
  obtain ⟨c0, c1, c2⟩ := h d (by omega)
  unfold allOp
  rw [e1, e2]
  have hc : r = 0 ∨ r = 1 ∨ r = 2 := by omega
  rcases hc with rfl | rfl | rfl
  · exact c0
  · exact c1
  · exact c2
theorem of_rowOp {w : World} {b off n : Nat} {f0 : Nat → Int} {f1 : Nat → Int} {f2 : Nat → Int} (h : FRow w b off (n * 3) (allOp f0 f1 f2)) : ∀ i, i < n → w.cell? ⟨b, off + i * 3, none⟩ = some (.int .i64 (f0 i)) ∧ w.cell? ⟨b, off + i * 3 + 1, none⟩ = some (.int .i64 (f1 i)) ∧ w.cell? ⟨b, off + i * 3 + 2, none⟩ = some (.int .i64 (f2 i)) := by
  intro i hi
  have r0 := h (i * 3) (by omega)
  simp only [allOp, show (i * 3) % 3 = 0 from by omega, show (i * 3) / 3 = i from by omega] at r0
  have r1 := h (i * 3 + 1) (by omega)
  simp only [allOp, show (i * 3 + 1) % 3 = 1 from by omega, show (i * 3 + 1) / 3 = i from by omega] at r1
  have r2 := h (i * 3 + 2) (by omega)
  simp only [allOp, show (i * 3 + 2) % 3 = 2 from by omega, show (i * 3 + 2) / 3 = i from by omega] at r2
  exact ⟨r0, r1, r2⟩
theorem upOp_step (f0 : Nat → Int) (f1 : Nat → Int) (f2 : Nat → Int) (k0 : Int) (k q : Nat) (V0 V1 V2 : Value) (e0 : V0 = .int .i64 (k0 + ((k * 3 : Nat) : Int))) (e1 : V1 = .int .i64 (k0 + ((k * 3 + 1 : Nat) : Int))) (e2 : V2 = .int .i64 (k0 + ((k * 3 + 2 : Nat) : Int))) : (if q = k * 3 + 2 then V2 else (if q = k * 3 + 1 then V1 else (if q = k * 3 then V0 else upOp f0 f1 f2 k0 k q))) = upOp f0 f1 f2 k0 (k + 1) q := by
  obtain ⟨d, r, hr, rfl⟩ : ∃ d r, r < 3 ∧ q = d * 3 + r := ⟨q / 3, q % 3, Nat.mod_lt _ (by omega), by omega⟩
  have e1' : (d * 3 + r) / 3 = d := by omega
  have e2' : (d * 3 + r) % 3 = r := by omega
  subst e0 e1 e2
  unfold upOp mkOp
  rw [e1', e2']
  by_cases hd : d = k
  · subst hd
    have hc : r = 0 ∨ r = 1 ∨ r = 2 := by omega
    rcases hc with rfl | rfl | rfl <;> simp
  · have n0 : ¬ d * 3 + r = k * 3 := by omega
    have n1 : ¬ d * 3 + r = k * 3 + 1 := by omega
    have n2 : ¬ d * 3 + r = k * 3 + 2 := by omega
    have hlt : (d < k + 1) = (d < k) := by simp; omega
    rw [if_neg n2, if_neg n1, if_neg n0]
    simp only [hlt]
theorem upOp_end (f0 : Nat → Int) (f1 : Nat → Int) (f2 : Nat → Int) (k0 : Int) (n q : Nat) (hq : q < n * 3) : upOp f0 f1 f2 k0 n q = allOp (mkOp_0 k0) (mkOp_1 k0) (mkOp_2 k0) q := by
  obtain ⟨d, r, hr, rfl⟩ : ∃ d r, r < 3 ∧ q = d * 3 + r := ⟨q / 3, q % 3, Nat.mod_lt _ (by omega), by omega⟩
  have e1 : (d * 3 + r) / 3 = d := by omega
  have e2 : (d * 3 + r) % 3 = r := by omega
  have hlt : d < n := by omega
  unfold upOp mkOp allOp
  rw [e1, e2, if_pos hlt]
  have hc : r = 0 ∨ r = 1 ∨ r = 2 := by omega
  rcases hc with rfl | rfl | rfl <;> simp [mkOp_0, mkOp_1, mkOp_2]
end Go.Proofs.Ytdbemdcfeokicaa
