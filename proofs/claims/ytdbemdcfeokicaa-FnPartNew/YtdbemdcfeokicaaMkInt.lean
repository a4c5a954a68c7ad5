/- A slice of int that is the call's own: rows, marks. -/
import Derived.Test.YtdbemdcfeokicaaOwn
import Derived.Test.YtdbemdcfeokicaaInS
namespace Go.Proofs.Ytdbemdcfeokicaa
open Go.ChangeShapes Go.WideShapes Go.ChangeAt Go.RowKit
set_option linter.unusedVariables false

def allInt (f : Nat → Int) : Nat → Value := fun q => .int .i64 (f q)
def mkInt (k0 : Int) : Nat → Value := fun q => .int .i64 (k0 + (q : Int))
def upInt (f : Nat → Int) (k0 : Int) (k : Nat) : Nat → Value := fun q => if q < k then mkInt k0 q else allInt f q
def mkInt_0 (k0 : Int) : Nat → Int := fun i => k0 + ((i : Nat) : Int)
theorem IntS.off {S : List Nat} {w w' : World} {a : Option Addr} {b n : Nat} {f : Nat → Int} (h : IntS w a n f) (hin : In b a n) (k : Off S w w') (hS : n ≠ 0 → b ∉ S) : IntS w' a n f := by
  refine h.imp id ?_
  rintro ⟨b', off, rfl, hlt, hc⟩
  by_cases hn : n = 0
  · exact ⟨b', off, rfl, Nat.lt_of_lt_of_le hlt k.size, fun i hi => by omega⟩
  rcases hin with h0 | ⟨off', e⟩
  · exact absurd h0 hn
  cases e
  have hh : ∀ q, w'.cell? ⟨b, q, none⟩ = w.cell? ⟨b, q, none⟩ := fun q => World.cell?_of_block (k.block b hlt (hS hn))
  refine ⟨b, off, rfl, Nat.lt_of_lt_of_le hlt k.size, fun i hi => ?_⟩
  simp only [hh]
  exact hc i hi
theorem IntS.inn {w : World} {a : Option Addr} {n : Nat} {f : Nat → Int} (h : IntS w a n f) : ∃ y, In y a n ∧ (n ≠ 0 → y < w.heap.size) := by
  rcases h with h0 | ⟨b, off, rfl, hlt, _⟩
  · exact ⟨0, .inl h0, fun hn => absurd h0 hn⟩
  · exact ⟨b, .inr ⟨off, rfl⟩, fun _ => hlt⟩
theorem rowInt_of {w : World} {b off n : Nat} {f : Nat → Int} (h : ∀ i, i < n → w.cell? ⟨b, off + i, none⟩ = some (.int .i64 (f i))) : FRow w b off (n) (allInt f) := by
  intro q hq
  exact h q hq
theorem of_rowInt {w : World} {b off n : Nat} {f : Nat → Int} (h : FRow w b off (n) (allInt f)) : ∀ i, i < n → w.cell? ⟨b, off + i, none⟩ = some (.int .i64 (f i)) := by
  intro i hi
  exact h i hi
theorem upInt_step (f : Nat → Int) (k0 : Int) (k q : Nat) (V0 : Value) (e0 : V0 = .int .i64 (k0 + ((k : Nat) : Int))) : (if q = k then V0 else upInt f k0 k q) = upInt f k0 (k + 1) q := by
  subst e0
  unfold upInt
  by_cases e : q = k
  · subst e; simp [mkInt]
  · have : (q < k + 1) = (q < k) := by simp; omega
    simp [e, this]
theorem upInt_end (f : Nat → Int) (k0 : Int) (n q : Nat) (hq : q < n) : upInt f k0 n q = allInt (mkInt_0 k0) q := by
  simp [upInt, hq, mkInt, allInt, mkInt_0]
end Go.Proofs.Ytdbemdcfeokicaa
