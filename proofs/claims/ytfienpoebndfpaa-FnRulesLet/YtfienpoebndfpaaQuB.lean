/- A region that draws its order, reads, and calls what leaves all older blocks: one walk in the text's order (the kit's quiet walk, over the class of worlds in which the blocks of w stay). Nothing of the program. -/
import Derived.Test.YtfienpoebndfpaaRows
import Derived.WalkKit
import Derived.ProofKit
import Derived.Below
import Derived.Deep.QuietTactic
import Derived.BigQuiet
namespace Go.Proofs.Ytfienpoebndfpaa
open Go.ChangeShapes Go.WideShapes Go.ChangeAt Go.RowKit
set_option linter.unusedVariables false
/-- The worlds in which all blocks of w stay. -/
structure Bl (w : World) where
  W : World
  h : Below w.heap.size w W
instance Bl.ne (w : World) : Nonempty (Bl w) := ⟨⟨w, Below.refl _ _⟩⟩
theorem Bl.cell {w : World} {p : Addr} {v : Value} (k : w.cell? p = some v) (hp : p.block < w.heap.size) : ∀ s : Bl w, s.W.cell? p = some v := fun s => (s.h.cell hp).trans k
theorem wp_region_bl {P : Program} {id : Nat} {Q : Exit → Act → World → Prop} {a : Act} {w : World} {l : List Oper} (hm : P.follows .mixedOrders = true) (hB : Region.lexB .any l.toArray = true)
    (h : wpQuiet P l.toArray (fun w' => ∃ s : Bl w, w' = s.W) (fun a' => ∀ w', (∃ s : Bl w, w' = s.W) → Q .normal a' w') l a) : (Code.region id l.toArray true).wp P Q a w :=
  wp_region_quiet (C := fun w' => ∃ s : Bl w, w' = s.W) hm hB ⟨⟨_, (Below.refl _ _).drew⟩, rfl⟩ (by simpa using h)
theorem calls_bl {P : Program} {f : FuncId} {args : Array Value} {w : World} {s : Bl w} {v : Value} (h : Calls P f args s.W fun e w' => e = .returned v ∧ Below s.W.heap.size s.W w') :
    Calls P f args s.W fun e w'' => e = .returned v ∧ ∃ s' : Bl w, w'' = s'.W :=
  h.mono fun e w' ⟨h1, h2⟩ => ⟨h1, ⟨⟨w', s.h.trans (h2.mono s.h.size)⟩, rfl⟩⟩
theorem calls_bl' {P : Program} {f : FuncId} {args : Array Value} {w : World} {s : Bl w} {v : Value} (h : Calls P f args s.W fun e w' => e = .returned v ∧ w' = s.W) :
    Calls P f args s.W fun e w'' => e = .returned v ∧ ∃ s' : Bl w, w'' = s'.W :=
  h.mono fun e w' ⟨h1, h2⟩ => ⟨h1, ⟨s, h2⟩⟩
end Go.Proofs.Ytfienpoebndfpaa
