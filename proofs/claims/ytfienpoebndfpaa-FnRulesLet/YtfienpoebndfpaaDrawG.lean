/- The contract of spec.l15AnyFarm, and of spec.DrawFarmRoom, spec.DrawFarmOk. -/
import Derived.Test.YtfienpoebndfpaaDrawF
namespace Go.Proofs.Ytfienpoebndfpaa
open Go.ChangeShapes Go.WideShapes Go.ChangeAt Go.RowKit
set_option linter.unusedVariables false

theorem one_lit (N g b k cap : Nat) (l : List Int) (w : World) (hk : l.length = k) (hN : N ≤ 536870912) (hl : 1 ≤ k) (hl2 : k ≤ 1000) (hr : Rd N w g) (hb : b ≠ g) (hi : Ints w b l) :
    Calls Try.prog 71 #[.pointer (some ⟨g, 0, none⟩), .slice (some ⟨b, 0, none⟩) k cap] w fun e w' => ∃ y ∈ l, e = .returned (.int .i64 y) ∧ Only g w w' ∧ Rd (N + 1) w' g := by
  subst hk; exact one_any N g b cap l w hN hl hl2 hr hb hi
theorem IsRow.keep {w w' : World} {a : Option Addr} {len cap : Nat} {zs : List Int} (h : IsRow .u8 w a len cap zs) (hb : Below w.heap.size w w') : IsRow .u8 w' a len cap zs := by
  rcases h with h | ⟨x, ha, hl, hm, hz, hcell, hwz⟩
  · exact .inl h
  · exact .inr ⟨x, ha, hl, hm, hz, fun i hi => by rw [hb.cell (block_lt_of_cell (hcell i hi))]; exact hcell i hi, hwz⟩
end Go.Proofs.Ytfienpoebndfpaa
