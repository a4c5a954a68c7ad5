/- The contract of spec.DrawCrc16. -/
import Derived.Test.YtkpefhgkbifhcaaDrawT
namespace Go.Proofs.Ytkpefhgkbifhcaa
open Go.ChangeShapes Go.WideShapes Go.ChangeAt Go.RowKit
set_option linter.unusedVariables false

set_option maxHeartbeats 400000 in
theorem DrawCrc16_any (a : Option Addr) (len cap : Nat) (zs : List Int) (w : World) (h : IsRow .u8 w a len cap zs) :
    Calls Try.prog 17 #[.slice a len cap] w fun e w' => ∃ s : ByteArray, s.size ≤ 60 ∧ e = .returned (.string s) ∧ Below w.heap.size w w' := by
  have H : Hid _ := h
  clear h
  go_enter Try.func17, Try.ntmps17
  go_wp2_with fail
  refine (l1Open_any a len cap zs _ H.out).mono ?_
  rintro e w1 ⟨rfl, hb1, hr1⟩
  go_wp2_with fail
  refine (l15Text_any 0 60 w.heap.size w1 (by omega) (by omega) hr1).mono ?_
  rintro e w2 ⟨s, hs, rfl, ho2, hr2⟩
  have HB : Hid (Below w.heap.size w w2) := hb1.trans (ho2.below (Nat.le_refl _) hb1.size)
  clear hb1 hr1 ho2 hr2
  go_wp2_with fail
  go_ret
  exact ⟨s, hs, rfl, HB.out⟩
end Go.Proofs.Ytkpefhgkbifhcaa
