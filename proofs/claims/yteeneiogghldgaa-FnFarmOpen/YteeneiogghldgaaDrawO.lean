/- The contract of spec.DrawFarmOpen. -/
import Derived.Test.YteeneiogghldgaaDrawG
namespace Go.Proofs.Yteeneiogghldgaa
open Go.ChangeShapes Go.WideShapes Go.ChangeAt Go.RowKit
set_option linter.unusedVariables false

set_option maxHeartbeats 1000000 in
theorem DrawFarmOpen_any (a : Option Addr) (len cap : Nat) (zs : List Int) (w : World) (h : IsRow .u8 w a len cap zs) :
    Calls Try.prog 17 #[.slice a len cap] w fun e w' => ∃ c v : Int, e = .returned (.tuple #[.int .i64 c, .int .i64 v]) ∧ Below w.heap.size w w' := by
  have H : Hid _ := h
  clear h
  go_enter Try.func17, Try.ntmps17
  go_wp2_with fail
  refine (l1Open_any a len cap zs _ H.out).mono ?_
  rintro e w1 ⟨rfl, hb1, hr1⟩
  have HB1 : Hid (Below w.heap.size w w1) := hb1
  have HR1 : Hid (Rd 0 w1 w.heap.size) := hr1
  have hz1 : w.heap.size < w1.heap.size := hr1.lt
  clear hb1 hr1
  go_wp2_with fail
  refine (one_lit 0 w.heap.size w1.heap.size 5 5 [5, 0, 1023, 1024, -1] _ rfl (by omega) (by omega) (by omega) (rdA HR1.out) (by omega) (Ints.new _)).mono ?_
  rintro e w2 ⟨c, hc, rfl, ho2, hr2⟩
  have HB2 : Hid (Below w.heap.size w w2) := (HB1.out.alloc (by omega) _).trans (ho2.below (Nat.le_refl _) (by simp; omega))
  have HR2 : Hid (Rd (0 + 1) w2 w.heap.size) := hr2
  have hz2 : w.heap.size < w2.heap.size := hr2.lt
  clear ho2 hr2 hc
  go_wp2_with fail
  refine (one_lit 1 w.heap.size w2.heap.size 4 4 [3, 0, 63, 64] _ rfl (by omega) (by omega) (by omega) (rdA HR2.out) (by omega) (Ints.new _)).mono ?_
  rintro e w3 ⟨v, hv, rfl, ho3, hr3⟩
  have HB3 : Hid (Below w.heap.size w w3) := (HB2.out.alloc (by omega) _).trans (ho3.below (Nat.le_refl _) (by simp; omega))
  clear ho3 hr3 hv
  go_wp2_with fail
  go_ret2
  exact ⟨c, v, rfl, HB3.out⟩
end Go.Proofs.Yteeneiogghldgaa
