/- The contract of spec.DrawFarmSet. -/
import Derived.Test.YtfojljhpobdcdaaDrawG
namespace Go.Proofs.Ytfojljhpobdcdaa
open Go.ChangeShapes Go.WideShapes Go.ChangeAt Go.RowKit
set_option linter.unusedVariables false

set_option maxHeartbeats 1000000 in
theorem DrawFarmSet_any (a : Option Addr) (len cap : Nat) (zs : List Int) (w : World) (h : IsRow .u8 w a len cap zs) :
    Calls Try.prog 13 #[.slice a len cap] w fun e w' => ∃ c v n : Int, e = .returned (.tuple #[.int .i64 c, .int .i64 v, .int .i64 n]) ∧ Below w.heap.size w w' := by
  have H : Hid _ := h
  clear h
  go_enter Try.func13, Try.ntmps13
  go_wp2_with fail
  refine (l1Open_any a len cap zs _ H.out).mono ?_
  rintro e w1 ⟨rfl, hb1, hr1⟩
  have HB1 : Hid (Below w.heap.size w w1) := hb1
  have HR1 : Hid (Rd 0 w1 w.heap.size) := hr1
  have hz1 : w.heap.size < w1.heap.size := hr1.lt
  clear hb1 hr1
  go_wp2_with fail
  refine (one_lit 0 w.heap.size w1.heap.size 5 5 [5, 5, 5, 1023, 1024] _ rfl (by omega) (by omega) (by omega) (rdA HR1.out) (by omega) (Ints.new _)).mono ?_
  rintro e w2 ⟨c, hc, rfl, ho2, hr2⟩
  have HB2 : Hid (Below w.heap.size w w2) := (HB1.out.alloc (by omega) _).trans (ho2.below (Nat.le_refl _) (by simp; omega))
  have HR2 : Hid (Rd (0 + 1) w2 w.heap.size) := hr2
  have hz2 : w.heap.size < w2.heap.size := hr2.lt
  clear ho2 hr2 hc
  go_wp2_with fail
  refine (one_lit 1 w.heap.size w2.heap.size 3 3 [3, 3, 63] _ rfl (by omega) (by omega) (by omega) (rdA HR2.out) (by omega) (Ints.new _)).mono ?_
  rintro e w3 ⟨v, hv, rfl, ho3, hr3⟩
  have HB3 : Hid (Below w.heap.size w w3) := (HB2.out.alloc (by omega) _).trans (ho3.below (Nat.le_refl _) (by simp; omega))
  have HR3 : Hid (Rd 2 w3 w.heap.size) := hr3
  have hz3 : w.heap.size < w3.heap.size := hr3.lt
  clear ho3 hr3 hv
  go_wp2_with fail
  refine (pickI 2 w.heap.size _ _ (by omega) (by omega) (by omega) HR3.out).mono ?_
  rintro e w4 ⟨p1, hp1, rfl, ho4, hr4⟩
  have HB4 : Hid (Below w.heap.size w w4) := HB3.out.trans (ho4.below (Nat.le_refl _) (by omega))
  have HR4 : Hid (Rd 3 w4 w.heap.size) := hr4
  have hz4 : w.heap.size < w4.heap.size := hr4.lt
  clear ho4 hr4
  go_wp2_with fail
  refine (pickI 3 w.heap.size _ _ (by omega) (by omega) (by omega) HR4.out).mono ?_
  rintro e w5 ⟨p2, hp2, rfl, ho5, hr5⟩
  have HB5 : Hid (Below w.heap.size w w5) := HB4.out.trans (ho5.below (Nat.le_refl _) (by omega))
  have HR5 : Hid (Rd 4 w5 w.heap.size) := hr5
  have hz5 : w.heap.size < w5.heap.size := hr5.lt
  clear ho5 hr5
  go_wp2_with fail
  refine (one_lit 4 w.heap.size w5.heap.size 5 5 [(p1 : Int), (p2 : Int), 255, 256, -1] _ rfl (by omega) (by omega) (by omega) (rdA HR5.out) (by omega) (Ints.new _)).mono ?_
  rintro e w6 ⟨n, hn, rfl, ho6, hr6⟩
  have HB6 : Hid (Below w.heap.size w w6) := (HB5.out.alloc (by omega) _).trans (ho6.below (Nat.le_refl _) (by simp; omega))
  clear ho6 hr6 hn
  go_wp2_with fail
  go_ret3
  exact ⟨c, v, n, rfl, HB6.out⟩
end Go.Proofs.Ytfojljhpobdcdaa
