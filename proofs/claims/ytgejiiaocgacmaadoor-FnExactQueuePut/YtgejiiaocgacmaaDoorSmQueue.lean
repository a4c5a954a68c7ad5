/- A struct of slices: laws.markQueue, laws.heldQueue. -/
import Derived.Test.YtgejiiaocgacmaaDoorStQueue
import Derived.Test.YtgejiiaocgacmaaDoorOwn
import Derived.Test.YtgejiiaocgacmaaDoorCellsN
import Derived.Test.YtgejiiaocgacmaaDoorMkString
namespace Go.Proofs.YtgejiiaocgacmaaDoor
open Go.ChangeShapes Go.WideShapes Go.ChangeAt Go.RowKit
set_option linter.unusedVariables false

set_option maxRecDepth 100000 in
set_option maxHeartbeats 4000000 in
theorem markQueue_any (a0 : Option Addr) (n0 p0 : Nat) (g0 : Nat → ByteArray) (v1 : Int) (x0 : Nat) (k0 : Int) (w : World) (hn0 : n0 ≤ 4194304) (hk0 : 0 ≤ k0) (hk1 : k0 ≤ 1000000) (h0 : Txt w a0 n0 g0) (hi0 : In x0 a0 n0) (hf0 : n0 ≠ 0 → Free w x0) (hl0 : n0 ≠ 0 → x0 < w.heap.size)  :
    Calls Tryd.prog 34 #[.agg #[.slice a0 n0 p0, .int .i64 v1], .int .i64 k0] w fun e w' => e = .returned (.int .i64 (k0 + n0)) ∧ (Txt w' a0 n0 (mkString_0 (k0))) ∧ Off (own x0 n0) w w' := by
  have HO0 : Hid (Off (own x0 n0) w (w.alloc (.cells #[.slice a0 n0 p0, .int .i64 v1] 45))) := Off.of_below ((Below.refl _ _).alloc (Nat.le_refl _) _)
  have hB0 : Below w.heap.size w (w.alloc (.cells #[.slice a0 n0 p0, .int .i64 v1] 45)) := (Below.refl _ _).alloc (Nat.le_refl _) _
  have HP0_0 : Hid (Txt (w.alloc (.cells #[.slice a0 n0 p0, .int .i64 v1] 45)) a0 n0 g0) := h0.alloc _
  have HF0_0 : Hid (n0 ≠ 0 → Free (w.alloc (.cells #[.slice a0 n0 p0, .int .i64 v1] 45)) x0) := fun hn => (hf0 hn).below hB0 (hl0 hn)
  have HL0_0 : n0 ≠ 0 → x0 < (w.alloc (.cells #[.slice a0 n0 p0, .int .i64 v1] 45)).heap.size := fun hn => by have := hl0 hn; simp; omega
  have HG0 : Hid ((w.alloc (.cells #[.slice a0 n0 p0, .int .i64 v1] 45)).heap[w.heap.size]? = some (.cells #[.slice a0 n0 p0, .int .i64 v1] 45)) := get_new rfl
  clear h0 hf0 hB0
  go_enter Tryd.func34, Tryd.ntmps34
  go_wp2_with fail
  refine (markStringS_any a0 x0 n0 p0 g0 (k0) _ hn0 (by omega) (by omega) HP0_0.out hi0 HF0_0.out).mono ?_
  rintro e w1 ⟨rfl, hm0, ho1⟩
  have HO1 : Hid (Off (own x0 n0) w w1) := HO0.out.trans (ho1.mono (fun y hy => hy))
  have HM0_1 : Hid (Txt w1 a0 n0 (mkString_0 (k0))) := hm0
  have HG1 : Hid (w1.heap[w.heap.size]? = some (.cells #[.slice a0 n0 p0, .int .i64 v1] 45)) := ho1.get HG0.out (own_ne fun a => by have := hl0 a; omega)
  clear hm0 ho1
  go_wp2_with fail
  go_ret
  exact ⟨rfl, HM0_1.out, HO1.out⟩
set_option maxRecDepth 100000 in
set_option maxHeartbeats 4000000 in
theorem heldQueue_any (a0 : Option Addr) (n0 p0 : Nat) (v1 : Int) (k0 : Int) (w : World) (hn0 : n0 ≤ 4194304) (hk0 : 0 ≤ k0) (hk1 : k0 ≤ 1000000) (h0 : Txt w a0 n0 (mkString_0 (k0))) :
    Calls Tryd.prog 35 #[.agg #[.slice a0 n0 p0, .int .i64 v1], .int .i64 k0] w fun e w' => e = .returned (.int .i64 (k0 + n0)) ∧ Below w.heap.size w w' := by
  have HB0 : Hid (Below w.heap.size w (w.alloc (.cells #[.slice a0 n0 p0, .int .i64 v1] 45))) := (Below.refl _ _).alloc (Nat.le_refl _) _
  have HP0_0 : Hid (Txt (w.alloc (.cells #[.slice a0 n0 p0, .int .i64 v1] 45)) a0 n0 (mkString_0 (k0))) := h0.alloc _
  have HG0 : Hid ((w.alloc (.cells #[.slice a0 n0 p0, .int .i64 v1] 45)).heap[w.heap.size]? = some (.cells #[.slice a0 n0 p0, .int .i64 v1] 45)) := get_new rfl
  clear h0
  go_enter Tryd.func35, Tryd.ntmps35
  go_wp2_with fail
  refine (heldStringS_any a0 n0 p0 (k0) _ hn0 (by omega) (by omega) HP0_0.out).mono ?_
  rintro e w1 ⟨rfl, hb1⟩
  have HB1 : Hid (Below w.heap.size w w1) := HB0.out.trans (hb1.mono HB0.out.size)
  have HG1 : Hid (w1.heap[w.heap.size]? = some (.cells #[.slice a0 n0 p0, .int .i64 v1] 45)) := get_below hb1 HG0.out (size_of_get HG0.out)
  clear hb1
  have hpos1 : ¬ k0 + n0 < 0 := by omega
  go_wp2_with fail
  go_ret
  exact ⟨rfl, HB1.out⟩
end Go.Proofs.YtgejiiaocgacmaaDoor
