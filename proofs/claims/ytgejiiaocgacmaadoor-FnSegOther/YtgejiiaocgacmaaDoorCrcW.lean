/- The contracts of impl.Crc16 and spec.Crc16 and of what they call. -/
import Derived.Test.YtgejiiaocgacmaaDoorCrcM
import Derived.Test.YtgejiiaocgacmaaDoorNumG
namespace Go.Proofs.YtgejiiaocgacmaaDoor
open Go.ChangeShapes Go.WideShapes Go.ChangeAt Go.RowKit
set_option linter.unusedVariables false

theorem tw_hi {s : Nat} (hs : s < 65536) (h : 32768 ≤ s) : bits .xor .u16 (IntKind.u16.wrap ((s : Int) * 2)) 4129 = (tw s : Nat) := by
  rw [IntKind.wrap_u16, show ((s : Int) * 2) % 65536 = ((2 * s - 65536 : Nat) : Int) from by omega]
  rw [show (4129 : Int) = ((4129 : Nat) : Int) from rfl, u16_xor_nat _ _ (by omega) (by omega)]
  unfold tw
  rw [if_pos h]
theorem tw_lo {s : Nat} (h : ¬ 32768 ≤ s) : ((s : Int) * 2) = (tw s : Nat) := by
  unfold tw
  rw [if_neg h]; omega
def tabV : Array Value := ((List.range 16).map fun i => Value.int .u16 (tws (i * 4096) 4 : Nat)).toArray
theorem tabV_at (i : Nat) (h : i < 16) : tabV[i]? = some (Value.int .u16 (tws (i * 4096) 4 : Nat)) := by
  unfold tabV
  simp [h]
theorem xor16 {a b : Nat} (ha : a < 16) (hb : b < 16) : a ^^^ b < 16 := Nat.xor_lt_two_pow (n := 4) ha hb
theorem nibX {s b : Nat} (hs : s < 65536) (hb : b < 16) : bits .xor .u8 ((s : Int) / 4096) (b : Int) = ((s / 4096 ^^^ b : Nat) : Int) := by
  rw [show ((s : Int) / 4096) = ((s / 4096 : Nat) : Int) from by simp, u8_xor_nat _ _ (by omega) (by omega)]
theorem nibS {s n : Nat} (hs : s < 65536) (hn : n < 16) : bits .xor .u16 (IntKind.u16.wrap ((s : Int) * 16)) ((tws ((s / 4096 ^^^ n) * 4096) 4 : Nat) : Int) = (nb s n : Nat) := by
  have hx := xor16 (show s / 4096 < 16 by omega) hn
  have ht := tws_lt (s := (s / 4096 ^^^ n) * 4096) (by omega) 4
  rw [IntKind.wrap_u16, show ((s : Int) * 16) % 65536 = ((s * 16 % 65536 : Nat) : Int) from by omega, u16_xor_nat _ _ (by omega) ht]
  rfl
end Go.Proofs.YtgejiiaocgacmaaDoor
