/- The contracts of impl.Crc16 and spec.Crc16 and of what they call. -/
import Derived.Test.YtccpdadabndleaaDoorCrcM
import Derived.Test.YtccpdadabndleaaDoorNumG
namespace Go.Proofs.YtccpdadabndleaaDoor
open Go.ChangeShapes Go.WideShapes Go.ChangeAt Go.RowKit
set_option linter.unusedVariables false

theorem tw_hi {s : Nat} (hs : s < 65536) (h : 32768 ≤ s) : bits .xor .u16 (IntKind.u16.wrap ((s : Int) * 2)) 4129 = (tw s : Nat) := by
  rw [IntKind.wrap_u16, show ((s : Int) * 2) % 65536 = ((2 * s - 65536 : Nat) : Int) from by omega]
  rw [show (4129 : Int) = ((4129 : Nat) : Int) from rfl, u16_xor_nat _ _ (by omega) (by omega)]
  unfold tw
  rw [if_pos h]
theorem tw_lo {s : Nat} (h : ¬ 32768 ≤ s) : ((s : Int) * 2) = (tw s : Nat) := by
  unfold tw
  rw [if_neg h]; omega
set_option maxHeartbeats 400000 in
theorem twice_any (s : Nat) (w : World) (hs : s < 65536) :
    Calls Tryd.prog 122 #[.int .u16 (s : Nat)] w fun e w' => e = .returned (.int .u16 (tw s : Nat)) ∧ w' = w := by
  by_cases h : 32768 ≤ s
  · have h1 : ((s : Int) / 32768 == 1) = true := by rw [beq_iff_eq]; omega
    go_enter Tryd.func122, Tryd.ntmps122
    go_wp2
    go_ret
    exact ⟨ret_int (tw_hi hs h), rfl⟩
  · have h1 : ((s : Int) / 32768 == 1) = false := by rw [beq_eq_false_iff_ne]; omega
    go_enter Tryd.func122, Tryd.ntmps122
    go_wp2
    go_ret
    exact ⟨ret_int (tw_lo h), rfl⟩

def tabV : Array Value := ((List.range 16).map fun i => Value.int .u16 (tws (i * 4096) 4 : Nat)).toArray
theorem tabV_at (i : Nat) (h : i < 16) : tabV[i]? = some (Value.int .u16 (tws (i * 4096) 4 : Nat)) := by
  unfold tabV
  simp [h]
theorem xor16 {a b : Nat} (ha : a < 16) (hb : b < 16) : a ^^^ b < 16 := Nat.xor_lt_two_pow (n := 4) ha hb
theorem nibX {s b : Nat} (hs : s < 65536) (hb : b < 16) : bits .xor .u8 ((s : Int) / 4096) (b : Int) = ((s / 4096 ^^^ b : Nat) : Int) := by
  rw [show ((s : Int) / 4096) = ((s / 4096 : Nat) : Int) from by simp, u8_xor_nat _ _ (by omega) (by omega)]
theorem nibS {s n : Nat} (hs : s < 65536) (hn : n < 16) : bits .xor .u16 (IntKind.u16.wrap ((s : Int) * 16)) ((tws ((s / 4096 ^^^ n) * 4096) 4 : Nat) : Int) = (nb s n : Nat) := by
  have hx := xor16 (show s / 4096 < 16 by omega) hn
  have ht := tws_lt (s := (s / 4096 ^^^ n) * 4096) (by omega) 4
  rw [IntKind.wrap_u16, show ((s : Int) * 16) % 65536 = ((s * 16 % 65536 : Nat) : Int) from by omega, u16_xor_nat _ _ (by omega) ht]
  rfl
set_option maxHeartbeats 1000000 in
theorem add_core (s b i1 v1 s1 b0 i2 v2 r : Nat) (w : World) (hs : s < 65536) (hb : b < 256) (l1 : i1 < 16) (hs1 : s1 < 65536) (l0 : b0 < 16) (l2 : i2 < 16)
    (x1 : bits .xor .u8 ((s : Int) / 4096) ((b : Int) / 16) = (i1 : Int)) (t1 : tabV[i1]? = some (Value.int .u16 (v1 : Int)))
    (y1 : bits .xor .u16 (IntKind.u16.wrap ((s : Int) * 16)) (v1 : Int) = (s1 : Int)) (x0 : bits .and .u8 (b : Int) 15 = (b0 : Int))
    (x2 : bits .xor .u8 ((s1 : Int) / 4096) (b0 : Int) = (i2 : Int)) (t2 : tabV[i2]? = some (Value.int .u16 (v2 : Int)))
    (y2 : bits .xor .u16 (IntKind.u16.wrap ((s1 : Int) * 16)) (v2 : Int) = (r : Int)) :
    Calls Tryd.prog 110 #[.int .u16 (s : Nat), .agg tabV, .int .u8 (b : Nat)] w fun e w' => e = .returned (.int .u16 (r : Nat)) ∧ w' = w.alloc (.cells tabV 140) := by
  go_enter Tryd.func110, Tryd.ntmps110
  go_wp2
  go_ret
  exact ⟨rfl, rfl⟩
theorem add_any (s b : Nat) (w : World) (hs : s < 65536) (hb : b < 256) :
    Calls Tryd.prog 110 #[.int .u16 (s : Nat), .agg tabV, .int .u8 (b : Nat)] w fun e w' => e = .returned (.int .u16 (cb s b : Nat)) ∧ w' = w.alloc (.cells tabV 140) := by
  have hn1 : b / 16 < 16 := by omega
  have hn2 : b % 16 < 16 := by omega
  have hs1 := nb_lt hs hn1
  rw [cb_nb hs hb]
  have l1 := xor16 (show s / 4096 < 16 by omega) hn1
  have l2 := xor16 (show nb s (b / 16) / 4096 < 16 by omega) hn2
  refine add_core s b _ _ (nb s (b / 16)) (b % 16) _ _ _ w hs hb l1 hs1 hn2 l2 ?_ (tabV_at _ l1) (nibS hs hn1) ?_ (nibX hs1 hn2) (tabV_at _ l2) (nibS hs1 hn2)
  · have := nibX hs hn1
    rw [show ((b : Int) / 16) = ((b / 16 : Nat) : Int) from by simp]
    exact this
  · rw [show (15 : Int) = ((15 : Nat) : Int) from rfl, u8_and_nat _ _ (by omega) (by omega)]
    rw [show (15 : Nat) = 2 ^ 4 - 1 from rfl, Nat.and_two_pow_sub_one_eq_mod]
end Go.Proofs.YtccpdadabndleaaDoor
