/- The contract of spec.Crc16. -/
import Derived.Test.YtgejiiaocgacmaaDoorCrcI
namespace Go.Proofs.YtgejiiaocgacmaaDoor
open Go.ChangeShapes Go.WideShapes Go.ChangeAt Go.RowKit
set_option linter.unusedVariables false

theorem tw_hi64 {s : Nat} (hs : s < 65536) (h : 32768 ≤ s) : bits .xor .i64 ((s : Int) * 2 - 65536) 4129 = (tw s : Nat) := by
  rw [show ((s : Int) * 2 - 65536) = ((2 * s - 65536 : Nat) : Int) from by omega, show (4129 : Int) = ((4129 : Nat) : Int) from rfl, i64_xor _ _ (by omega) (by omega)]
  unfold tw
  rw [if_pos h]
theorem cb_start {s b : Nat} (hs : s < 65536) (hb : b < 256) : bits .xor .i64 (s : Int) ((b : Int) * 256) = ((s ^^^ b * 256 : Nat) : Int) := by
  rw [show ((b : Int) * 256) = ((b * 256 : Nat) : Int) from by simp, i64_xor _ _ (by omega) (by omega)]
set_option maxRecDepth 100000 in
set_option maxHeartbeats 1000000 in
theorem specCrc16_any (s : ByteArray) (w : World) (hs : s.size ≤ maxLen) :
    Calls Tryd.prog 116 #[.string s] w fun e w' => e = .returned (.int .i64 (crcTo s s.size : Nat)) ∧ w' = w := by
  unfold maxLen at hs
  go_enter Tryd.func116, Tryd.ntmps116
  go_wp2
  go_loop [3, 4] (fun v i => ∃ k : Nat, k ≤ s.size ∧ v = .int .i64 (crcTo s k : Nat) ∧ i = .int .i64 k) (fun _ i => s.size - (intOf i).toNat)
  case atStart => exact ⟨0, by omega, rfl, rfl⟩
  case round =>
    obtain ⟨k, hk, rfl, rfl⟩ := hrel
    have hv := crcTo_lt s k
    have hbt := byteAt_lt s k
    by_cases hlt : k < s.size
    · have hby := byteAt_eq s k hlt
      have hx := x16 hv (show byteAt s k * 256 < 65536 by omega)
      have hst := cb_start hv hbt
      have hwb : wrap64 ((byteAt s k : Nat) : Int) = (byteAt s k : Nat) := w64 (by omega) (by omega)
      have HC : Hid (crcTo s (k + 1) = tws (crcTo s k ^^^ byteAt s k * 256) 8) := rfl
      have hd : decide ((k : Int) < s.size) = true := by simp; omega
      generalize crcTo s k ^^^ byteAt s k * 256 = X at hx hst HC ⊢
      go_wp2
      go_loop [3, 5] (fun v c => ∃ j : Nat, j ≤ 8 ∧ v = .int .i64 (tws X j : Nat) ∧ c = .int .i64 j) (fun _ c => 8 - (intOf c).toNat)
      case atStart => exact ⟨0, by omega, rfl, rfl⟩
      case round =>
        obtain ⟨j, hj, rfl, rfl⟩ := hrel
        have ht := tws_lt hx j
        have HN : Hid (tws X (j + 1) = tw (tws X j)) := rfl
        generalize hY : tws X j = Y at ht HN ⊢
        have HY : Hid (tws X j = Y) := hY
        clear hY hby hwb hst hbt
        by_cases hj8 : j < 8
        · by_cases hh : 32768 ≤ Y
          · have hq := tw_hi64 ht hh
            have h1 : (65536 : Int) ≤ (Y : Int) * 2 := by omega
            go_wp2
            exact ⟨⟨j + 1, by omega, by rw [HN.out], by go_num⟩, by simp [intOf]; omega⟩
          · have h1 : ¬ (65536 : Int) ≤ (Y : Int) * 2 := by omega
            go_wp2
            exact ⟨⟨j + 1, by omega, by rw [HN.out, ← tw_lo hh], by go_num⟩, by simp [intOf]; omega⟩
        · obtain rfl : j = 8 := by omega
          go_wp2
          exact ⟨⟨k + 1, by omega, by rw [HC.out, HY.out], by go_num⟩, by simp [intOf]; omega⟩
    · go_wp2
      go_ret
      exact ⟨ret_int (by rw [show s.size = k from by omega]), rfl⟩
end Go.Proofs.YtgejiiaocgacmaaDoor
