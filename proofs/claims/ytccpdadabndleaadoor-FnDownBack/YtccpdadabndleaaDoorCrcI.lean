/- The contract of impl.Crc16. -/
import Derived.Test.YtccpdadabndleaaDoorCrcT
import Derived.Deep.RegionWith
import Derived.Laws.Rows
namespace Go.Proofs.YtccpdadabndleaaDoor
open Go.ChangeShapes Go.WideShapes Go.ChangeAt Go.RowKit
set_option linter.unusedVariables false

def crcTo (s : ByteArray) : Nat → Nat
  | 0 => 65535
  | k + 1 => cb (crcTo s k) (byteAt s k)
theorem crcTo_lt (s : ByteArray) : ∀ k, crcTo s k < 65536
  | 0 => by simp [crcTo]
  | k + 1 => cb_lt (crcTo_lt s k) (byteAt_lt s k)

theorem bcell {W w1 : World} (hb : Below W.heap.size W w1) : (∀ b o, b < W.heap.size → w1.cell? ⟨b, o, none⟩ = W.cell? ⟨b, o, none⟩) ∧ (∀ b o, b < W.heap.size → w1.frozen? ⟨b, o, none⟩ = W.frozen? ⟨b, o, none⟩) :=
  ⟨fun b o h => hb.cell (p := ⟨b, o, none⟩) h, fun b o h => hb.frozen (p := ⟨b, o, none⟩) h⟩
set_option maxHeartbeats 1000000 in
theorem implCrc16_any (s : ByteArray) (w : World) (hs : s.size ≤ maxLen) :
    Calls Tryd.prog 75 #[.string s] w fun e w' => e = .returned (.int .i64 (crcTo s s.size : Nat)) ∧ Below w.heap.size w w' := by
  unfold maxLen at hs
  go_enter Tryd.func75, Tryd.ntmps75
  go_wp2_with fail
  refine (newSumTable_any _).mono ?_
  rintro e w1 ⟨rfl, hb1⟩
  have hl := tabV_lit
  go_wp2_with fail
  go_loopw [4, 9] (fun v c wr => ∃ k : Nat, k ≤ s.size ∧ c = .int .i64 k ∧ v = .int .u16 (crcTo s k : Nat) ∧ Below (w1.alloc (.cells tabV 140)).heap.size (w1.alloc (.cells tabV 140)) wr) (fun _ c _ => s.size - (intOf c).toNat)
  case atStart => exact ⟨0, by omega, rfl, rfl, by rw [hl]; exact Below.refl _ _⟩
  case round =>
    obtain ⟨k, hk, rfl, rfl, hb⟩ := hrel
    have hv := crcTo_lt s k
    have hbt := byteAt_lt s k
    by_cases hlt : k < s.size
    · obtain ⟨hc, hf⟩ := bcell hb
      have hby := byteAt_eq s k hlt
      have hadd := fun W => add_any (crcTo s k) (byteAt s k) W hv hbt
      rw [tabV_lit] at hadd
      have HA : Hid _ := hadd
      clear hadd
      go_wp2_with fail
      go_region_with (go_at_call 110; refine (HA.out _).mono ?_; rintro e w' ⟨rfl, rfl⟩)
      all_goals
        go_wp2
        exact ⟨⟨k + 1, by omega, by go_num, rfl, (hb.alloc hb.size _).drew⟩, by simp [intOf]; omega⟩
    · go_wp2
      go_ret
      refine ⟨ret_int (by rw [show s.size = k from by omega]), ?_⟩
      exact (hb1.alloc hb1.size _).trans (hb.mono (by have := hb1.size; simp; omega))
end Go.Proofs.YtccpdadabndleaaDoor
