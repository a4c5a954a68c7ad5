/- Slices of texts: laws.szStringS at any number. -/
import Derived.Test.YtgejiiaocgacmaaDoorTxS
namespace Go.Proofs.YtgejiiaocgacmaaDoor
open Go.ChangeShapes Go.WideShapes Go.ChangeAt Go.RowKit
set_option linter.unusedVariables false
set_option maxHeartbeats 1000000 in
theorem szStringSl_any (a : Option Addr) (n cap : Nat) (f : Nat → ByteArray) (l : Int) (w : World) (hn : n ≤ maxLen) (h : Txt w a n f) (hl0 : 0 ≤ l) (hl1 : l ≤ 1048576) :
    Calls Tryd.prog 74 #[.slice a n cap, .int .i64 l] w fun e w' => ∃ r : Int, (0 ≤ r → n ≤ 1048576 ∧ ∀ i, i < n → (f i).size ≤ 1048576) ∧ r ≤ 1048576 ∧ e = .returned (.int .i64 r) ∧ Below w.heap.size w w' := by
  unfold maxLen at hn
  by_cases hbig : l - n < 0
  · go_enter Tryd.func74, Tryd.ntmps74
    go_wp2
    go_ret
    exact ⟨-1, fun h => by omega, by omega, rfl, Below.refl _ _⟩
  obtain ⟨hsz, h0 | ⟨b, off, rfl, hlt, hc⟩⟩ := h
  · subst h0
    go_enter Tryd.func74, Tryd.ntmps74
    go_wp2
    refine Go.wp_loop_rounds 1 ?_
    rw [Go.rounds_succ]
    go_wp2
    go_ret
    exact ⟨l, fun _ => ⟨by omega, fun i hi => by omega⟩, by omega, rfl, Below.refl _ _⟩
  · have HS : Hid _ := hsz
    have HC : Hid _ := hc
    clear hsz hc
    go_enter Tryd.func74, Tryd.ntmps74
    go_wp2
    go_loop [1, 5] (fun v i => ∃ (k : Nat) (r : Int), k ≤ n ∧ 0 ≤ r ∧ r ≤ 1048576 ∧ Hid (∀ j, j < k → (f j).size ≤ 1048576) ∧ i = .int .i64 k ∧ v = .int .i64 r) (fun _ i => n - (intOf i).toNat)
    case atStart => exact ⟨0, l - n, by omega, by omega, by omega, fun j hj => by omega, rfl, rfl⟩
    case round =>
      obtain ⟨k, r, hk, hr0, hr1, hall, rfl, rfl⟩ := hrel
      by_cases hlt : k < n
      · have hck := HC.out k hlt
        have hsk := HS.out k hlt
        unfold maxLen at hsk
        by_cases hneg : r - (f k).size < 0
        · go_wp2
          go_ret
          exact ⟨-1, fun h => by omega, by omega, rfl, Below.refl _ _⟩
        · go_wp2
          refine ⟨⟨k + 1, r - (f k).size, by omega, by omega, by omega, fun j hj => ?_, by go_num, rfl⟩, by simp [intOf]; omega⟩
          rcases Nat.lt_or_ge j k with e | e
          · exact hall.out j e
          · obtain rfl : j = k := by omega
            omega
      · go_wp2
        go_ret
        exact ⟨r, fun _ => ⟨by omega, fun i hi => hall.out i (by omega)⟩, by omega, rfl, Below.refl _ _⟩
end Go.Proofs.YtgejiiaocgacmaaDoor
