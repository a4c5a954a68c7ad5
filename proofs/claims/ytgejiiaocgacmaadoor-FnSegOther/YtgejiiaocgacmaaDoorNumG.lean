/- The contracts of impl.NumGet and spec.NumGet, spec.l1Get. -/
import Derived.Test.YtgejiiaocgacmaaDoorNum
import Derived.LoopN
import Derived.Test.YtgejiiaocgacmaaDoorBits
namespace Go.Proofs.YtgejiiaocgacmaaDoor
open Go.ChangeShapes Go.WideShapes Go.ChangeAt Go.RowKit

def byteAt (s : ByteArray) (i : Nat) : Nat := (s.data.toList.getD i 0).toNat
theorem byteAt_lt (s : ByteArray) (i : Nat) : byteAt s i < 256 := UInt8.toNat_lt _
theorem byteAt_eq (s : ByteArray) (i : Nat) (h : i < s.size) : s[i].toNat = byteAt s i := by
  unfold byteAt
  have h' : i < s.data.toList.length := by simpa using h
  rw [List.getD, List.getElem?_eq_getElem h']
  rfl
theorem w64 {x : Int} (h0 : 0 ≤ x) (h1 : x < 4611686018427387904) : wrap64 x = x := by unfold wrap64; omega
def gt (s : ByteArray) (a : Nat) : Nat → Nat
  | 0 => 0
  | k + 1 => gt s a k * 256 + byteAt s (a + k)
theorem gt_lt (s : ByteArray) (a : Nat) : ∀ k, gt s a k < 256 ^ k
  | 0 => by simp [gt]
  | k + 1 => by
    have := gt_lt s a k
    have := byteAt_lt s (a + k)
    rw [Nat.pow_succ]; simp only [gt]; omega
theorem gt_le (s : ByteArray) (a k : Nat) (h : k ≤ 4) : gt s a k < 4294967296 :=
  Nat.lt_of_lt_of_le (gt_lt s a k) (Nat.pow_le_pow_right (n := 256) (j := 4) (by decide) h)

set_option maxHeartbeats 400000 in
theorem l1Get_any (s : ByteArray) (a n : Nat) (w : World) (hs : s.size ≤ maxLen) (hn : n ≤ 4) (ha : a + n ≤ s.size) :
    Calls Tryd.prog 126 #[.string s, .int .i64 a, .int .i64 n] w fun e w' => e = .returned (.int .i64 (gt s a n : Nat)) ∧ w' = w := by
  unfold maxLen at hs
  go_enter Tryd.func126, Tryd.ntmps126
  go_wp2
  go_loop [7, 8] (fun v i => ∃ k : Nat, k ≤ n ∧ v = .int .i64 (gt s a k : Nat) ∧ i = .int .i64 k) (fun _ i => n - (intOf i).toNat)
  case atStart => exact ⟨0, by omega, rfl, rfl⟩
  case round =>
    obtain ⟨k, hk, rfl, rfl⟩ := hrel
    have hl := gt_le s a k (by omega)
    have hb := byteAt_lt s (a + k)
    by_cases hlt : k < n
    · go_wp2
      rw [byteAt_eq, w64 (x := (byteAt s (a + k) : Int)) (by omega) (by omega), w64 (by omega) (by omega)]
      exact ⟨⟨k + 1, by omega, by simp [gt], by go_num⟩, by simp [intOf]; omega⟩
    · go_wp2
      go_ret
      exact ⟨ret_int (by rw [show n = k from by omega]), rfl⟩

def getOk (s : ByteArray) (a n : Int) : Prop := 1 ≤ n ∧ n ≤ 4 ∧ 0 ≤ a ∧ a ≤ s.size - n
theorem ret_int2 {k : IntKind} {a b : Int} {c d : Bool} (h : a = b) (h2 : c = d) : Ending.returned (.tuple #[.int k a, .bool c]) = .returned (.tuple #[.int k b, .bool d]) := by rw [h, h2]

set_option maxHeartbeats 400000 in
theorem implNumGet_no (s : ByteArray) (a n : Int) (w : World) (hs : s.size ≤ maxLen) (h : ¬ (1 ≤ n ∧ n ≤ 4 ∧ 0 ≤ a ∧ a ≤ s.size - n)) :
    Calls Tryd.prog 151 #[.string s, .int .i64 a, .int .i64 n] w fun e w' => e = .returned (.tuple #[.int .i64 0, .bool false]) ∧ w' = w := by
  unfold maxLen at hs
  by_cases h1 : n < 1
  · clear h
    go_enter Tryd.func151, Tryd.ntmps151
    go_wp2
    go_ret2
    exact ⟨rfl, rfl⟩
  by_cases h4 : 4 < n
  · clear h
    go_enter Tryd.func151, Tryd.ntmps151
    go_wp2
    go_ret2
    exact ⟨rfl, rfl⟩
  by_cases h0 : a < 0
  · clear h
    go_enter Tryd.func151, Tryd.ntmps151
    go_wp2
    go_ret2
    exact ⟨rfl, rfl⟩
  have ha : (s.size : Int) - n < a := by omega
  clear h
  go_enter Tryd.func151, Tryd.ntmps151
  go_wp2
  go_ret2
  exact ⟨rfl, rfl⟩

set_option maxHeartbeats 400000 in
theorem implNumGet_yes (s : ByteArray) (a n : Int) (w : World) (hs : s.size ≤ maxLen) (h1 : 1 ≤ n) (h4 : n ≤ 4) (h0 : 0 ≤ a) (ha : a ≤ s.size - n) :
    Calls Tryd.prog 151 #[.string s, .int .i64 a, .int .i64 n] w fun e w' => e = .returned (.tuple #[.int .i64 (gt s a.toNat n.toNat : Nat), .bool true]) ∧ w' = w := by
  unfold maxLen at hs
  obtain ⟨A, rfl⟩ := Int.eq_ofNat_of_zero_le h0
  obtain ⟨M, rfl⟩ := Int.eq_ofNat_of_zero_le (show 0 ≤ n by omega)
  have hp1 : ¬ (M : Int) < 1 := by omega
  have hp2 : ¬ 4 < (M : Int) := by omega
  have hp3 : ¬ (s.size : Int) - M < A := by omega
  go_enter Tryd.func151, Tryd.ntmps151
  go_wp2
  go_loop [8, 29] (fun v i => ∃ k : Nat, k ≤ M ∧ v = .int .i64 (gt s A k : Nat) ∧ i = .int .i64 k) (fun _ i => M - (intOf i).toNat)
  case atStart => exact ⟨0, by omega, rfl, rfl⟩
  case round =>
    obtain ⟨k, hk, rfl, rfl⟩ := hrel
    have hl := gt_le s A k (by omega)
    have hb := byteAt_lt s (A + k)
    by_cases hlt : k < M
    · go_wp2
      rw [byteAt_eq, w64 (x := (byteAt s (A + k) : Int)) (by omega) (by omega)]
      rw [show ((gt s A k : Nat) : Int) * 256 = ((gt s A k * 256 : Nat) : Int) from by simp, i64_or _ _ (by omega) (by omega), or_byte _ _ hb]
      exact ⟨⟨k + 1, by omega, by simp [gt], by go_num⟩, by simp [intOf]; omega⟩
    · go_wp2
      go_ret2
      exact ⟨ret_int2 (by simp [show M = k from by omega]) rfl, rfl⟩

end Go.Proofs.YtgejiiaocgacmaaDoor
