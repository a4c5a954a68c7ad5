/- The contracts of CltuPut, both sides. -/
import Derived.Test.YthhibeepfecmdaaCltR
import Derived.Test.YthhibeepfecmdaaNumA
import Derived.Test.YthhibeepfecmdaaBchW
import Derived.Test.YthhibeepfecmdaaHeap
namespace Go.Proofs.Ythhibeepfecmdaa
open Go.ChangeShapes Go.WideShapes Go.ChangeAt Go.RowKit
set_option linter.unusedVariables false
theorem put1 (n : Nat) (w : World) (h : n < 256) : Calls Try.prog 138 #[.int .i64 (n : Int), .int .i64 1] w fun e w' => e = .returned (.string ⟨#[UInt8.ofNat n]⟩) ∧ Below w.heap.size w w' :=
  (implNumPut_1 (n : Int) w (by omega) (by omega)).mono fun e w' ⟨he, hb⟩ => ⟨by rw [he]; simp [pt], hb⟩
theorem sput1 (n : Nat) (w : World) (h : n < 256) : Calls Try.prog 167 #[.int .i64 (n : Int), .int .i64 1] w fun e w' => e = .returned (.string ⟨#[UInt8.ofNat n]⟩) ∧ Below w.heap.size w w' :=
  (l1Put_any (n : Int) 1 w (by omega) (by omega) (by omega) (by omega)).mono fun e w' ⟨he, hb⟩ => ⟨by rw [he]; simp [pt], hb⟩
set_option maxHeartbeats 400000 in
theorem codeBlock_any (t : ByteArray) (w : World) (h : t.size ≤ 7) :
    Calls Try.prog 71 #[.string t] w fun e w' => e = .returned (.string (blkB t)) ∧ Below w.heap.size w w' := by
  have hc : (7 : Int) - t.size = ((7 - t.size : Nat) : Int) := by omega
  have hz : (rep85 (7 - t.size)).size = 7 - t.size := rep85_size _
  go_enter Try.func71, Try.ntmps71
  go_wp2_with fail
  refine (repeat_any (7 - t.size) _ (by omega)).mono ?_
  rintro e w1 ⟨rfl, hb1⟩
  have HB1 : Hid (Below w.heap.size w w1) := hb1
  clear hb1
  go_wp2_with fail
  have e1 : t ++ rep85 (7 - t.size) = padB t := rfl
  rw [e1]
  clear hc hz e1
  have hp := padB_size h
  have hl := bchV_256 (padB t)
  have HE : Hid (blkB t = padB t ++ ⟨#[UInt8.ofNat (bchV (padB t))]⟩) := rfl
  generalize padB t = q at *
  refine (implBch_any q _ hp).mono ?_
  rintro e w2 ⟨rfl, rfl⟩
  go_wp2_with fail
  refine (put1 _ _ hl).mono ?_
  rintro e w3 ⟨rfl, hb3⟩
  have HB3 : Hid (Below w.heap.size w w3) := HB1.out.trans (hb3.mono HB1.out.size)
  clear hb3
  go_wp2_with fail
  go_ret
  exact ⟨ret_str HE.out.symm, HB3.out⟩

def lenOf (v : Value) : Nat := match v with | .string s => s.size | _ => 0
set_option maxHeartbeats 400000 in
theorem l2Block_any (t : ByteArray) (w : World) (h : t.size ≤ 7) :
    Calls Try.prog 139 #[.string t] w fun e w' => e = .returned (.string (blkB t)) ∧ Below w.heap.size w w' := by
  go_enter Try.func139, Try.ntmps139
  go_wp2_with fail
  go_loop [0] (fun v => ∃ k : Nat, k ≤ 7 - t.size ∧ v = .string (t ++ rep85 k)) (fun v => 7 - lenOf v)
  case atStart => exact ⟨0, by omega, by rw [rep85_zero, app_empty]⟩
  case round =>
    obtain ⟨k, hk, rfl⟩ := hrel
    have hz : (t ++ rep85 k).size = t.size + k := by rw [ByteArray.size_append, rep85_size]
    by_cases hlt : k < 7 - t.size
    · have HS : Hid ((t ++ rep85 k) ++ ⟨#[85]⟩ = t ++ rep85 (k + 1)) := by show _ = _; rw [rep85_succ, ByteArray.append_assoc]
      generalize t ++ rep85 k = q at *
      go_wp2_with fail
      refine ⟨⟨k + 1, by omega, by rw [HS.out]⟩, ?_⟩
      have hs : (q ++ (⟨#[85]⟩ : ByteArray)).size = q.size + 1 := by rw [ByteArray.size_append]; rfl
      simp only [lenOf]
      omega
    · obtain rfl : k = 7 - t.size := by omega
      have e1 : t ++ rep85 (7 - t.size) = padB t := rfl
      rw [e1] at hz ⊢
      have hp := padB_size h
      have hl := bchV_256 (padB t)
      have HE : Hid (blkB t = padB t ++ ⟨#[UInt8.ofNat (bchV (padB t))]⟩) := rfl
      clear e1 hz
      generalize padB t = q at *
      have hp' : ¬ q.size < 7 := by omega
      have HP : Hid (q.size = 7) := hp
      clear hp
      go_wp2_with fail
      refine (specBch_any q _ HP.out).mono ?_
      rintro e w2 ⟨rfl, rfl⟩
      have hp7 := HP.out
      go_wp2_with fail
      refine (sput1 _ _ hl).mono ?_
      rintro e w3 ⟨rfl, hb3⟩
      have HB3 : Hid _ := hb3
      clear hb3
      go_wp2_with fail
      go_ret
      exact ⟨ret_str HE.out.symm, HB3.out⟩
set_option maxHeartbeats 400000 in
theorem l2Blocks_any (t : ByteArray) (w : World) (h : t.size ≤ 1000000) :
    Calls Try.prog 74 #[.string t] w fun e w' => e = .returned (.string (blksB t ((t.size + 6) / 7))) ∧ Below w.heap.size w w' := by
  go_enter Try.func74, Try.ntmps74
  go_wp2_with fail
  go_loopw [3, 4] (fun v i wr => ∃ k : Nat, 7 * k ≤ t.size + 6 ∧ v = .string (blksB t k) ∧ i = .int .i64 (7 * k : Nat) ∧ Below w.heap.size w wr) (fun _ i _ => (t.size + 7 - intOf i).toNat)
  case atStart => exact ⟨0, by omega, rfl, rfl, Below.refl _ _⟩
  case round =>
    obtain ⟨k, hk, rfl, rfl, hB⟩ := hrel
    have HB : Hid _ := hB
    clear hB
    have hz := blksB_size t k
    by_cases hlt : 7 * k < t.size
    · have HS : Hid (blksB t (k + 1) = blksB t k ++ blkB (t.extract (7 * k) (min (7 * k + 7) t.size))) := rfl
      have hcl := cut_le t k
      have hbz := blkB_size hcl
      generalize blksB t k = q at *
      by_cases hgt : t.size < 7 * k + 7
      · have e1 : min (7 * k + 7) t.size = t.size := by omega
        rw [e1] at HS hcl hbz
        clear e1
        go_wp2_with fail
        refine (l2Block_any _ _ hcl).mono ?_
        rintro e w1 ⟨rfl, hb1⟩
        have HB1 : Hid (Below w.heap.size w w1) := HB.out.trans (hb1.mono HB.out.size)
        clear hb1
        go_wp2_with fail
        refine ⟨⟨k + 1, by omega, by rw [HS.out], by go_num, HB1.out⟩, ?_⟩
        simp [intOf]; omega
      · have e1 : min (7 * k + 7) t.size = 7 * k + 7 := by omega
        rw [e1] at HS hcl hbz
        clear e1
        go_wp2_with fail
        refine (l2Block_any _ _ hcl).mono ?_
        rintro e w1 ⟨rfl, hb1⟩
        have HB1 : Hid (Below w.heap.size w w1) := HB.out.trans (hb1.mono HB.out.size)
        clear hb1
        go_wp2_with fail
        refine ⟨⟨k + 1, by omega, by rw [HS.out], by go_num, HB1.out⟩, ?_⟩
        simp [intOf]; omega
    · have HK : Hid (k = (t.size + 6) / 7) := by show _ = _; omega
      go_wp2_with fail
      go_ret
      exact ⟨ret_str (by rw [← HK.out]), HB.out⟩
set_option maxHeartbeats 400000 in
theorem specCltuPut_any (t : ByteArray) (w : World) (h1 : 1 ≤ t.size) (h63 : t.size ≤ 63) :
    Calls Try.prog 17 #[.string t] w fun e w' => e = .returned (.string (cltB t ((t.size + 6) / 7))) ∧ Below w.heap.size w w' := by
  have hz := blksB_size t ((t.size + 6) / 7)
  have hd : inB t.size 1 63 = true := by simp [inB]; omega
  have HE : Hid (cltB t ((t.size + 6) / 7) = ⟨#[235, 144]⟩ ++ blksB t ((t.size + 6) / 7) ++ ⟨#[197, 197, 197, 197, 197, 197, 197, 121]⟩) := rfl
  have HQ : Hid (∀ w, Calls Try.prog 74 #[.string t] w fun e w' => e = .returned (.string (blksB t ((t.size + 6) / 7))) ∧ Below w.heap.size w w') := fun w => l2Blocks_any t w (by omega)
  have hz' : (blksB t ((t.size + 6) / 7)).size ≤ 80 := by omega
  clear hz
  generalize blksB t ((t.size + 6) / 7) = q at *
  go_enter Try.func17, Try.ntmps17
  go_wp2_with fail
  refine (l1In_any _ _ _ _).mono ?_
  rintro e w' ⟨rfl, rfl⟩
  go_wp2_with (first | (go_at_call 73; go_in) | (go_at_call 75; go_in) | (go_at_call 74; refine (HQ.out _).mono ?_; rintro e w1 ⟨rfl, hb1⟩))
  go_ret
  exact ⟨ret_str HE.out.symm, hb1⟩
set_option maxHeartbeats 400000 in
theorem specCltuPut_no (t : ByteArray) (w : World) (h : t.size < 1 ∨ 63 < t.size) :
    Calls Try.prog 17 #[.string t] w fun e w' => e = .returned (.string ⟨#[]⟩) ∧ Below w.heap.size w w' := by
  have hd : inB t.size 1 63 = false := by simp [inB]; omega
  go_enter Try.func17, Try.ntmps17
  go_wp2_with fail
  refine (l1In_any _ _ _ _).mono ?_
  rintro e w' ⟨rfl, rfl⟩
  go_wp2_with fail
  go_ret
  exact ⟨rfl, Below.refl _ _⟩
set_option maxHeartbeats 400000 in
theorem implCltuPut_no (t : ByteArray) (w : World) (h : t.size < 1 ∨ 63 < t.size) (hs : t.size ≤ maxLen) :
    Calls Try.prog 16 #[.string t] w fun e w' => e = .returned (.string ⟨#[]⟩) ∧ Below w.heap.size w w' := by
  unfold maxLen at hs
  by_cases h1 : t.size < 1
  · go_enter Try.func16, Try.ntmps16
    go_wp2_with fail
    go_ret
    exact ⟨rfl, Below.refl _ _⟩
  · have h2 : 63 < t.size := by omega
    clear h
    go_enter Try.func16, Try.ntmps16
    go_wp2_with fail
    go_ret
    exact ⟨rfl, Below.refl _ _⟩
set_option maxRecDepth 100000 in
set_option maxHeartbeats 400000 in
theorem implCltuPut_any (t : ByteArray) (w : World) (h1 : 1 ≤ t.size) (h63 : t.size ≤ 63) :
    Calls Try.prog 16 #[.string t] w fun e w' => e = .returned (.string (cltB t ((t.size + 6) / 7))) ∧ Below w.heap.size w w' := by
  have hn1 : ¬ t.size < 1 := by omega
  go_enter Try.func16, Try.ntmps16
  go_wp2_with fail
  go_loopw [3, 4] (fun v i wr => ∃ k : Nat, 7 * k ≤ t.size + 6 ∧ v = .string (⟨#[235, 144]⟩ ++ blksB t k) ∧ i = .int .i64 (7 * k : Nat) ∧ Below w.heap.size w wr) (fun _ i _ => (t.size + 7 - intOf i).toNat)
  case atStart => exact ⟨0, by omega, rfl, rfl, Below.refl _ _⟩
  case round =>
    obtain ⟨k, hk, rfl, rfl, hB⟩ := hrel
    have HB : Hid _ := hB
    clear hB
    have hz : (⟨#[235, 144]⟩ ++ blksB t k : ByteArray).size = 2 + 8 * k := by rw [ByteArray.size_append, blksB_size]; rfl
    by_cases hlt : 7 * k < t.size
    · have HS : Hid (⟨#[235, 144]⟩ ++ blksB t (k + 1) = (⟨#[235, 144]⟩ ++ blksB t k) ++ blkB (t.extract (7 * k) (min (7 * k + 7) t.size))) := by show _ = _; rw [blksB, ByteArray.append_assoc]
      have hcl := cut_le t k
      have hbz := blkB_size hcl
      generalize (⟨#[235, 144]⟩ ++ blksB t k : ByteArray) = q at *
      have e1 : min (7 * k + 7) t.size = (min (7 * (k : Int) + 7) t.size).toNat := by omega
      rw [e1] at HS hcl hbz
      clear e1
      go_wp2_with fail
      refine (codeBlock_any _ _ hcl).mono ?_
      rintro e w1 ⟨rfl, hb1⟩
      have HB1 : Hid (Below w.heap.size w w1) := HB.out.trans (hb1.mono HB.out.size)
      clear hb1
      go_wp2_with fail
      refine ⟨⟨k + 1, by omega, by rw [HS.out], by go_num, HB1.out⟩, ?_⟩
      simp [intOf]; omega
    · have HK : Hid ((t.size + 6) / 7 = k) := by show _ = _; omega
      have HE : Hid (cltB t k = (⟨#[235, 144]⟩ ++ blksB t k) ++ ⟨#[197, 197, 197, 197, 197, 197, 197, 121]⟩) := rfl
      generalize (⟨#[235, 144]⟩ ++ blksB t k : ByteArray) = q at *
      go_wp2_with fail
      go_ret
      exact ⟨ret_str (by rw [HK.out, HE.out]), HB.out⟩
end Go.Proofs.Ythhibeepfecmdaa
