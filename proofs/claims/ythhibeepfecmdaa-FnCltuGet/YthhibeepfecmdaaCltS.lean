/- The contract of spec.CltuGet. -/
import Derived.Test.YthhibeepfecmdaaCltG
namespace Go.Proofs.Ythhibeepfecmdaa
open Go.ChangeShapes Go.WideShapes Go.ChangeAt Go.RowKit
set_option linter.unusedVariables false
set_option maxRecDepth 100000 in
set_option maxHeartbeats 2000000 in
theorem specCltuGet_any (t : ByteArray) (w : World) (hs : t.size ≤ 1073741824) :
    Calls Try.prog 21 #[.string t] w fun e w' => ∃ k, stopB t k ∧ e = .returned (.tuple #[.string (getB t k), .int .i64 (8 * k : Nat)]) ∧ Below w.heap.size w w' := by
  go_enter Try.func21, Try.ntmps21
  go_wp2_with fail
  go_loopw [4, 5] (fun v i wr => ∃ k : Nat, 8 * k ≤ t.size ∧ k ≤ 9 ∧ Hid (∀ j, j < k → goodB t j = true) ∧ v = .string (getB t k) ∧ i = .int .i64 (8 * k : Nat) ∧ Below w.heap.size w wr) (fun _ i _ => (t.size + 8 - intOf i).toNat)
  case atStart => exact ⟨0, by omega, by omega, fun j hj => by omega, rfl, rfl, Below.refl _ _⟩
  case round =>
    obtain ⟨k, hk, h9, hall, rfl, rfl, hB⟩ := hrel
    have hsz := getB_size hall.out
    have HB : Hid _ := hB
    clear hB
    have hw8 : IntKind.i64.wrap (8 * (k : Int) + 8) = 8 * (k : Int) + 8 := wrap_id _ (by omega) (by omega)
    have hw7 : IntKind.i64.wrap (8 * (k : Int) + 7) = 8 * (k : Int) + 7 := wrap_id _ (by omega) (by omega)
    have hwo : IntKind.i64.wrap (7 * (k : Int) + 7) = 7 * (k : Int) + 7 := wrap_id _ (by omega) (by omega)
    by_cases hlt : 8 * k + 8 ≤ t.size
    · have hi8 : 8 * (k : Int) + 8 ≤ (t.size : Int) := by omega
      by_cases e9 : k = 9
      · have hd63 : decide (7 * (k : Int) + 7 ≤ 63) = false := by simp; omega
        have HST : Hid (stopB t k) := ⟨⟨h9, hall.out⟩, .inr e9⟩
        clear e9
        generalize hp : getB t k = p at *
        have HP : Hid _ := hp
        clear hp
        go_wp2_with fail
        go_quiet (fail)
        go_wp2_with fail
        go_ret2
        exact ⟨k, HST.out, ret_tuple2 (congrArg Value.string HP.out.symm) rfl, belowN HB.out nq⟩
      · have h63 : 7 * (k : Int) + 7 ≤ 63 := by omega
        have h7 := blkAt_size hlt
        have hby : (t[(8 * (k : Int) + 7).toNat]'(by omega)).toNat = byteAt t (8 * k + 7) := by
          rw [← byteAt_eq t (8 * k + 7) (by omega)]
          congr 1
        have hwb : IntKind.i64.wrap ((byteAt t (8 * k + 7) : Nat) : Int) = (byteAt t (8 * k + 7) : Nat) := wrap_id _ (by omega) (by have := byteAt_lt t (8 * k + 7); omega)
        have hi1 : (8 * (k : Int) + 7) < (t.size : Int) := by omega
        have hi2 : (0 : Int) ≤ 8 * (k : Int) + 7 := by omega
        have HE : Hid (getB t (k + 1) = getB t k ++ blkAt t k) := rfl
        cases hg : goodB t k
        · have hne : (((bchV (t.extract (8 * k) (8 * k + 7)) : Nat) : Int) == ((byteAt t (8 * k + 7) : Nat) : Int)) = false := by
            simp only [goodB, hlt, decide_true, Bool.true_and, beq_eq_false_iff_ne] at hg
            rw [beq_eq_false_iff_ne]; omega
          have HST : Hid (stopB t k) := ⟨⟨h9, hall.out⟩, .inl hg⟩
          clear hg HE
          generalize hp : getB t k = p at *
          have HP : Hid _ := hp
          clear hp
          go_wp2_with fail
          go_quiet ((go_at_call 79; exact Calls.quiet_of_same (specBch_any _ _ h7)))
          go_wp2_with fail
          go_ret2
          exact ⟨k, HST.out, ret_tuple2 (congrArg Value.string HP.out.symm) rfl, belowN HB.out nq⟩
        · have hne : (((bchV (t.extract (8 * k) (8 * k + 7)) : Nat) : Int) == ((byteAt t (8 * k + 7) : Nat) : Int)) = true := by
            simp only [goodB, hlt, decide_true, Bool.true_and, beq_iff_eq] at hg
            rw [beq_iff_eq]; omega
          have HGD : Hid _ := hg
          clear hg
          generalize hp : getB t k = p at *
          have HP : Hid _ := hp
          clear hp
          go_wp2_with fail
          go_quiet ((go_at_call 79; exact Calls.quiet_of_same (specBch_any _ _ h7)))
          go_wp2_with fail
          refine ⟨⟨k + 1, by omega, by omega, fun j hj => ?_, by rw [HE.out], by go_num, belowN HB.out nq⟩, ?_⟩
          · rcases Nat.lt_or_ge j k with e | e
            · exact hall.out j e
            · obtain rfl : j = k := by omega
              exact HGD.out
          · simp [intOf]; omega
    · have hd8 : decide (8 * (k : Int) + 8 ≤ (t.size : Int)) = false := by simp; omega
      have HST : Hid (stopB t k) := ⟨⟨h9, hall.out⟩, .inl (by simp [goodB, hlt])⟩
      generalize hp : getB t k = p at *
      have HP : Hid _ := hp
      clear hp
      go_wp2_with fail
      go_quiet (fail)
      go_wp2_with fail
      go_ret2
      exact ⟨k, HST.out, ret_tuple2 (congrArg Value.string HP.out.symm) rfl, belowN HB.out nq⟩
end Go.Proofs.Ythhibeepfecmdaa
