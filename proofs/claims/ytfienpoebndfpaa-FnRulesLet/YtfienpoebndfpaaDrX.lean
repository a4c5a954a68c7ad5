/- For draws: cells by twos and threes, new lists under a reckoned block. -/
import Derived.Test.YtfienpoebndfpaaCellsN
import Derived.Test.YtfienpoebndfpaaDrawM
import Derived.Test.YtfienpoebndfpaaKeep4
namespace Go.Proofs.Ytfienpoebndfpaa
open Go.ChangeShapes Go.WideShapes Go.ChangeAt Go.RowKit
set_option linter.unusedVariables false
theorem intsNew {w : World} {b : Nat} {T : TypeId} (e : b = w.heap.size) (l : List Int) : Ints (w.alloc (.cells (l.map (Value.int .i64 ·)).toArray T)) b l := by subst e; exact Ints.new l
set_option maxRecDepth 100000 in
set_option maxHeartbeats 1000000 in
theorem l1Many_eq (s : ByteArray) (n : Nat) (w : World) (hn : n ≤ 1000) (hs : s.size ≤ 1000) :
    Calls Try.prog 118 #[.string s, .int .i64 (n : Int)] w fun e w' => ∃ out : ByteArray, out.size = n * s.size ∧ e = .returned (.string out) ∧ Below w.heap.size w w' := by
  have HM : Hid (n * s.size ≤ 1000000) := Nat.mul_le_mul hn hs
  have HN : Hid (n ≤ 1000) := hn
  go_enter Try.func118, Try.ntmps118
  go_wp2_with fail
  go_loopw [0, 1, 5] (fun a b c wr => ∃ (k : Nat) (t out : ByteArray), k ≤ n ∧ a = .string t ∧ b = .int .i64 (k : Int) ∧ c = .string out ∧ out.size + k * t.size = n * s.size ∧ t.size ≤ 2000000 ∧ Below w.heap.size w wr) (fun _ b _ _ => (intOf b).toNat)
  case atStart => exact ⟨n, s, ⟨#[]⟩, Nat.le_refl _, rfl, rfl, rfl, by show 0 + n * s.size = _; omega, by omega, Below.refl _ _⟩
  case round =>
    obtain ⟨k, t, out, hk, rfl, rfl, rfl, hsz, ht, hb⟩ := hrel
    have HS : Hid (out.size + k * t.size = n * s.size) := hsz
    have HB : Hid (Below w.heap.size w wr) := hb
    have hM := HM.out
    have ho : out.size ≤ 1000000 := by omega
    clear hsz hb hM
    by_cases hpos : 0 < (k : Int)
    · have hkp : 0 < k := by omega
      have h9a : (9223372036854775807 < out.size + t.size) = False := by simp; omega
      have h9b : (9223372036854775807 < t.size + t.size) = False := by simp; omega
      have HT : Hid (t.size ≤ 1000000) := by
        have h1 := HS.out
        have h2 := HM.out
        have h3 : t.size ≤ k * t.size := Nat.le_mul_of_pos_left _ hkp
        show t.size ≤ 1000000
        omega
      clear ht ho
      have hz2 : (t ++ t).size = t.size + t.size := ByteArray.size_append
      have hz3 : (out ++ t).size = out.size + t.size := ByteArray.size_append
      have hkb : k ≤ 1000 := by have := HN.out; omega
      have HQ : Hid ((k : Int) / 2 = ((k / 2 : Nat) : Int)) := by show (k : Int) / 2 = ((k / 2 : Nat) : Int); simp
      by_cases hodd : (k : Int) % 2 = 1
      · go_wp2_with fail
        refine ⟨⟨k / 2, t ++ t, out ++ t, by omega, rfl, ?_, rfl, ?_, by have := HT.out; omega, HB.out⟩, ?_⟩
        · rw [HQ.out]
        · have h1 := HS.out
          have h2 : k = 2 * (k / 2) + 1 := by omega
          have h3 := many_odd (k / 2) t.size
          rw [← h2] at h3
          rw [hz3, hz2]
          omega
        · simp [intOf]; omega
      · go_wp2_with fail
        refine ⟨⟨k / 2, t ++ t, out, by omega, rfl, ?_, rfl, ?_, by have := HT.out; omega, HB.out⟩, ?_⟩
        · rw [HQ.out]
        · have h1 := HS.out
          have h2 : 2 * (k / 2) = k := by omega
          have h3 := many_even (k / 2) t.size
          rw [h2] at h3
          rw [hz2, h3]
          exact h1
        · simp [intOf]; omega
    · go_wp2_with fail
      go_ret
      exact ⟨out, by have := HS.out; rw [show k = 0 by omega, Nat.zero_mul] at this; omega, rfl, HB.out⟩

theorem l1ManyE (s : ByteArray) (m : Int) (w : World) (h0 : 0 ≤ m) (h1 : m ≤ 1000) (hs : s.size ≤ 1000) :
    Calls Try.prog 118 #[.string s, .int .i64 m] w fun e w' => ∃ out : ByteArray, out.size = m.toNat * s.size ∧ e = .returned (.string out) ∧ Below w.heap.size w w' := by
  obtain ⟨n, rfl⟩ := Int.eq_ofNat_of_zero_le h0
  exact l1Many_eq s n w (by omega) hs
end Go.Proofs.Ytfienpoebndfpaa
