/- Marks of texts: laws.markText, laws.markStringS, laws.heldStringS. -/
import Derived.Test.YtgejiiaocgacmaaDoorOwn
import Derived.Test.YtgejiiaocgacmaaDoorTxS
import Derived.Test.YtgejiiaocgacmaaDoorQuB
namespace Go.Proofs.YtgejiiaocgacmaaDoor
open Go.ChangeShapes Go.WideShapes Go.ChangeAt Go.RowKit
set_option linter.unusedVariables false
def mtF : Nat → Nat → List UInt8 → List UInt8
  | 0, _, o => o
  | f + 1, k, o => if k = 0 then o else mtF f (k / 10) ((48 + UInt8.ofNat (k % 10)) :: o)
theorem mtF_zero (f : Nat) (o : List UInt8) : mtF f 0 o = o := by cases f <;> simp [mtF]
theorem mtF_len (f k : Nat) (o : List UInt8) : (mtF f k o).length ≤ o.length + f := by
  induction f generalizing k o with
  | zero => simp [mtF]
  | succ f ih =>
    simp only [mtF]
    split
    · omega
    · have := ih (k / 10) ((48 + UInt8.ofNat (k % 10)) :: o)
      simp only [List.length_cons] at this; omega
def markT (k : Int) : ByteArray := if k ≤ 0 then ⟨#[109, 48]⟩ else ⟨((109 : UInt8) :: mtF 20 k.toNat []).toArray⟩
theorem markT_size (k : Int) : (markT k).size ≤ 64 := by
  unfold markT
  split
  · decide
  · have := mtF_len 20 k.toNat []
    show ((109 : UInt8) :: mtF 20 k.toNat []).toArray.size ≤ 64
    simp at *; omega
set_option maxHeartbeats 2000000 in
theorem markText_any (k : Int) (w : World) (hk : k ≤ 4611686018427387904) :
    Calls Tryd.prog 96 #[.int .i64 k] w fun e w' => e = .returned (.string (markT k)) ∧ Below w.heap.size w w' := by
  have hob := one_byte
  by_cases h0 : k ≤ 0
  · have HM : Hid (markT k = ⟨#[109, 48]⟩) := if_pos h0
    go_enter Tryd.func96, Tryd.ntmps96
    go_wp2
    go_ret
    exact ⟨ret_str HM.out.symm, Below.refl _ _⟩
  obtain ⟨m, rfl⟩ := Int.eq_ofNat_of_zero_le (show 0 ≤ k by omega)
  have HM : Hid (markT (m : Int) = ⟨((109 : UInt8) :: mtF 20 m []).toArray⟩) := by show _ = _; unfold markT; rw [if_neg h0, Int.toNat_natCast]
  have h20 : m < 10 ^ 20 := by have : (4611686018427387904 : Nat) < 10 ^ 20 := by decide
                               omega
  have H20 : Hid (m < 10 ^ 20) := h20
  clear h20
  go_enter Tryd.func96, Tryd.ntmps96
  go_wp2
  go_loopw [0, 3] (fun a o wr => ∃ (f x : Nat) (l : List UInt8), Hid (x < 10 ^ f) ∧ x ≤ 4611686018427387904 ∧ l.length + f ≤ 20 ∧ Hid (mtF f x l = mtF 20 m []) ∧ a = .int .i64 x ∧ o = .string ⟨l.toArray⟩ ∧ Below w.heap.size w wr) (fun a _ _ => (intOf a).toNat)
  case atStart => exact ⟨20, m, [], H20.out, by omega, by simp, rfl, rfl, rfl, Below.refl _ _⟩
  case round =>
    obtain ⟨f, x, l, hx, hx2, hl, hm, rfl, rfl, hb⟩ := hrel
    by_cases h1 : 0 < x
    · have h1i : (0 : Int) < (x : Int) := by omega
      obtain ⟨f, rfl⟩ : ∃ g, f = g + 1 := by
        cases f with
        | zero => have := hx.out; simp at this; omega
        | succ g => exact ⟨g, rfl⟩
      have hx3 : Hid (x / 10 < 10 ^ f) := by show x / 10 < 10 ^ f; have := hx.out; rw [Nat.pow_succ] at this; omega
      have hm3 : Hid (mtF f (x / 10) ((48 + UInt8.ofNat (x % 10)) :: l) = mtF 20 m []) := by
        show _ = _
        have := hm.out
        rw [mtF, if_neg (by omega)] at this
        exact this
      clear hx hm
      go_wp2
      exact ⟨⟨f, x / 10, (48 + UInt8.ofNat (x % 10)) :: l, hx3, by omega, by simp only [List.length_cons]; omega, hm3, by go_num, by rw [bytes_cons], hb.alloc hb.size _⟩, by simp [intOf]; omega⟩
    · obtain rfl : x = 0 := by omega
      have hm2 := hm.out
      rw [mtF_zero] at hm2
      have HM2 : Hid _ := hm2
      clear hm2 hm
      go_wp2
      go_ret
      exact ⟨ret_str (by rw [HM.out, ← HM2.out]; exact bytes_cons _ _), hb⟩
end Go.Proofs.YtgejiiaocgacmaaDoor
