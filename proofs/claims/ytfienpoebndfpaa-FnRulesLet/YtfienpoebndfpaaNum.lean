import Derived.Test.YtfienpoebndfpaaRows
import Derived.WalkKit
import Derived.WalkLawsBesides
import Derived.WalkSpells
import Derived.ProofKit
import Derived.Below
import Derived.Laws.BytesArg
import Derived.Laws.IdiomStrings
namespace Go.Proofs.Ytfienpoebndfpaa
open Go.ChangeShapes Go.WideShapes Go.ChangeAt Go.RowKit

def inB (n low high : Int) : Bool := decide (low ≤ n) && decide (n ≤ high)

set_option maxHeartbeats 400000 in
theorem l1In_any (n low high : Int) (w : World) :
    Calls Try.prog 54 #[.int .i64 n, .int .i64 low, .int .i64 high] w fun e w' => e = .returned (.bool (inB n low high)) ∧ w' = w := by
  by_cases h : low ≤ n
  · go_enter Try.func54, Try.ntmps54
    go_wp2
    go_ret
    exact ⟨by simp [inB, h], rfl⟩
  · have hb : inB n low high = false := by simp [inB, h]
    go_enter Try.func54, Try.ntmps54
    go_wp2
    go_ret
    exact ⟨by simp, rfl⟩

theorem pow256_succ (k : Nat) : (256 : Int) ^ (k + 1) = 256 ^ k * 256 := Int.pow_succ _ _
theorem pow256_pos (k : Nat) : (1 : Int) ≤ 256 ^ k := by
  have := Int.pow_pos (n := 256) (m := k) (by decide); omega
theorem pow256_le (k m : Nat) (h : k ≤ m) : (256 : Int) ^ k ≤ 256 ^ m := by
  have := Nat.pow_le_pow_right (n := 256) (by decide) h
  have e : ∀ j : Nat, (256 : Int) ^ j = ((256 ^ j : Nat) : Int) := fun j => by simp
  rw [e, e]
  exact Int.ofNat_le.mpr this

theorem ret_str {a b : ByteArray} (h : a = b) : Ending.returned (.string a) = .returned (.string b) := by rw [h]
theorem ret_int {k : IntKind} {a b : Int} (h : a = b) : Ending.returned (.int k a) = .returned (.int k b) := by rw [h]

def pt (n : Nat) : Nat → List UInt8
  | 0 => []
  | k + 1 => UInt8.ofNat (n / 256 ^ k) :: pt n k
theorem pt_length (n : Nat) : ∀ k, (pt n k).length = k
  | 0 => rfl
  | k + 1 => by simp [pt, pt_length n k]

theorem one_byte (w : World) (x : Int) : (convert 38 9 (.slice (some ⟨w.heap.size, 0, none⟩) 1 1)).run Try.prog (w.alloc (.cells #[.int .u8 x] 5)) = .ok (.string ⟨#[UInt8.ofNat x.toNat]⟩) (w.alloc (.cells #[.int .u8 x] 5)) :=
  run_convert_bytes_arg (P := Try.prog) (w.alloc (.cells #[.int .u8 x] 5)) 38 5 Try.underlying38 Try.underlying5 w.heap.size 0 1 1 [x] rfl
    (fun i hi => by obtain rfl : i = 0 := by omega
                    rw [World.cell?_alloc_mark]; rfl) 9 Try.underlying9

theorem byte_mod (x : Nat) : UInt8.ofNat (x % 256) = UInt8.ofNat x := UInt8.toNat_inj.1 (by simp [UInt8.toNat_ofNat'])
theorem bytes_cons (a : UInt8) (l : List UInt8) : (⟨#[a]⟩ ++ ⟨l.toArray⟩ : ByteArray) = ⟨(a :: l).toArray⟩ := by
  apply ByteArray.ext; simp
theorem pt_next (n : Int) (hn : 0 ≤ n) (k : Nat) : UInt8.ofNat (n / 256 ^ k % 256).toNat :: pt n.toNat k = pt n.toNat (k + 1) := by
  obtain ⟨m, rfl⟩ := Int.eq_ofNat_of_zero_le hn
  have e : ((m : Int) / 256 ^ k % 256).toNat = m / 256 ^ k % 256 := by
    have : ((m : Int) / 256 ^ k % 256) = ((m / 256 ^ k % 256 : Nat) : Int) := by simp
    rw [this, Int.toNat_natCast]
  rw [e, byte_mod]; simp [pt]
theorem div_next (n : Int) (k : Nat) : n / 256 ^ k / 256 = n / 256 ^ (k + 1) := by
  rw [pow256_succ, Int.ediv_ediv_of_nonneg (by have := pow256_pos k; omega)]


def putL (n s : Int) : List UInt8 := if 1 ≤ s ∧ s ≤ 4 ∧ 0 ≤ n ∧ n < 256 ^ s.toNat then pt n.toNat s.toNat else []
theorem putL_yes {n s : Int} (h1 : 1 ≤ s) (h4 : s ≤ 4) (h0 : 0 ≤ n) (hn : n < 256 ^ s.toNat) : putL n s = pt n.toNat s.toNat := if_pos ⟨h1, h4, h0, hn⟩
theorem putL_no {n s : Int} (h : ¬ (1 ≤ s ∧ s ≤ 4 ∧ 0 ≤ n ∧ n < 256 ^ s.toNat)) : putL n s = [] := if_neg h
theorem inB_yes {n lo hi : Int} (h1 : lo ≤ n) (h2 : n ≤ hi) : inB n lo hi = true := by simp [inB, h1, h2]
theorem inB_no {n lo hi : Int} (h : ¬ (lo ≤ n ∧ n ≤ hi)) : inB n lo hi = false := by
  unfold inB
  rw [← Bool.not_eq_true, Bool.and_eq_true, decide_eq_true_iff, decide_eq_true_iff]
  exact h

end Go.Proofs.Ytfienpoebndfpaa
