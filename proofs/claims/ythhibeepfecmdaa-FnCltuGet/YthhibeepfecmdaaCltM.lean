/- Code blocks as plain bytes: no program in sight. -/
import Derived.Test.YthhibeepfecmdaaBchM
import Derived.Test.YthhibeepfecmdaaNum
namespace Go.Proofs.Ythhibeepfecmdaa
set_option linter.unusedVariables false
def rep85 (n : Nat) : ByteArray := ⟨(List.replicate n (85 : UInt8)).toArray⟩
def padB (t : ByteArray) : ByteArray := t ++ rep85 (7 - t.size)
def blkB (t : ByteArray) : ByteArray := padB t ++ ⟨#[UInt8.ofNat (bchV (padB t))]⟩
def blksB (t : ByteArray) : Nat → ByteArray
  | 0 => ⟨#[]⟩
  | k + 1 => blksB t k ++ blkB (t.extract (7 * k) (min (7 * k + 7) t.size))
def cltB (t : ByteArray) (k : Nat) : ByteArray := ⟨#[235, 144]⟩ ++ blksB t k ++ ⟨#[197, 197, 197, 197, 197, 197, 197, 121]⟩
theorem rep85_size (n : Nat) : (rep85 n).size = n := by simp [rep85, ByteArray.size]
theorem rep85_zero : rep85 0 = ⟨#[]⟩ := rfl
theorem rep85_succ (n : Nat) : rep85 (n + 1) = rep85 n ++ ⟨#[85]⟩ := by
  unfold rep85; apply ByteArray.ext; apply Array.ext'; simp [List.replicate_succ']
theorem padB_size {t : ByteArray} (h : t.size ≤ 7) : (padB t).size = 7 := by
  unfold padB; rw [ByteArray.size_append, rep85_size]; omega
theorem bchV_256 (t : ByteArray) : bchV t < 256 := by
  have h := bchTo_lt t 7
  have : bchTo t 7 ^^^ 127 < 128 := Nat.xor_lt_two_pow (n := 7) h (by omega)
  unfold bchV; omega
theorem blkB_size {t : ByteArray} (h : t.size ≤ 7) : (blkB t).size = 8 := by
  unfold blkB; rw [ByteArray.size_append, padB_size h]; rfl
theorem cut_le (t : ByteArray) (k : Nat) : (t.extract (7 * k) (min (7 * k + 7) t.size)).size ≤ 7 := by
  rw [ByteArray.size_extract]; omega
theorem blksB_size (t : ByteArray) : ∀ k, (blksB t k).size = 8 * k
  | 0 => rfl
  | k + 1 => by unfold blksB; rw [ByteArray.size_append, blksB_size t k, blkB_size (cut_le t k)]; omega
theorem empty_app (t : ByteArray) : (⟨#[]⟩ : ByteArray) ++ t = t := by apply ByteArray.ext; simp
theorem app_empty (t : ByteArray) : t ++ (⟨#[]⟩ : ByteArray) = t := by apply ByteArray.ext; simp
end Go.Proofs.Ythhibeepfecmdaa
