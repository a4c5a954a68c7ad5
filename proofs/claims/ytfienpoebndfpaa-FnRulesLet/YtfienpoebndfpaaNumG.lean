/- The contracts of impl.NumGet and spec.NumGet, spec.l1Get. -/
import Derived.Test.YtfienpoebndfpaaNum
import Derived.LoopN
import Derived.Test.YtfienpoebndfpaaBits
namespace Go.Proofs.Ytfienpoebndfpaa
open Go.ChangeShapes Go.WideShapes Go.ChangeAt Go.RowKit

def byteAt (s : ByteArray) (i : Nat) : Nat := (s.data.toList.getD i 0).toNat
theorem byteAt_lt (s : ByteArray) (i : Nat) : byteAt s i < 256 := UInt8.toNat_lt _
theorem byteAt_eq (s : ByteArray) (i : Nat) (h : i < s.size) : s[i].toNat = byteAt s i := by
  unfold byteAt
  have h' : i < s.data.toList.length := by simpa using h
  rw [List.getD, List.getElem?_eq_getElem h']
  rfl
theorem w64 {x : Int} (h0 : 0 ≤ x) (h1 : x < 4611686018427387904) : wrap64 x = x := by unfold wrap64; omega
def gt (s : ByteArray) (a : Nat) : Nat → Nat
  | 0 => 0
  | k + 1 => gt s a k * 256 + byteAt s (a + k)
theorem gt_lt (s : ByteArray) (a : Nat) : ∀ k, gt s a k < 256 ^ k
  | 0 => by simp [gt]
  | k + 1 => by
    have := gt_lt s a k
    have := byteAt_lt s (a + k)
    rw [Nat.pow_succ]; simp only [gt]; omega
theorem gt_le (s : ByteArray) (a k : Nat) (h : k ≤ 4) : gt s a k < 4294967296 :=
  Nat.lt_of_lt_of_le (gt_lt s a k) (Nat.pow_le_pow_right (n := 256) (j := 4) (by decide) h)

def getOk (s : ByteArray) (a n : Int) : Prop := 1 ≤ n ∧ n ≤ 4 ∧ 0 ≤ a ∧ a ≤ s.size - n
theorem ret_int2 {k : IntKind} {a b : Int} {c d : Bool} (h : a = b) (h2 : c = d) : Ending.returned (.tuple #[.int k a, .bool c]) = .returned (.tuple #[.int k b, .bool d]) := by rw [h, h2]

end Go.Proofs.Ytfienpoebndfpaa
