/- Plain arithmetic of the parity: no program in sight. -/
import Derived.WalkKit
import Derived.Test.YthhibeepfecmdaaBits
import Derived.Test.YthhibeepfecmdaaNumG
namespace Go.Proofs.Ythhibeepfecmdaa
def ps (s b : Nat) : Nat := if s / 64 = b then 2 * s % 128 else 2 * s % 128 ^^^ 69
theorem ps_lt (s b : Nat) : ps s b < 128 := by
  unfold ps
  split
  · omega
  · exact Nat.xor_lt_two_pow (n := 7) (by omega) (by omega)
def psTo (b s : Nat) : Nat → Nat
  | 0 => s
  | k + 1 => ps (psTo b s k) (b / 2 ^ (7 - k) % 2)
theorem psTo_lt {b s : Nat} (hs : s < 128) : ∀ k, psTo b s k < 128
  | 0 => hs
  | _ + 1 => ps_lt _ _
def bchTo (t : ByteArray) : Nat → Nat
  | 0 => 0
  | k + 1 => psTo (byteAt t k) (bchTo t k) 8
theorem bchTo_lt (t : ByteArray) : ∀ k, bchTo t k < 128
  | 0 => by simp [bchTo]
  | k + 1 => psTo_lt (bchTo_lt t k) 8
def bchV (t : ByteArray) : Nat := (bchTo t 7 ^^^ 127) * 2
end Go.Proofs.Ythhibeepfecmdaa
