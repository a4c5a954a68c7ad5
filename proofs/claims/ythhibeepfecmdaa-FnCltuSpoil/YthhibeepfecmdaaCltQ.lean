/- What stands ahead of code blocks, and texts that do not begin so. -/
import Derived.Test.YthhibeepfecmdaaCltL
import Derived.Test.YthhibeepfecmdaaCltD
namespace Go.Proofs.Ythhibeepfecmdaa
open Go.RowKit
set_option linter.unusedVariables false
theorem pre_clt (t : ByteArray) (K : Nat) : preQ (cltB t K) = true := by
  have hs := cltB_size t K
  have e : ((cltB t K).extract 0 2).toList = [235, 144] := by
    rw [ByteArray.toList_eq]
    show bL ((cltB t K).extract 0 2) = _
    have e : cltB t K = ⟨#[235, 144]⟩ ++ restB t K := by unfold cltB restB tailB; rw [ByteArray.append_assoc]
    rw [bL_ext, e, bL_app]
    rfl
  unfold preQ
  rw [e]
  simp
  omega
theorem pre_x (t : ByteArray) : preQ (⟨#[120]⟩ ++ t) = false := by
  unfold preQ
  by_cases h : t.size = 0
  · have : (⟨#[120]⟩ ++ t : ByteArray).size = 1 := by rw [ByteArray.size_append, h]; rfl
    rw [this]; rfl
  · have e : (((⟨#[120]⟩ ++ t : ByteArray).extract 0 2).toList == [235, 144]) = false := by
      rw [ByteArray.toList_eq]
      show (bL ((⟨#[120]⟩ ++ t : ByteArray).extract 0 2) == _) = false
      rw [bL_ext, bL_app]
      show (((120 :: bL t).drop 0).take 2 == [235, 144]) = false
      rw [List.drop_zero, List.take_succ_cons]
      simp
    rw [e, Bool.and_false]
end Go.Proofs.Ythhibeepfecmdaa
