/-
  No cell of these rows narrows 'for every input' (looked for: loops, veiled, ifaces, maps, wideKeys, modest, calm, conditions, laid).
  DERIVED. THE GIVEN ROWS OF THIS SEAT. 10 by the template 'for every input the law returns true; each argument reads behind the call as it read before'; 0 by the template 'total and deterministic' (their statements: YtnibdblkihdafaaTotals.lean).
  GIVEN WITH THE SEED: the statements are not yours to turn. If you find one false, say at which input.
  Laid BY PROGRAM, IN A SANDBOX (cutbox-rows.mjs): the forced cells as the released guide's own fill.sh prints them over the translation 81f03b9da4fa5042… (all of the seat's roots in one cut). By AI agents, Wed Nov 11 2026. No macro, syntax, notation, axiom, sorry.
-/
import Derived.Test.YtnibdblkihdafaaChecked
import GoSem.Claim
import GoSem.ClaimJoined
import GoSem.ClaimMapViews
import Derived.JoinedTies
import Derived.KernelRfl
namespace Go.Proofs.Ytnibdblkihdafaa
/- THE CELL 'sum', in the pinned program and in every row, IS THE sha256 OF THE DUMP (.gsa) THAT YtnibdblkihdafaaProg.lean LOADS. Nothing in Lean hashes anything: it is a label: what it is worth is what the hold of that sum in a sandbox is worth. -/
noncomputable def Try.pinned : Pinned := { name := "ytnibdblkihdafaa", sum := "81f03b9da4fa5042af6b4fcc248ea8ad26714632fef7280e023875c93e7149a5", checked := Try.checked }
namespace Rows
def none {H : Type} : Left H := { results := [], args := [] }

/-- 'laws.FnExactFrameOk': WHATEVER THE INPUT: true; the input reads as it did. -/
def fnExactFrameOkSpec : ChangeSpec := { name := "fnExactFrameOk", fn := fun _ => fun
  | [d] => { results := [.lit (.bool true)], args := [d] }
  | _ => none }
def fnExactFrameOkRow : OpenClaim := { program := "ytnibdblkihdafaa", sum := "81f03b9da4fa5042af6b4fcc248ea8ad26714632fef7280e023875c93e7149a5", func := "loop.example/skyway/laws.FnExactFrameOk", spec := "fnExactFrameOk", apart := false }
def FnExactFrameOkSaid : Prop := fnExactFrameOkRow.holds Try.pinned (OpenSpec.ofChange fnExactFrameOkSpec)

/-- ITS FALSE NEIGHBOUR: 'it returns false'. Refute it at one input. -/
def fnExactFrameOkWrong : ChangeSpec := { name := "fnExactFrameOk", fn := fun _ => fun
  | [d] => { results := [.lit (.bool false)], args := [d] }
  | _ => none }
def FnExactFrameOkWrongFalsely : Prop := fnExactFrameOkRow.holds Try.pinned (OpenSpec.ofChange fnExactFrameOkWrong)

/-- 'laws.FnExactFramePut': WHATEVER THE INPUT: true; the input reads as it did. -/
def fnExactFramePutSpec : ChangeSpec := { name := "fnExactFramePut", fn := fun _ => fun
  | [d] => { results := [.lit (.bool true)], args := [d] }
  | _ => none }
def fnExactFramePutRow : OpenClaim := { program := "ytnibdblkihdafaa", sum := "81f03b9da4fa5042af6b4fcc248ea8ad26714632fef7280e023875c93e7149a5", func := "loop.example/skyway/laws.FnExactFramePut", spec := "fnExactFramePut", apart := false }
def FnExactFramePutSaid : Prop := fnExactFramePutRow.holds Try.pinned (OpenSpec.ofChange fnExactFramePutSpec)

/-- ITS FALSE NEIGHBOUR: 'it returns false'. Refute it at one input. -/
def fnExactFramePutWrong : ChangeSpec := { name := "fnExactFramePut", fn := fun _ => fun
  | [d] => { results := [.lit (.bool false)], args := [d] }
  | _ => none }
def FnExactFramePutWrongFalsely : Prop := fnExactFramePutRow.holds Try.pinned (OpenSpec.ofChange fnExactFramePutWrong)

/-- 'laws.FnExactFarmOk': WHATEVER THE INPUT: true; the input reads as it did. -/
def fnExactFarmOkSpec : ChangeSpec := { name := "fnExactFarmOk", fn := fun _ => fun
  | [d] => { results := [.lit (.bool true)], args := [d] }
  | _ => none }
def fnExactFarmOkRow : OpenClaim := { program := "ytnibdblkihdafaa", sum := "81f03b9da4fa5042af6b4fcc248ea8ad26714632fef7280e023875c93e7149a5", func := "loop.example/skyway/laws.FnExactFarmOk", spec := "fnExactFarmOk", apart := false }
def FnExactFarmOkSaid : Prop := fnExactFarmOkRow.holds Try.pinned (OpenSpec.ofChange fnExactFarmOkSpec)

/-- ITS FALSE NEIGHBOUR: 'it returns false'. Refute it at one input. -/
def fnExactFarmOkWrong : ChangeSpec := { name := "fnExactFarmOk", fn := fun _ => fun
  | [d] => { results := [.lit (.bool false)], args := [d] }
  | _ => none }
def FnExactFarmOkWrongFalsely : Prop := fnExactFarmOkRow.holds Try.pinned (OpenSpec.ofChange fnExactFarmOkWrong)

/-- 'laws.FnExactFarmRoom': WHATEVER THE INPUT: true; the input reads as it did. -/
def fnExactFarmRoomSpec : ChangeSpec := { name := "fnExactFarmRoom", fn := fun _ => fun
  | [d] => { results := [.lit (.bool true)], args := [d] }
  | _ => none }
def fnExactFarmRoomRow : OpenClaim := { program := "ytnibdblkihdafaa", sum := "81f03b9da4fa5042af6b4fcc248ea8ad26714632fef7280e023875c93e7149a5", func := "loop.example/skyway/laws.FnExactFarmRoom", spec := "fnExactFarmRoom", apart := false }
def FnExactFarmRoomSaid : Prop := fnExactFarmRoomRow.holds Try.pinned (OpenSpec.ofChange fnExactFarmRoomSpec)

/-- ITS FALSE NEIGHBOUR: 'it returns false'. Refute it at one input. -/
def fnExactFarmRoomWrong : ChangeSpec := { name := "fnExactFarmRoom", fn := fun _ => fun
  | [d] => { results := [.lit (.bool false)], args := [d] }
  | _ => none }
def FnExactFarmRoomWrongFalsely : Prop := fnExactFarmRoomRow.holds Try.pinned (OpenSpec.ofChange fnExactFarmRoomWrong)

/-- 'laws.FnExactFarmPut': WHATEVER THE INPUT: true; the input reads as it did. -/
def fnExactFarmPutSpec : ChangeSpec := { name := "fnExactFarmPut", fn := fun _ => fun
  | [d] => { results := [.lit (.bool true)], args := [d] }
  | _ => none }
def fnExactFarmPutRow : OpenClaim := { program := "ytnibdblkihdafaa", sum := "81f03b9da4fa5042af6b4fcc248ea8ad26714632fef7280e023875c93e7149a5", func := "loop.example/skyway/laws.FnExactFarmPut", spec := "fnExactFarmPut", apart := false }
def FnExactFarmPutSaid : Prop := fnExactFarmPutRow.holds Try.pinned (OpenSpec.ofChange fnExactFarmPutSpec)

/-- ITS FALSE NEIGHBOUR: 'it returns false'. Refute it at one input. -/
def fnExactFarmPutWrong : ChangeSpec := { name := "fnExactFarmPut", fn := fun _ => fun
  | [d] => { results := [.lit (.bool false)], args := [d] }
  | _ => none }
def FnExactFarmPutWrongFalsely : Prop := fnExactFarmPutRow.holds Try.pinned (OpenSpec.ofChange fnExactFarmPutWrong)

/-- 'laws.FnExactFarmOpen': WHATEVER THE INPUT: true; the input reads as it did. -/
def fnExactFarmOpenSpec : ChangeSpec := { name := "fnExactFarmOpen", fn := fun _ => fun
  | [d1, d2] => { results := [.lit (.bool true)], args := [d1, d2] }
  | _ => none }
def fnExactFarmOpenRow : OpenClaim := { program := "ytnibdblkihdafaa", sum := "81f03b9da4fa5042af6b4fcc248ea8ad26714632fef7280e023875c93e7149a5", func := "loop.example/skyway/laws.FnExactFarmOpen", spec := "fnExactFarmOpen", apart := false }
def FnExactFarmOpenSaid : Prop := fnExactFarmOpenRow.holds Try.pinned (OpenSpec.ofChange fnExactFarmOpenSpec)

/-- ITS FALSE NEIGHBOUR: 'it returns false'. Refute it at one input. -/
def fnExactFarmOpenWrong : ChangeSpec := { name := "fnExactFarmOpen", fn := fun _ => fun
  | [d1, d2] => { results := [.lit (.bool false)], args := [d1, d2] }
  | _ => none }
def FnExactFarmOpenWrongFalsely : Prop := fnExactFarmOpenRow.holds Try.pinned (OpenSpec.ofChange fnExactFarmOpenWrong)

/-- 'laws.FnExactFarmSet': WHATEVER THE INPUT: true; the input reads as it did. -/
def fnExactFarmSetSpec : ChangeSpec := { name := "fnExactFarmSet", fn := fun _ => fun
  | [d1, d2, d3] => { results := [.lit (.bool true)], args := [d1, d2, d3] }
  | _ => none }
def fnExactFarmSetRow : OpenClaim := { program := "ytnibdblkihdafaa", sum := "81f03b9da4fa5042af6b4fcc248ea8ad26714632fef7280e023875c93e7149a5", func := "loop.example/skyway/laws.FnExactFarmSet", spec := "fnExactFarmSet", apart := false }
def FnExactFarmSetSaid : Prop := fnExactFarmSetRow.holds Try.pinned (OpenSpec.ofChange fnExactFarmSetSpec)

/-- ITS FALSE NEIGHBOUR: 'it returns false'. Refute it at one input. -/
def fnExactFarmSetWrong : ChangeSpec := { name := "fnExactFarmSet", fn := fun _ => fun
  | [d1, d2, d3] => { results := [.lit (.bool false)], args := [d1, d2, d3] }
  | _ => none }
def FnExactFarmSetWrongFalsely : Prop := fnExactFarmSetRow.holds Try.pinned (OpenSpec.ofChange fnExactFarmSetWrong)

/-- 'laws.FnExactFopOk': WHATEVER THE INPUT: true; the input reads as it did. -/
def fnExactFopOkSpec : ChangeSpec := { name := "fnExactFopOk", fn := fun _ => fun
  | [d] => { results := [.lit (.bool true)], args := [d] }
  | _ => none }
def fnExactFopOkRow : OpenClaim := { program := "ytnibdblkihdafaa", sum := "81f03b9da4fa5042af6b4fcc248ea8ad26714632fef7280e023875c93e7149a5", func := "loop.example/skyway/laws.FnExactFopOk", spec := "fnExactFopOk", apart := false }
def FnExactFopOkSaid : Prop := fnExactFopOkRow.holds Try.pinned (OpenSpec.ofChange fnExactFopOkSpec)

/-- ITS FALSE NEIGHBOUR: 'it returns false'. Refute it at one input. -/
def fnExactFopOkWrong : ChangeSpec := { name := "fnExactFopOk", fn := fun _ => fun
  | [d] => { results := [.lit (.bool false)], args := [d] }
  | _ => none }
def FnExactFopOkWrongFalsely : Prop := fnExactFopOkRow.holds Try.pinned (OpenSpec.ofChange fnExactFopOkWrong)

/-- 'laws.FnExactFopFirst': WHATEVER THE INPUT: true; the input reads as it did. -/
def fnExactFopFirstSpec : ChangeSpec := { name := "fnExactFopFirst", fn := fun _ => fun
  | [d] => { results := [.lit (.bool true)], args := [d] }
  | _ => none }
def fnExactFopFirstRow : OpenClaim := { program := "ytnibdblkihdafaa", sum := "81f03b9da4fa5042af6b4fcc248ea8ad26714632fef7280e023875c93e7149a5", func := "loop.example/skyway/laws.FnExactFopFirst", spec := "fnExactFopFirst", apart := false }
def FnExactFopFirstSaid : Prop := fnExactFopFirstRow.holds Try.pinned (OpenSpec.ofChange fnExactFopFirstSpec)

/-- ITS FALSE NEIGHBOUR: 'it returns false'. Refute it at one input. -/
def fnExactFopFirstWrong : ChangeSpec := { name := "fnExactFopFirst", fn := fun _ => fun
  | [d] => { results := [.lit (.bool false)], args := [d] }
  | _ => none }
def FnExactFopFirstWrongFalsely : Prop := fnExactFopFirstRow.holds Try.pinned (OpenSpec.ofChange fnExactFopFirstWrong)

/-- 'laws.FnExactCltuPut': WHATEVER THE INPUT: true; the input reads as it did. -/
def fnExactCltuPutSpec : ChangeSpec := { name := "fnExactCltuPut", fn := fun _ => fun
  | [d] => { results := [.lit (.bool true)], args := [d] }
  | _ => none }
def fnExactCltuPutRow : OpenClaim := { program := "ytnibdblkihdafaa", sum := "81f03b9da4fa5042af6b4fcc248ea8ad26714632fef7280e023875c93e7149a5", func := "loop.example/skyway/laws.FnExactCltuPut", spec := "fnExactCltuPut", inPlace := ["internal/abi.NoEscape", "internal/bytealg.MakeNoZero"], apart := false }
def FnExactCltuPutSaid : Prop := fnExactCltuPutRow.holds Try.pinned (OpenSpec.ofChange fnExactCltuPutSpec)

/-- ITS FALSE NEIGHBOUR: 'it returns false'. Refute it at one input. -/
def fnExactCltuPutWrong : ChangeSpec := { name := "fnExactCltuPut", fn := fun _ => fun
  | [d] => { results := [.lit (.bool false)], args := [d] }
  | _ => none }
def FnExactCltuPutWrongFalsely : Prop := fnExactCltuPutRow.holds Try.pinned (OpenSpec.ofChange fnExactCltuPutWrong)

/- THE SECOND FORM. 'bulk': how many values and letters a reading holds, each counted each time it is reached (what is shared counts as often as it is met; a slice's spare places count too). A statement '..UptoSaid' is the law's where the arguments, and the package variables that the reading takes, are together of bulk at most 1048576: NARROWER than '..Said'. Prove '..Said' where nothing that the law and all that it calls make is longer than what came in: it says more and counts as full. Else prove '..UptoSaid'. A law counts once. -/
mutual
def uptoBulk {H : Type} : DataW H → Nat
  | .lit (.string bytes) => bytes.length + 1
  | .lit _ => 1
  | .nil => 1
  | .ptr d => uptoBulk d + 1
  | .slice elems spare => uptoBulkAll elems + uptoBulkAll spare + 1
  | .agg parts => uptoBulkAll parts + 1
  | .iface _ d => uptoBulk d + 1
  | .map entries => uptoBulkEntries entries + 1
  | .held _ => 1
def uptoBulkAll {H : Type} : List (DataW H) → Nat
  | [] => 0
  | d :: r => uptoBulk d + uptoBulkAll r
def uptoBulkEntries {H : Type} : List (Lit × DataW H) → Nat
  | [] => 0
  | x :: r => uptoBulkEntry x + uptoBulkEntries r
def uptoBulkEntry {H : Type} : Lit × DataW H → Nat
  | (.string bytes, d) => bytes.length + uptoBulk d + 1
  | (_, d) => uptoBulk d + 1
 end
def uptoSmall : (H : Type) → List (DataW H) → Bool := fun _ ds => decide (uptoBulkAll ds ≤ 1048576)
def OpenSpec.upto (s : _root_.Go.ChangeSpec) : _root_.Go.OpenSpec := { _root_.Go.OpenSpec.ofChange s with cond := some uptoSmall }

/-- 'laws.FnExactFrameOk', WHERE WHAT IT READS IS OF BULK AT MOST 1048576: true; the input reads as it did. -/
def fnExactFrameOkUptoRow : OpenClaim := { program := "ytnibdblkihdafaa", sum := "81f03b9da4fa5042af6b4fcc248ea8ad26714632fef7280e023875c93e7149a5", func := "loop.example/skyway/laws.FnExactFrameOk", spec := "fnExactFrameOk", apart := false, narrowed := true }
def FnExactFrameOkUptoSaid : Prop := fnExactFrameOkUptoRow.holds Try.pinned (OpenSpec.upto fnExactFrameOkSpec)

/-- 'laws.FnExactFramePut', WHERE WHAT IT READS IS OF BULK AT MOST 1048576: true; the input reads as it did. -/
def fnExactFramePutUptoRow : OpenClaim := { program := "ytnibdblkihdafaa", sum := "81f03b9da4fa5042af6b4fcc248ea8ad26714632fef7280e023875c93e7149a5", func := "loop.example/skyway/laws.FnExactFramePut", spec := "fnExactFramePut", apart := false, narrowed := true }
def FnExactFramePutUptoSaid : Prop := fnExactFramePutUptoRow.holds Try.pinned (OpenSpec.upto fnExactFramePutSpec)

/-- 'laws.FnExactFarmOk', WHERE WHAT IT READS IS OF BULK AT MOST 1048576: true; the input reads as it did. -/
def fnExactFarmOkUptoRow : OpenClaim := { program := "ytnibdblkihdafaa", sum := "81f03b9da4fa5042af6b4fcc248ea8ad26714632fef7280e023875c93e7149a5", func := "loop.example/skyway/laws.FnExactFarmOk", spec := "fnExactFarmOk", apart := false, narrowed := true }
def FnExactFarmOkUptoSaid : Prop := fnExactFarmOkUptoRow.holds Try.pinned (OpenSpec.upto fnExactFarmOkSpec)

/-- 'laws.FnExactFarmRoom', WHERE WHAT IT READS IS OF BULK AT MOST 1048576: true; the input reads as it did. -/
def fnExactFarmRoomUptoRow : OpenClaim := { program := "ytnibdblkihdafaa", sum := "81f03b9da4fa5042af6b4fcc248ea8ad26714632fef7280e023875c93e7149a5", func := "loop.example/skyway/laws.FnExactFarmRoom", spec := "fnExactFarmRoom", apart := false, narrowed := true }
def FnExactFarmRoomUptoSaid : Prop := fnExactFarmRoomUptoRow.holds Try.pinned (OpenSpec.upto fnExactFarmRoomSpec)

/-- 'laws.FnExactFarmPut', WHERE WHAT IT READS IS OF BULK AT MOST 1048576: true; the input reads as it did. -/
def fnExactFarmPutUptoRow : OpenClaim := { program := "ytnibdblkihdafaa", sum := "81f03b9da4fa5042af6b4fcc248ea8ad26714632fef7280e023875c93e7149a5", func := "loop.example/skyway/laws.FnExactFarmPut", spec := "fnExactFarmPut", apart := false, narrowed := true }
def FnExactFarmPutUptoSaid : Prop := fnExactFarmPutUptoRow.holds Try.pinned (OpenSpec.upto fnExactFarmPutSpec)

/-- 'laws.FnExactFarmOpen', WHERE WHAT IT READS IS OF BULK AT MOST 1048576: true; the input reads as it did. -/
def fnExactFarmOpenUptoRow : OpenClaim := { program := "ytnibdblkihdafaa", sum := "81f03b9da4fa5042af6b4fcc248ea8ad26714632fef7280e023875c93e7149a5", func := "loop.example/skyway/laws.FnExactFarmOpen", spec := "fnExactFarmOpen", apart := false, narrowed := true }
def FnExactFarmOpenUptoSaid : Prop := fnExactFarmOpenUptoRow.holds Try.pinned (OpenSpec.upto fnExactFarmOpenSpec)

/-- 'laws.FnExactFarmSet', WHERE WHAT IT READS IS OF BULK AT MOST 1048576: true; the input reads as it did. -/
def fnExactFarmSetUptoRow : OpenClaim := { program := "ytnibdblkihdafaa", sum := "81f03b9da4fa5042af6b4fcc248ea8ad26714632fef7280e023875c93e7149a5", func := "loop.example/skyway/laws.FnExactFarmSet", spec := "fnExactFarmSet", apart := false, narrowed := true }
def FnExactFarmSetUptoSaid : Prop := fnExactFarmSetUptoRow.holds Try.pinned (OpenSpec.upto fnExactFarmSetSpec)

/-- 'laws.FnExactFopOk', WHERE WHAT IT READS IS OF BULK AT MOST 1048576: true; the input reads as it did. -/
def fnExactFopOkUptoRow : OpenClaim := { program := "ytnibdblkihdafaa", sum := "81f03b9da4fa5042af6b4fcc248ea8ad26714632fef7280e023875c93e7149a5", func := "loop.example/skyway/laws.FnExactFopOk", spec := "fnExactFopOk", apart := false, narrowed := true }
def FnExactFopOkUptoSaid : Prop := fnExactFopOkUptoRow.holds Try.pinned (OpenSpec.upto fnExactFopOkSpec)

/-- 'laws.FnExactFopFirst', WHERE WHAT IT READS IS OF BULK AT MOST 1048576: true; the input reads as it did. -/
def fnExactFopFirstUptoRow : OpenClaim := { program := "ytnibdblkihdafaa", sum := "81f03b9da4fa5042af6b4fcc248ea8ad26714632fef7280e023875c93e7149a5", func := "loop.example/skyway/laws.FnExactFopFirst", spec := "fnExactFopFirst", apart := false, narrowed := true }
def FnExactFopFirstUptoSaid : Prop := fnExactFopFirstUptoRow.holds Try.pinned (OpenSpec.upto fnExactFopFirstSpec)

/-- 'laws.FnExactCltuPut', WHERE WHAT IT READS IS OF BULK AT MOST 1048576: true; the input reads as it did. -/
def fnExactCltuPutUptoRow : OpenClaim := { program := "ytnibdblkihdafaa", sum := "81f03b9da4fa5042af6b4fcc248ea8ad26714632fef7280e023875c93e7149a5", func := "loop.example/skyway/laws.FnExactCltuPut", spec := "fnExactCltuPut", inPlace := ["internal/abi.NoEscape", "internal/bytealg.MakeNoZero"], apart := false, narrowed := true }
def FnExactCltuPutUptoSaid : Prop := fnExactCltuPutUptoRow.holds Try.pinned (OpenSpec.upto fnExactCltuPutSpec)

end Rows
end Go.Proofs.Ytnibdblkihdafaa
