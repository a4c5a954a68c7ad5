/-
  No cell of these rows narrows 'for every input' (looked for: loops, veiled, ifaces, maps, wideKeys, modest, calm, conditions, laid).
  DERIVED. THE GIVEN ROWS OF THIS SEAT. 8 by the template 'for every input the law returns true; each argument reads behind the call as it read before'; 0 by the template 'total and deterministic' (their statements: YtkpefhgkbifhcaaTotals.lean).
  GIVEN WITH THE SEED: the statements are not yours to turn. If you find one false, say at which input.
  Laid BY PROGRAM, IN A SANDBOX (cutbox-rows.mjs): the forced cells as the released guide's own fill.sh prints them over the translation af96ccb15f1c25e2… (all of the seat's roots in one cut). By AI agents, Wed Nov 11 2026. No macro, syntax, notation, axiom, sorry.
-/
import Derived.Test.YtkpefhgkbifhcaaChecked
import GoSem.Claim
import GoSem.ClaimJoined
import GoSem.ClaimMapViews
import Derived.JoinedTies
import Derived.KernelRfl
namespace Go.Proofs.Ytkpefhgkbifhcaa
/- THE CELL 'sum', in the pinned program and in every row, IS THE sha256 OF THE DUMP (.gsa) THAT YtkpefhgkbifhcaaProg.lean LOADS. Nothing in Lean hashes anything: it is a label: what it is worth is what the hold of that sum in a sandbox is worth. -/
noncomputable def Try.pinned : Pinned := { name := "ytkpefhgkbifhcaa", sum := "af96ccb15f1c25e2ead99a4df170515978cafb2e5de1acfd59b825197a9135f0", checked := Try.checked }
namespace Rows
def none {H : Type} : Left H := { results := [], args := [] }

/-- 'laws.FnNum': WHATEVER THE INPUT: true; the input reads as it did. -/
def fnNumSpec : ChangeSpec := { name := "fnNum", fn := fun _ => fun
  | [d1, d2] => { results := [.lit (.bool true)], args := [d1, d2] }
  | _ => none }
def fnNumRow : OpenClaim := { program := "ytkpefhgkbifhcaa", sum := "af96ccb15f1c25e2ead99a4df170515978cafb2e5de1acfd59b825197a9135f0", func := "loop.example/skyway/laws.FnNum", spec := "fnNum", apart := false }
def FnNumSaid : Prop := fnNumRow.holds Try.pinned (OpenSpec.ofChange fnNumSpec)

/-- ITS FALSE NEIGHBOUR: 'it returns false'. Refute it at one input. -/
def fnNumWrong : ChangeSpec := { name := "fnNum", fn := fun _ => fun
  | [d1, d2] => { results := [.lit (.bool false)], args := [d1, d2] }
  | _ => none }
def FnNumWrongFalsely : Prop := fnNumRow.holds Try.pinned (OpenSpec.ofChange fnNumWrong)

/-- 'laws.FnCrc16': WHATEVER THE INPUT: true; the input reads as it did. -/
def fnCrc16Spec : ChangeSpec := { name := "fnCrc16", fn := fun _ => fun
  | [d1, d2] => { results := [.lit (.bool true)], args := [d1, d2] }
  | _ => none }
def fnCrc16Row : OpenClaim := { program := "ytkpefhgkbifhcaa", sum := "af96ccb15f1c25e2ead99a4df170515978cafb2e5de1acfd59b825197a9135f0", func := "loop.example/skyway/laws.FnCrc16", spec := "fnCrc16", apart := false }
def FnCrc16Said : Prop := fnCrc16Row.holds Try.pinned (OpenSpec.ofChange fnCrc16Spec)

/-- ITS FALSE NEIGHBOUR: 'it returns false'. Refute it at one input. -/
def fnCrc16Wrong : ChangeSpec := { name := "fnCrc16", fn := fun _ => fun
  | [d1, d2] => { results := [.lit (.bool false)], args := [d1, d2] }
  | _ => none }
def FnCrc16WrongFalsely : Prop := fnCrc16Row.holds Try.pinned (OpenSpec.ofChange fnCrc16Wrong)

/-- 'laws.FnCrcEnd': WHATEVER THE INPUT: true; the input reads as it did. -/
def fnCrcEndSpec : ChangeSpec := { name := "fnCrcEnd", fn := fun _ => fun
  | [d] => { results := [.lit (.bool true)], args := [d] }
  | _ => none }
def fnCrcEndRow : OpenClaim := { program := "ytkpefhgkbifhcaa", sum := "af96ccb15f1c25e2ead99a4df170515978cafb2e5de1acfd59b825197a9135f0", func := "loop.example/skyway/laws.FnCrcEnd", spec := "fnCrcEnd", apart := false }
def FnCrcEndSaid : Prop := fnCrcEndRow.holds Try.pinned (OpenSpec.ofChange fnCrcEndSpec)

/-- ITS FALSE NEIGHBOUR: 'it returns false'. Refute it at one input. -/
def fnCrcEndWrong : ChangeSpec := { name := "fnCrcEnd", fn := fun _ => fun
  | [d] => { results := [.lit (.bool false)], args := [d] }
  | _ => none }
def FnCrcEndWrongFalsely : Prop := fnCrcEndRow.holds Try.pinned (OpenSpec.ofChange fnCrcEndWrong)

/-- 'laws.FnBch': WHATEVER THE INPUT: true; the input reads as it did. -/
def fnBchSpec : ChangeSpec := { name := "fnBch", fn := fun _ => fun
  | [d1, d2] => { results := [.lit (.bool true)], args := [d1, d2] }
  | _ => none }
def fnBchRow : OpenClaim := { program := "ytkpefhgkbifhcaa", sum := "af96ccb15f1c25e2ead99a4df170515978cafb2e5de1acfd59b825197a9135f0", func := "loop.example/skyway/laws.FnBch", spec := "fnBch", apart := false }
def FnBchSaid : Prop := fnBchRow.holds Try.pinned (OpenSpec.ofChange fnBchSpec)

/-- ITS FALSE NEIGHBOUR: 'it returns false'. Refute it at one input. -/
def fnBchWrong : ChangeSpec := { name := "fnBch", fn := fun _ => fun
  | [d1, d2] => { results := [.lit (.bool false)], args := [d1, d2] }
  | _ => none }
def FnBchWrongFalsely : Prop := fnBchRow.holds Try.pinned (OpenSpec.ofChange fnBchWrong)

/-- 'laws.FnExactNumPut': WHATEVER THE INPUT: true; the input reads as it did. -/
def fnExactNumPutSpec : ChangeSpec := { name := "fnExactNumPut", fn := fun _ => fun
  | [d1, d2] => { results := [.lit (.bool true)], args := [d1, d2] }
  | _ => none }
def fnExactNumPutRow : OpenClaim := { program := "ytkpefhgkbifhcaa", sum := "af96ccb15f1c25e2ead99a4df170515978cafb2e5de1acfd59b825197a9135f0", func := "loop.example/skyway/laws.FnExactNumPut", spec := "fnExactNumPut", apart := false }
def FnExactNumPutSaid : Prop := fnExactNumPutRow.holds Try.pinned (OpenSpec.ofChange fnExactNumPutSpec)

/-- ITS FALSE NEIGHBOUR: 'it returns false'. Refute it at one input. -/
def fnExactNumPutWrong : ChangeSpec := { name := "fnExactNumPut", fn := fun _ => fun
  | [d1, d2] => { results := [.lit (.bool false)], args := [d1, d2] }
  | _ => none }
def FnExactNumPutWrongFalsely : Prop := fnExactNumPutRow.holds Try.pinned (OpenSpec.ofChange fnExactNumPutWrong)

/-- 'laws.FnExactNumGet': WHATEVER THE INPUT: true; the input reads as it did. -/
def fnExactNumGetSpec : ChangeSpec := { name := "fnExactNumGet", fn := fun _ => fun
  | [d1, d2, d3] => { results := [.lit (.bool true)], args := [d1, d2, d3] }
  | _ => none }
def fnExactNumGetRow : OpenClaim := { program := "ytkpefhgkbifhcaa", sum := "af96ccb15f1c25e2ead99a4df170515978cafb2e5de1acfd59b825197a9135f0", func := "loop.example/skyway/laws.FnExactNumGet", spec := "fnExactNumGet", apart := false }
def FnExactNumGetSaid : Prop := fnExactNumGetRow.holds Try.pinned (OpenSpec.ofChange fnExactNumGetSpec)

/-- ITS FALSE NEIGHBOUR: 'it returns false'. Refute it at one input. -/
def fnExactNumGetWrong : ChangeSpec := { name := "fnExactNumGet", fn := fun _ => fun
  | [d1, d2, d3] => { results := [.lit (.bool false)], args := [d1, d2, d3] }
  | _ => none }
def FnExactNumGetWrongFalsely : Prop := fnExactNumGetRow.holds Try.pinned (OpenSpec.ofChange fnExactNumGetWrong)

/-- 'laws.FnExactCrc16': WHATEVER THE INPUT: true; the input reads as it did. -/
def fnExactCrc16Spec : ChangeSpec := { name := "fnExactCrc16", fn := fun _ => fun
  | [d] => { results := [.lit (.bool true)], args := [d] }
  | _ => none }
def fnExactCrc16Row : OpenClaim := { program := "ytkpefhgkbifhcaa", sum := "af96ccb15f1c25e2ead99a4df170515978cafb2e5de1acfd59b825197a9135f0", func := "loop.example/skyway/laws.FnExactCrc16", spec := "fnExactCrc16", apart := false }
def FnExactCrc16Said : Prop := fnExactCrc16Row.holds Try.pinned (OpenSpec.ofChange fnExactCrc16Spec)

/-- ITS FALSE NEIGHBOUR: 'it returns false'. Refute it at one input. -/
def fnExactCrc16Wrong : ChangeSpec := { name := "fnExactCrc16", fn := fun _ => fun
  | [d] => { results := [.lit (.bool false)], args := [d] }
  | _ => none }
def FnExactCrc16WrongFalsely : Prop := fnExactCrc16Row.holds Try.pinned (OpenSpec.ofChange fnExactCrc16Wrong)

/-- 'laws.FnExactBch': WHATEVER THE INPUT: true; the input reads as it did. -/
def fnExactBchSpec : ChangeSpec := { name := "fnExactBch", fn := fun _ => fun
  | [d] => { results := [.lit (.bool true)], args := [d] }
  | _ => none }
def fnExactBchRow : OpenClaim := { program := "ytkpefhgkbifhcaa", sum := "af96ccb15f1c25e2ead99a4df170515978cafb2e5de1acfd59b825197a9135f0", func := "loop.example/skyway/laws.FnExactBch", spec := "fnExactBch", apart := false }
def FnExactBchSaid : Prop := fnExactBchRow.holds Try.pinned (OpenSpec.ofChange fnExactBchSpec)

/-- ITS FALSE NEIGHBOUR: 'it returns false'. Refute it at one input. -/
def fnExactBchWrong : ChangeSpec := { name := "fnExactBch", fn := fun _ => fun
  | [d] => { results := [.lit (.bool false)], args := [d] }
  | _ => none }
def FnExactBchWrongFalsely : Prop := fnExactBchRow.holds Try.pinned (OpenSpec.ofChange fnExactBchWrong)

/- THE SECOND FORM. 'bulk': how many values and letters a reading holds, each counted each time it is reached (what is shared counts as often as it is met; a slice's spare places count too). A statement '..UptoSaid' is the law's where the arguments, and the package variables that the reading takes, are together of bulk at most 1048576: NARROWER than '..Said'. Prove '..Said' where nothing that the law and all that it calls make is longer than what came in: it says more and counts as full. Else prove '..UptoSaid'. A law counts once. -/
mutual
def uptoBulk {H : Type} : DataW H → Nat
  | .lit (.string bytes) => bytes.length + 1
  | .lit _ => 1
  | .nil => 1
  | .ptr d => uptoBulk d + 1
  | .slice elems spare => uptoBulkAll elems + uptoBulkAll spare + 1
  | .agg parts => uptoBulkAll parts + 1
  | .iface _ d => uptoBulk d + 1
  | .map entries => uptoBulkEntries entries + 1
  | .held _ => 1
def uptoBulkAll {H : Type} : List (DataW H) → Nat
  | [] => 0
  | d :: r => uptoBulk d + uptoBulkAll r
def uptoBulkEntries {H : Type} : List (Lit × DataW H) → Nat
  | [] => 0
  | x :: r => uptoBulkEntry x + uptoBulkEntries r
def uptoBulkEntry {H : Type} : Lit × DataW H → Nat
  | (.string bytes, d) => bytes.length + uptoBulk d + 1
  | (_, d) => uptoBulk d + 1
 end
def uptoSmall : (H : Type) → List (DataW H) → Bool := fun _ ds => decide (uptoBulkAll ds ≤ 1048576)
def OpenSpec.upto (s : _root_.Go.ChangeSpec) : _root_.Go.OpenSpec := { _root_.Go.OpenSpec.ofChange s with cond := some uptoSmall }

/-- 'laws.FnNum', WHERE WHAT IT READS IS OF BULK AT MOST 1048576: true; the input reads as it did. -/
def fnNumUptoRow : OpenClaim := { program := "ytkpefhgkbifhcaa", sum := "af96ccb15f1c25e2ead99a4df170515978cafb2e5de1acfd59b825197a9135f0", func := "loop.example/skyway/laws.FnNum", spec := "fnNum", apart := false, narrowed := true }
def FnNumUptoSaid : Prop := fnNumUptoRow.holds Try.pinned (OpenSpec.upto fnNumSpec)

/-- 'laws.FnCrc16', WHERE WHAT IT READS IS OF BULK AT MOST 1048576: true; the input reads as it did. -/
def fnCrc16UptoRow : OpenClaim := { program := "ytkpefhgkbifhcaa", sum := "af96ccb15f1c25e2ead99a4df170515978cafb2e5de1acfd59b825197a9135f0", func := "loop.example/skyway/laws.FnCrc16", spec := "fnCrc16", apart := false, narrowed := true }
def FnCrc16UptoSaid : Prop := fnCrc16UptoRow.holds Try.pinned (OpenSpec.upto fnCrc16Spec)

/-- 'laws.FnCrcEnd', WHERE WHAT IT READS IS OF BULK AT MOST 1048576: true; the input reads as it did. -/
def fnCrcEndUptoRow : OpenClaim := { program := "ytkpefhgkbifhcaa", sum := "af96ccb15f1c25e2ead99a4df170515978cafb2e5de1acfd59b825197a9135f0", func := "loop.example/skyway/laws.FnCrcEnd", spec := "fnCrcEnd", apart := false, narrowed := true }
def FnCrcEndUptoSaid : Prop := fnCrcEndUptoRow.holds Try.pinned (OpenSpec.upto fnCrcEndSpec)

/-- 'laws.FnBch', WHERE WHAT IT READS IS OF BULK AT MOST 1048576: true; the input reads as it did. -/
def fnBchUptoRow : OpenClaim := { program := "ytkpefhgkbifhcaa", sum := "af96ccb15f1c25e2ead99a4df170515978cafb2e5de1acfd59b825197a9135f0", func := "loop.example/skyway/laws.FnBch", spec := "fnBch", apart := false, narrowed := true }
def FnBchUptoSaid : Prop := fnBchUptoRow.holds Try.pinned (OpenSpec.upto fnBchSpec)

/-- 'laws.FnExactNumPut', WHERE WHAT IT READS IS OF BULK AT MOST 1048576: true; the input reads as it did. -/
def fnExactNumPutUptoRow : OpenClaim := { program := "ytkpefhgkbifhcaa", sum := "af96ccb15f1c25e2ead99a4df170515978cafb2e5de1acfd59b825197a9135f0", func := "loop.example/skyway/laws.FnExactNumPut", spec := "fnExactNumPut", apart := false, narrowed := true }
def FnExactNumPutUptoSaid : Prop := fnExactNumPutUptoRow.holds Try.pinned (OpenSpec.upto fnExactNumPutSpec)

/-- 'laws.FnExactNumGet', WHERE WHAT IT READS IS OF BULK AT MOST 1048576: true; the input reads as it did. -/
def fnExactNumGetUptoRow : OpenClaim := { program := "ytkpefhgkbifhcaa", sum := "af96ccb15f1c25e2ead99a4df170515978cafb2e5de1acfd59b825197a9135f0", func := "loop.example/skyway/laws.FnExactNumGet", spec := "fnExactNumGet", apart := false, narrowed := true }
def FnExactNumGetUptoSaid : Prop := fnExactNumGetUptoRow.holds Try.pinned (OpenSpec.upto fnExactNumGetSpec)

/-- 'laws.FnExactCrc16', WHERE WHAT IT READS IS OF BULK AT MOST 1048576: true; the input reads as it did. -/
def fnExactCrc16UptoRow : OpenClaim := { program := "ytkpefhgkbifhcaa", sum := "af96ccb15f1c25e2ead99a4df170515978cafb2e5de1acfd59b825197a9135f0", func := "loop.example/skyway/laws.FnExactCrc16", spec := "fnExactCrc16", apart := false, narrowed := true }
def FnExactCrc16UptoSaid : Prop := fnExactCrc16UptoRow.holds Try.pinned (OpenSpec.upto fnExactCrc16Spec)

/-- 'laws.FnExactBch', WHERE WHAT IT READS IS OF BULK AT MOST 1048576: true; the input reads as it did. -/
def fnExactBchUptoRow : OpenClaim := { program := "ytkpefhgkbifhcaa", sum := "af96ccb15f1c25e2ead99a4df170515978cafb2e5de1acfd59b825197a9135f0", func := "loop.example/skyway/laws.FnExactBch", spec := "fnExactBch", apart := false, narrowed := true }
def FnExactBchUptoSaid : Prop := fnExactBchUptoRow.holds Try.pinned (OpenSpec.upto fnExactBchSpec)

end Rows
end Go.Proofs.Ytkpefhgkbifhcaa
