/-
  No cell of these rows narrows 'for every input' (looked for: loops, veiled, ifaces, maps, wideKeys, modest, calm, conditions, laid).
  DERIVED. THE GIVEN ROWS OF THIS SEAT. 11 by the template 'for every input the law returns true; each argument reads behind the call as it read before'; 0 by the template 'total and deterministic' (their statements: YtjhkekddiikpfaaTotals.lean).
  GIVEN WITH THE SEED: the statements are not yours to turn. If you find one false, say at which input.
  Laid BY PROGRAM, IN A SANDBOX (cutbox-rows.mjs): the forced cells as the released guide's own fill.sh prints them over the translation fa265d81f8ccbf39… (all of the seat's roots in one cut). By AI agents, Wed Nov 11 2026. No macro, syntax, notation, axiom, sorry.
-/
import Derived.Test.YtjhkekddiikpfaaChecked
import GoSem.Claim
import GoSem.ClaimJoined
import GoSem.ClaimMapViews
import Derived.JoinedTies
import Derived.KernelRfl
namespace Go.Proofs.Ytjhkekddiikpfaa
/- THE CELL 'sum', in the pinned program and in every row, IS THE sha256 OF THE DUMP (.gsa) THAT YtjhkekddiikpfaaProg.lean LOADS. Nothing in Lean hashes anything: it is a label: what it is worth is what the hold of that sum in a sandbox is worth. -/
noncomputable def Try.pinned : Pinned := { name := "ytjhkekddiikpfaa", sum := "fa265d81f8ccbf39fb837131481740c5b3e76a5a945d443af540e87079bd659f", checked := Try.checked }
namespace Rows
def none {H : Type} : Left H := { results := [], args := [] }

/-- 'laws.FnExactJoinOk': WHATEVER THE INPUT: true; the input reads as it did. -/
def fnExactJoinOkSpec : ChangeSpec := { name := "fnExactJoinOk", fn := fun _ => fun
  | [d] => { results := [.lit (.bool true)], args := [d] }
  | _ => none }
def fnExactJoinOkRow : OpenClaim := { program := "ytjhkekddiikpfaa", sum := "fa265d81f8ccbf39fb837131481740c5b3e76a5a945d443af540e87079bd659f", func := "loop.example/skyway/laws.FnExactJoinOk", spec := "fnExactJoinOk", apart := false }
def FnExactJoinOkSaid : Prop := fnExactJoinOkRow.holds Try.pinned (OpenSpec.ofChange fnExactJoinOkSpec)

/-- ITS FALSE NEIGHBOUR: 'it returns false'. Refute it at one input. -/
def fnExactJoinOkWrong : ChangeSpec := { name := "fnExactJoinOk", fn := fun _ => fun
  | [d] => { results := [.lit (.bool false)], args := [d] }
  | _ => none }
def FnExactJoinOkWrongFalsely : Prop := fnExactJoinOkRow.holds Try.pinned (OpenSpec.ofChange fnExactJoinOkWrong)

/-- 'laws.FnExactFarmPut': WHATEVER THE INPUT: true; the input reads as it did. -/
def fnExactFarmPutSpec : ChangeSpec := { name := "fnExactFarmPut", fn := fun _ => fun
  | [d] => { results := [.lit (.bool true)], args := [d] }
  | _ => none }
def fnExactFarmPutRow : OpenClaim := { program := "ytjhkekddiikpfaa", sum := "fa265d81f8ccbf39fb837131481740c5b3e76a5a945d443af540e87079bd659f", func := "loop.example/skyway/laws.FnExactFarmPut", spec := "fnExactFarmPut", apart := false }
def FnExactFarmPutSaid : Prop := fnExactFarmPutRow.holds Try.pinned (OpenSpec.ofChange fnExactFarmPutSpec)

/-- ITS FALSE NEIGHBOUR: 'it returns false'. Refute it at one input. -/
def fnExactFarmPutWrong : ChangeSpec := { name := "fnExactFarmPut", fn := fun _ => fun
  | [d] => { results := [.lit (.bool false)], args := [d] }
  | _ => none }
def FnExactFarmPutWrongFalsely : Prop := fnExactFarmPutRow.holds Try.pinned (OpenSpec.ofChange fnExactFarmPutWrong)

/-- 'laws.FnExactFramePut': WHATEVER THE INPUT: true; the input reads as it did. -/
def fnExactFramePutSpec : ChangeSpec := { name := "fnExactFramePut", fn := fun _ => fun
  | [d] => { results := [.lit (.bool true)], args := [d] }
  | _ => none }
def fnExactFramePutRow : OpenClaim := { program := "ytjhkekddiikpfaa", sum := "fa265d81f8ccbf39fb837131481740c5b3e76a5a945d443af540e87079bd659f", func := "loop.example/skyway/laws.FnExactFramePut", spec := "fnExactFramePut", apart := false }
def FnExactFramePutSaid : Prop := fnExactFramePutRow.holds Try.pinned (OpenSpec.ofChange fnExactFramePutSpec)

/-- ITS FALSE NEIGHBOUR: 'it returns false'. Refute it at one input. -/
def fnExactFramePutWrong : ChangeSpec := { name := "fnExactFramePut", fn := fun _ => fun
  | [d] => { results := [.lit (.bool false)], args := [d] }
  | _ => none }
def FnExactFramePutWrongFalsely : Prop := fnExactFramePutRow.holds Try.pinned (OpenSpec.ofChange fnExactFramePutWrong)

/-- 'laws.FnExactFopOk': WHATEVER THE INPUT: true; the input reads as it did. -/
def fnExactFopOkSpec : ChangeSpec := { name := "fnExactFopOk", fn := fun _ => fun
  | [d] => { results := [.lit (.bool true)], args := [d] }
  | _ => none }
def fnExactFopOkRow : OpenClaim := { program := "ytjhkekddiikpfaa", sum := "fa265d81f8ccbf39fb837131481740c5b3e76a5a945d443af540e87079bd659f", func := "loop.example/skyway/laws.FnExactFopOk", spec := "fnExactFopOk", apart := false }
def FnExactFopOkSaid : Prop := fnExactFopOkRow.holds Try.pinned (OpenSpec.ofChange fnExactFopOkSpec)

/-- ITS FALSE NEIGHBOUR: 'it returns false'. Refute it at one input. -/
def fnExactFopOkWrong : ChangeSpec := { name := "fnExactFopOk", fn := fun _ => fun
  | [d] => { results := [.lit (.bool false)], args := [d] }
  | _ => none }
def FnExactFopOkWrongFalsely : Prop := fnExactFopOkRow.holds Try.pinned (OpenSpec.ofChange fnExactFopOkWrong)

/-- 'laws.FnExactFopFirst': WHATEVER THE INPUT: true; the input reads as it did. -/
def fnExactFopFirstSpec : ChangeSpec := { name := "fnExactFopFirst", fn := fun _ => fun
  | [d] => { results := [.lit (.bool true)], args := [d] }
  | _ => none }
def fnExactFopFirstRow : OpenClaim := { program := "ytjhkekddiikpfaa", sum := "fa265d81f8ccbf39fb837131481740c5b3e76a5a945d443af540e87079bd659f", func := "loop.example/skyway/laws.FnExactFopFirst", spec := "fnExactFopFirst", apart := false }
def FnExactFopFirstSaid : Prop := fnExactFopFirstRow.holds Try.pinned (OpenSpec.ofChange fnExactFopFirstSpec)

/-- ITS FALSE NEIGHBOUR: 'it returns false'. Refute it at one input. -/
def fnExactFopFirstWrong : ChangeSpec := { name := "fnExactFopFirst", fn := fun _ => fun
  | [d] => { results := [.lit (.bool false)], args := [d] }
  | _ => none }
def FnExactFopFirstWrongFalsely : Prop := fnExactFopFirstRow.holds Try.pinned (OpenSpec.ofChange fnExactFopFirstWrong)

/-- 'laws.FnExactPacketPut': WHATEVER THE INPUT: true; the input reads as it did. -/
def fnExactPacketPutSpec : ChangeSpec := { name := "fnExactPacketPut", fn := fun _ => fun
  | [d] => { results := [.lit (.bool true)], args := [d] }
  | _ => none }
def fnExactPacketPutRow : OpenClaim := { program := "ytjhkekddiikpfaa", sum := "fa265d81f8ccbf39fb837131481740c5b3e76a5a945d443af540e87079bd659f", func := "loop.example/skyway/laws.FnExactPacketPut", spec := "fnExactPacketPut", apart := false }
def FnExactPacketPutSaid : Prop := fnExactPacketPutRow.holds Try.pinned (OpenSpec.ofChange fnExactPacketPutSpec)

/-- ITS FALSE NEIGHBOUR: 'it returns false'. Refute it at one input. -/
def fnExactPacketPutWrong : ChangeSpec := { name := "fnExactPacketPut", fn := fun _ => fun
  | [d] => { results := [.lit (.bool false)], args := [d] }
  | _ => none }
def FnExactPacketPutWrongFalsely : Prop := fnExactPacketPutRow.holds Try.pinned (OpenSpec.ofChange fnExactPacketPutWrong)

/-- 'laws.FnExactRulesOk': WHATEVER THE INPUT: true; the input reads as it did. -/
def fnExactRulesOkSpec : ChangeSpec := { name := "fnExactRulesOk", fn := fun _ => fun
  | [d] => { results := [.lit (.bool true)], args := [d] }
  | _ => none }
def fnExactRulesOkRow : OpenClaim := { program := "ytjhkekddiikpfaa", sum := "fa265d81f8ccbf39fb837131481740c5b3e76a5a945d443af540e87079bd659f", func := "loop.example/skyway/laws.FnExactRulesOk", spec := "fnExactRulesOk", apart := false }
def FnExactRulesOkSaid : Prop := fnExactRulesOkRow.holds Try.pinned (OpenSpec.ofChange fnExactRulesOkSpec)

/-- ITS FALSE NEIGHBOUR: 'it returns false'. Refute it at one input. -/
def fnExactRulesOkWrong : ChangeSpec := { name := "fnExactRulesOk", fn := fun _ => fun
  | [d] => { results := [.lit (.bool false)], args := [d] }
  | _ => none }
def FnExactRulesOkWrongFalsely : Prop := fnExactRulesOkRow.holds Try.pinned (OpenSpec.ofChange fnExactRulesOkWrong)

/-- 'laws.FnExactPlanOk': WHATEVER THE INPUT: true; the input reads as it did. -/
def fnExactPlanOkSpec : ChangeSpec := { name := "fnExactPlanOk", fn := fun _ => fun
  | [d] => { results := [.lit (.bool true)], args := [d] }
  | _ => none }
def fnExactPlanOkRow : OpenClaim := { program := "ytjhkekddiikpfaa", sum := "fa265d81f8ccbf39fb837131481740c5b3e76a5a945d443af540e87079bd659f", func := "loop.example/skyway/laws.FnExactPlanOk", spec := "fnExactPlanOk", apart := false }
def FnExactPlanOkSaid : Prop := fnExactPlanOkRow.holds Try.pinned (OpenSpec.ofChange fnExactPlanOkSpec)

/-- ITS FALSE NEIGHBOUR: 'it returns false'. Refute it at one input. -/
def fnExactPlanOkWrong : ChangeSpec := { name := "fnExactPlanOk", fn := fun _ => fun
  | [d] => { results := [.lit (.bool false)], args := [d] }
  | _ => none }
def FnExactPlanOkWrongFalsely : Prop := fnExactPlanOkRow.holds Try.pinned (OpenSpec.ofChange fnExactPlanOkWrong)

/-- 'laws.FnExactCltuPut': WHATEVER THE INPUT: true; the input reads as it did. -/
def fnExactCltuPutSpec : ChangeSpec := { name := "fnExactCltuPut", fn := fun _ => fun
  | [d] => { results := [.lit (.bool true)], args := [d] }
  | _ => none }
def fnExactCltuPutRow : OpenClaim := { program := "ytjhkekddiikpfaa", sum := "fa265d81f8ccbf39fb837131481740c5b3e76a5a945d443af540e87079bd659f", func := "loop.example/skyway/laws.FnExactCltuPut", spec := "fnExactCltuPut", inPlace := ["internal/abi.NoEscape", "internal/bytealg.MakeNoZero"], apart := false }
def FnExactCltuPutSaid : Prop := fnExactCltuPutRow.holds Try.pinned (OpenSpec.ofChange fnExactCltuPutSpec)

/-- ITS FALSE NEIGHBOUR: 'it returns false'. Refute it at one input. -/
def fnExactCltuPutWrong : ChangeSpec := { name := "fnExactCltuPut", fn := fun _ => fun
  | [d] => { results := [.lit (.bool false)], args := [d] }
  | _ => none }
def FnExactCltuPutWrongFalsely : Prop := fnExactCltuPutRow.holds Try.pinned (OpenSpec.ofChange fnExactCltuPutWrong)

/-- 'laws.FnExactRepPut': WHATEVER THE INPUT: true; the input reads as it did. -/
def fnExactRepPutSpec : ChangeSpec := { name := "fnExactRepPut", fn := fun _ => fun
  | [d] => { results := [.lit (.bool true)], args := [d] }
  | _ => none }
def fnExactRepPutRow : OpenClaim := { program := "ytjhkekddiikpfaa", sum := "fa265d81f8ccbf39fb837131481740c5b3e76a5a945d443af540e87079bd659f", func := "loop.example/skyway/laws.FnExactRepPut", spec := "fnExactRepPut", apart := false }
def FnExactRepPutSaid : Prop := fnExactRepPutRow.holds Try.pinned (OpenSpec.ofChange fnExactRepPutSpec)

/-- ITS FALSE NEIGHBOUR: 'it returns false'. Refute it at one input. -/
def fnExactRepPutWrong : ChangeSpec := { name := "fnExactRepPut", fn := fun _ => fun
  | [d] => { results := [.lit (.bool false)], args := [d] }
  | _ => none }
def FnExactRepPutWrongFalsely : Prop := fnExactRepPutRow.holds Try.pinned (OpenSpec.ofChange fnExactRepPutWrong)

/-- 'laws.FnExactCmdPut': WHATEVER THE INPUT: true; the input reads as it did. -/
def fnExactCmdPutSpec : ChangeSpec := { name := "fnExactCmdPut", fn := fun _ => fun
  | [d] => { results := [.lit (.bool true)], args := [d] }
  | _ => none }
def fnExactCmdPutRow : OpenClaim := { program := "ytjhkekddiikpfaa", sum := "fa265d81f8ccbf39fb837131481740c5b3e76a5a945d443af540e87079bd659f", func := "loop.example/skyway/laws.FnExactCmdPut", spec := "fnExactCmdPut", apart := false }
def FnExactCmdPutSaid : Prop := fnExactCmdPutRow.holds Try.pinned (OpenSpec.ofChange fnExactCmdPutSpec)

/-- ITS FALSE NEIGHBOUR: 'it returns false'. Refute it at one input. -/
def fnExactCmdPutWrong : ChangeSpec := { name := "fnExactCmdPut", fn := fun _ => fun
  | [d] => { results := [.lit (.bool false)], args := [d] }
  | _ => none }
def FnExactCmdPutWrongFalsely : Prop := fnExactCmdPutRow.holds Try.pinned (OpenSpec.ofChange fnExactCmdPutWrong)

/- THE SECOND FORM. 'bulk': how many values and letters a reading holds, each counted each time it is reached (what is shared counts as often as it is met; a slice's spare places count too). A statement '..UptoSaid' is the law's where the arguments, and the package variables that the reading takes, are together of bulk at most 1048576: NARROWER than '..Said'. Prove '..Said' where nothing that the law and all that it calls make is longer than what came in: it says more and counts as full. Else prove '..UptoSaid'. A law counts once. -/
mutual
def uptoBulk {H : Type} : DataW H → Nat
  | .lit (.string bytes) => bytes.length + 1
  | .lit _ => 1
  | .nil => 1
  | .ptr d => uptoBulk d + 1
  | .slice elems spare => uptoBulkAll elems + uptoBulkAll spare + 1
  | .agg parts => uptoBulkAll parts + 1
  | .iface _ d => uptoBulk d + 1
  | .map entries => uptoBulkEntries entries + 1
  | .held _ => 1
def uptoBulkAll {H : Type} : List (DataW H) → Nat
  | [] => 0
  | d :: r => uptoBulk d + uptoBulkAll r
def uptoBulkEntries {H : Type} : List (Lit × DataW H) → Nat
  | [] => 0
  | x :: r => uptoBulkEntry x + uptoBulkEntries r
def uptoBulkEntry {H : Type} : Lit × DataW H → Nat
  | (.string bytes, d) => bytes.length + uptoBulk d + 1
  | (_, d) => uptoBulk d + 1
 end
def uptoSmall : (H : Type) → List (DataW H) → Bool := fun _ ds => decide (uptoBulkAll ds ≤ 1048576)
def OpenSpec.upto (s : _root_.Go.ChangeSpec) : _root_.Go.OpenSpec := { _root_.Go.OpenSpec.ofChange s with cond := some uptoSmall }

/-- 'laws.FnExactJoinOk', WHERE WHAT IT READS IS OF BULK AT MOST 1048576: true; the input reads as it did. -/
def fnExactJoinOkUptoRow : OpenClaim := { program := "ytjhkekddiikpfaa", sum := "fa265d81f8ccbf39fb837131481740c5b3e76a5a945d443af540e87079bd659f", func := "loop.example/skyway/laws.FnExactJoinOk", spec := "fnExactJoinOk", apart := false, narrowed := true }
def FnExactJoinOkUptoSaid : Prop := fnExactJoinOkUptoRow.holds Try.pinned (OpenSpec.upto fnExactJoinOkSpec)

/-- 'laws.FnExactFarmPut', WHERE WHAT IT READS IS OF BULK AT MOST 1048576: true; the input reads as it did. -/
def fnExactFarmPutUptoRow : OpenClaim := { program := "ytjhkekddiikpfaa", sum := "fa265d81f8ccbf39fb837131481740c5b3e76a5a945d443af540e87079bd659f", func := "loop.example/skyway/laws.FnExactFarmPut", spec := "fnExactFarmPut", apart := false, narrowed := true }
def FnExactFarmPutUptoSaid : Prop := fnExactFarmPutUptoRow.holds Try.pinned (OpenSpec.upto fnExactFarmPutSpec)

/-- 'laws.FnExactFramePut', WHERE WHAT IT READS IS OF BULK AT MOST 1048576: true; the input reads as it did. -/
def fnExactFramePutUptoRow : OpenClaim := { program := "ytjhkekddiikpfaa", sum := "fa265d81f8ccbf39fb837131481740c5b3e76a5a945d443af540e87079bd659f", func := "loop.example/skyway/laws.FnExactFramePut", spec := "fnExactFramePut", apart := false, narrowed := true }
def FnExactFramePutUptoSaid : Prop := fnExactFramePutUptoRow.holds Try.pinned (OpenSpec.upto fnExactFramePutSpec)

/-- 'laws.FnExactFopOk', WHERE WHAT IT READS IS OF BULK AT MOST 1048576: true; the input reads as it did. -/
def fnExactFopOkUptoRow : OpenClaim := { program := "ytjhkekddiikpfaa", sum := "fa265d81f8ccbf39fb837131481740c5b3e76a5a945d443af540e87079bd659f", func := "loop.example/skyway/laws.FnExactFopOk", spec := "fnExactFopOk", apart := false, narrowed := true }
def FnExactFopOkUptoSaid : Prop := fnExactFopOkUptoRow.holds Try.pinned (OpenSpec.upto fnExactFopOkSpec)

/-- 'laws.FnExactFopFirst', WHERE WHAT IT READS IS OF BULK AT MOST 1048576: true; the input reads as it did. -/
def fnExactFopFirstUptoRow : OpenClaim := { program := "ytjhkekddiikpfaa", sum := "fa265d81f8ccbf39fb837131481740c5b3e76a5a945d443af540e87079bd659f", func := "loop.example/skyway/laws.FnExactFopFirst", spec := "fnExactFopFirst", apart := false, narrowed := true }
def FnExactFopFirstUptoSaid : Prop := fnExactFopFirstUptoRow.holds Try.pinned (OpenSpec.upto fnExactFopFirstSpec)

/-- 'laws.FnExactPacketPut', WHERE WHAT IT READS IS OF BULK AT MOST 1048576: true; the input reads as it did. -/
def fnExactPacketPutUptoRow : OpenClaim := { program := "ytjhkekddiikpfaa", sum := "fa265d81f8ccbf39fb837131481740c5b3e76a5a945d443af540e87079bd659f", func := "loop.example/skyway/laws.FnExactPacketPut", spec := "fnExactPacketPut", apart := false, narrowed := true }
def FnExactPacketPutUptoSaid : Prop := fnExactPacketPutUptoRow.holds Try.pinned (OpenSpec.upto fnExactPacketPutSpec)

/-- 'laws.FnExactRulesOk', WHERE WHAT IT READS IS OF BULK AT MOST 1048576: true; the input reads as it did. -/
def fnExactRulesOkUptoRow : OpenClaim := { program := "ytjhkekddiikpfaa", sum := "fa265d81f8ccbf39fb837131481740c5b3e76a5a945d443af540e87079bd659f", func := "loop.example/skyway/laws.FnExactRulesOk", spec := "fnExactRulesOk", apart := false, narrowed := true }
def FnExactRulesOkUptoSaid : Prop := fnExactRulesOkUptoRow.holds Try.pinned (OpenSpec.upto fnExactRulesOkSpec)

/-- 'laws.FnExactPlanOk', WHERE WHAT IT READS IS OF BULK AT MOST 1048576: true; the input reads as it did. -/
def fnExactPlanOkUptoRow : OpenClaim := { program := "ytjhkekddiikpfaa", sum := "fa265d81f8ccbf39fb837131481740c5b3e76a5a945d443af540e87079bd659f", func := "loop.example/skyway/laws.FnExactPlanOk", spec := "fnExactPlanOk", apart := false, narrowed := true }
def FnExactPlanOkUptoSaid : Prop := fnExactPlanOkUptoRow.holds Try.pinned (OpenSpec.upto fnExactPlanOkSpec)

/-- 'laws.FnExactCltuPut', WHERE WHAT IT READS IS OF BULK AT MOST 1048576: true; the input reads as it did. -/
def fnExactCltuPutUptoRow : OpenClaim := { program := "ytjhkekddiikpfaa", sum := "fa265d81f8ccbf39fb837131481740c5b3e76a5a945d443af540e87079bd659f", func := "loop.example/skyway/laws.FnExactCltuPut", spec := "fnExactCltuPut", inPlace := ["internal/abi.NoEscape", "internal/bytealg.MakeNoZero"], apart := false, narrowed := true }
def FnExactCltuPutUptoSaid : Prop := fnExactCltuPutUptoRow.holds Try.pinned (OpenSpec.upto fnExactCltuPutSpec)

/-- 'laws.FnExactRepPut', WHERE WHAT IT READS IS OF BULK AT MOST 1048576: true; the input reads as it did. -/
def fnExactRepPutUptoRow : OpenClaim := { program := "ytjhkekddiikpfaa", sum := "fa265d81f8ccbf39fb837131481740c5b3e76a5a945d443af540e87079bd659f", func := "loop.example/skyway/laws.FnExactRepPut", spec := "fnExactRepPut", apart := false, narrowed := true }
def FnExactRepPutUptoSaid : Prop := fnExactRepPutUptoRow.holds Try.pinned (OpenSpec.upto fnExactRepPutSpec)

/-- 'laws.FnExactCmdPut', WHERE WHAT IT READS IS OF BULK AT MOST 1048576: true; the input reads as it did. -/
def fnExactCmdPutUptoRow : OpenClaim := { program := "ytjhkekddiikpfaa", sum := "fa265d81f8ccbf39fb837131481740c5b3e76a5a945d443af540e87079bd659f", func := "loop.example/skyway/laws.FnExactCmdPut", spec := "fnExactCmdPut", apart := false, narrowed := true }
def FnExactCmdPutUptoSaid : Prop := fnExactCmdPutUptoRow.holds Try.pinned (OpenSpec.upto fnExactCmdPutSpec)

end Rows
end Go.Proofs.Ytjhkekddiikpfaa
