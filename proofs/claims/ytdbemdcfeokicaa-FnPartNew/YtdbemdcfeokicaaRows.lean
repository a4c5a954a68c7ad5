/-
  No cell of these rows narrows 'for every input' (looked for: loops, veiled, ifaces, maps, wideKeys, modest, calm, conditions, laid).
  DERIVED. THE GIVEN ROWS OF THIS SEAT. 12 by the template 'for every input the law returns true; each argument reads behind the call as it read before'; 0 by the template 'total and deterministic' (their statements: YtdbemdcfeokicaaTotals.lean).
  GIVEN WITH THE SEED: the statements are not yours to turn. If you find one false, say at which input.
  Laid BY PROGRAM, IN A SANDBOX (cutbox-rows.mjs): the forced cells as the released guide's own fill.sh prints them over the translation c271e19c2fdaa73b… (all of the seat's roots in one cut). By AI agents, Wed Nov 11 2026. No macro, syntax, notation, axiom, sorry.
-/
import Derived.Test.YtdbemdcfeokicaaChecked
import GoSem.Claim
import GoSem.ClaimJoined
import GoSem.ClaimMapViews
import Derived.JoinedTies
import Derived.KernelRfl
namespace Go.Proofs.Ytdbemdcfeokicaa
/- THE CELL 'sum', in the pinned program and in every row, IS THE sha256 OF THE DUMP (.gsa) THAT YtdbemdcfeokicaaProg.lean LOADS. Nothing in Lean hashes anything: it is a label: what it is worth is what the hold of that sum in a sandbox is worth. -/
noncomputable def Try.pinned : Pinned := { name := "ytdbemdcfeokicaa", sum := "c271e19c2fdaa73b5bdc3e2b774f76e750d01ce06e93a086a0baee5411beb1e4", checked := Try.checked }
namespace Rows
def none {H : Type} : Left H := { results := [], args := [] }

/-- 'laws.FnFopSend': WHATEVER THE INPUT: true; the input reads as it did. -/
def fnFopSendSpec : ChangeSpec := { name := "fnFopSend", fn := fun _ => fun
  | [d] => { results := [.lit (.bool true)], args := [d] }
  | _ => none }
def fnFopSendRow : OpenClaim := { program := "ytdbemdcfeokicaa", sum := "c271e19c2fdaa73b5bdc3e2b774f76e750d01ce06e93a086a0baee5411beb1e4", func := "loop.example/skyway/laws.FnFopSend", spec := "fnFopSend", unfollowed := true, recurses := true, plainKeys := false, apart := false }
def FnFopSendSaid : Prop := fnFopSendRow.holds Try.pinned (OpenSpec.ofChange fnFopSendSpec)

/-- ITS FALSE NEIGHBOUR: 'it returns false'. Refute it at one input. -/
def fnFopSendWrong : ChangeSpec := { name := "fnFopSend", fn := fun _ => fun
  | [d] => { results := [.lit (.bool false)], args := [d] }
  | _ => none }
def FnFopSendWrongFalsely : Prop := fnFopSendRow.holds Try.pinned (OpenSpec.ofChange fnFopSendWrong)

/-- 'laws.FnFopHear': WHATEVER THE INPUT: true; the input reads as it did. -/
def fnFopHearSpec : ChangeSpec := { name := "fnFopHear", fn := fun _ => fun
  | [d] => { results := [.lit (.bool true)], args := [d] }
  | _ => none }
def fnFopHearRow : OpenClaim := { program := "ytdbemdcfeokicaa", sum := "c271e19c2fdaa73b5bdc3e2b774f76e750d01ce06e93a086a0baee5411beb1e4", func := "loop.example/skyway/laws.FnFopHear", spec := "fnFopHear", unfollowed := true, recurses := true, plainKeys := false, apart := false }
def FnFopHearSaid : Prop := fnFopHearRow.holds Try.pinned (OpenSpec.ofChange fnFopHearSpec)

/-- ITS FALSE NEIGHBOUR: 'it returns false'. Refute it at one input. -/
def fnFopHearWrong : ChangeSpec := { name := "fnFopHear", fn := fun _ => fun
  | [d] => { results := [.lit (.bool false)], args := [d] }
  | _ => none }
def FnFopHearWrongFalsely : Prop := fnFopHearRow.holds Try.pinned (OpenSpec.ofChange fnFopHearWrong)

/-- 'laws.FnFopAgain': WHATEVER THE INPUT: true; the input reads as it did. -/
def fnFopAgainSpec : ChangeSpec := { name := "fnFopAgain", fn := fun _ => fun
  | [d] => { results := [.lit (.bool true)], args := [d] }
  | _ => none }
def fnFopAgainRow : OpenClaim := { program := "ytdbemdcfeokicaa", sum := "c271e19c2fdaa73b5bdc3e2b774f76e750d01ce06e93a086a0baee5411beb1e4", func := "loop.example/skyway/laws.FnFopAgain", spec := "fnFopAgain", unfollowed := true, recurses := true, plainKeys := false, apart := false }
def FnFopAgainSaid : Prop := fnFopAgainRow.holds Try.pinned (OpenSpec.ofChange fnFopAgainSpec)

/-- ITS FALSE NEIGHBOUR: 'it returns false'. Refute it at one input. -/
def fnFopAgainWrong : ChangeSpec := { name := "fnFopAgain", fn := fun _ => fun
  | [d] => { results := [.lit (.bool false)], args := [d] }
  | _ => none }
def FnFopAgainWrongFalsely : Prop := fnFopAgainRow.holds Try.pinned (OpenSpec.ofChange fnFopAgainWrong)

/-- 'laws.FnFopBoth': WHATEVER THE INPUT: true; the input reads as it did. -/
def fnFopBothSpec : ChangeSpec := { name := "fnFopBoth", fn := fun _ => fun
  | [d1, d2] => { results := [.lit (.bool true)], args := [d1, d2] }
  | _ => none }
def fnFopBothRow : OpenClaim := { program := "ytdbemdcfeokicaa", sum := "c271e19c2fdaa73b5bdc3e2b774f76e750d01ce06e93a086a0baee5411beb1e4", func := "loop.example/skyway/laws.FnFopBoth", spec := "fnFopBoth", unfollowed := true, recurses := true, plainKeys := false, apart := false }
def FnFopBothSaid : Prop := fnFopBothRow.holds Try.pinned (OpenSpec.ofChange fnFopBothSpec)

/-- ITS FALSE NEIGHBOUR: 'it returns false'. Refute it at one input. -/
def fnFopBothWrong : ChangeSpec := { name := "fnFopBoth", fn := fun _ => fun
  | [d1, d2] => { results := [.lit (.bool false)], args := [d1, d2] }
  | _ => none }
def FnFopBothWrongFalsely : Prop := fnFopBothRow.holds Try.pinned (OpenSpec.ofChange fnFopBothWrong)

/-- 'laws.FnPartNew': WHATEVER THE INPUT: true; the input reads as it did. -/
def fnPartNewSpec : ChangeSpec := { name := "fnPartNew", fn := fun _ => fun
  | [d] => { results := [.lit (.bool true)], args := [d] }
  | _ => none }
def fnPartNewRow : OpenClaim := { program := "ytdbemdcfeokicaa", sum := "c271e19c2fdaa73b5bdc3e2b774f76e750d01ce06e93a086a0baee5411beb1e4", func := "loop.example/skyway/laws.FnPartNew", spec := "fnPartNew", plainKeys := false, apart := false }
def FnPartNewSaid : Prop := fnPartNewRow.holds Try.pinned (OpenSpec.ofChange fnPartNewSpec)

/-- ITS FALSE NEIGHBOUR: 'it returns false'. Refute it at one input. -/
def fnPartNewWrong : ChangeSpec := { name := "fnPartNew", fn := fun _ => fun
  | [d] => { results := [.lit (.bool false)], args := [d] }
  | _ => none }
def FnPartNewWrongFalsely : Prop := fnPartNewRow.holds Try.pinned (OpenSpec.ofChange fnPartNewWrong)

/-- 'laws.FnPartSend': WHATEVER THE INPUT: true; the input reads as it did. -/
def fnPartSendSpec : ChangeSpec := { name := "fnPartSend", fn := fun _ => fun
  | [d] => { results := [.lit (.bool true)], args := [d] }
  | _ => none }
def fnPartSendRow : OpenClaim := { program := "ytdbemdcfeokicaa", sum := "c271e19c2fdaa73b5bdc3e2b774f76e750d01ce06e93a086a0baee5411beb1e4", func := "loop.example/skyway/laws.FnPartSend", spec := "fnPartSend", plainKeys := false, apart := false }
def FnPartSendSaid : Prop := fnPartSendRow.holds Try.pinned (OpenSpec.ofChange fnPartSendSpec)

/-- ITS FALSE NEIGHBOUR: 'it returns false'. Refute it at one input. -/
def fnPartSendWrong : ChangeSpec := { name := "fnPartSend", fn := fun _ => fun
  | [d] => { results := [.lit (.bool false)], args := [d] }
  | _ => none }
def FnPartSendWrongFalsely : Prop := fnPartSendRow.holds Try.pinned (OpenSpec.ofChange fnPartSendWrong)

/-- 'laws.FnPartStep': WHATEVER THE INPUT: true; the input reads as it did. -/
def fnPartStepSpec : ChangeSpec := { name := "fnPartStep", fn := fun _ => fun
  | [d] => { results := [.lit (.bool true)], args := [d] }
  | _ => none }
def fnPartStepRow : OpenClaim := { program := "ytdbemdcfeokicaa", sum := "c271e19c2fdaa73b5bdc3e2b774f76e750d01ce06e93a086a0baee5411beb1e4", func := "loop.example/skyway/laws.FnPartStep", spec := "fnPartStep", unfollowed := true, recurses := true, plainKeys := false, apart := false }
def FnPartStepSaid : Prop := fnPartStepRow.holds Try.pinned (OpenSpec.ofChange fnPartStepSpec)

/-- ITS FALSE NEIGHBOUR: 'it returns false'. Refute it at one input. -/
def fnPartStepWrong : ChangeSpec := { name := "fnPartStep", fn := fun _ => fun
  | [d] => { results := [.lit (.bool false)], args := [d] }
  | _ => none }
def FnPartStepWrongFalsely : Prop := fnPartStepRow.holds Try.pinned (OpenSpec.ofChange fnPartStepWrong)

/-- 'laws.FnPartRun': WHATEVER THE INPUT: true; the input reads as it did. -/
def fnPartRunSpec : ChangeSpec := { name := "fnPartRun", fn := fun _ => fun
  | [d] => { results := [.lit (.bool true)], args := [d] }
  | _ => none }
def fnPartRunRow : OpenClaim := { program := "ytdbemdcfeokicaa", sum := "c271e19c2fdaa73b5bdc3e2b774f76e750d01ce06e93a086a0baee5411beb1e4", func := "loop.example/skyway/laws.FnPartRun", spec := "fnPartRun", unfollowed := true, recurses := true, plainKeys := false, apart := false }
def FnPartRunSaid : Prop := fnPartRunRow.holds Try.pinned (OpenSpec.ofChange fnPartRunSpec)

/-- ITS FALSE NEIGHBOUR: 'it returns false'. Refute it at one input. -/
def fnPartRunWrong : ChangeSpec := { name := "fnPartRun", fn := fun _ => fun
  | [d] => { results := [.lit (.bool false)], args := [d] }
  | _ => none }
def FnPartRunWrongFalsely : Prop := fnPartRunRow.holds Try.pinned (OpenSpec.ofChange fnPartRunWrong)

/-- 'laws.FnRulesLet': WHATEVER THE INPUT: true; the input reads as it did. -/
def fnRulesLetSpec : ChangeSpec := { name := "fnRulesLet", fn := fun _ => fun
  | [d1, d2] => { results := [.lit (.bool true)], args := [d1, d2] }
  | _ => none }
def fnRulesLetRow : OpenClaim := { program := "ytdbemdcfeokicaa", sum := "c271e19c2fdaa73b5bdc3e2b774f76e750d01ce06e93a086a0baee5411beb1e4", func := "loop.example/skyway/laws.FnRulesLet", spec := "fnRulesLet", plainKeys := false, apart := false }
def FnRulesLetSaid : Prop := fnRulesLetRow.holds Try.pinned (OpenSpec.ofChange fnRulesLetSpec)

/-- ITS FALSE NEIGHBOUR: 'it returns false'. Refute it at one input. -/
def fnRulesLetWrong : ChangeSpec := { name := "fnRulesLet", fn := fun _ => fun
  | [d1, d2] => { results := [.lit (.bool false)], args := [d1, d2] }
  | _ => none }
def FnRulesLetWrongFalsely : Prop := fnRulesLetRow.holds Try.pinned (OpenSpec.ofChange fnRulesLetWrong)

/-- 'laws.FnRulesLess': WHATEVER THE INPUT: true; the input reads as it did. -/
def fnRulesLessSpec : ChangeSpec := { name := "fnRulesLess", fn := fun _ => fun
  | [d1, d2] => { results := [.lit (.bool true)], args := [d1, d2] }
  | _ => none }
def fnRulesLessRow : OpenClaim := { program := "ytdbemdcfeokicaa", sum := "c271e19c2fdaa73b5bdc3e2b774f76e750d01ce06e93a086a0baee5411beb1e4", func := "loop.example/skyway/laws.FnRulesLess", spec := "fnRulesLess", plainKeys := false, apart := false }
def FnRulesLessSaid : Prop := fnRulesLessRow.holds Try.pinned (OpenSpec.ofChange fnRulesLessSpec)

/-- ITS FALSE NEIGHBOUR: 'it returns false'. Refute it at one input. -/
def fnRulesLessWrong : ChangeSpec := { name := "fnRulesLess", fn := fun _ => fun
  | [d1, d2] => { results := [.lit (.bool false)], args := [d1, d2] }
  | _ => none }
def FnRulesLessWrongFalsely : Prop := fnRulesLessRow.holds Try.pinned (OpenSpec.ofChange fnRulesLessWrong)

/-- 'laws.FnPlanPut': WHATEVER THE INPUT: true; the input reads as it did. -/
def fnPlanPutSpec : ChangeSpec := { name := "fnPlanPut", fn := fun _ => fun
  | [d] => { results := [.lit (.bool true)], args := [d] }
  | _ => none }
def fnPlanPutRow : OpenClaim := { program := "ytdbemdcfeokicaa", sum := "c271e19c2fdaa73b5bdc3e2b774f76e750d01ce06e93a086a0baee5411beb1e4", func := "loop.example/skyway/laws.FnPlanPut", spec := "fnPlanPut", unfollowed := true, recurses := true, plainKeys := false, apart := false }
def FnPlanPutSaid : Prop := fnPlanPutRow.holds Try.pinned (OpenSpec.ofChange fnPlanPutSpec)

/-- ITS FALSE NEIGHBOUR: 'it returns false'. Refute it at one input. -/
def fnPlanPutWrong : ChangeSpec := { name := "fnPlanPut", fn := fun _ => fun
  | [d] => { results := [.lit (.bool false)], args := [d] }
  | _ => none }
def FnPlanPutWrongFalsely : Prop := fnPlanPutRow.holds Try.pinned (OpenSpec.ofChange fnPlanPutWrong)

/-- 'laws.FnPlanDrop': WHATEVER THE INPUT: true; the input reads as it did. -/
def fnPlanDropSpec : ChangeSpec := { name := "fnPlanDrop", fn := fun _ => fun
  | [d] => { results := [.lit (.bool true)], args := [d] }
  | _ => none }
def fnPlanDropRow : OpenClaim := { program := "ytdbemdcfeokicaa", sum := "c271e19c2fdaa73b5bdc3e2b774f76e750d01ce06e93a086a0baee5411beb1e4", func := "loop.example/skyway/laws.FnPlanDrop", spec := "fnPlanDrop", unfollowed := true, recurses := true, plainKeys := false, apart := false }
def FnPlanDropSaid : Prop := fnPlanDropRow.holds Try.pinned (OpenSpec.ofChange fnPlanDropSpec)

/-- ITS FALSE NEIGHBOUR: 'it returns false'. Refute it at one input. -/
def fnPlanDropWrong : ChangeSpec := { name := "fnPlanDrop", fn := fun _ => fun
  | [d] => { results := [.lit (.bool false)], args := [d] }
  | _ => none }
def FnPlanDropWrongFalsely : Prop := fnPlanDropRow.holds Try.pinned (OpenSpec.ofChange fnPlanDropWrong)

/- THE SECOND FORM. 'bulk': how many values and letters a reading holds, each counted each time it is reached (what is shared counts as often as it is met; a slice's spare places count too). A statement '..UptoSaid' is the law's where the arguments, and the package variables that the reading takes, are together of bulk at most 1048576: NARROWER than '..Said'. Prove '..Said' where nothing that the law and all that it calls make is longer than what came in: it says more and counts as full. Else prove '..UptoSaid'. A law counts once. -/
mutual
def uptoBulk {H : Type} : DataW H → Nat
  | .lit (.string bytes) => bytes.length + 1
  | .lit _ => 1
  | .nil => 1
  | .ptr d => uptoBulk d + 1
  | .slice elems spare => uptoBulkAll elems + uptoBulkAll spare + 1
  | .agg parts => uptoBulkAll parts + 1
  | .iface _ d => uptoBulk d + 1
  | .map entries => uptoBulkEntries entries + 1
  | .held _ => 1
def uptoBulkAll {H : Type} : List (DataW H) → Nat
  | [] => 0
  | d :: r => uptoBulk d + uptoBulkAll r
def uptoBulkEntries {H : Type} : List (Lit × DataW H) → Nat
  | [] => 0
  | x :: r => uptoBulkEntry x + uptoBulkEntries r
def uptoBulkEntry {H : Type} : Lit × DataW H → Nat
  | (.string bytes, d) => bytes.length + uptoBulk d + 1
  | (_, d) => uptoBulk d + 1
 end
def uptoSmall : (H : Type) → List (DataW H) → Bool := fun _ ds => decide (uptoBulkAll ds ≤ 1048576)
def OpenSpec.upto (s : _root_.Go.ChangeSpec) : _root_.Go.OpenSpec := { _root_.Go.OpenSpec.ofChange s with cond := some uptoSmall }

/-- 'laws.FnFopSend', WHERE WHAT IT READS IS OF BULK AT MOST 1048576: true; the input reads as it did. -/
def fnFopSendUptoRow : OpenClaim := { program := "ytdbemdcfeokicaa", sum := "c271e19c2fdaa73b5bdc3e2b774f76e750d01ce06e93a086a0baee5411beb1e4", func := "loop.example/skyway/laws.FnFopSend", spec := "fnFopSend", unfollowed := true, recurses := true, plainKeys := false, apart := false, narrowed := true }
def FnFopSendUptoSaid : Prop := fnFopSendUptoRow.holds Try.pinned (OpenSpec.upto fnFopSendSpec)

/-- 'laws.FnFopHear', WHERE WHAT IT READS IS OF BULK AT MOST 1048576: true; the input reads as it did. -/
def fnFopHearUptoRow : OpenClaim := { program := "ytdbemdcfeokicaa", sum := "c271e19c2fdaa73b5bdc3e2b774f76e750d01ce06e93a086a0baee5411beb1e4", func := "loop.example/skyway/laws.FnFopHear", spec := "fnFopHear", unfollowed := true, recurses := true, plainKeys := false, apart := false, narrowed := true }
def FnFopHearUptoSaid : Prop := fnFopHearUptoRow.holds Try.pinned (OpenSpec.upto fnFopHearSpec)

/-- 'laws.FnFopAgain', WHERE WHAT IT READS IS OF BULK AT MOST 1048576: true; the input reads as it did. -/
def fnFopAgainUptoRow : OpenClaim := { program := "ytdbemdcfeokicaa", sum := "c271e19c2fdaa73b5bdc3e2b774f76e750d01ce06e93a086a0baee5411beb1e4", func := "loop.example/skyway/laws.FnFopAgain", spec := "fnFopAgain", unfollowed := true, recurses := true, plainKeys := false, apart := false, narrowed := true }
def FnFopAgainUptoSaid : Prop := fnFopAgainUptoRow.holds Try.pinned (OpenSpec.upto fnFopAgainSpec)

/-- 'laws.FnFopBoth', WHERE WHAT IT READS IS OF BULK AT MOST 1048576: true; the input reads as it did. -/
def fnFopBothUptoRow : OpenClaim := { program := "ytdbemdcfeokicaa", sum := "c271e19c2fdaa73b5bdc3e2b774f76e750d01ce06e93a086a0baee5411beb1e4", func := "loop.example/skyway/laws.FnFopBoth", spec := "fnFopBoth", unfollowed := true, recurses := true, plainKeys := false, apart := false, narrowed := true }
def FnFopBothUptoSaid : Prop := fnFopBothUptoRow.holds Try.pinned (OpenSpec.upto fnFopBothSpec)

/-- 'laws.FnPartNew', WHERE WHAT IT READS IS OF BULK AT MOST 1048576: true; the input reads as it did. -/
def fnPartNewUptoRow : OpenClaim := { program := "ytdbemdcfeokicaa", sum := "c271e19c2fdaa73b5bdc3e2b774f76e750d01ce06e93a086a0baee5411beb1e4", func := "loop.example/skyway/laws.FnPartNew", spec := "fnPartNew", plainKeys := false, apart := false, narrowed := true }
def FnPartNewUptoSaid : Prop := fnPartNewUptoRow.holds Try.pinned (OpenSpec.upto fnPartNewSpec)

/-- 'laws.FnPartSend', WHERE WHAT IT READS IS OF BULK AT MOST 1048576: true; the input reads as it did. -/
def fnPartSendUptoRow : OpenClaim := { program := "ytdbemdcfeokicaa", sum := "c271e19c2fdaa73b5bdc3e2b774f76e750d01ce06e93a086a0baee5411beb1e4", func := "loop.example/skyway/laws.FnPartSend", spec := "fnPartSend", plainKeys := false, apart := false, narrowed := true }
def FnPartSendUptoSaid : Prop := fnPartSendUptoRow.holds Try.pinned (OpenSpec.upto fnPartSendSpec)

/-- 'laws.FnPartStep', WHERE WHAT IT READS IS OF BULK AT MOST 1048576: true; the input reads as it did. -/
def fnPartStepUptoRow : OpenClaim := { program := "ytdbemdcfeokicaa", sum := "c271e19c2fdaa73b5bdc3e2b774f76e750d01ce06e93a086a0baee5411beb1e4", func := "loop.example/skyway/laws.FnPartStep", spec := "fnPartStep", unfollowed := true, recurses := true, plainKeys := false, apart := false, narrowed := true }
def FnPartStepUptoSaid : Prop := fnPartStepUptoRow.holds Try.pinned (OpenSpec.upto fnPartStepSpec)

/-- 'laws.FnPartRun', WHERE WHAT IT READS IS OF BULK AT MOST 1048576: true; the input reads as it did. -/
def fnPartRunUptoRow : OpenClaim := { program := "ytdbemdcfeokicaa", sum := "c271e19c2fdaa73b5bdc3e2b774f76e750d01ce06e93a086a0baee5411beb1e4", func := "loop.example/skyway/laws.FnPartRun", spec := "fnPartRun", unfollowed := true, recurses := true, plainKeys := false, apart := false, narrowed := true }
def FnPartRunUptoSaid : Prop := fnPartRunUptoRow.holds Try.pinned (OpenSpec.upto fnPartRunSpec)

/-- 'laws.FnRulesLet', WHERE WHAT IT READS IS OF BULK AT MOST 1048576: true; the input reads as it did. -/
def fnRulesLetUptoRow : OpenClaim := { program := "ytdbemdcfeokicaa", sum := "c271e19c2fdaa73b5bdc3e2b774f76e750d01ce06e93a086a0baee5411beb1e4", func := "loop.example/skyway/laws.FnRulesLet", spec := "fnRulesLet", plainKeys := false, apart := false, narrowed := true }
def FnRulesLetUptoSaid : Prop := fnRulesLetUptoRow.holds Try.pinned (OpenSpec.upto fnRulesLetSpec)

/-- 'laws.FnRulesLess', WHERE WHAT IT READS IS OF BULK AT MOST 1048576: true; the input reads as it did. -/
def fnRulesLessUptoRow : OpenClaim := { program := "ytdbemdcfeokicaa", sum := "c271e19c2fdaa73b5bdc3e2b774f76e750d01ce06e93a086a0baee5411beb1e4", func := "loop.example/skyway/laws.FnRulesLess", spec := "fnRulesLess", plainKeys := false, apart := false, narrowed := true }
def FnRulesLessUptoSaid : Prop := fnRulesLessUptoRow.holds Try.pinned (OpenSpec.upto fnRulesLessSpec)

/-- 'laws.FnPlanPut', WHERE WHAT IT READS IS OF BULK AT MOST 1048576: true; the input reads as it did. -/
def fnPlanPutUptoRow : OpenClaim := { program := "ytdbemdcfeokicaa", sum := "c271e19c2fdaa73b5bdc3e2b774f76e750d01ce06e93a086a0baee5411beb1e4", func := "loop.example/skyway/laws.FnPlanPut", spec := "fnPlanPut", unfollowed := true, recurses := true, plainKeys := false, apart := false, narrowed := true }
def FnPlanPutUptoSaid : Prop := fnPlanPutUptoRow.holds Try.pinned (OpenSpec.upto fnPlanPutSpec)

/-- 'laws.FnPlanDrop', WHERE WHAT IT READS IS OF BULK AT MOST 1048576: true; the input reads as it did. -/
def fnPlanDropUptoRow : OpenClaim := { program := "ytdbemdcfeokicaa", sum := "c271e19c2fdaa73b5bdc3e2b774f76e750d01ce06e93a086a0baee5411beb1e4", func := "loop.example/skyway/laws.FnPlanDrop", spec := "fnPlanDrop", unfollowed := true, recurses := true, plainKeys := false, apart := false, narrowed := true }
def FnPlanDropUptoSaid : Prop := fnPlanDropUptoRow.holds Try.pinned (OpenSpec.upto fnPlanDropSpec)

end Rows
end Go.Proofs.Ytdbemdcfeokicaa
