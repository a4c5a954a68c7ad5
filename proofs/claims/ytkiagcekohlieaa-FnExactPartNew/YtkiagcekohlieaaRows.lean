/-
  No cell of these rows narrows 'for every input' (looked for: loops, veiled, ifaces, maps, wideKeys, modest, calm, conditions, laid).
  DERIVED. THE GIVEN ROWS OF THIS SEAT. 11 by the template 'for every input the law returns true; each argument reads behind the call as it read before'; 0 by the template 'total and deterministic' (their statements: YtkiagcekohlieaaTotals.lean).
  GIVEN WITH THE SEED: the statements are not yours to turn. If you find one false, say at which input.
  Laid BY PROGRAM, IN A SANDBOX (cutbox-rows.mjs): the forced cells as the released guide's own fill.sh prints them over the translation aa42ae12e44b3033… (all of the seat's roots in one cut). By AI agents, Wed Nov 11 2026. No macro, syntax, notation, axiom, sorry.
-/
import Derived.Test.YtkiagcekohlieaaChecked
import GoSem.Claim
import GoSem.ClaimJoined
import GoSem.ClaimMapViews
import Derived.JoinedTies
import Derived.KernelRfl
namespace Go.Proofs.Ytkiagcekohlieaa
/- THE CELL 'sum', in the pinned program and in every row, IS THE sha256 OF THE DUMP (.gsa) THAT YtkiagcekohlieaaProg.lean LOADS. Nothing in Lean hashes anything: it is a label: what it is worth is what the hold of that sum in a sandbox is worth. -/
noncomputable def Try.pinned : Pinned := { name := "ytkiagcekohlieaa", sum := "aa42ae12e44b3033f90942dc4266f47271d597416bd92b257c7f6cfb3d5c8d9c", checked := Try.checked }
namespace Rows
def none {H : Type} : Left H := { results := [], args := [] }

/-- 'laws.FnExactPartNew': WHATEVER THE INPUT: true; the input reads as it did. -/
def fnExactPartNewSpec : ChangeSpec := { name := "fnExactPartNew", fn := fun _ => fun
  | [d] => { results := [.lit (.bool true)], args := [d] }
  | _ => none }
def fnExactPartNewRow : OpenClaim := { program := "ytkiagcekohlieaa", sum := "aa42ae12e44b3033f90942dc4266f47271d597416bd92b257c7f6cfb3d5c8d9c", func := "loop.example/skyway/laws.FnExactPartNew", spec := "fnExactPartNew", plainKeys := false, apart := false }
def FnExactPartNewSaid : Prop := fnExactPartNewRow.holds Try.pinned (OpenSpec.ofChange fnExactPartNewSpec)

/-- ITS FALSE NEIGHBOUR: 'it returns false'. Refute it at one input. -/
def fnExactPartNewWrong : ChangeSpec := { name := "fnExactPartNew", fn := fun _ => fun
  | [d] => { results := [.lit (.bool false)], args := [d] }
  | _ => none }
def FnExactPartNewWrongFalsely : Prop := fnExactPartNewRow.holds Try.pinned (OpenSpec.ofChange fnExactPartNewWrong)

/-- 'laws.FnExactPartStep': WHATEVER THE INPUT: true; the input reads as it did. -/
def fnExactPartStepSpec : ChangeSpec := { name := "fnExactPartStep", fn := fun _ => fun
  | [d1, d2, d3] => { results := [.lit (.bool true)], args := [d1, d2, d3] }
  | _ => none }
def fnExactPartStepRow : OpenClaim := { program := "ytkiagcekohlieaa", sum := "aa42ae12e44b3033f90942dc4266f47271d597416bd92b257c7f6cfb3d5c8d9c", func := "loop.example/skyway/laws.FnExactPartStep", spec := "fnExactPartStep", unfollowed := true, recurses := true, plainKeys := false, apart := false }
def FnExactPartStepSaid : Prop := fnExactPartStepRow.holds Try.pinned (OpenSpec.ofChange fnExactPartStepSpec)

/-- ITS FALSE NEIGHBOUR: 'it returns false'. Refute it at one input. -/
def fnExactPartStepWrong : ChangeSpec := { name := "fnExactPartStep", fn := fun _ => fun
  | [d1, d2, d3] => { results := [.lit (.bool false)], args := [d1, d2, d3] }
  | _ => none }
def FnExactPartStepWrongFalsely : Prop := fnExactPartStepRow.holds Try.pinned (OpenSpec.ofChange fnExactPartStepWrong)

/-- 'laws.FnExactPartRun': WHATEVER THE INPUT: true; the input reads as it did. -/
def fnExactPartRunSpec : ChangeSpec := { name := "fnExactPartRun", fn := fun _ => fun
  | [d1, d2, d3, d4] => { results := [.lit (.bool true)], args := [d1, d2, d3, d4] }
  | _ => none }
def fnExactPartRunRow : OpenClaim := { program := "ytkiagcekohlieaa", sum := "aa42ae12e44b3033f90942dc4266f47271d597416bd92b257c7f6cfb3d5c8d9c", func := "loop.example/skyway/laws.FnExactPartRun", spec := "fnExactPartRun", unfollowed := true, recurses := true, plainKeys := false, apart := false }
def FnExactPartRunSaid : Prop := fnExactPartRunRow.holds Try.pinned (OpenSpec.ofChange fnExactPartRunSpec)

/-- ITS FALSE NEIGHBOUR: 'it returns false'. Refute it at one input. -/
def fnExactPartRunWrong : ChangeSpec := { name := "fnExactPartRun", fn := fun _ => fun
  | [d1, d2, d3, d4] => { results := [.lit (.bool false)], args := [d1, d2, d3, d4] }
  | _ => none }
def FnExactPartRunWrongFalsely : Prop := fnExactPartRunRow.holds Try.pinned (OpenSpec.ofChange fnExactPartRunWrong)

/-- 'laws.FnExactRulesLet': WHATEVER THE INPUT: true; the input reads as it did. -/
def fnExactRulesLetSpec : ChangeSpec := { name := "fnExactRulesLet", fn := fun _ => fun
  | [d1, d2, d3] => { results := [.lit (.bool true)], args := [d1, d2, d3] }
  | _ => none }
def fnExactRulesLetRow : OpenClaim := { program := "ytkiagcekohlieaa", sum := "aa42ae12e44b3033f90942dc4266f47271d597416bd92b257c7f6cfb3d5c8d9c", func := "loop.example/skyway/laws.FnExactRulesLet", spec := "fnExactRulesLet", plainKeys := false, apart := false }
def FnExactRulesLetSaid : Prop := fnExactRulesLetRow.holds Try.pinned (OpenSpec.ofChange fnExactRulesLetSpec)

/-- ITS FALSE NEIGHBOUR: 'it returns false'. Refute it at one input. -/
def fnExactRulesLetWrong : ChangeSpec := { name := "fnExactRulesLet", fn := fun _ => fun
  | [d1, d2, d3] => { results := [.lit (.bool false)], args := [d1, d2, d3] }
  | _ => none }
def FnExactRulesLetWrongFalsely : Prop := fnExactRulesLetRow.holds Try.pinned (OpenSpec.ofChange fnExactRulesLetWrong)

/-- 'laws.FnExactRulesLess': WHATEVER THE INPUT: true; the input reads as it did. -/
def fnExactRulesLessSpec : ChangeSpec := { name := "fnExactRulesLess", fn := fun _ => fun
  | [d] => { results := [.lit (.bool true)], args := [d] }
  | _ => none }
def fnExactRulesLessRow : OpenClaim := { program := "ytkiagcekohlieaa", sum := "aa42ae12e44b3033f90942dc4266f47271d597416bd92b257c7f6cfb3d5c8d9c", func := "loop.example/skyway/laws.FnExactRulesLess", spec := "fnExactRulesLess", plainKeys := false, apart := false }
def FnExactRulesLessSaid : Prop := fnExactRulesLessRow.holds Try.pinned (OpenSpec.ofChange fnExactRulesLessSpec)

/-- ITS FALSE NEIGHBOUR: 'it returns false'. Refute it at one input. -/
def fnExactRulesLessWrong : ChangeSpec := { name := "fnExactRulesLess", fn := fun _ => fun
  | [d] => { results := [.lit (.bool false)], args := [d] }
  | _ => none }
def FnExactRulesLessWrongFalsely : Prop := fnExactRulesLessRow.holds Try.pinned (OpenSpec.ofChange fnExactRulesLessWrong)

/-- 'laws.FnExactPlanPut': WHATEVER THE INPUT: true; the input reads as it did. -/
def fnExactPlanPutSpec : ChangeSpec := { name := "fnExactPlanPut", fn := fun _ => fun
  | [d1, d2, d3, d4] => { results := [.lit (.bool true)], args := [d1, d2, d3, d4] }
  | _ => none }
def fnExactPlanPutRow : OpenClaim := { program := "ytkiagcekohlieaa", sum := "aa42ae12e44b3033f90942dc4266f47271d597416bd92b257c7f6cfb3d5c8d9c", func := "loop.example/skyway/laws.FnExactPlanPut", spec := "fnExactPlanPut", unfollowed := true, recurses := true, plainKeys := false, apart := false }
def FnExactPlanPutSaid : Prop := fnExactPlanPutRow.holds Try.pinned (OpenSpec.ofChange fnExactPlanPutSpec)

/-- ITS FALSE NEIGHBOUR: 'it returns false'. Refute it at one input. -/
def fnExactPlanPutWrong : ChangeSpec := { name := "fnExactPlanPut", fn := fun _ => fun
  | [d1, d2, d3, d4] => { results := [.lit (.bool false)], args := [d1, d2, d3, d4] }
  | _ => none }
def FnExactPlanPutWrongFalsely : Prop := fnExactPlanPutRow.holds Try.pinned (OpenSpec.ofChange fnExactPlanPutWrong)

/-- 'laws.FnExactPlanDrop': WHATEVER THE INPUT: true; the input reads as it did. -/
def fnExactPlanDropSpec : ChangeSpec := { name := "fnExactPlanDrop", fn := fun _ => fun
  | [d1, d2, d3] => { results := [.lit (.bool true)], args := [d1, d2, d3] }
  | _ => none }
def fnExactPlanDropRow : OpenClaim := { program := "ytkiagcekohlieaa", sum := "aa42ae12e44b3033f90942dc4266f47271d597416bd92b257c7f6cfb3d5c8d9c", func := "loop.example/skyway/laws.FnExactPlanDrop", spec := "fnExactPlanDrop", unfollowed := true, recurses := true, plainKeys := false, apart := false }
def FnExactPlanDropSaid : Prop := fnExactPlanDropRow.holds Try.pinned (OpenSpec.ofChange fnExactPlanDropSpec)

/-- ITS FALSE NEIGHBOUR: 'it returns false'. Refute it at one input. -/
def fnExactPlanDropWrong : ChangeSpec := { name := "fnExactPlanDrop", fn := fun _ => fun
  | [d1, d2, d3] => { results := [.lit (.bool false)], args := [d1, d2, d3] }
  | _ => none }
def FnExactPlanDropWrongFalsely : Prop := fnExactPlanDropRow.holds Try.pinned (OpenSpec.ofChange fnExactPlanDropWrong)

/-- 'laws.FnExactPlanShift': WHATEVER THE INPUT: true; the input reads as it did. -/
def fnExactPlanShiftSpec : ChangeSpec := { name := "fnExactPlanShift", fn := fun _ => fun
  | [d1, d2, d3] => { results := [.lit (.bool true)], args := [d1, d2, d3] }
  | _ => none }
def fnExactPlanShiftRow : OpenClaim := { program := "ytkiagcekohlieaa", sum := "aa42ae12e44b3033f90942dc4266f47271d597416bd92b257c7f6cfb3d5c8d9c", func := "loop.example/skyway/laws.FnExactPlanShift", spec := "fnExactPlanShift", unfollowed := true, recurses := true, plainKeys := false, apart := false }
def FnExactPlanShiftSaid : Prop := fnExactPlanShiftRow.holds Try.pinned (OpenSpec.ofChange fnExactPlanShiftSpec)

/-- ITS FALSE NEIGHBOUR: 'it returns false'. Refute it at one input. -/
def fnExactPlanShiftWrong : ChangeSpec := { name := "fnExactPlanShift", fn := fun _ => fun
  | [d1, d2, d3] => { results := [.lit (.bool false)], args := [d1, d2, d3] }
  | _ => none }
def FnExactPlanShiftWrongFalsely : Prop := fnExactPlanShiftRow.holds Try.pinned (OpenSpec.ofChange fnExactPlanShiftWrong)

/-- 'laws.FnExactPlanDue': WHATEVER THE INPUT: true; the input reads as it did. -/
def fnExactPlanDueSpec : ChangeSpec := { name := "fnExactPlanDue", fn := fun _ => fun
  | [d1, d2] => { results := [.lit (.bool true)], args := [d1, d2] }
  | _ => none }
def fnExactPlanDueRow : OpenClaim := { program := "ytkiagcekohlieaa", sum := "aa42ae12e44b3033f90942dc4266f47271d597416bd92b257c7f6cfb3d5c8d9c", func := "loop.example/skyway/laws.FnExactPlanDue", spec := "fnExactPlanDue", unfollowed := true, recurses := true, plainKeys := false, apart := false }
def FnExactPlanDueSaid : Prop := fnExactPlanDueRow.holds Try.pinned (OpenSpec.ofChange fnExactPlanDueSpec)

/-- ITS FALSE NEIGHBOUR: 'it returns false'. Refute it at one input. -/
def fnExactPlanDueWrong : ChangeSpec := { name := "fnExactPlanDue", fn := fun _ => fun
  | [d1, d2] => { results := [.lit (.bool false)], args := [d1, d2] }
  | _ => none }
def FnExactPlanDueWrongFalsely : Prop := fnExactPlanDueRow.holds Try.pinned (OpenSpec.ofChange fnExactPlanDueWrong)

/-- 'laws.FnExactSegCut': WHATEVER THE INPUT: true; the input reads as it did. -/
def fnExactSegCutSpec : ChangeSpec := { name := "fnExactSegCut", fn := fun _ => fun
  | [d1, d2] => { results := [.lit (.bool true)], args := [d1, d2] }
  | _ => none }
def fnExactSegCutRow : OpenClaim := { program := "ytkiagcekohlieaa", sum := "aa42ae12e44b3033f90942dc4266f47271d597416bd92b257c7f6cfb3d5c8d9c", func := "loop.example/skyway/laws.FnExactSegCut", spec := "fnExactSegCut", unfollowed := true, recurses := true, plainKeys := false, apart := false }
def FnExactSegCutSaid : Prop := fnExactSegCutRow.holds Try.pinned (OpenSpec.ofChange fnExactSegCutSpec)

/-- ITS FALSE NEIGHBOUR: 'it returns false'. Refute it at one input. -/
def fnExactSegCutWrong : ChangeSpec := { name := "fnExactSegCut", fn := fun _ => fun
  | [d1, d2] => { results := [.lit (.bool false)], args := [d1, d2] }
  | _ => none }
def FnExactSegCutWrongFalsely : Prop := fnExactSegCutRow.holds Try.pinned (OpenSpec.ofChange fnExactSegCutWrong)

/-- 'laws.FnExactConfPart': WHATEVER THE INPUT: true; the input reads as it did. -/
def fnExactConfPartSpec : ChangeSpec := { name := "fnExactConfPart", fn := fun _ => fun
  | [d1, d2] => { results := [.lit (.bool true)], args := [d1, d2] }
  | _ => none }
def fnExactConfPartRow : OpenClaim := { program := "ytkiagcekohlieaa", sum := "aa42ae12e44b3033f90942dc4266f47271d597416bd92b257c7f6cfb3d5c8d9c", func := "loop.example/skyway/laws.FnExactConfPart", spec := "fnExactConfPart", plainKeys := false, apart := false }
def FnExactConfPartSaid : Prop := fnExactConfPartRow.holds Try.pinned (OpenSpec.ofChange fnExactConfPartSpec)

/-- ITS FALSE NEIGHBOUR: 'it returns false'. Refute it at one input. -/
def fnExactConfPartWrong : ChangeSpec := { name := "fnExactConfPart", fn := fun _ => fun
  | [d1, d2] => { results := [.lit (.bool false)], args := [d1, d2] }
  | _ => none }
def FnExactConfPartWrongFalsely : Prop := fnExactConfPartRow.holds Try.pinned (OpenSpec.ofChange fnExactConfPartWrong)

/- THE SECOND FORM. 'bulk': how many values and letters a reading holds, each counted each time it is reached (what is shared counts as often as it is met; a slice's spare places count too). A statement '..UptoSaid' is the law's where the arguments, and the package variables that the reading takes, are together of bulk at most 1048576: NARROWER than '..Said'. Prove '..Said' where nothing that the law and all that it calls make is longer than what came in: it says more and counts as full. Else prove '..UptoSaid'. A law counts once. -/
mutual
def uptoBulk {H : Type} : DataW H → Nat
  | .lit (.string bytes) => bytes.length + 1
  | .lit _ => 1
  | .nil => 1
  | .ptr d => uptoBulk d + 1
  | .slice elems spare => uptoBulkAll elems + uptoBulkAll spare + 1
  | .agg parts => uptoBulkAll parts + 1
  | .iface _ d => uptoBulk d + 1
  | .map entries => uptoBulkEntries entries + 1
  | .held _ => 1
def uptoBulkAll {H : Type} : List (DataW H) → Nat
  | [] => 0
  | d :: r => uptoBulk d + uptoBulkAll r
def uptoBulkEntries {H : Type} : List (Lit × DataW H) → Nat
  | [] => 0
  | x :: r => uptoBulkEntry x + uptoBulkEntries r
def uptoBulkEntry {H : Type} : Lit × DataW H → Nat
  | (.string bytes, d) => bytes.length + uptoBulk d + 1
  | (_, d) => uptoBulk d + 1
 end
def uptoSmall : (H : Type) → List (DataW H) → Bool := fun _ ds => decide (uptoBulkAll ds ≤ 1048576)
def OpenSpec.upto (s : _root_.Go.ChangeSpec) : _root_.Go.OpenSpec := { _root_.Go.OpenSpec.ofChange s with cond := some uptoSmall }

/-- 'laws.FnExactPartNew', WHERE WHAT IT READS IS OF BULK AT MOST 1048576: true; the input reads as it did. -/
def fnExactPartNewUptoRow : OpenClaim := { program := "ytkiagcekohlieaa", sum := "aa42ae12e44b3033f90942dc4266f47271d597416bd92b257c7f6cfb3d5c8d9c", func := "loop.example/skyway/laws.FnExactPartNew", spec := "fnExactPartNew", plainKeys := false, apart := false, narrowed := true }
def FnExactPartNewUptoSaid : Prop := fnExactPartNewUptoRow.holds Try.pinned (OpenSpec.upto fnExactPartNewSpec)

/-- 'laws.FnExactPartStep', WHERE WHAT IT READS IS OF BULK AT MOST 1048576: true; the input reads as it did. -/
def fnExactPartStepUptoRow : OpenClaim := { program := "ytkiagcekohlieaa", sum := "aa42ae12e44b3033f90942dc4266f47271d597416bd92b257c7f6cfb3d5c8d9c", func := "loop.example/skyway/laws.FnExactPartStep", spec := "fnExactPartStep", unfollowed := true, recurses := true, plainKeys := false, apart := false, narrowed := true }
def FnExactPartStepUptoSaid : Prop := fnExactPartStepUptoRow.holds Try.pinned (OpenSpec.upto fnExactPartStepSpec)

/-- 'laws.FnExactPartRun', WHERE WHAT IT READS IS OF BULK AT MOST 1048576: true; the input reads as it did. -/
def fnExactPartRunUptoRow : OpenClaim := { program := "ytkiagcekohlieaa", sum := "aa42ae12e44b3033f90942dc4266f47271d597416bd92b257c7f6cfb3d5c8d9c", func := "loop.example/skyway/laws.FnExactPartRun", spec := "fnExactPartRun", unfollowed := true, recurses := true, plainKeys := false, apart := false, narrowed := true }
def FnExactPartRunUptoSaid : Prop := fnExactPartRunUptoRow.holds Try.pinned (OpenSpec.upto fnExactPartRunSpec)

/-- 'laws.FnExactRulesLet', WHERE WHAT IT READS IS OF BULK AT MOST 1048576: true; the input reads as it did. -/
def fnExactRulesLetUptoRow : OpenClaim := { program := "ytkiagcekohlieaa", sum := "aa42ae12e44b3033f90942dc4266f47271d597416bd92b257c7f6cfb3d5c8d9c", func := "loop.example/skyway/laws.FnExactRulesLet", spec := "fnExactRulesLet", plainKeys := false, apart := false, narrowed := true }
def FnExactRulesLetUptoSaid : Prop := fnExactRulesLetUptoRow.holds Try.pinned (OpenSpec.upto fnExactRulesLetSpec)

/-- 'laws.FnExactRulesLess', WHERE WHAT IT READS IS OF BULK AT MOST 1048576: true; the input reads as it did. -/
def fnExactRulesLessUptoRow : OpenClaim := { program := "ytkiagcekohlieaa", sum := "aa42ae12e44b3033f90942dc4266f47271d597416bd92b257c7f6cfb3d5c8d9c", func := "loop.example/skyway/laws.FnExactRulesLess", spec := "fnExactRulesLess", plainKeys := false, apart := false, narrowed := true }
def FnExactRulesLessUptoSaid : Prop := fnExactRulesLessUptoRow.holds Try.pinned (OpenSpec.upto fnExactRulesLessSpec)

/-- 'laws.FnExactPlanPut', WHERE WHAT IT READS IS OF BULK AT MOST 1048576: true; the input reads as it did. -/
def fnExactPlanPutUptoRow : OpenClaim := { program := "ytkiagcekohlieaa", sum := "aa42ae12e44b3033f90942dc4266f47271d597416bd92b257c7f6cfb3d5c8d9c", func := "loop.example/skyway/laws.FnExactPlanPut", spec := "fnExactPlanPut", unfollowed := true, recurses := true, plainKeys := false, apart := false, narrowed := true }
def FnExactPlanPutUptoSaid : Prop := fnExactPlanPutUptoRow.holds Try.pinned (OpenSpec.upto fnExactPlanPutSpec)

/-- 'laws.FnExactPlanDrop', WHERE WHAT IT READS IS OF BULK AT MOST 1048576: true; the input reads as it did. -/
def fnExactPlanDropUptoRow : OpenClaim := { program := "ytkiagcekohlieaa", sum := "aa42ae12e44b3033f90942dc4266f47271d597416bd92b257c7f6cfb3d5c8d9c", func := "loop.example/skyway/laws.FnExactPlanDrop", spec := "fnExactPlanDrop", unfollowed := true, recurses := true, plainKeys := false, apart := false, narrowed := true }
def FnExactPlanDropUptoSaid : Prop := fnExactPlanDropUptoRow.holds Try.pinned (OpenSpec.upto fnExactPlanDropSpec)

/-- 'laws.FnExactPlanShift', WHERE WHAT IT READS IS OF BULK AT MOST 1048576: true; the input reads as it did. -/
def fnExactPlanShiftUptoRow : OpenClaim := { program := "ytkiagcekohlieaa", sum := "aa42ae12e44b3033f90942dc4266f47271d597416bd92b257c7f6cfb3d5c8d9c", func := "loop.example/skyway/laws.FnExactPlanShift", spec := "fnExactPlanShift", unfollowed := true, recurses := true, plainKeys := false, apart := false, narrowed := true }
def FnExactPlanShiftUptoSaid : Prop := fnExactPlanShiftUptoRow.holds Try.pinned (OpenSpec.upto fnExactPlanShiftSpec)

/-- 'laws.FnExactPlanDue', WHERE WHAT IT READS IS OF BULK AT MOST 1048576: true; the input reads as it did. -/
def fnExactPlanDueUptoRow : OpenClaim := { program := "ytkiagcekohlieaa", sum := "aa42ae12e44b3033f90942dc4266f47271d597416bd92b257c7f6cfb3d5c8d9c", func := "loop.example/skyway/laws.FnExactPlanDue", spec := "fnExactPlanDue", unfollowed := true, recurses := true, plainKeys := false, apart := false, narrowed := true }
def FnExactPlanDueUptoSaid : Prop := fnExactPlanDueUptoRow.holds Try.pinned (OpenSpec.upto fnExactPlanDueSpec)

/-- 'laws.FnExactSegCut', WHERE WHAT IT READS IS OF BULK AT MOST 1048576: true; the input reads as it did. -/
def fnExactSegCutUptoRow : OpenClaim := { program := "ytkiagcekohlieaa", sum := "aa42ae12e44b3033f90942dc4266f47271d597416bd92b257c7f6cfb3d5c8d9c", func := "loop.example/skyway/laws.FnExactSegCut", spec := "fnExactSegCut", unfollowed := true, recurses := true, plainKeys := false, apart := false, narrowed := true }
def FnExactSegCutUptoSaid : Prop := fnExactSegCutUptoRow.holds Try.pinned (OpenSpec.upto fnExactSegCutSpec)

/-- 'laws.FnExactConfPart', WHERE WHAT IT READS IS OF BULK AT MOST 1048576: true; the input reads as it did. -/
def fnExactConfPartUptoRow : OpenClaim := { program := "ytkiagcekohlieaa", sum := "aa42ae12e44b3033f90942dc4266f47271d597416bd92b257c7f6cfb3d5c8d9c", func := "loop.example/skyway/laws.FnExactConfPart", spec := "fnExactConfPart", plainKeys := false, apart := false, narrowed := true }
def FnExactConfPartUptoSaid : Prop := fnExactConfPartUptoRow.holds Try.pinned (OpenSpec.upto fnExactConfPartSpec)

end Rows
end Go.Proofs.Ytkiagcekohlieaa
