/-
  No cell of these rows narrows 'for every input' (looked for: loops, veiled, ifaces, maps, wideKeys, modest, calm, conditions, laid).
  DERIVED. THE GIVEN ROWS OF THIS SEAT. 10 by the template 'for every input the law returns true; each argument reads behind the call as it read before'; 0 by the template 'total and deterministic' (their statements: YtfienpoebndfpaaTotals.lean).
  GIVEN WITH THE SEED: the statements are not yours to turn. If you find one false, say at which input.
  Laid BY PROGRAM, IN A SANDBOX (cutbox-rows.mjs): the forced cells as the released guide's own fill.sh prints them over the translation 127757a655299412… (all of the seat's roots in one cut). By AI agents, Wed Nov 11 2026. No macro, syntax, notation, axiom, sorry.
-/
import Derived.Test.YtfienpoebndfpaaChecked
import GoSem.Claim
import GoSem.ClaimJoined
import GoSem.ClaimMapViews
import Derived.JoinedTies
import Derived.KernelRfl
namespace Go.Proofs.Ytfienpoebndfpaa
/- THE CELL 'sum', in the pinned program and in every row, IS THE sha256 OF THE DUMP (.gsa) THAT YtfienpoebndfpaaProg.lean LOADS. Nothing in Lean hashes anything: it is a label: what it is worth is what the hold of that sum in a sandbox is worth. -/
noncomputable def Try.pinned : Pinned := { name := "ytfienpoebndfpaa", sum := "127757a655299412268d13e2748b637391431c4579d61cd8b54b2d1e082d13eb", checked := Try.checked }
namespace Rows
def none {H : Type} : Left H := { results := [], args := [] }

/-- 'laws.FnExactConfTurn': WHATEVER THE INPUT: true; the input reads as it did. -/
def fnExactConfTurnSpec : ChangeSpec := { name := "fnExactConfTurn", fn := fun _ => fun
  | [d1, d2, d3] => { results := [.lit (.bool true)], args := [d1, d2, d3] }
  | _ => none }
def fnExactConfTurnRow : OpenClaim := { program := "ytfienpoebndfpaa", sum := "127757a655299412268d13e2748b637391431c4579d61cd8b54b2d1e082d13eb", func := "loop.example/skyway/laws.FnExactConfTurn", spec := "fnExactConfTurn", plainKeys := false, apart := false }
def FnExactConfTurnSaid : Prop := fnExactConfTurnRow.holds Try.pinned (OpenSpec.ofChange fnExactConfTurnSpec)

/-- ITS FALSE NEIGHBOUR: 'it returns false'. Refute it at one input. -/
def fnExactConfTurnWrong : ChangeSpec := { name := "fnExactConfTurn", fn := fun _ => fun
  | [d1, d2, d3] => { results := [.lit (.bool false)], args := [d1, d2, d3] }
  | _ => none }
def FnExactConfTurnWrongFalsely : Prop := fnExactConfTurnRow.holds Try.pinned (OpenSpec.ofChange fnExactConfTurnWrong)

/-- 'laws.FnExactConfPart': WHATEVER THE INPUT: true; the input reads as it did. -/
def fnExactConfPartSpec : ChangeSpec := { name := "fnExactConfPart", fn := fun _ => fun
  | [d1, d2] => { results := [.lit (.bool true)], args := [d1, d2] }
  | _ => none }
def fnExactConfPartRow : OpenClaim := { program := "ytfienpoebndfpaa", sum := "127757a655299412268d13e2748b637391431c4579d61cd8b54b2d1e082d13eb", func := "loop.example/skyway/laws.FnExactConfPart", spec := "fnExactConfPart", plainKeys := false, apart := false }
def FnExactConfPartSaid : Prop := fnExactConfPartRow.holds Try.pinned (OpenSpec.ofChange fnExactConfPartSpec)

/-- ITS FALSE NEIGHBOUR: 'it returns false'. Refute it at one input. -/
def fnExactConfPartWrong : ChangeSpec := { name := "fnExactConfPart", fn := fun _ => fun
  | [d1, d2] => { results := [.lit (.bool false)], args := [d1, d2] }
  | _ => none }
def FnExactConfPartWrongFalsely : Prop := fnExactConfPartRow.holds Try.pinned (OpenSpec.ofChange fnExactConfPartWrong)

/-- 'laws.FnConfTurn': WHATEVER THE INPUT: true; the input reads as it did. -/
def fnConfTurnSpec : ChangeSpec := { name := "fnConfTurn", fn := fun _ => fun
  | [d] => { results := [.lit (.bool true)], args := [d] }
  | _ => none }
def fnConfTurnRow : OpenClaim := { program := "ytfienpoebndfpaa", sum := "127757a655299412268d13e2748b637391431c4579d61cd8b54b2d1e082d13eb", func := "loop.example/skyway/laws.FnConfTurn", spec := "fnConfTurn", plainKeys := false, apart := false }
def FnConfTurnSaid : Prop := fnConfTurnRow.holds Try.pinned (OpenSpec.ofChange fnConfTurnSpec)

/-- ITS FALSE NEIGHBOUR: 'it returns false'. Refute it at one input. -/
def fnConfTurnWrong : ChangeSpec := { name := "fnConfTurn", fn := fun _ => fun
  | [d] => { results := [.lit (.bool false)], args := [d] }
  | _ => none }
def FnConfTurnWrongFalsely : Prop := fnConfTurnRow.holds Try.pinned (OpenSpec.ofChange fnConfTurnWrong)

/-- 'laws.FnConfPart': WHATEVER THE INPUT: true; the input reads as it did. -/
def fnConfPartSpec : ChangeSpec := { name := "fnConfPart", fn := fun _ => fun
  | [d] => { results := [.lit (.bool true)], args := [d] }
  | _ => none }
def fnConfPartRow : OpenClaim := { program := "ytfienpoebndfpaa", sum := "127757a655299412268d13e2748b637391431c4579d61cd8b54b2d1e082d13eb", func := "loop.example/skyway/laws.FnConfPart", spec := "fnConfPart", plainKeys := false, apart := false }
def FnConfPartSaid : Prop := fnConfPartRow.holds Try.pinned (OpenSpec.ofChange fnConfPartSpec)

/-- ITS FALSE NEIGHBOUR: 'it returns false'. Refute it at one input. -/
def fnConfPartWrong : ChangeSpec := { name := "fnConfPart", fn := fun _ => fun
  | [d] => { results := [.lit (.bool false)], args := [d] }
  | _ => none }
def FnConfPartWrongFalsely : Prop := fnConfPartRow.holds Try.pinned (OpenSpec.ofChange fnConfPartWrong)

/-- 'laws.FnExactRulesLet': WHATEVER THE INPUT: true; the input reads as it did. -/
def fnExactRulesLetSpec : ChangeSpec := { name := "fnExactRulesLet", fn := fun _ => fun
  | [d1, d2, d3] => { results := [.lit (.bool true)], args := [d1, d2, d3] }
  | _ => none }
def fnExactRulesLetRow : OpenClaim := { program := "ytfienpoebndfpaa", sum := "127757a655299412268d13e2748b637391431c4579d61cd8b54b2d1e082d13eb", func := "loop.example/skyway/laws.FnExactRulesLet", spec := "fnExactRulesLet", plainKeys := false, apart := false }
def FnExactRulesLetSaid : Prop := fnExactRulesLetRow.holds Try.pinned (OpenSpec.ofChange fnExactRulesLetSpec)

/-- ITS FALSE NEIGHBOUR: 'it returns false'. Refute it at one input. -/
def fnExactRulesLetWrong : ChangeSpec := { name := "fnExactRulesLet", fn := fun _ => fun
  | [d1, d2, d3] => { results := [.lit (.bool false)], args := [d1, d2, d3] }
  | _ => none }
def FnExactRulesLetWrongFalsely : Prop := fnExactRulesLetRow.holds Try.pinned (OpenSpec.ofChange fnExactRulesLetWrong)

/-- 'laws.FnRulesLet': WHATEVER THE INPUT: true; the input reads as it did. -/
def fnRulesLetSpec : ChangeSpec := { name := "fnRulesLet", fn := fun _ => fun
  | [d1, d2] => { results := [.lit (.bool true)], args := [d1, d2] }
  | _ => none }
def fnRulesLetRow : OpenClaim := { program := "ytfienpoebndfpaa", sum := "127757a655299412268d13e2748b637391431c4579d61cd8b54b2d1e082d13eb", func := "loop.example/skyway/laws.FnRulesLet", spec := "fnRulesLet", plainKeys := false, apart := false }
def FnRulesLetSaid : Prop := fnRulesLetRow.holds Try.pinned (OpenSpec.ofChange fnRulesLetSpec)

/-- ITS FALSE NEIGHBOUR: 'it returns false'. Refute it at one input. -/
def fnRulesLetWrong : ChangeSpec := { name := "fnRulesLet", fn := fun _ => fun
  | [d1, d2] => { results := [.lit (.bool false)], args := [d1, d2] }
  | _ => none }
def FnRulesLetWrongFalsely : Prop := fnRulesLetRow.holds Try.pinned (OpenSpec.ofChange fnRulesLetWrong)

/-- 'laws.FnExactRulesLess': WHATEVER THE INPUT: true; the input reads as it did. -/
def fnExactRulesLessSpec : ChangeSpec := { name := "fnExactRulesLess", fn := fun _ => fun
  | [d] => { results := [.lit (.bool true)], args := [d] }
  | _ => none }
def fnExactRulesLessRow : OpenClaim := { program := "ytfienpoebndfpaa", sum := "127757a655299412268d13e2748b637391431c4579d61cd8b54b2d1e082d13eb", func := "loop.example/skyway/laws.FnExactRulesLess", spec := "fnExactRulesLess", plainKeys := false, apart := false }
def FnExactRulesLessSaid : Prop := fnExactRulesLessRow.holds Try.pinned (OpenSpec.ofChange fnExactRulesLessSpec)

/-- ITS FALSE NEIGHBOUR: 'it returns false'. Refute it at one input. -/
def fnExactRulesLessWrong : ChangeSpec := { name := "fnExactRulesLess", fn := fun _ => fun
  | [d] => { results := [.lit (.bool false)], args := [d] }
  | _ => none }
def FnExactRulesLessWrongFalsely : Prop := fnExactRulesLessRow.holds Try.pinned (OpenSpec.ofChange fnExactRulesLessWrong)

/-- 'laws.FnRulesLess': WHATEVER THE INPUT: true; the input reads as it did. -/
def fnRulesLessSpec : ChangeSpec := { name := "fnRulesLess", fn := fun _ => fun
  | [d1, d2] => { results := [.lit (.bool true)], args := [d1, d2] }
  | _ => none }
def fnRulesLessRow : OpenClaim := { program := "ytfienpoebndfpaa", sum := "127757a655299412268d13e2748b637391431c4579d61cd8b54b2d1e082d13eb", func := "loop.example/skyway/laws.FnRulesLess", spec := "fnRulesLess", plainKeys := false, apart := false }
def FnRulesLessSaid : Prop := fnRulesLessRow.holds Try.pinned (OpenSpec.ofChange fnRulesLessSpec)

/-- ITS FALSE NEIGHBOUR: 'it returns false'. Refute it at one input. -/
def fnRulesLessWrong : ChangeSpec := { name := "fnRulesLess", fn := fun _ => fun
  | [d1, d2] => { results := [.lit (.bool false)], args := [d1, d2] }
  | _ => none }
def FnRulesLessWrongFalsely : Prop := fnRulesLessRow.holds Try.pinned (OpenSpec.ofChange fnRulesLessWrong)

/-- 'laws.FnExactFopSend': WHATEVER THE INPUT: true; the input reads as it did. -/
def fnExactFopSendSpec : ChangeSpec := { name := "fnExactFopSend", fn := fun _ => fun
  | [d1, d2] => { results := [.lit (.bool true)], args := [d1, d2] }
  | _ => none }
def fnExactFopSendRow : OpenClaim := { program := "ytfienpoebndfpaa", sum := "127757a655299412268d13e2748b637391431c4579d61cd8b54b2d1e082d13eb", func := "loop.example/skyway/laws.FnExactFopSend", spec := "fnExactFopSend", unfollowed := true, recurses := true, plainKeys := false, apart := false }
def FnExactFopSendSaid : Prop := fnExactFopSendRow.holds Try.pinned (OpenSpec.ofChange fnExactFopSendSpec)

/-- ITS FALSE NEIGHBOUR: 'it returns false'. Refute it at one input. -/
def fnExactFopSendWrong : ChangeSpec := { name := "fnExactFopSend", fn := fun _ => fun
  | [d1, d2] => { results := [.lit (.bool false)], args := [d1, d2] }
  | _ => none }
def FnExactFopSendWrongFalsely : Prop := fnExactFopSendRow.holds Try.pinned (OpenSpec.ofChange fnExactFopSendWrong)

/-- 'laws.FnExactFopHear': WHATEVER THE INPUT: true; the input reads as it did. -/
def fnExactFopHearSpec : ChangeSpec := { name := "fnExactFopHear", fn := fun _ => fun
  | [d1, d2] => { results := [.lit (.bool true)], args := [d1, d2] }
  | _ => none }
def fnExactFopHearRow : OpenClaim := { program := "ytfienpoebndfpaa", sum := "127757a655299412268d13e2748b637391431c4579d61cd8b54b2d1e082d13eb", func := "loop.example/skyway/laws.FnExactFopHear", spec := "fnExactFopHear", unfollowed := true, recurses := true, plainKeys := false, apart := false }
def FnExactFopHearSaid : Prop := fnExactFopHearRow.holds Try.pinned (OpenSpec.ofChange fnExactFopHearSpec)

/-- ITS FALSE NEIGHBOUR: 'it returns false'. Refute it at one input. -/
def fnExactFopHearWrong : ChangeSpec := { name := "fnExactFopHear", fn := fun _ => fun
  | [d1, d2] => { results := [.lit (.bool false)], args := [d1, d2] }
  | _ => none }
def FnExactFopHearWrongFalsely : Prop := fnExactFopHearRow.holds Try.pinned (OpenSpec.ofChange fnExactFopHearWrong)

/- THE SECOND FORM. 'bulk': how many values and letters a reading holds, each counted each time it is reached (what is shared counts as often as it is met; a slice's spare places count too). A statement '..UptoSaid' is the law's where the arguments, and the package variables that the reading takes, are together of bulk at most 1048576: NARROWER than '..Said'. Prove '..Said' where nothing that the law and all that it calls make is longer than what came in: it says more and counts as full. Else prove '..UptoSaid'. A law counts once. -/
mutual
def uptoBulk {H : Type} : DataW H → Nat
  | .lit (.string bytes) => bytes.length + 1
  | .lit _ => 1
  | .nil => 1
  | .ptr d => uptoBulk d + 1
  | .slice elems spare => uptoBulkAll elems + uptoBulkAll spare + 1
  | .agg parts => uptoBulkAll parts + 1
  | .iface _ d => uptoBulk d + 1
  | .map entries => uptoBulkEntries entries + 1
  | .held _ => 1
def uptoBulkAll {H : Type} : List (DataW H) → Nat
  | [] => 0
  | d :: r => uptoBulk d + uptoBulkAll r
def uptoBulkEntries {H : Type} : List (Lit × DataW H) → Nat
  | [] => 0
  | x :: r => uptoBulkEntry x + uptoBulkEntries r
def uptoBulkEntry {H : Type} : Lit × DataW H → Nat
  | (.string bytes, d) => bytes.length + uptoBulk d + 1
  | (_, d) => uptoBulk d + 1
 end
def uptoSmall : (H : Type) → List (DataW H) → Bool := fun _ ds => decide (uptoBulkAll ds ≤ 1048576)
def OpenSpec.upto (s : _root_.Go.ChangeSpec) : _root_.Go.OpenSpec := { _root_.Go.OpenSpec.ofChange s with cond := some uptoSmall }

/-- 'laws.FnExactConfTurn', WHERE WHAT IT READS IS OF BULK AT MOST 1048576: true; the input reads as it did. -/
def fnExactConfTurnUptoRow : OpenClaim := { program := "ytfienpoebndfpaa", sum := "127757a655299412268d13e2748b637391431c4579d61cd8b54b2d1e082d13eb", func := "loop.example/skyway/laws.FnExactConfTurn", spec := "fnExactConfTurn", plainKeys := false, apart := false, narrowed := true }
def FnExactConfTurnUptoSaid : Prop := fnExactConfTurnUptoRow.holds Try.pinned (OpenSpec.upto fnExactConfTurnSpec)

/-- 'laws.FnExactConfPart', WHERE WHAT IT READS IS OF BULK AT MOST 1048576: true; the input reads as it did. -/
def fnExactConfPartUptoRow : OpenClaim := { program := "ytfienpoebndfpaa", sum := "127757a655299412268d13e2748b637391431c4579d61cd8b54b2d1e082d13eb", func := "loop.example/skyway/laws.FnExactConfPart", spec := "fnExactConfPart", plainKeys := false, apart := false, narrowed := true }
def FnExactConfPartUptoSaid : Prop := fnExactConfPartUptoRow.holds Try.pinned (OpenSpec.upto fnExactConfPartSpec)

/-- 'laws.FnConfTurn', WHERE WHAT IT READS IS OF BULK AT MOST 1048576: true; the input reads as it did. -/
def fnConfTurnUptoRow : OpenClaim := { program := "ytfienpoebndfpaa", sum := "127757a655299412268d13e2748b637391431c4579d61cd8b54b2d1e082d13eb", func := "loop.example/skyway/laws.FnConfTurn", spec := "fnConfTurn", plainKeys := false, apart := false, narrowed := true }
def FnConfTurnUptoSaid : Prop := fnConfTurnUptoRow.holds Try.pinned (OpenSpec.upto fnConfTurnSpec)

/-- 'laws.FnConfPart', WHERE WHAT IT READS IS OF BULK AT MOST 1048576: true; the input reads as it did. -/
def fnConfPartUptoRow : OpenClaim := { program := "ytfienpoebndfpaa", sum := "127757a655299412268d13e2748b637391431c4579d61cd8b54b2d1e082d13eb", func := "loop.example/skyway/laws.FnConfPart", spec := "fnConfPart", plainKeys := false, apart := false, narrowed := true }
def FnConfPartUptoSaid : Prop := fnConfPartUptoRow.holds Try.pinned (OpenSpec.upto fnConfPartSpec)

/-- 'laws.FnExactRulesLet', WHERE WHAT IT READS IS OF BULK AT MOST 1048576: true; the input reads as it did. -/
def fnExactRulesLetUptoRow : OpenClaim := { program := "ytfienpoebndfpaa", sum := "127757a655299412268d13e2748b637391431c4579d61cd8b54b2d1e082d13eb", func := "loop.example/skyway/laws.FnExactRulesLet", spec := "fnExactRulesLet", plainKeys := false, apart := false, narrowed := true }
def FnExactRulesLetUptoSaid : Prop := fnExactRulesLetUptoRow.holds Try.pinned (OpenSpec.upto fnExactRulesLetSpec)

/-- 'laws.FnRulesLet', WHERE WHAT IT READS IS OF BULK AT MOST 1048576: true; the input reads as it did. -/
def fnRulesLetUptoRow : OpenClaim := { program := "ytfienpoebndfpaa", sum := "127757a655299412268d13e2748b637391431c4579d61cd8b54b2d1e082d13eb", func := "loop.example/skyway/laws.FnRulesLet", spec := "fnRulesLet", plainKeys := false, apart := false, narrowed := true }
def FnRulesLetUptoSaid : Prop := fnRulesLetUptoRow.holds Try.pinned (OpenSpec.upto fnRulesLetSpec)

/-- 'laws.FnExactRulesLess', WHERE WHAT IT READS IS OF BULK AT MOST 1048576: true; the input reads as it did. -/
def fnExactRulesLessUptoRow : OpenClaim := { program := "ytfienpoebndfpaa", sum := "127757a655299412268d13e2748b637391431c4579d61cd8b54b2d1e082d13eb", func := "loop.example/skyway/laws.FnExactRulesLess", spec := "fnExactRulesLess", plainKeys := false, apart := false, narrowed := true }
def FnExactRulesLessUptoSaid : Prop := fnExactRulesLessUptoRow.holds Try.pinned (OpenSpec.upto fnExactRulesLessSpec)

/-- 'laws.FnRulesLess', WHERE WHAT IT READS IS OF BULK AT MOST 1048576: true; the input reads as it did. -/
def fnRulesLessUptoRow : OpenClaim := { program := "ytfienpoebndfpaa", sum := "127757a655299412268d13e2748b637391431c4579d61cd8b54b2d1e082d13eb", func := "loop.example/skyway/laws.FnRulesLess", spec := "fnRulesLess", plainKeys := false, apart := false, narrowed := true }
def FnRulesLessUptoSaid : Prop := fnRulesLessUptoRow.holds Try.pinned (OpenSpec.upto fnRulesLessSpec)

/-- 'laws.FnExactFopSend', WHERE WHAT IT READS IS OF BULK AT MOST 1048576: true; the input reads as it did. -/
def fnExactFopSendUptoRow : OpenClaim := { program := "ytfienpoebndfpaa", sum := "127757a655299412268d13e2748b637391431c4579d61cd8b54b2d1e082d13eb", func := "loop.example/skyway/laws.FnExactFopSend", spec := "fnExactFopSend", unfollowed := true, recurses := true, plainKeys := false, apart := false, narrowed := true }
def FnExactFopSendUptoSaid : Prop := fnExactFopSendUptoRow.holds Try.pinned (OpenSpec.upto fnExactFopSendSpec)

/-- 'laws.FnExactFopHear', WHERE WHAT IT READS IS OF BULK AT MOST 1048576: true; the input reads as it did. -/
def fnExactFopHearUptoRow : OpenClaim := { program := "ytfienpoebndfpaa", sum := "127757a655299412268d13e2748b637391431c4579d61cd8b54b2d1e082d13eb", func := "loop.example/skyway/laws.FnExactFopHear", spec := "fnExactFopHear", unfollowed := true, recurses := true, plainKeys := false, apart := false, narrowed := true }
def FnExactFopHearUptoSaid : Prop := fnExactFopHearUptoRow.holds Try.pinned (OpenSpec.upto fnExactFopHearSpec)

end Rows
end Go.Proofs.Ytfienpoebndfpaa
