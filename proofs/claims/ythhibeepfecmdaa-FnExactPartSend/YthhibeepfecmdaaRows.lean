/-
  No cell of these rows narrows 'for every input' (looked for: loops, veiled, ifaces, maps, wideKeys, modest, calm, conditions, laid).
  DERIVED. THE GIVEN ROWS OF THIS SEAT. 12 by the template 'for every input the law returns true; each argument reads behind the call as it read before'; 0 by the template 'total and deterministic' (their statements: YthhibeepfecmdaaTotals.lean).
  GIVEN WITH THE SEED: the statements are not yours to turn. If you find one false, say at which input.
  Laid BY PROGRAM, IN A SANDBOX (cutbox-rows.mjs): the forced cells as the released guide's own fill.sh prints them over the translation 37054a23056cf143… (all of the seat's roots in one cut). By AI agents, Wed Nov 11 2026. No macro, syntax, notation, axiom, sorry.
-/
import Derived.Test.YthhibeepfecmdaaChecked
import GoSem.Claim
import GoSem.ClaimJoined
import GoSem.ClaimMapViews
import Derived.JoinedTies
import Derived.KernelRfl
namespace Go.Proofs.Ythhibeepfecmdaa
/- THE CELL 'sum', in the pinned program and in every row, IS THE sha256 OF THE DUMP (.gsa) THAT YthhibeepfecmdaaProg.lean LOADS. Nothing in Lean hashes anything: it is a label: what it is worth is what the hold of that sum in a sandbox is worth. -/
noncomputable def Try.pinned : Pinned := { name := "ythhibeepfecmdaa", sum := "37054a23056cf1432a308b35103ee1ef16308d46e49af3f6fac9f272a00a7d68", checked := Try.checked }
namespace Rows
def none {H : Type} : Left H := { results := [], args := [] }

/-- 'laws.FnCltuBack': WHATEVER THE INPUT: true; the input reads as it did. -/
def fnCltuBackSpec : ChangeSpec := { name := "fnCltuBack", fn := fun _ => fun
  | [d] => { results := [.lit (.bool true)], args := [d] }
  | _ => none }
def fnCltuBackRow : OpenClaim := { program := "ythhibeepfecmdaa", sum := "37054a23056cf1432a308b35103ee1ef16308d46e49af3f6fac9f272a00a7d68", func := "loop.example/skyway/laws.FnCltuBack", spec := "fnCltuBack", inPlace := ["internal/abi.NoEscape", "internal/bytealg.MakeNoZero"], unfollowed := true, recurses := true, apart := false }
def FnCltuBackSaid : Prop := fnCltuBackRow.holds Try.pinned (OpenSpec.ofChange fnCltuBackSpec)

/-- ITS FALSE NEIGHBOUR: 'it returns false'. Refute it at one input. -/
def fnCltuBackWrong : ChangeSpec := { name := "fnCltuBack", fn := fun _ => fun
  | [d] => { results := [.lit (.bool false)], args := [d] }
  | _ => none }
def FnCltuBackWrongFalsely : Prop := fnCltuBackRow.holds Try.pinned (OpenSpec.ofChange fnCltuBackWrong)

/-- 'laws.FnCltuGet': WHATEVER THE INPUT: true; the input reads as it did. -/
def fnCltuGetSpec : ChangeSpec := { name := "fnCltuGet", fn := fun _ => fun
  | [d] => { results := [.lit (.bool true)], args := [d] }
  | _ => none }
def fnCltuGetRow : OpenClaim := { program := "ythhibeepfecmdaa", sum := "37054a23056cf1432a308b35103ee1ef16308d46e49af3f6fac9f272a00a7d68", func := "loop.example/skyway/laws.FnCltuGet", spec := "fnCltuGet", unfollowed := true, recurses := true, apart := false }
def FnCltuGetSaid : Prop := fnCltuGetRow.holds Try.pinned (OpenSpec.ofChange fnCltuGetSpec)

/-- ITS FALSE NEIGHBOUR: 'it returns false'. Refute it at one input. -/
def fnCltuGetWrong : ChangeSpec := { name := "fnCltuGet", fn := fun _ => fun
  | [d] => { results := [.lit (.bool false)], args := [d] }
  | _ => none }
def FnCltuGetWrongFalsely : Prop := fnCltuGetRow.holds Try.pinned (OpenSpec.ofChange fnCltuGetWrong)

/-- 'laws.FnCltuSpoil': WHATEVER THE INPUT: true; the input reads as it did. -/
def fnCltuSpoilSpec : ChangeSpec := { name := "fnCltuSpoil", fn := fun _ => fun
  | [d1, d2] => { results := [.lit (.bool true)], args := [d1, d2] }
  | _ => none }
def fnCltuSpoilRow : OpenClaim := { program := "ythhibeepfecmdaa", sum := "37054a23056cf1432a308b35103ee1ef16308d46e49af3f6fac9f272a00a7d68", func := "loop.example/skyway/laws.FnCltuSpoil", spec := "fnCltuSpoil", inPlace := ["internal/abi.NoEscape", "internal/bytealg.MakeNoZero"], unfollowed := true, recurses := true, apart := false }
def FnCltuSpoilSaid : Prop := fnCltuSpoilRow.holds Try.pinned (OpenSpec.ofChange fnCltuSpoilSpec)

/-- ITS FALSE NEIGHBOUR: 'it returns false'. Refute it at one input. -/
def fnCltuSpoilWrong : ChangeSpec := { name := "fnCltuSpoil", fn := fun _ => fun
  | [d1, d2] => { results := [.lit (.bool false)], args := [d1, d2] }
  | _ => none }
def FnCltuSpoilWrongFalsely : Prop := fnCltuSpoilRow.holds Try.pinned (OpenSpec.ofChange fnCltuSpoilWrong)

/-- 'laws.FnExactFopSend': WHATEVER THE INPUT: true; the input reads as it did. -/
def fnExactFopSendSpec : ChangeSpec := { name := "fnExactFopSend", fn := fun _ => fun
  | [d1, d2] => { results := [.lit (.bool true)], args := [d1, d2] }
  | _ => none }
def fnExactFopSendRow : OpenClaim := { program := "ythhibeepfecmdaa", sum := "37054a23056cf1432a308b35103ee1ef16308d46e49af3f6fac9f272a00a7d68", func := "loop.example/skyway/laws.FnExactFopSend", spec := "fnExactFopSend", unfollowed := true, recurses := true, apart := false }
def FnExactFopSendSaid : Prop := fnExactFopSendRow.holds Try.pinned (OpenSpec.ofChange fnExactFopSendSpec)

/-- ITS FALSE NEIGHBOUR: 'it returns false'. Refute it at one input. -/
def fnExactFopSendWrong : ChangeSpec := { name := "fnExactFopSend", fn := fun _ => fun
  | [d1, d2] => { results := [.lit (.bool false)], args := [d1, d2] }
  | _ => none }
def FnExactFopSendWrongFalsely : Prop := fnExactFopSendRow.holds Try.pinned (OpenSpec.ofChange fnExactFopSendWrong)

/-- 'laws.FnExactFopHear': WHATEVER THE INPUT: true; the input reads as it did. -/
def fnExactFopHearSpec : ChangeSpec := { name := "fnExactFopHear", fn := fun _ => fun
  | [d1, d2] => { results := [.lit (.bool true)], args := [d1, d2] }
  | _ => none }
def fnExactFopHearRow : OpenClaim := { program := "ythhibeepfecmdaa", sum := "37054a23056cf1432a308b35103ee1ef16308d46e49af3f6fac9f272a00a7d68", func := "loop.example/skyway/laws.FnExactFopHear", spec := "fnExactFopHear", unfollowed := true, recurses := true, apart := false }
def FnExactFopHearSaid : Prop := fnExactFopHearRow.holds Try.pinned (OpenSpec.ofChange fnExactFopHearSpec)

/-- ITS FALSE NEIGHBOUR: 'it returns false'. Refute it at one input. -/
def fnExactFopHearWrong : ChangeSpec := { name := "fnExactFopHear", fn := fun _ => fun
  | [d1, d2] => { results := [.lit (.bool false)], args := [d1, d2] }
  | _ => none }
def FnExactFopHearWrongFalsely : Prop := fnExactFopHearRow.holds Try.pinned (OpenSpec.ofChange fnExactFopHearWrong)

/-- 'laws.FnExactFopAgain': WHATEVER THE INPUT: true; the input reads as it did. -/
def fnExactFopAgainSpec : ChangeSpec := { name := "fnExactFopAgain", fn := fun _ => fun
  | [d] => { results := [.lit (.bool true)], args := [d] }
  | _ => none }
def fnExactFopAgainRow : OpenClaim := { program := "ythhibeepfecmdaa", sum := "37054a23056cf1432a308b35103ee1ef16308d46e49af3f6fac9f272a00a7d68", func := "loop.example/skyway/laws.FnExactFopAgain", spec := "fnExactFopAgain", unfollowed := true, recurses := true, apart := false }
def FnExactFopAgainSaid : Prop := fnExactFopAgainRow.holds Try.pinned (OpenSpec.ofChange fnExactFopAgainSpec)

/-- ITS FALSE NEIGHBOUR: 'it returns false'. Refute it at one input. -/
def fnExactFopAgainWrong : ChangeSpec := { name := "fnExactFopAgain", fn := fun _ => fun
  | [d] => { results := [.lit (.bool false)], args := [d] }
  | _ => none }
def FnExactFopAgainWrongFalsely : Prop := fnExactFopAgainRow.holds Try.pinned (OpenSpec.ofChange fnExactFopAgainWrong)

/-- 'laws.FnExactRulesOk': WHATEVER THE INPUT: true; the input reads as it did. -/
def fnExactRulesOkSpec : ChangeSpec := { name := "fnExactRulesOk", fn := fun _ => fun
  | [d] => { results := [.lit (.bool true)], args := [d] }
  | _ => none }
def fnExactRulesOkRow : OpenClaim := { program := "ythhibeepfecmdaa", sum := "37054a23056cf1432a308b35103ee1ef16308d46e49af3f6fac9f272a00a7d68", func := "loop.example/skyway/laws.FnExactRulesOk", spec := "fnExactRulesOk", apart := false }
def FnExactRulesOkSaid : Prop := fnExactRulesOkRow.holds Try.pinned (OpenSpec.ofChange fnExactRulesOkSpec)

/-- ITS FALSE NEIGHBOUR: 'it returns false'. Refute it at one input. -/
def fnExactRulesOkWrong : ChangeSpec := { name := "fnExactRulesOk", fn := fun _ => fun
  | [d] => { results := [.lit (.bool false)], args := [d] }
  | _ => none }
def FnExactRulesOkWrongFalsely : Prop := fnExactRulesOkRow.holds Try.pinned (OpenSpec.ofChange fnExactRulesOkWrong)

/-- 'laws.FnExactPlanOk': WHATEVER THE INPUT: true; the input reads as it did. -/
def fnExactPlanOkSpec : ChangeSpec := { name := "fnExactPlanOk", fn := fun _ => fun
  | [d] => { results := [.lit (.bool true)], args := [d] }
  | _ => none }
def fnExactPlanOkRow : OpenClaim := { program := "ythhibeepfecmdaa", sum := "37054a23056cf1432a308b35103ee1ef16308d46e49af3f6fac9f272a00a7d68", func := "loop.example/skyway/laws.FnExactPlanOk", spec := "fnExactPlanOk", apart := false }
def FnExactPlanOkSaid : Prop := fnExactPlanOkRow.holds Try.pinned (OpenSpec.ofChange fnExactPlanOkSpec)

/-- ITS FALSE NEIGHBOUR: 'it returns false'. Refute it at one input. -/
def fnExactPlanOkWrong : ChangeSpec := { name := "fnExactPlanOk", fn := fun _ => fun
  | [d] => { results := [.lit (.bool false)], args := [d] }
  | _ => none }
def FnExactPlanOkWrongFalsely : Prop := fnExactPlanOkRow.holds Try.pinned (OpenSpec.ofChange fnExactPlanOkWrong)

/-- 'laws.FnExactProgOk': WHATEVER THE INPUT: true; the input reads as it did. -/
def fnExactProgOkSpec : ChangeSpec := { name := "fnExactProgOk", fn := fun _ => fun
  | [d] => { results := [.lit (.bool true)], args := [d] }
  | _ => none }
def fnExactProgOkRow : OpenClaim := { program := "ythhibeepfecmdaa", sum := "37054a23056cf1432a308b35103ee1ef16308d46e49af3f6fac9f272a00a7d68", func := "loop.example/skyway/laws.FnExactProgOk", spec := "fnExactProgOk", apart := false }
def FnExactProgOkSaid : Prop := fnExactProgOkRow.holds Try.pinned (OpenSpec.ofChange fnExactProgOkSpec)

/-- ITS FALSE NEIGHBOUR: 'it returns false'. Refute it at one input. -/
def fnExactProgOkWrong : ChangeSpec := { name := "fnExactProgOk", fn := fun _ => fun
  | [d] => { results := [.lit (.bool false)], args := [d] }
  | _ => none }
def FnExactProgOkWrongFalsely : Prop := fnExactProgOkRow.holds Try.pinned (OpenSpec.ofChange fnExactProgOkWrong)

/-- 'laws.FnExactPartOk': WHATEVER THE INPUT: true; the input reads as it did. -/
def fnExactPartOkSpec : ChangeSpec := { name := "fnExactPartOk", fn := fun _ => fun
  | [d] => { results := [.lit (.bool true)], args := [d] }
  | _ => none }
def fnExactPartOkRow : OpenClaim := { program := "ythhibeepfecmdaa", sum := "37054a23056cf1432a308b35103ee1ef16308d46e49af3f6fac9f272a00a7d68", func := "loop.example/skyway/laws.FnExactPartOk", spec := "fnExactPartOk", apart := false }
def FnExactPartOkSaid : Prop := fnExactPartOkRow.holds Try.pinned (OpenSpec.ofChange fnExactPartOkSpec)

/-- ITS FALSE NEIGHBOUR: 'it returns false'. Refute it at one input. -/
def fnExactPartOkWrong : ChangeSpec := { name := "fnExactPartOk", fn := fun _ => fun
  | [d] => { results := [.lit (.bool false)], args := [d] }
  | _ => none }
def FnExactPartOkWrongFalsely : Prop := fnExactPartOkRow.holds Try.pinned (OpenSpec.ofChange fnExactPartOkWrong)

/-- 'laws.FnExactPartSend': WHATEVER THE INPUT: true; the input reads as it did. -/
def fnExactPartSendSpec : ChangeSpec := { name := "fnExactPartSend", fn := fun _ => fun
  | [d1, d2] => { results := [.lit (.bool true)], args := [d1, d2] }
  | _ => none }
def fnExactPartSendRow : OpenClaim := { program := "ythhibeepfecmdaa", sum := "37054a23056cf1432a308b35103ee1ef16308d46e49af3f6fac9f272a00a7d68", func := "loop.example/skyway/laws.FnExactPartSend", spec := "fnExactPartSend", apart := false }
def FnExactPartSendSaid : Prop := fnExactPartSendRow.holds Try.pinned (OpenSpec.ofChange fnExactPartSendSpec)

/-- ITS FALSE NEIGHBOUR: 'it returns false'. Refute it at one input. -/
def fnExactPartSendWrong : ChangeSpec := { name := "fnExactPartSend", fn := fun _ => fun
  | [d1, d2] => { results := [.lit (.bool false)], args := [d1, d2] }
  | _ => none }
def FnExactPartSendWrongFalsely : Prop := fnExactPartSendRow.holds Try.pinned (OpenSpec.ofChange fnExactPartSendWrong)

/-- 'laws.FnExactConfTurn': WHATEVER THE INPUT: true; the input reads as it did. -/
def fnExactConfTurnSpec : ChangeSpec := { name := "fnExactConfTurn", fn := fun _ => fun
  | [d1, d2, d3] => { results := [.lit (.bool true)], args := [d1, d2, d3] }
  | _ => none }
def fnExactConfTurnRow : OpenClaim := { program := "ythhibeepfecmdaa", sum := "37054a23056cf1432a308b35103ee1ef16308d46e49af3f6fac9f272a00a7d68", func := "loop.example/skyway/laws.FnExactConfTurn", spec := "fnExactConfTurn", apart := false }
def FnExactConfTurnSaid : Prop := fnExactConfTurnRow.holds Try.pinned (OpenSpec.ofChange fnExactConfTurnSpec)

/-- ITS FALSE NEIGHBOUR: 'it returns false'. Refute it at one input. -/
def fnExactConfTurnWrong : ChangeSpec := { name := "fnExactConfTurn", fn := fun _ => fun
  | [d1, d2, d3] => { results := [.lit (.bool false)], args := [d1, d2, d3] }
  | _ => none }
def FnExactConfTurnWrongFalsely : Prop := fnExactConfTurnRow.holds Try.pinned (OpenSpec.ofChange fnExactConfTurnWrong)

/- THE SECOND FORM. 'bulk': how many values and letters a reading holds, each counted each time it is reached (what is shared counts as often as it is met; a slice's spare places count too). A statement '..UptoSaid' is the law's where the arguments, and the package variables that the reading takes, are together of bulk at most 1048576: NARROWER than '..Said'. Prove '..Said' where nothing that the law and all that it calls make is longer than what came in: it says more and counts as full. Else prove '..UptoSaid'. A law counts once. -/
mutual
def uptoBulk {H : Type} : DataW H → Nat
  | .lit (.string bytes) => bytes.length + 1
  | .lit _ => 1
  | .nil => 1
  | .ptr d => uptoBulk d + 1
  | .slice elems spare => uptoBulkAll elems + uptoBulkAll spare + 1
  | .agg parts => uptoBulkAll parts + 1
  | .iface _ d => uptoBulk d + 1
  | .map entries => uptoBulkEntries entries + 1
  | .held _ => 1
def uptoBulkAll {H : Type} : List (DataW H) → Nat
  | [] => 0
  | d :: r => uptoBulk d + uptoBulkAll r
def uptoBulkEntries {H : Type} : List (Lit × DataW H) → Nat
  | [] => 0
  | x :: r => uptoBulkEntry x + uptoBulkEntries r
def uptoBulkEntry {H : Type} : Lit × DataW H → Nat
  | (.string bytes, d) => bytes.length + uptoBulk d + 1
  | (_, d) => uptoBulk d + 1
 end
def uptoSmall : (H : Type) → List (DataW H) → Bool := fun _ ds => decide (uptoBulkAll ds ≤ 1048576)
def OpenSpec.upto (s : _root_.Go.ChangeSpec) : _root_.Go.OpenSpec := { _root_.Go.OpenSpec.ofChange s with cond := some uptoSmall }

/-- 'laws.FnCltuBack', WHERE WHAT IT READS IS OF BULK AT MOST 1048576: true; the input reads as it did. -/
def fnCltuBackUptoRow : OpenClaim := { program := "ythhibeepfecmdaa", sum := "37054a23056cf1432a308b35103ee1ef16308d46e49af3f6fac9f272a00a7d68", func := "loop.example/skyway/laws.FnCltuBack", spec := "fnCltuBack", inPlace := ["internal/abi.NoEscape", "internal/bytealg.MakeNoZero"], unfollowed := true, recurses := true, apart := false, narrowed := true }
def FnCltuBackUptoSaid : Prop := fnCltuBackUptoRow.holds Try.pinned (OpenSpec.upto fnCltuBackSpec)

/-- 'laws.FnCltuGet', WHERE WHAT IT READS IS OF BULK AT MOST 1048576: true; the input reads as it did. -/
def fnCltuGetUptoRow : OpenClaim := { program := "ythhibeepfecmdaa", sum := "37054a23056cf1432a308b35103ee1ef16308d46e49af3f6fac9f272a00a7d68", func := "loop.example/skyway/laws.FnCltuGet", spec := "fnCltuGet", unfollowed := true, recurses := true, apart := false, narrowed := true }
def FnCltuGetUptoSaid : Prop := fnCltuGetUptoRow.holds Try.pinned (OpenSpec.upto fnCltuGetSpec)

/-- 'laws.FnCltuSpoil', WHERE WHAT IT READS IS OF BULK AT MOST 1048576: true; the input reads as it did. -/
def fnCltuSpoilUptoRow : OpenClaim := { program := "ythhibeepfecmdaa", sum := "37054a23056cf1432a308b35103ee1ef16308d46e49af3f6fac9f272a00a7d68", func := "loop.example/skyway/laws.FnCltuSpoil", spec := "fnCltuSpoil", inPlace := ["internal/abi.NoEscape", "internal/bytealg.MakeNoZero"], unfollowed := true, recurses := true, apart := false, narrowed := true }
def FnCltuSpoilUptoSaid : Prop := fnCltuSpoilUptoRow.holds Try.pinned (OpenSpec.upto fnCltuSpoilSpec)

/-- 'laws.FnExactFopSend', WHERE WHAT IT READS IS OF BULK AT MOST 1048576: true; the input reads as it did. -/
def fnExactFopSendUptoRow : OpenClaim := { program := "ythhibeepfecmdaa", sum := "37054a23056cf1432a308b35103ee1ef16308d46e49af3f6fac9f272a00a7d68", func := "loop.example/skyway/laws.FnExactFopSend", spec := "fnExactFopSend", unfollowed := true, recurses := true, apart := false, narrowed := true }
def FnExactFopSendUptoSaid : Prop := fnExactFopSendUptoRow.holds Try.pinned (OpenSpec.upto fnExactFopSendSpec)

/-- 'laws.FnExactFopHear', WHERE WHAT IT READS IS OF BULK AT MOST 1048576: true; the input reads as it did. -/
def fnExactFopHearUptoRow : OpenClaim := { program := "ythhibeepfecmdaa", sum := "37054a23056cf1432a308b35103ee1ef16308d46e49af3f6fac9f272a00a7d68", func := "loop.example/skyway/laws.FnExactFopHear", spec := "fnExactFopHear", unfollowed := true, recurses := true, apart := false, narrowed := true }
def FnExactFopHearUptoSaid : Prop := fnExactFopHearUptoRow.holds Try.pinned (OpenSpec.upto fnExactFopHearSpec)

/-- 'laws.FnExactFopAgain', WHERE WHAT IT READS IS OF BULK AT MOST 1048576: true; the input reads as it did. -/
def fnExactFopAgainUptoRow : OpenClaim := { program := "ythhibeepfecmdaa", sum := "37054a23056cf1432a308b35103ee1ef16308d46e49af3f6fac9f272a00a7d68", func := "loop.example/skyway/laws.FnExactFopAgain", spec := "fnExactFopAgain", unfollowed := true, recurses := true, apart := false, narrowed := true }
def FnExactFopAgainUptoSaid : Prop := fnExactFopAgainUptoRow.holds Try.pinned (OpenSpec.upto fnExactFopAgainSpec)

/-- 'laws.FnExactRulesOk', WHERE WHAT IT READS IS OF BULK AT MOST 1048576: true; the input reads as it did. -/
def fnExactRulesOkUptoRow : OpenClaim := { program := "ythhibeepfecmdaa", sum := "37054a23056cf1432a308b35103ee1ef16308d46e49af3f6fac9f272a00a7d68", func := "loop.example/skyway/laws.FnExactRulesOk", spec := "fnExactRulesOk", apart := false, narrowed := true }
def FnExactRulesOkUptoSaid : Prop := fnExactRulesOkUptoRow.holds Try.pinned (OpenSpec.upto fnExactRulesOkSpec)

/-- 'laws.FnExactPlanOk', WHERE WHAT IT READS IS OF BULK AT MOST 1048576: true; the input reads as it did. -/
def fnExactPlanOkUptoRow : OpenClaim := { program := "ythhibeepfecmdaa", sum := "37054a23056cf1432a308b35103ee1ef16308d46e49af3f6fac9f272a00a7d68", func := "loop.example/skyway/laws.FnExactPlanOk", spec := "fnExactPlanOk", apart := false, narrowed := true }
def FnExactPlanOkUptoSaid : Prop := fnExactPlanOkUptoRow.holds Try.pinned (OpenSpec.upto fnExactPlanOkSpec)

/-- 'laws.FnExactProgOk', WHERE WHAT IT READS IS OF BULK AT MOST 1048576: true; the input reads as it did. -/
def fnExactProgOkUptoRow : OpenClaim := { program := "ythhibeepfecmdaa", sum := "37054a23056cf1432a308b35103ee1ef16308d46e49af3f6fac9f272a00a7d68", func := "loop.example/skyway/laws.FnExactProgOk", spec := "fnExactProgOk", apart := false, narrowed := true }
def FnExactProgOkUptoSaid : Prop := fnExactProgOkUptoRow.holds Try.pinned (OpenSpec.upto fnExactProgOkSpec)

/-- 'laws.FnExactPartOk', WHERE WHAT IT READS IS OF BULK AT MOST 1048576: true; the input reads as it did. -/
def fnExactPartOkUptoRow : OpenClaim := { program := "ythhibeepfecmdaa", sum := "37054a23056cf1432a308b35103ee1ef16308d46e49af3f6fac9f272a00a7d68", func := "loop.example/skyway/laws.FnExactPartOk", spec := "fnExactPartOk", apart := false, narrowed := true }
def FnExactPartOkUptoSaid : Prop := fnExactPartOkUptoRow.holds Try.pinned (OpenSpec.upto fnExactPartOkSpec)

/-- 'laws.FnExactPartSend', WHERE WHAT IT READS IS OF BULK AT MOST 1048576: true; the input reads as it did. -/
def fnExactPartSendUptoRow : OpenClaim := { program := "ythhibeepfecmdaa", sum := "37054a23056cf1432a308b35103ee1ef16308d46e49af3f6fac9f272a00a7d68", func := "loop.example/skyway/laws.FnExactPartSend", spec := "fnExactPartSend", apart := false, narrowed := true }
def FnExactPartSendUptoSaid : Prop := fnExactPartSendUptoRow.holds Try.pinned (OpenSpec.upto fnExactPartSendSpec)

/-- 'laws.FnExactConfTurn', WHERE WHAT IT READS IS OF BULK AT MOST 1048576: true; the input reads as it did. -/
def fnExactConfTurnUptoRow : OpenClaim := { program := "ythhibeepfecmdaa", sum := "37054a23056cf1432a308b35103ee1ef16308d46e49af3f6fac9f272a00a7d68", func := "loop.example/skyway/laws.FnExactConfTurn", spec := "fnExactConfTurn", apart := false, narrowed := true }
def FnExactConfTurnUptoSaid : Prop := fnExactConfTurnUptoRow.holds Try.pinned (OpenSpec.upto fnExactConfTurnSpec)

end Rows
end Go.Proofs.Ythhibeepfecmdaa
