/-
  NARROWER THAN 'FOR EVERY INPUT', by the rows' own cells (each row's printed sentence says how): FnExactFrameGet: ifaces, laid · FnExactFarmGet: ifaces, laid · FnFarmText: ifaces, laid · FnFrameByte: ifaces, laid · FnFrameBack: ifaces, laid.
  DERIVED. THE GIVEN ROWS OF THIS SEAT. 5 by the template 'for every input the law returns true; each argument reads behind the call as it read before'; 0 by the template 'total and deterministic' (their statements: YtlifigpkjbnkhaaDoorTotals.lean).
  GIVEN WITH THE SEED: the statements are not yours to turn. If you find one false, say at which input.
  Laid BY PROGRAM, IN A SANDBOX (cutbox-rows.mjs): the forced cells as the released guide's own fill.sh prints them over the translation ea0af4238dec8f32… (all of the seat's roots in one cut). By AI agents, Wed Nov 11 2026. No macro, syntax, notation, axiom, sorry.
-/
import Derived.Test.YtlifigpkjbnkhaaDoorChecked
import GoSem.Claim
import GoSem.ClaimJoined
import GoSem.ClaimMapViews
import Derived.JoinedTies
import Derived.KernelRfl
namespace Go.Proofs.YtlifigpkjbnkhaaDoor
/- THE CELL 'sum', in the pinned program and in every row, IS THE sha256 OF THE DUMP (.gsa) THAT YtlifigpkjbnkhaaDoorProg.lean LOADS. Nothing in Lean hashes anything: it is a label: what it is worth is what the hold of that sum in a sandbox is worth. -/
noncomputable def Tryd.pinned : Pinned := { name := "ytlifigpkjbnkhaadoor", sum := "ea0af4238dec8f3296c7819b1e2ff8c4838ad37483d0032ab589571ea098863e", checked := Tryd.checked }
namespace Rows
def none {H : Type} : Left H := { results := [], args := [] }

/- WHAT THE LISTED PACKAGE-LEVEL VARIABLES READ AS WHEN THE CALL BEGINS. Each datum BY PROGRAM (the guide's laid-datum.mjs) off the statement by which the dump's own 'gosem.cut.vars' lays the variable. In a bare row this is a premise. The card (YtlifigpkjbnkhaaDoorCards.lean) ties it to the program's text. -/
def laid_loop_example_skyway_impl_errShort {H : Type} : DataW H := .iface "*errors.errorString" (.ptr (.agg [.lit (.string [116, 104, 101, 32, 116, 101, 120, 116, 32, 101, 110, 100, 115, 32, 97, 104, 101, 97, 100, 32, 111, 102, 32, 116, 104, 101, 32, 102, 105, 101, 108, 100])]))
def laid_loop_example_skyway_impl_errOther {H : Type} : DataW H := .iface "*errors.errorString" (.ptr (.agg [.lit (.string [116, 104, 101, 32, 102, 105, 101, 108, 100, 115, 32, 100, 111, 32, 110, 111, 116, 32, 109, 97, 107, 101, 32, 117, 112, 32, 116, 104, 101, 32, 116, 101, 120, 116])]))

/-- 'laws.FnExactFrameGet': WHATEVER THE INPUT: true; the input reads as it did. -/
def fnExactFrameGetSpec : ChangeSpec := { name := "fnExactFrameGet", vars := ["loop.example/skyway/impl.errShort", "loop.example/skyway/impl.errOther"], fn := fun _ => fun
  | [d, g1, g2] => { results := [.lit (.bool true)], args := [d], vars := [g1, g2] }
  | _ => none }
def fnExactFrameGetRow : OpenClaim := { program := "ytlifigpkjbnkhaadoor", sum := "ea0af4238dec8f3296c7819b1e2ff8c4838ad37483d0032ab589571ea098863e", func := "loop.example/skyway/laws.FnExactFrameGet", spec := "fnExactFrameGet", named := ["loop.example/skyway/impl.errShort", "loop.example/skyway/impl.errOther"], ifaces := true, apart := false, laid := [("loop.example/skyway/impl.errShort", laid_loop_example_skyway_impl_errShort), ("loop.example/skyway/impl.errOther", laid_loop_example_skyway_impl_errOther)] }
def FnExactFrameGetSaid : Prop := fnExactFrameGetRow.holds Tryd.pinned (OpenSpec.ofChange fnExactFrameGetSpec)

/-- ITS FALSE NEIGHBOUR: 'it returns false'. Refute it at one input. -/
def fnExactFrameGetWrong : ChangeSpec := { name := "fnExactFrameGet", vars := ["loop.example/skyway/impl.errShort", "loop.example/skyway/impl.errOther"], fn := fun _ => fun
  | [d, g1, g2] => { results := [.lit (.bool false)], args := [d], vars := [g1, g2] }
  | _ => none }
def FnExactFrameGetWrongFalsely : Prop := fnExactFrameGetRow.holds Tryd.pinned (OpenSpec.ofChange fnExactFrameGetWrong)

/-- 'laws.FnExactFarmGet': WHATEVER THE INPUT: true; the input reads as it did. -/
def fnExactFarmGetSpec : ChangeSpec := { name := "fnExactFarmGet", vars := ["loop.example/skyway/impl.errShort", "loop.example/skyway/impl.errOther"], fn := fun _ => fun
  | [d, g1, g2] => { results := [.lit (.bool true)], args := [d], vars := [g1, g2] }
  | _ => none }
def fnExactFarmGetRow : OpenClaim := { program := "ytlifigpkjbnkhaadoor", sum := "ea0af4238dec8f3296c7819b1e2ff8c4838ad37483d0032ab589571ea098863e", func := "loop.example/skyway/laws.FnExactFarmGet", spec := "fnExactFarmGet", named := ["loop.example/skyway/impl.errShort", "loop.example/skyway/impl.errOther"], ifaces := true, apart := false, laid := [("loop.example/skyway/impl.errShort", laid_loop_example_skyway_impl_errShort), ("loop.example/skyway/impl.errOther", laid_loop_example_skyway_impl_errOther)] }
def FnExactFarmGetSaid : Prop := fnExactFarmGetRow.holds Tryd.pinned (OpenSpec.ofChange fnExactFarmGetSpec)

/-- ITS FALSE NEIGHBOUR: 'it returns false'. Refute it at one input. -/
def fnExactFarmGetWrong : ChangeSpec := { name := "fnExactFarmGet", vars := ["loop.example/skyway/impl.errShort", "loop.example/skyway/impl.errOther"], fn := fun _ => fun
  | [d, g1, g2] => { results := [.lit (.bool false)], args := [d], vars := [g1, g2] }
  | _ => none }
def FnExactFarmGetWrongFalsely : Prop := fnExactFarmGetRow.holds Tryd.pinned (OpenSpec.ofChange fnExactFarmGetWrong)

/-- 'laws.FnFarmText': WHATEVER THE INPUT: true; the input reads as it did. -/
def fnFarmTextSpec : ChangeSpec := { name := "fnFarmText", vars := ["loop.example/skyway/impl.errShort", "loop.example/skyway/impl.errOther"], fn := fun _ => fun
  | [d1, d2, g1, g2] => { results := [.lit (.bool true)], args := [d1, d2], vars := [g1, g2] }
  | _ => none }
def fnFarmTextRow : OpenClaim := { program := "ytlifigpkjbnkhaadoor", sum := "ea0af4238dec8f3296c7819b1e2ff8c4838ad37483d0032ab589571ea098863e", func := "loop.example/skyway/laws.FnFarmText", spec := "fnFarmText", named := ["loop.example/skyway/impl.errShort", "loop.example/skyway/impl.errOther"], ifaces := true, apart := false, laid := [("loop.example/skyway/impl.errShort", laid_loop_example_skyway_impl_errShort), ("loop.example/skyway/impl.errOther", laid_loop_example_skyway_impl_errOther)] }
def FnFarmTextSaid : Prop := fnFarmTextRow.holds Tryd.pinned (OpenSpec.ofChange fnFarmTextSpec)

/-- ITS FALSE NEIGHBOUR: 'it returns false'. Refute it at one input. -/
def fnFarmTextWrong : ChangeSpec := { name := "fnFarmText", vars := ["loop.example/skyway/impl.errShort", "loop.example/skyway/impl.errOther"], fn := fun _ => fun
  | [d1, d2, g1, g2] => { results := [.lit (.bool false)], args := [d1, d2], vars := [g1, g2] }
  | _ => none }
def FnFarmTextWrongFalsely : Prop := fnFarmTextRow.holds Tryd.pinned (OpenSpec.ofChange fnFarmTextWrong)

/-- 'laws.FnFrameByte': WHATEVER THE INPUT: true; the input reads as it did. -/
def fnFrameByteSpec : ChangeSpec := { name := "fnFrameByte", vars := ["loop.example/skyway/impl.errShort", "loop.example/skyway/impl.errOther"], fn := fun _ => fun
  | [d1, d2, g1, g2] => { results := [.lit (.bool true)], args := [d1, d2], vars := [g1, g2] }
  | _ => none }
def fnFrameByteRow : OpenClaim := { program := "ytlifigpkjbnkhaadoor", sum := "ea0af4238dec8f3296c7819b1e2ff8c4838ad37483d0032ab589571ea098863e", func := "loop.example/skyway/laws.FnFrameByte", spec := "fnFrameByte", named := ["loop.example/skyway/impl.errShort", "loop.example/skyway/impl.errOther"], ifaces := true, apart := false, laid := [("loop.example/skyway/impl.errShort", laid_loop_example_skyway_impl_errShort), ("loop.example/skyway/impl.errOther", laid_loop_example_skyway_impl_errOther)] }
def FnFrameByteSaid : Prop := fnFrameByteRow.holds Tryd.pinned (OpenSpec.ofChange fnFrameByteSpec)

/-- ITS FALSE NEIGHBOUR: 'it returns false'. Refute it at one input. -/
def fnFrameByteWrong : ChangeSpec := { name := "fnFrameByte", vars := ["loop.example/skyway/impl.errShort", "loop.example/skyway/impl.errOther"], fn := fun _ => fun
  | [d1, d2, g1, g2] => { results := [.lit (.bool false)], args := [d1, d2], vars := [g1, g2] }
  | _ => none }
def FnFrameByteWrongFalsely : Prop := fnFrameByteRow.holds Tryd.pinned (OpenSpec.ofChange fnFrameByteWrong)

/-- 'laws.FnFrameBack': WHATEVER THE INPUT: true; the input reads as it did. -/
def fnFrameBackSpec : ChangeSpec := { name := "fnFrameBack", vars := ["loop.example/skyway/impl.errShort", "loop.example/skyway/impl.errOther"], fn := fun _ => fun
  | [d1, d2, g1, g2] => { results := [.lit (.bool true)], args := [d1, d2], vars := [g1, g2] }
  | _ => none }
def fnFrameBackRow : OpenClaim := { program := "ytlifigpkjbnkhaadoor", sum := "ea0af4238dec8f3296c7819b1e2ff8c4838ad37483d0032ab589571ea098863e", func := "loop.example/skyway/laws.FnFrameBack", spec := "fnFrameBack", named := ["loop.example/skyway/impl.errShort", "loop.example/skyway/impl.errOther"], ifaces := true, apart := false, laid := [("loop.example/skyway/impl.errShort", laid_loop_example_skyway_impl_errShort), ("loop.example/skyway/impl.errOther", laid_loop_example_skyway_impl_errOther)] }
def FnFrameBackSaid : Prop := fnFrameBackRow.holds Tryd.pinned (OpenSpec.ofChange fnFrameBackSpec)

/-- ITS FALSE NEIGHBOUR: 'it returns false'. Refute it at one input. -/
def fnFrameBackWrong : ChangeSpec := { name := "fnFrameBack", vars := ["loop.example/skyway/impl.errShort", "loop.example/skyway/impl.errOther"], fn := fun _ => fun
  | [d1, d2, g1, g2] => { results := [.lit (.bool false)], args := [d1, d2], vars := [g1, g2] }
  | _ => none }
def FnFrameBackWrongFalsely : Prop := fnFrameBackRow.holds Tryd.pinned (OpenSpec.ofChange fnFrameBackWrong)

/- THE SECOND FORM. 'bulk': how many values and letters a reading holds, each counted each time it is reached (what is shared counts as often as it is met; a slice's spare places count too). A statement '..UptoSaid' is the law's where the arguments, and the package variables that the reading takes, are together of bulk at most 1048576: NARROWER than '..Said'. Prove '..Said' where nothing that the law and all that it calls make is longer than what came in: it says more and counts as full. Else prove '..UptoSaid'. A law counts once. -/
mutual
def uptoBulk {H : Type} : DataW H → Nat
  | .lit (.string bytes) => bytes.length + 1
  | .lit _ => 1
  | .nil => 1
  | .ptr d => uptoBulk d + 1
  | .slice elems spare => uptoBulkAll elems + uptoBulkAll spare + 1
  | .agg parts => uptoBulkAll parts + 1
  | .iface _ d => uptoBulk d + 1
  | .map entries => uptoBulkEntries entries + 1
  | .held _ => 1
def uptoBulkAll {H : Type} : List (DataW H) → Nat
  | [] => 0
  | d :: r => uptoBulk d + uptoBulkAll r
def uptoBulkEntries {H : Type} : List (Lit × DataW H) → Nat
  | [] => 0
  | x :: r => uptoBulkEntry x + uptoBulkEntries r
def uptoBulkEntry {H : Type} : Lit × DataW H → Nat
  | (.string bytes, d) => bytes.length + uptoBulk d + 1
  | (_, d) => uptoBulk d + 1
 end
def uptoSmall : (H : Type) → List (DataW H) → Bool := fun _ ds => decide (uptoBulkAll ds ≤ 1048576)
def OpenSpec.upto (s : _root_.Go.ChangeSpec) : _root_.Go.OpenSpec := { _root_.Go.OpenSpec.ofChange s with cond := some uptoSmall }

/-- 'laws.FnExactFrameGet', WHERE WHAT IT READS IS OF BULK AT MOST 1048576: true; the input reads as it did. -/
def fnExactFrameGetUptoRow : OpenClaim := { program := "ytlifigpkjbnkhaadoor", sum := "ea0af4238dec8f3296c7819b1e2ff8c4838ad37483d0032ab589571ea098863e", func := "loop.example/skyway/laws.FnExactFrameGet", spec := "fnExactFrameGet", named := ["loop.example/skyway/impl.errShort", "loop.example/skyway/impl.errOther"], ifaces := true, apart := false, laid := [("loop.example/skyway/impl.errShort", laid_loop_example_skyway_impl_errShort), ("loop.example/skyway/impl.errOther", laid_loop_example_skyway_impl_errOther)], narrowed := true }
def FnExactFrameGetUptoSaid : Prop := fnExactFrameGetUptoRow.holds Tryd.pinned (OpenSpec.upto fnExactFrameGetSpec)

/-- 'laws.FnExactFarmGet', WHERE WHAT IT READS IS OF BULK AT MOST 1048576: true; the input reads as it did. -/
def fnExactFarmGetUptoRow : OpenClaim := { program := "ytlifigpkjbnkhaadoor", sum := "ea0af4238dec8f3296c7819b1e2ff8c4838ad37483d0032ab589571ea098863e", func := "loop.example/skyway/laws.FnExactFarmGet", spec := "fnExactFarmGet", named := ["loop.example/skyway/impl.errShort", "loop.example/skyway/impl.errOther"], ifaces := true, apart := false, laid := [("loop.example/skyway/impl.errShort", laid_loop_example_skyway_impl_errShort), ("loop.example/skyway/impl.errOther", laid_loop_example_skyway_impl_errOther)], narrowed := true }
def FnExactFarmGetUptoSaid : Prop := fnExactFarmGetUptoRow.holds Tryd.pinned (OpenSpec.upto fnExactFarmGetSpec)

/-- 'laws.FnFarmText', WHERE WHAT IT READS IS OF BULK AT MOST 1048576: true; the input reads as it did. -/
def fnFarmTextUptoRow : OpenClaim := { program := "ytlifigpkjbnkhaadoor", sum := "ea0af4238dec8f3296c7819b1e2ff8c4838ad37483d0032ab589571ea098863e", func := "loop.example/skyway/laws.FnFarmText", spec := "fnFarmText", named := ["loop.example/skyway/impl.errShort", "loop.example/skyway/impl.errOther"], ifaces := true, apart := false, laid := [("loop.example/skyway/impl.errShort", laid_loop_example_skyway_impl_errShort), ("loop.example/skyway/impl.errOther", laid_loop_example_skyway_impl_errOther)], narrowed := true }
def FnFarmTextUptoSaid : Prop := fnFarmTextUptoRow.holds Tryd.pinned (OpenSpec.upto fnFarmTextSpec)

/-- 'laws.FnFrameByte', WHERE WHAT IT READS IS OF BULK AT MOST 1048576: true; the input reads as it did. -/
def fnFrameByteUptoRow : OpenClaim := { program := "ytlifigpkjbnkhaadoor", sum := "ea0af4238dec8f3296c7819b1e2ff8c4838ad37483d0032ab589571ea098863e", func := "loop.example/skyway/laws.FnFrameByte", spec := "fnFrameByte", named := ["loop.example/skyway/impl.errShort", "loop.example/skyway/impl.errOther"], ifaces := true, apart := false, laid := [("loop.example/skyway/impl.errShort", laid_loop_example_skyway_impl_errShort), ("loop.example/skyway/impl.errOther", laid_loop_example_skyway_impl_errOther)], narrowed := true }
def FnFrameByteUptoSaid : Prop := fnFrameByteUptoRow.holds Tryd.pinned (OpenSpec.upto fnFrameByteSpec)

/-- 'laws.FnFrameBack', WHERE WHAT IT READS IS OF BULK AT MOST 1048576: true; the input reads as it did. -/
def fnFrameBackUptoRow : OpenClaim := { program := "ytlifigpkjbnkhaadoor", sum := "ea0af4238dec8f3296c7819b1e2ff8c4838ad37483d0032ab589571ea098863e", func := "loop.example/skyway/laws.FnFrameBack", spec := "fnFrameBack", named := ["loop.example/skyway/impl.errShort", "loop.example/skyway/impl.errOther"], ifaces := true, apart := false, laid := [("loop.example/skyway/impl.errShort", laid_loop_example_skyway_impl_errShort), ("loop.example/skyway/impl.errOther", laid_loop_example_skyway_impl_errOther)], narrowed := true }
def FnFrameBackUptoSaid : Prop := fnFrameBackUptoRow.holds Tryd.pinned (OpenSpec.upto fnFrameBackSpec)

end Rows
end Go.Proofs.YtlifigpkjbnkhaaDoor
