/-
  NARROWER THAN 'FOR EVERY INPUT', by the rows' own cells (each row's printed sentence says how): FnExactSegHear: laid · FnSegBack: laid · FnSegLost: laid · FnSegOther: laid · FnExactQueueOk: laid · FnExactQueuePut: laid · FnQueuePut: laid · FnExactQueueFill: laid · FnExactHearsDown: ifaces, laid · FnQueueIdle: ifaces, laid · FnHearsWhole: ifaces, laid.
  DERIVED. THE GIVEN ROWS OF THIS SEAT. 11 by the template 'for every input the law returns true; each argument reads behind the call as it read before'; 0 by the template 'total and deterministic' (their statements: YtgejiiaocgacmaaDoorTotals.lean).
  GIVEN WITH THE SEED: the statements are not yours to turn. If you find one false, say at which input.
  Laid BY PROGRAM, IN A SANDBOX (cutbox-rows.mjs): the forced cells as the released guide's own fill.sh prints them over the translation 9b42afd8328b3b1b… (all of the seat's roots in one cut). By AI agents, Wed Nov 11 2026. No macro, syntax, notation, axiom, sorry.
-/
import Derived.Test.YtgejiiaocgacmaaDoorChecked
import GoSem.Claim
import GoSem.ClaimJoined
import GoSem.ClaimMapViews
import Derived.JoinedTies
import Derived.KernelRfl
namespace Go.Proofs.YtgejiiaocgacmaaDoor
/- THE CELL 'sum', in the pinned program and in every row, IS THE sha256 OF THE DUMP (.gsa) THAT YtgejiiaocgacmaaDoorProg.lean LOADS. Nothing in Lean hashes anything: it is a label: what it is worth is what the hold of that sum in a sandbox is worth. -/
noncomputable def Tryd.pinned : Pinned := { name := "ytgejiiaocgacmaadoor", sum := "9b42afd8328b3b1b6a273087971bdb14a9e3d91625ef8671bf987a839b6766ab", checked := Tryd.checked }
namespace Rows
def none {H : Type} : Left H := { results := [], args := [] }

/- WHAT THE LISTED PACKAGE-LEVEL VARIABLES READ AS WHEN THE CALL BEGINS. Each datum BY PROGRAM (the guide's laid-datum.mjs) off the statement by which the dump's own 'gosem.cut.vars' lays the variable. In a bare row this is a premise. The card (YtgejiiaocgacmaaDoorCards.lean) ties it to the program's text. -/
def laid_bytes_ErrTooLarge {H : Type} : DataW H := .iface "*errors.errorString" (.ptr (.agg [.lit (.string [98, 121, 116, 101, 115, 46, 66, 117, 102, 102, 101, 114, 58, 32, 116, 111, 111, 32, 108, 97, 114, 103, 101])]))
def laid_io_EOF {H : Type} : DataW H := .iface "*errors.errorString" (.ptr (.agg [.lit (.string [69, 79, 70])]))
def laid_loop_example_skyway_impl_errShort {H : Type} : DataW H := .iface "*errors.errorString" (.ptr (.agg [.lit (.string [116, 104, 101, 32, 116, 101, 120, 116, 32, 101, 110, 100, 115, 32, 97, 104, 101, 97, 100, 32, 111, 102, 32, 116, 104, 101, 32, 102, 105, 101, 108, 100])]))
def laid_loop_example_skyway_impl_errOther {H : Type} : DataW H := .iface "*errors.errorString" (.ptr (.agg [.lit (.string [116, 104, 101, 32, 102, 105, 101, 108, 100, 115, 32, 100, 111, 32, 110, 111, 116, 32, 109, 97, 107, 101, 32, 117, 112, 32, 116, 104, 101, 32, 116, 101, 120, 116])]))

/-- 'laws.FnExactSegHear': WHATEVER THE INPUT: true; the input reads as it did. -/
def fnExactSegHearSpec : ChangeSpec := { name := "fnExactSegHear", fn := fun _ => fun
  | [d1, d2, d3] => { results := [.lit (.bool true)], args := [d1, d2, d3] }
  | _ => none }
def fnExactSegHearRow : OpenClaim := { program := "ytgejiiaocgacmaadoor", sum := "9b42afd8328b3b1b6a273087971bdb14a9e3d91625ef8671bf987a839b6766ab", func := "loop.example/skyway/laws.FnExactSegHear", spec := "fnExactSegHear", named := ["bytes.ErrTooLarge"], apart := false, laid := [("bytes.ErrTooLarge", laid_bytes_ErrTooLarge)] }
def FnExactSegHearSaid : Prop := fnExactSegHearRow.holds Tryd.pinned (OpenSpec.ofChange fnExactSegHearSpec)

/-- ITS FALSE NEIGHBOUR: 'it returns false'. Refute it at one input. -/
def fnExactSegHearWrong : ChangeSpec := { name := "fnExactSegHear", fn := fun _ => fun
  | [d1, d2, d3] => { results := [.lit (.bool false)], args := [d1, d2, d3] }
  | _ => none }
def FnExactSegHearWrongFalsely : Prop := fnExactSegHearRow.holds Tryd.pinned (OpenSpec.ofChange fnExactSegHearWrong)

/-- 'laws.FnSegBack': WHATEVER THE INPUT: true; the input reads as it did. -/
def fnSegBackSpec : ChangeSpec := { name := "fnSegBack", fn := fun _ => fun
  | [d] => { results := [.lit (.bool true)], args := [d] }
  | _ => none }
def fnSegBackRow : OpenClaim := { program := "ytgejiiaocgacmaadoor", sum := "9b42afd8328b3b1b6a273087971bdb14a9e3d91625ef8671bf987a839b6766ab", func := "loop.example/skyway/laws.FnSegBack", spec := "fnSegBack", unfollowed := true, recurses := true, named := ["bytes.ErrTooLarge"], apart := false, laid := [("bytes.ErrTooLarge", laid_bytes_ErrTooLarge)] }
def FnSegBackSaid : Prop := fnSegBackRow.holds Tryd.pinned (OpenSpec.ofChange fnSegBackSpec)

/-- ITS FALSE NEIGHBOUR: 'it returns false'. Refute it at one input. -/
def fnSegBackWrong : ChangeSpec := { name := "fnSegBack", fn := fun _ => fun
  | [d] => { results := [.lit (.bool false)], args := [d] }
  | _ => none }
def FnSegBackWrongFalsely : Prop := fnSegBackRow.holds Tryd.pinned (OpenSpec.ofChange fnSegBackWrong)

/-- 'laws.FnSegLost': WHATEVER THE INPUT: true; the input reads as it did. -/
def fnSegLostSpec : ChangeSpec := { name := "fnSegLost", fn := fun _ => fun
  | [d] => { results := [.lit (.bool true)], args := [d] }
  | _ => none }
def fnSegLostRow : OpenClaim := { program := "ytgejiiaocgacmaadoor", sum := "9b42afd8328b3b1b6a273087971bdb14a9e3d91625ef8671bf987a839b6766ab", func := "loop.example/skyway/laws.FnSegLost", spec := "fnSegLost", unfollowed := true, recurses := true, named := ["bytes.ErrTooLarge"], apart := false, laid := [("bytes.ErrTooLarge", laid_bytes_ErrTooLarge)] }
def FnSegLostSaid : Prop := fnSegLostRow.holds Tryd.pinned (OpenSpec.ofChange fnSegLostSpec)

/-- ITS FALSE NEIGHBOUR: 'it returns false'. Refute it at one input. -/
def fnSegLostWrong : ChangeSpec := { name := "fnSegLost", fn := fun _ => fun
  | [d] => { results := [.lit (.bool false)], args := [d] }
  | _ => none }
def FnSegLostWrongFalsely : Prop := fnSegLostRow.holds Tryd.pinned (OpenSpec.ofChange fnSegLostWrong)

/-- 'laws.FnSegOther': WHATEVER THE INPUT: true; the input reads as it did. -/
def fnSegOtherSpec : ChangeSpec := { name := "fnSegOther", fn := fun _ => fun
  | [d] => { results := [.lit (.bool true)], args := [d] }
  | _ => none }
def fnSegOtherRow : OpenClaim := { program := "ytgejiiaocgacmaadoor", sum := "9b42afd8328b3b1b6a273087971bdb14a9e3d91625ef8671bf987a839b6766ab", func := "loop.example/skyway/laws.FnSegOther", spec := "fnSegOther", named := ["bytes.ErrTooLarge"], apart := false, laid := [("bytes.ErrTooLarge", laid_bytes_ErrTooLarge)] }
def FnSegOtherSaid : Prop := fnSegOtherRow.holds Tryd.pinned (OpenSpec.ofChange fnSegOtherSpec)

/-- ITS FALSE NEIGHBOUR: 'it returns false'. Refute it at one input. -/
def fnSegOtherWrong : ChangeSpec := { name := "fnSegOther", fn := fun _ => fun
  | [d] => { results := [.lit (.bool false)], args := [d] }
  | _ => none }
def FnSegOtherWrongFalsely : Prop := fnSegOtherRow.holds Tryd.pinned (OpenSpec.ofChange fnSegOtherWrong)

/-- 'laws.FnExactQueueOk': WHATEVER THE INPUT: true; the input reads as it did. -/
def fnExactQueueOkSpec : ChangeSpec := { name := "fnExactQueueOk", fn := fun _ => fun
  | [d] => { results := [.lit (.bool true)], args := [d] }
  | _ => none }
def fnExactQueueOkRow : OpenClaim := { program := "ytgejiiaocgacmaadoor", sum := "9b42afd8328b3b1b6a273087971bdb14a9e3d91625ef8671bf987a839b6766ab", func := "loop.example/skyway/laws.FnExactQueueOk", spec := "fnExactQueueOk", named := ["io.EOF"], apart := false, laid := [("io.EOF", laid_io_EOF)] }
def FnExactQueueOkSaid : Prop := fnExactQueueOkRow.holds Tryd.pinned (OpenSpec.ofChange fnExactQueueOkSpec)

/-- ITS FALSE NEIGHBOUR: 'it returns false'. Refute it at one input. -/
def fnExactQueueOkWrong : ChangeSpec := { name := "fnExactQueueOk", fn := fun _ => fun
  | [d] => { results := [.lit (.bool false)], args := [d] }
  | _ => none }
def FnExactQueueOkWrongFalsely : Prop := fnExactQueueOkRow.holds Tryd.pinned (OpenSpec.ofChange fnExactQueueOkWrong)

/-- 'laws.FnExactQueuePut': WHATEVER THE INPUT: true; the input reads as it did. -/
def fnExactQueuePutSpec : ChangeSpec := { name := "fnExactQueuePut", fn := fun _ => fun
  | [d1, d2] => { results := [.lit (.bool true)], args := [d1, d2] }
  | _ => none }
def fnExactQueuePutRow : OpenClaim := { program := "ytgejiiaocgacmaadoor", sum := "9b42afd8328b3b1b6a273087971bdb14a9e3d91625ef8671bf987a839b6766ab", func := "loop.example/skyway/laws.FnExactQueuePut", spec := "fnExactQueuePut", named := ["io.EOF"], apart := false, laid := [("io.EOF", laid_io_EOF)] }
def FnExactQueuePutSaid : Prop := fnExactQueuePutRow.holds Tryd.pinned (OpenSpec.ofChange fnExactQueuePutSpec)

/-- ITS FALSE NEIGHBOUR: 'it returns false'. Refute it at one input. -/
def fnExactQueuePutWrong : ChangeSpec := { name := "fnExactQueuePut", fn := fun _ => fun
  | [d1, d2] => { results := [.lit (.bool false)], args := [d1, d2] }
  | _ => none }
def FnExactQueuePutWrongFalsely : Prop := fnExactQueuePutRow.holds Tryd.pinned (OpenSpec.ofChange fnExactQueuePutWrong)

/-- 'laws.FnQueuePut': WHATEVER THE INPUT: true; the input reads as it did. -/
def fnQueuePutSpec : ChangeSpec := { name := "fnQueuePut", fn := fun _ => fun
  | [d] => { results := [.lit (.bool true)], args := [d] }
  | _ => none }
def fnQueuePutRow : OpenClaim := { program := "ytgejiiaocgacmaadoor", sum := "9b42afd8328b3b1b6a273087971bdb14a9e3d91625ef8671bf987a839b6766ab", func := "loop.example/skyway/laws.FnQueuePut", spec := "fnQueuePut", named := ["io.EOF"], apart := false, laid := [("io.EOF", laid_io_EOF)] }
def FnQueuePutSaid : Prop := fnQueuePutRow.holds Tryd.pinned (OpenSpec.ofChange fnQueuePutSpec)

/-- ITS FALSE NEIGHBOUR: 'it returns false'. Refute it at one input. -/
def fnQueuePutWrong : ChangeSpec := { name := "fnQueuePut", fn := fun _ => fun
  | [d] => { results := [.lit (.bool false)], args := [d] }
  | _ => none }
def FnQueuePutWrongFalsely : Prop := fnQueuePutRow.holds Tryd.pinned (OpenSpec.ofChange fnQueuePutWrong)

/-- 'laws.FnExactQueueFill': WHATEVER THE INPUT: true; the input reads as it did. -/
def fnExactQueueFillSpec : ChangeSpec := { name := "fnExactQueueFill", fn := fun _ => fun
  | [d] => { results := [.lit (.bool true)], args := [d] }
  | _ => none }
def fnExactQueueFillRow : OpenClaim := { program := "ytgejiiaocgacmaadoor", sum := "9b42afd8328b3b1b6a273087971bdb14a9e3d91625ef8671bf987a839b6766ab", func := "loop.example/skyway/laws.FnExactQueueFill", spec := "fnExactQueueFill", inPlace := ["internal/abi.NoEscape", "internal/bytealg.MakeNoZero"], named := ["io.EOF"], apart := false, laid := [("io.EOF", laid_io_EOF)] }
def FnExactQueueFillSaid : Prop := fnExactQueueFillRow.holds Tryd.pinned (OpenSpec.ofChange fnExactQueueFillSpec)

/-- ITS FALSE NEIGHBOUR: 'it returns false'. Refute it at one input. -/
def fnExactQueueFillWrong : ChangeSpec := { name := "fnExactQueueFill", fn := fun _ => fun
  | [d] => { results := [.lit (.bool false)], args := [d] }
  | _ => none }
def FnExactQueueFillWrongFalsely : Prop := fnExactQueueFillRow.holds Tryd.pinned (OpenSpec.ofChange fnExactQueueFillWrong)

/-- 'laws.FnExactHearsDown': WHATEVER THE INPUT: true; the input reads as it did. -/
def fnExactHearsDownSpec : ChangeSpec := { name := "fnExactHearsDown", vars := ["loop.example/skyway/impl.errShort", "loop.example/skyway/impl.errOther"], fn := fun _ => fun
  | [d1, d2, g1, g2] => { results := [.lit (.bool true)], args := [d1, d2], vars := [g1, g2] }
  | _ => none }
def fnExactHearsDownRow : OpenClaim := { program := "ytgejiiaocgacmaadoor", sum := "9b42afd8328b3b1b6a273087971bdb14a9e3d91625ef8671bf987a839b6766ab", func := "loop.example/skyway/laws.FnExactHearsDown", spec := "fnExactHearsDown", named := ["loop.example/skyway/impl.errShort", "loop.example/skyway/impl.errOther", "io.EOF"], ifaces := true, apart := false, laid := [("io.EOF", laid_io_EOF), ("loop.example/skyway/impl.errShort", laid_loop_example_skyway_impl_errShort), ("loop.example/skyway/impl.errOther", laid_loop_example_skyway_impl_errOther)] }
def FnExactHearsDownSaid : Prop := fnExactHearsDownRow.holds Tryd.pinned (OpenSpec.ofChange fnExactHearsDownSpec)

/-- ITS FALSE NEIGHBOUR: 'it returns false'. Refute it at one input. -/
def fnExactHearsDownWrong : ChangeSpec := { name := "fnExactHearsDown", vars := ["loop.example/skyway/impl.errShort", "loop.example/skyway/impl.errOther"], fn := fun _ => fun
  | [d1, d2, g1, g2] => { results := [.lit (.bool false)], args := [d1, d2], vars := [g1, g2] }
  | _ => none }
def FnExactHearsDownWrongFalsely : Prop := fnExactHearsDownRow.holds Tryd.pinned (OpenSpec.ofChange fnExactHearsDownWrong)

/-- 'laws.FnQueueIdle': WHATEVER THE INPUT: true; the input reads as it did. -/
def fnQueueIdleSpec : ChangeSpec := { name := "fnQueueIdle", vars := ["loop.example/skyway/impl.errShort", "loop.example/skyway/impl.errOther"], fn := fun _ => fun
  | [d, g1, g2] => { results := [.lit (.bool true)], args := [d], vars := [g1, g2] }
  | _ => none }
def fnQueueIdleRow : OpenClaim := { program := "ytgejiiaocgacmaadoor", sum := "9b42afd8328b3b1b6a273087971bdb14a9e3d91625ef8671bf987a839b6766ab", func := "loop.example/skyway/laws.FnQueueIdle", spec := "fnQueueIdle", inPlace := ["internal/abi.NoEscape", "internal/bytealg.MakeNoZero"], named := ["io.EOF", "loop.example/skyway/impl.errShort", "loop.example/skyway/impl.errOther"], ifaces := true, apart := false, laid := [("io.EOF", laid_io_EOF), ("loop.example/skyway/impl.errShort", laid_loop_example_skyway_impl_errShort), ("loop.example/skyway/impl.errOther", laid_loop_example_skyway_impl_errOther)] }
def FnQueueIdleSaid : Prop := fnQueueIdleRow.holds Tryd.pinned (OpenSpec.ofChange fnQueueIdleSpec)

/-- ITS FALSE NEIGHBOUR: 'it returns false'. Refute it at one input. -/
def fnQueueIdleWrong : ChangeSpec := { name := "fnQueueIdle", vars := ["loop.example/skyway/impl.errShort", "loop.example/skyway/impl.errOther"], fn := fun _ => fun
  | [d, g1, g2] => { results := [.lit (.bool false)], args := [d], vars := [g1, g2] }
  | _ => none }
def FnQueueIdleWrongFalsely : Prop := fnQueueIdleRow.holds Tryd.pinned (OpenSpec.ofChange fnQueueIdleWrong)

/-- 'laws.FnHearsWhole': WHATEVER THE INPUT: true; the input reads as it did. -/
def fnHearsWholeSpec : ChangeSpec := { name := "fnHearsWhole", vars := ["loop.example/skyway/impl.errShort", "loop.example/skyway/impl.errOther"], fn := fun _ => fun
  | [d, g1, g2] => { results := [.lit (.bool true)], args := [d], vars := [g1, g2] }
  | _ => none }
def fnHearsWholeRow : OpenClaim := { program := "ytgejiiaocgacmaadoor", sum := "9b42afd8328b3b1b6a273087971bdb14a9e3d91625ef8671bf987a839b6766ab", func := "loop.example/skyway/laws.FnHearsWhole", spec := "fnHearsWhole", named := ["loop.example/skyway/impl.errShort", "loop.example/skyway/impl.errOther", "io.EOF"], ifaces := true, apart := false, laid := [("io.EOF", laid_io_EOF), ("loop.example/skyway/impl.errShort", laid_loop_example_skyway_impl_errShort), ("loop.example/skyway/impl.errOther", laid_loop_example_skyway_impl_errOther)] }
def FnHearsWholeSaid : Prop := fnHearsWholeRow.holds Tryd.pinned (OpenSpec.ofChange fnHearsWholeSpec)

/-- ITS FALSE NEIGHBOUR: 'it returns false'. Refute it at one input. -/
def fnHearsWholeWrong : ChangeSpec := { name := "fnHearsWhole", vars := ["loop.example/skyway/impl.errShort", "loop.example/skyway/impl.errOther"], fn := fun _ => fun
  | [d, g1, g2] => { results := [.lit (.bool false)], args := [d], vars := [g1, g2] }
  | _ => none }
def FnHearsWholeWrongFalsely : Prop := fnHearsWholeRow.holds Tryd.pinned (OpenSpec.ofChange fnHearsWholeWrong)

/- THE SECOND FORM. 'bulk': how many values and letters a reading holds, each counted each time it is reached (what is shared counts as often as it is met; a slice's spare places count too). A statement '..UptoSaid' is the law's where the arguments, and the package variables that the reading takes, are together of bulk at most 1048576: NARROWER than '..Said'. Prove '..Said' where nothing that the law and all that it calls make is longer than what came in: it says more and counts as full. Else prove '..UptoSaid'. A law counts once. -/
mutual
def uptoBulk {H : Type} : DataW H → Nat
  | .lit (.string bytes) => bytes.length + 1
  | .lit _ => 1
  | .nil => 1
  | .ptr d => uptoBulk d + 1
  | .slice elems spare => uptoBulkAll elems + uptoBulkAll spare + 1
  | .agg parts => uptoBulkAll parts + 1
  | .iface _ d => uptoBulk d + 1
  | .map entries => uptoBulkEntries entries + 1
  | .held _ => 1
def uptoBulkAll {H : Type} : List (DataW H) → Nat
  | [] => 0
  | d :: r => uptoBulk d + uptoBulkAll r
def uptoBulkEntries {H : Type} : List (Lit × DataW H) → Nat
  | [] => 0
  | x :: r => uptoBulkEntry x + uptoBulkEntries r
def uptoBulkEntry {H : Type} : Lit × DataW H → Nat
  | (.string bytes, d) => bytes.length + uptoBulk d + 1
  | (_, d) => uptoBulk d + 1
 end
def uptoSmall : (H : Type) → List (DataW H) → Bool := fun _ ds => decide (uptoBulkAll ds ≤ 1048576)
def OpenSpec.upto (s : _root_.Go.ChangeSpec) : _root_.Go.OpenSpec := { _root_.Go.OpenSpec.ofChange s with cond := some uptoSmall }

/-- 'laws.FnExactSegHear', WHERE WHAT IT READS IS OF BULK AT MOST 1048576: true; the input reads as it did. -/
def fnExactSegHearUptoRow : OpenClaim := { program := "ytgejiiaocgacmaadoor", sum := "9b42afd8328b3b1b6a273087971bdb14a9e3d91625ef8671bf987a839b6766ab", func := "loop.example/skyway/laws.FnExactSegHear", spec := "fnExactSegHear", named := ["bytes.ErrTooLarge"], apart := false, laid := [("bytes.ErrTooLarge", laid_bytes_ErrTooLarge)], narrowed := true }
def FnExactSegHearUptoSaid : Prop := fnExactSegHearUptoRow.holds Tryd.pinned (OpenSpec.upto fnExactSegHearSpec)

/-- 'laws.FnSegBack', WHERE WHAT IT READS IS OF BULK AT MOST 1048576: true; the input reads as it did. -/
def fnSegBackUptoRow : OpenClaim := { program := "ytgejiiaocgacmaadoor", sum := "9b42afd8328b3b1b6a273087971bdb14a9e3d91625ef8671bf987a839b6766ab", func := "loop.example/skyway/laws.FnSegBack", spec := "fnSegBack", unfollowed := true, recurses := true, named := ["bytes.ErrTooLarge"], apart := false, laid := [("bytes.ErrTooLarge", laid_bytes_ErrTooLarge)], narrowed := true }
def FnSegBackUptoSaid : Prop := fnSegBackUptoRow.holds Tryd.pinned (OpenSpec.upto fnSegBackSpec)

/-- 'laws.FnSegLost', WHERE WHAT IT READS IS OF BULK AT MOST 1048576: true; the input reads as it did. -/
def fnSegLostUptoRow : OpenClaim := { program := "ytgejiiaocgacmaadoor", sum := "9b42afd8328b3b1b6a273087971bdb14a9e3d91625ef8671bf987a839b6766ab", func := "loop.example/skyway/laws.FnSegLost", spec := "fnSegLost", unfollowed := true, recurses := true, named := ["bytes.ErrTooLarge"], apart := false, laid := [("bytes.ErrTooLarge", laid_bytes_ErrTooLarge)], narrowed := true }
def FnSegLostUptoSaid : Prop := fnSegLostUptoRow.holds Tryd.pinned (OpenSpec.upto fnSegLostSpec)

/-- 'laws.FnSegOther', WHERE WHAT IT READS IS OF BULK AT MOST 1048576: true; the input reads as it did. -/
def fnSegOtherUptoRow : OpenClaim := { program := "ytgejiiaocgacmaadoor", sum := "9b42afd8328b3b1b6a273087971bdb14a9e3d91625ef8671bf987a839b6766ab", func := "loop.example/skyway/laws.FnSegOther", spec := "fnSegOther", named := ["bytes.ErrTooLarge"], apart := false, laid := [("bytes.ErrTooLarge", laid_bytes_ErrTooLarge)], narrowed := true }
def FnSegOtherUptoSaid : Prop := fnSegOtherUptoRow.holds Tryd.pinned (OpenSpec.upto fnSegOtherSpec)

/-- 'laws.FnExactQueueOk', WHERE WHAT IT READS IS OF BULK AT MOST 1048576: true; the input reads as it did. -/
def fnExactQueueOkUptoRow : OpenClaim := { program := "ytgejiiaocgacmaadoor", sum := "9b42afd8328b3b1b6a273087971bdb14a9e3d91625ef8671bf987a839b6766ab", func := "loop.example/skyway/laws.FnExactQueueOk", spec := "fnExactQueueOk", named := ["io.EOF"], apart := false, laid := [("io.EOF", laid_io_EOF)], narrowed := true }
def FnExactQueueOkUptoSaid : Prop := fnExactQueueOkUptoRow.holds Tryd.pinned (OpenSpec.upto fnExactQueueOkSpec)

/-- 'laws.FnExactQueuePut', WHERE WHAT IT READS IS OF BULK AT MOST 1048576: true; the input reads as it did. -/
def fnExactQueuePutUptoRow : OpenClaim := { program := "ytgejiiaocgacmaadoor", sum := "9b42afd8328b3b1b6a273087971bdb14a9e3d91625ef8671bf987a839b6766ab", func := "loop.example/skyway/laws.FnExactQueuePut", spec := "fnExactQueuePut", named := ["io.EOF"], apart := false, laid := [("io.EOF", laid_io_EOF)], narrowed := true }
def FnExactQueuePutUptoSaid : Prop := fnExactQueuePutUptoRow.holds Tryd.pinned (OpenSpec.upto fnExactQueuePutSpec)

/-- 'laws.FnQueuePut', WHERE WHAT IT READS IS OF BULK AT MOST 1048576: true; the input reads as it did. -/
def fnQueuePutUptoRow : OpenClaim := { program := "ytgejiiaocgacmaadoor", sum := "9b42afd8328b3b1b6a273087971bdb14a9e3d91625ef8671bf987a839b6766ab", func := "loop.example/skyway/laws.FnQueuePut", spec := "fnQueuePut", named := ["io.EOF"], apart := false, laid := [("io.EOF", laid_io_EOF)], narrowed := true }
def FnQueuePutUptoSaid : Prop := fnQueuePutUptoRow.holds Tryd.pinned (OpenSpec.upto fnQueuePutSpec)

/-- 'laws.FnExactQueueFill', WHERE WHAT IT READS IS OF BULK AT MOST 1048576: true; the input reads as it did. -/
def fnExactQueueFillUptoRow : OpenClaim := { program := "ytgejiiaocgacmaadoor", sum := "9b42afd8328b3b1b6a273087971bdb14a9e3d91625ef8671bf987a839b6766ab", func := "loop.example/skyway/laws.FnExactQueueFill", spec := "fnExactQueueFill", inPlace := ["internal/abi.NoEscape", "internal/bytealg.MakeNoZero"], named := ["io.EOF"], apart := false, laid := [("io.EOF", laid_io_EOF)], narrowed := true }
def FnExactQueueFillUptoSaid : Prop := fnExactQueueFillUptoRow.holds Tryd.pinned (OpenSpec.upto fnExactQueueFillSpec)

/-- 'laws.FnExactHearsDown', WHERE WHAT IT READS IS OF BULK AT MOST 1048576: true; the input reads as it did. -/
def fnExactHearsDownUptoRow : OpenClaim := { program := "ytgejiiaocgacmaadoor", sum := "9b42afd8328b3b1b6a273087971bdb14a9e3d91625ef8671bf987a839b6766ab", func := "loop.example/skyway/laws.FnExactHearsDown", spec := "fnExactHearsDown", named := ["loop.example/skyway/impl.errShort", "loop.example/skyway/impl.errOther", "io.EOF"], ifaces := true, apart := false, laid := [("io.EOF", laid_io_EOF), ("loop.example/skyway/impl.errShort", laid_loop_example_skyway_impl_errShort), ("loop.example/skyway/impl.errOther", laid_loop_example_skyway_impl_errOther)], narrowed := true }
def FnExactHearsDownUptoSaid : Prop := fnExactHearsDownUptoRow.holds Tryd.pinned (OpenSpec.upto fnExactHearsDownSpec)

/-- 'laws.FnQueueIdle', WHERE WHAT IT READS IS OF BULK AT MOST 1048576: true; the input reads as it did. -/
def fnQueueIdleUptoRow : OpenClaim := { program := "ytgejiiaocgacmaadoor", sum := "9b42afd8328b3b1b6a273087971bdb14a9e3d91625ef8671bf987a839b6766ab", func := "loop.example/skyway/laws.FnQueueIdle", spec := "fnQueueIdle", inPlace := ["internal/abi.NoEscape", "internal/bytealg.MakeNoZero"], named := ["io.EOF", "loop.example/skyway/impl.errShort", "loop.example/skyway/impl.errOther"], ifaces := true, apart := false, laid := [("io.EOF", laid_io_EOF), ("loop.example/skyway/impl.errShort", laid_loop_example_skyway_impl_errShort), ("loop.example/skyway/impl.errOther", laid_loop_example_skyway_impl_errOther)], narrowed := true }
def FnQueueIdleUptoSaid : Prop := fnQueueIdleUptoRow.holds Tryd.pinned (OpenSpec.upto fnQueueIdleSpec)

/-- 'laws.FnHearsWhole', WHERE WHAT IT READS IS OF BULK AT MOST 1048576: true; the input reads as it did. -/
def fnHearsWholeUptoRow : OpenClaim := { program := "ytgejiiaocgacmaadoor", sum := "9b42afd8328b3b1b6a273087971bdb14a9e3d91625ef8671bf987a839b6766ab", func := "loop.example/skyway/laws.FnHearsWhole", spec := "fnHearsWhole", named := ["loop.example/skyway/impl.errShort", "loop.example/skyway/impl.errOther", "io.EOF"], ifaces := true, apart := false, laid := [("io.EOF", laid_io_EOF), ("loop.example/skyway/impl.errShort", laid_loop_example_skyway_impl_errShort), ("loop.example/skyway/impl.errOther", laid_loop_example_skyway_impl_errOther)], narrowed := true }
def FnHearsWholeUptoSaid : Prop := fnHearsWholeUptoRow.holds Tryd.pinned (OpenSpec.upto fnHearsWholeSpec)

end Rows
end Go.Proofs.YtgejiiaocgacmaaDoor
