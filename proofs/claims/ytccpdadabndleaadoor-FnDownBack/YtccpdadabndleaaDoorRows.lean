/-
  NARROWER THAN 'FOR EVERY INPUT', by the rows' own cells (each row's printed sentence says how): FnExactPacketGet: laid · FnExactCmdGet: laid · FnExactRepGet: laid · FnPacketBack: laid · FnCmdBack: laid · FnCmdByte: laid · FnRepBack: laid · FnExactDownPut: ifaces, laid · FnExactDownGet: ifaces, laid · FnDownBack: ifaces, laid · FnDownByte: ifaces, laid · FnExactSegHear: laid.
  DERIVED. THE GIVEN ROWS OF THIS SEAT. 12 by the template 'for every input the law returns true; each argument reads behind the call as it read before'; 0 by the template 'total and deterministic' (their statements: YtccpdadabndleaaDoorTotals.lean).
  GIVEN WITH THE SEED: the statements are not yours to turn. If you find one false, say at which input.
  Laid BY PROGRAM, IN A SANDBOX (cutbox-rows.mjs): the forced cells as the released guide's own fill.sh prints them over the translation b4c13871d5b46d80… (all of the seat's roots in one cut). By AI agents, Wed Nov 11 2026. No macro, syntax, notation, axiom, sorry.
-/
import Derived.Test.YtccpdadabndleaaDoorChecked
import GoSem.Claim
import GoSem.ClaimJoined
import GoSem.ClaimMapViews
import Derived.JoinedTies
import Derived.KernelRfl
namespace Go.Proofs.YtccpdadabndleaaDoor
/- THE CELL 'sum', in the pinned program and in every row, IS THE sha256 OF THE DUMP (.gsa) THAT YtccpdadabndleaaDoorProg.lean LOADS. Nothing in Lean hashes anything: it is a label: what it is worth is what the hold of that sum in a sandbox is worth. -/
noncomputable def Tryd.pinned : Pinned := { name := "ytccpdadabndleaadoor", sum := "b4c13871d5b46d80809ac686c52f609f7382334366a40b9bcdc22675578021be", checked := Tryd.checked }
namespace Rows
def none {H : Type} : Left H := { results := [], args := [] }

/- WHAT THE LISTED PACKAGE-LEVEL VARIABLES READ AS WHEN THE CALL BEGINS. Each datum BY PROGRAM (the guide's laid-datum.mjs) off the statement by which the dump's own 'gosem.cut.vars' lays the variable. In a bare row this is a premise. The card (YtccpdadabndleaaDoorCards.lean) ties it to the program's text. -/
def laid_io_EOF {H : Type} : DataW H := .iface "*errors.errorString" (.ptr (.agg [.lit (.string [69, 79, 70])]))
def laid_loop_example_skyway_impl_errShort {H : Type} : DataW H := .iface "*errors.errorString" (.ptr (.agg [.lit (.string [116, 104, 101, 32, 116, 101, 120, 116, 32, 101, 110, 100, 115, 32, 97, 104, 101, 97, 100, 32, 111, 102, 32, 116, 104, 101, 32, 102, 105, 101, 108, 100])]))
def laid_loop_example_skyway_impl_errOther {H : Type} : DataW H := .iface "*errors.errorString" (.ptr (.agg [.lit (.string [116, 104, 101, 32, 102, 105, 101, 108, 100, 115, 32, 100, 111, 32, 110, 111, 116, 32, 109, 97, 107, 101, 32, 117, 112, 32, 116, 104, 101, 32, 116, 101, 120, 116])]))
def laid_bytes_ErrTooLarge {H : Type} : DataW H := .iface "*errors.errorString" (.ptr (.agg [.lit (.string [98, 121, 116, 101, 115, 46, 66, 117, 102, 102, 101, 114, 58, 32, 116, 111, 111, 32, 108, 97, 114, 103, 101])]))

/-- 'laws.FnExactPacketGet': WHATEVER THE INPUT: true; the input reads as it did. -/
def fnExactPacketGetSpec : ChangeSpec := { name := "fnExactPacketGet", fn := fun _ => fun
  | [d1, d2] => { results := [.lit (.bool true)], args := [d1, d2] }
  | _ => none }
def fnExactPacketGetRow : OpenClaim := { program := "ytccpdadabndleaadoor", sum := "b4c13871d5b46d80809ac686c52f609f7382334366a40b9bcdc22675578021be", func := "loop.example/skyway/laws.FnExactPacketGet", spec := "fnExactPacketGet", named := ["io.EOF"], apart := false, laid := [("io.EOF", laid_io_EOF)] }
def FnExactPacketGetSaid : Prop := fnExactPacketGetRow.holds Tryd.pinned (OpenSpec.ofChange fnExactPacketGetSpec)

/-- ITS FALSE NEIGHBOUR: 'it returns false'. Refute it at one input. -/
def fnExactPacketGetWrong : ChangeSpec := { name := "fnExactPacketGet", fn := fun _ => fun
  | [d1, d2] => { results := [.lit (.bool false)], args := [d1, d2] }
  | _ => none }
def FnExactPacketGetWrongFalsely : Prop := fnExactPacketGetRow.holds Tryd.pinned (OpenSpec.ofChange fnExactPacketGetWrong)

/-- 'laws.FnExactCmdGet': WHATEVER THE INPUT: true; the input reads as it did. -/
def fnExactCmdGetSpec : ChangeSpec := { name := "fnExactCmdGet", fn := fun _ => fun
  | [d] => { results := [.lit (.bool true)], args := [d] }
  | _ => none }
def fnExactCmdGetRow : OpenClaim := { program := "ytccpdadabndleaadoor", sum := "b4c13871d5b46d80809ac686c52f609f7382334366a40b9bcdc22675578021be", func := "loop.example/skyway/laws.FnExactCmdGet", spec := "fnExactCmdGet", named := ["io.EOF"], apart := false, laid := [("io.EOF", laid_io_EOF)] }
def FnExactCmdGetSaid : Prop := fnExactCmdGetRow.holds Tryd.pinned (OpenSpec.ofChange fnExactCmdGetSpec)

/-- ITS FALSE NEIGHBOUR: 'it returns false'. Refute it at one input. -/
def fnExactCmdGetWrong : ChangeSpec := { name := "fnExactCmdGet", fn := fun _ => fun
  | [d] => { results := [.lit (.bool false)], args := [d] }
  | _ => none }
def FnExactCmdGetWrongFalsely : Prop := fnExactCmdGetRow.holds Tryd.pinned (OpenSpec.ofChange fnExactCmdGetWrong)

/-- 'laws.FnExactRepGet': WHATEVER THE INPUT: true; the input reads as it did. -/
def fnExactRepGetSpec : ChangeSpec := { name := "fnExactRepGet", fn := fun _ => fun
  | [d] => { results := [.lit (.bool true)], args := [d] }
  | _ => none }
def fnExactRepGetRow : OpenClaim := { program := "ytccpdadabndleaadoor", sum := "b4c13871d5b46d80809ac686c52f609f7382334366a40b9bcdc22675578021be", func := "loop.example/skyway/laws.FnExactRepGet", spec := "fnExactRepGet", named := ["io.EOF"], apart := false, laid := [("io.EOF", laid_io_EOF)] }
def FnExactRepGetSaid : Prop := fnExactRepGetRow.holds Tryd.pinned (OpenSpec.ofChange fnExactRepGetSpec)

/-- ITS FALSE NEIGHBOUR: 'it returns false'. Refute it at one input. -/
def fnExactRepGetWrong : ChangeSpec := { name := "fnExactRepGet", fn := fun _ => fun
  | [d] => { results := [.lit (.bool false)], args := [d] }
  | _ => none }
def FnExactRepGetWrongFalsely : Prop := fnExactRepGetRow.holds Tryd.pinned (OpenSpec.ofChange fnExactRepGetWrong)

/-- 'laws.FnPacketBack': WHATEVER THE INPUT: true; the input reads as it did. -/
def fnPacketBackSpec : ChangeSpec := { name := "fnPacketBack", fn := fun _ => fun
  | [d1, d2] => { results := [.lit (.bool true)], args := [d1, d2] }
  | _ => none }
def fnPacketBackRow : OpenClaim := { program := "ytccpdadabndleaadoor", sum := "b4c13871d5b46d80809ac686c52f609f7382334366a40b9bcdc22675578021be", func := "loop.example/skyway/laws.FnPacketBack", spec := "fnPacketBack", named := ["io.EOF"], apart := false, laid := [("io.EOF", laid_io_EOF)] }
def FnPacketBackSaid : Prop := fnPacketBackRow.holds Tryd.pinned (OpenSpec.ofChange fnPacketBackSpec)

/-- ITS FALSE NEIGHBOUR: 'it returns false'. Refute it at one input. -/
def fnPacketBackWrong : ChangeSpec := { name := "fnPacketBack", fn := fun _ => fun
  | [d1, d2] => { results := [.lit (.bool false)], args := [d1, d2] }
  | _ => none }
def FnPacketBackWrongFalsely : Prop := fnPacketBackRow.holds Tryd.pinned (OpenSpec.ofChange fnPacketBackWrong)

/-- 'laws.FnCmdBack': WHATEVER THE INPUT: true; the input reads as it did. -/
def fnCmdBackSpec : ChangeSpec := { name := "fnCmdBack", fn := fun _ => fun
  | [d1, d2] => { results := [.lit (.bool true)], args := [d1, d2] }
  | _ => none }
def fnCmdBackRow : OpenClaim := { program := "ytccpdadabndleaadoor", sum := "b4c13871d5b46d80809ac686c52f609f7382334366a40b9bcdc22675578021be", func := "loop.example/skyway/laws.FnCmdBack", spec := "fnCmdBack", named := ["io.EOF"], apart := false, laid := [("io.EOF", laid_io_EOF)] }
def FnCmdBackSaid : Prop := fnCmdBackRow.holds Tryd.pinned (OpenSpec.ofChange fnCmdBackSpec)

/-- ITS FALSE NEIGHBOUR: 'it returns false'. Refute it at one input. -/
def fnCmdBackWrong : ChangeSpec := { name := "fnCmdBack", fn := fun _ => fun
  | [d1, d2] => { results := [.lit (.bool false)], args := [d1, d2] }
  | _ => none }
def FnCmdBackWrongFalsely : Prop := fnCmdBackRow.holds Tryd.pinned (OpenSpec.ofChange fnCmdBackWrong)

/-- 'laws.FnCmdByte': WHATEVER THE INPUT: true; the input reads as it did. -/
def fnCmdByteSpec : ChangeSpec := { name := "fnCmdByte", fn := fun _ => fun
  | [d1, d2] => { results := [.lit (.bool true)], args := [d1, d2] }
  | _ => none }
def fnCmdByteRow : OpenClaim := { program := "ytccpdadabndleaadoor", sum := "b4c13871d5b46d80809ac686c52f609f7382334366a40b9bcdc22675578021be", func := "loop.example/skyway/laws.FnCmdByte", spec := "fnCmdByte", named := ["io.EOF"], apart := false, laid := [("io.EOF", laid_io_EOF)] }
def FnCmdByteSaid : Prop := fnCmdByteRow.holds Tryd.pinned (OpenSpec.ofChange fnCmdByteSpec)

/-- ITS FALSE NEIGHBOUR: 'it returns false'. Refute it at one input. -/
def fnCmdByteWrong : ChangeSpec := { name := "fnCmdByte", fn := fun _ => fun
  | [d1, d2] => { results := [.lit (.bool false)], args := [d1, d2] }
  | _ => none }
def FnCmdByteWrongFalsely : Prop := fnCmdByteRow.holds Tryd.pinned (OpenSpec.ofChange fnCmdByteWrong)

/-- 'laws.FnRepBack': WHATEVER THE INPUT: true; the input reads as it did. -/
def fnRepBackSpec : ChangeSpec := { name := "fnRepBack", fn := fun _ => fun
  | [d1, d2] => { results := [.lit (.bool true)], args := [d1, d2] }
  | _ => none }
def fnRepBackRow : OpenClaim := { program := "ytccpdadabndleaadoor", sum := "b4c13871d5b46d80809ac686c52f609f7382334366a40b9bcdc22675578021be", func := "loop.example/skyway/laws.FnRepBack", spec := "fnRepBack", named := ["io.EOF"], apart := false, laid := [("io.EOF", laid_io_EOF)] }
def FnRepBackSaid : Prop := fnRepBackRow.holds Tryd.pinned (OpenSpec.ofChange fnRepBackSpec)

/-- ITS FALSE NEIGHBOUR: 'it returns false'. Refute it at one input. -/
def fnRepBackWrong : ChangeSpec := { name := "fnRepBack", fn := fun _ => fun
  | [d1, d2] => { results := [.lit (.bool false)], args := [d1, d2] }
  | _ => none }
def FnRepBackWrongFalsely : Prop := fnRepBackRow.holds Tryd.pinned (OpenSpec.ofChange fnRepBackWrong)

/-- 'laws.FnExactDownPut': WHATEVER THE INPUT: true; the input reads as it did. -/
def fnExactDownPutSpec : ChangeSpec := { name := "fnExactDownPut", vars := ["loop.example/skyway/impl.errShort", "loop.example/skyway/impl.errOther"], fn := fun _ => fun
  | [d, g1, g2] => { results := [.lit (.bool true)], args := [d], vars := [g1, g2] }
  | _ => none }
def fnExactDownPutRow : OpenClaim := { program := "ytccpdadabndleaadoor", sum := "b4c13871d5b46d80809ac686c52f609f7382334366a40b9bcdc22675578021be", func := "loop.example/skyway/laws.FnExactDownPut", spec := "fnExactDownPut", named := ["loop.example/skyway/impl.errShort", "loop.example/skyway/impl.errOther"], ifaces := true, apart := false, laid := [("loop.example/skyway/impl.errShort", laid_loop_example_skyway_impl_errShort), ("loop.example/skyway/impl.errOther", laid_loop_example_skyway_impl_errOther)] }
def FnExactDownPutSaid : Prop := fnExactDownPutRow.holds Tryd.pinned (OpenSpec.ofChange fnExactDownPutSpec)

/-- ITS FALSE NEIGHBOUR: 'it returns false'. Refute it at one input. -/
def fnExactDownPutWrong : ChangeSpec := { name := "fnExactDownPut", vars := ["loop.example/skyway/impl.errShort", "loop.example/skyway/impl.errOther"], fn := fun _ => fun
  | [d, g1, g2] => { results := [.lit (.bool false)], args := [d], vars := [g1, g2] }
  | _ => none }
def FnExactDownPutWrongFalsely : Prop := fnExactDownPutRow.holds Tryd.pinned (OpenSpec.ofChange fnExactDownPutWrong)

/-- 'laws.FnExactDownGet': WHATEVER THE INPUT: true; the input reads as it did. -/
def fnExactDownGetSpec : ChangeSpec := { name := "fnExactDownGet", vars := ["loop.example/skyway/impl.errShort", "loop.example/skyway/impl.errOther"], fn := fun _ => fun
  | [d, g1, g2] => { results := [.lit (.bool true)], args := [d], vars := [g1, g2] }
  | _ => none }
def fnExactDownGetRow : OpenClaim := { program := "ytccpdadabndleaadoor", sum := "b4c13871d5b46d80809ac686c52f609f7382334366a40b9bcdc22675578021be", func := "loop.example/skyway/laws.FnExactDownGet", spec := "fnExactDownGet", named := ["loop.example/skyway/impl.errShort", "loop.example/skyway/impl.errOther"], ifaces := true, apart := false, laid := [("loop.example/skyway/impl.errShort", laid_loop_example_skyway_impl_errShort), ("loop.example/skyway/impl.errOther", laid_loop_example_skyway_impl_errOther)] }
def FnExactDownGetSaid : Prop := fnExactDownGetRow.holds Tryd.pinned (OpenSpec.ofChange fnExactDownGetSpec)

/-- ITS FALSE NEIGHBOUR: 'it returns false'. Refute it at one input. -/
def fnExactDownGetWrong : ChangeSpec := { name := "fnExactDownGet", vars := ["loop.example/skyway/impl.errShort", "loop.example/skyway/impl.errOther"], fn := fun _ => fun
  | [d, g1, g2] => { results := [.lit (.bool false)], args := [d], vars := [g1, g2] }
  | _ => none }
def FnExactDownGetWrongFalsely : Prop := fnExactDownGetRow.holds Tryd.pinned (OpenSpec.ofChange fnExactDownGetWrong)

/-- 'laws.FnDownBack': WHATEVER THE INPUT: true; the input reads as it did. -/
def fnDownBackSpec : ChangeSpec := { name := "fnDownBack", vars := ["loop.example/skyway/impl.errShort", "loop.example/skyway/impl.errOther"], fn := fun _ => fun
  | [d1, d2, g1, g2] => { results := [.lit (.bool true)], args := [d1, d2], vars := [g1, g2] }
  | _ => none }
def fnDownBackRow : OpenClaim := { program := "ytccpdadabndleaadoor", sum := "b4c13871d5b46d80809ac686c52f609f7382334366a40b9bcdc22675578021be", func := "loop.example/skyway/laws.FnDownBack", spec := "fnDownBack", named := ["loop.example/skyway/impl.errShort", "loop.example/skyway/impl.errOther"], ifaces := true, apart := false, laid := [("loop.example/skyway/impl.errShort", laid_loop_example_skyway_impl_errShort), ("loop.example/skyway/impl.errOther", laid_loop_example_skyway_impl_errOther)] }
def FnDownBackSaid : Prop := fnDownBackRow.holds Tryd.pinned (OpenSpec.ofChange fnDownBackSpec)

/-- ITS FALSE NEIGHBOUR: 'it returns false'. Refute it at one input. -/
def fnDownBackWrong : ChangeSpec := { name := "fnDownBack", vars := ["loop.example/skyway/impl.errShort", "loop.example/skyway/impl.errOther"], fn := fun _ => fun
  | [d1, d2, g1, g2] => { results := [.lit (.bool false)], args := [d1, d2], vars := [g1, g2] }
  | _ => none }
def FnDownBackWrongFalsely : Prop := fnDownBackRow.holds Tryd.pinned (OpenSpec.ofChange fnDownBackWrong)

/-- 'laws.FnDownByte': WHATEVER THE INPUT: true; the input reads as it did. -/
def fnDownByteSpec : ChangeSpec := { name := "fnDownByte", vars := ["loop.example/skyway/impl.errShort", "loop.example/skyway/impl.errOther"], fn := fun _ => fun
  | [d1, d2, g1, g2] => { results := [.lit (.bool true)], args := [d1, d2], vars := [g1, g2] }
  | _ => none }
def fnDownByteRow : OpenClaim := { program := "ytccpdadabndleaadoor", sum := "b4c13871d5b46d80809ac686c52f609f7382334366a40b9bcdc22675578021be", func := "loop.example/skyway/laws.FnDownByte", spec := "fnDownByte", named := ["loop.example/skyway/impl.errShort", "loop.example/skyway/impl.errOther"], ifaces := true, apart := false, laid := [("loop.example/skyway/impl.errShort", laid_loop_example_skyway_impl_errShort), ("loop.example/skyway/impl.errOther", laid_loop_example_skyway_impl_errOther)] }
def FnDownByteSaid : Prop := fnDownByteRow.holds Tryd.pinned (OpenSpec.ofChange fnDownByteSpec)

/-- ITS FALSE NEIGHBOUR: 'it returns false'. Refute it at one input. -/
def fnDownByteWrong : ChangeSpec := { name := "fnDownByte", vars := ["loop.example/skyway/impl.errShort", "loop.example/skyway/impl.errOther"], fn := fun _ => fun
  | [d1, d2, g1, g2] => { results := [.lit (.bool false)], args := [d1, d2], vars := [g1, g2] }
  | _ => none }
def FnDownByteWrongFalsely : Prop := fnDownByteRow.holds Tryd.pinned (OpenSpec.ofChange fnDownByteWrong)

/-- 'laws.FnExactSegHear': WHATEVER THE INPUT: true; the input reads as it did. -/
def fnExactSegHearSpec : ChangeSpec := { name := "fnExactSegHear", fn := fun _ => fun
  | [d1, d2, d3] => { results := [.lit (.bool true)], args := [d1, d2, d3] }
  | _ => none }
def fnExactSegHearRow : OpenClaim := { program := "ytccpdadabndleaadoor", sum := "b4c13871d5b46d80809ac686c52f609f7382334366a40b9bcdc22675578021be", func := "loop.example/skyway/laws.FnExactSegHear", spec := "fnExactSegHear", named := ["bytes.ErrTooLarge"], apart := false, laid := [("bytes.ErrTooLarge", laid_bytes_ErrTooLarge)] }
def FnExactSegHearSaid : Prop := fnExactSegHearRow.holds Tryd.pinned (OpenSpec.ofChange fnExactSegHearSpec)

/-- ITS FALSE NEIGHBOUR: 'it returns false'. Refute it at one input. -/
def fnExactSegHearWrong : ChangeSpec := { name := "fnExactSegHear", fn := fun _ => fun
  | [d1, d2, d3] => { results := [.lit (.bool false)], args := [d1, d2, d3] }
  | _ => none }
def FnExactSegHearWrongFalsely : Prop := fnExactSegHearRow.holds Tryd.pinned (OpenSpec.ofChange fnExactSegHearWrong)

/- THE SECOND FORM. 'bulk': how many values and letters a reading holds, each counted each time it is reached (what is shared counts as often as it is met; a slice's spare places count too). A statement '..UptoSaid' is the law's where the arguments, and the package variables that the reading takes, are together of bulk at most 1048576: NARROWER than '..Said'. Prove '..Said' where nothing that the law and all that it calls make is longer than what came in: it says more and counts as full. Else prove '..UptoSaid'. A law counts once. -/
mutual
def uptoBulk {H : Type} : DataW H → Nat
  | .lit (.string bytes) => bytes.length + 1
  | .lit _ => 1
  | .nil => 1
  | .ptr d => uptoBulk d + 1
  | .slice elems spare => uptoBulkAll elems + uptoBulkAll spare + 1
  | .agg parts => uptoBulkAll parts + 1
  | .iface _ d => uptoBulk d + 1
  | .map entries => uptoBulkEntries entries + 1
  | .held _ => 1
def uptoBulkAll {H : Type} : List (DataW H) → Nat
  | [] => 0
  | d :: r => uptoBulk d + uptoBulkAll r
def uptoBulkEntries {H : Type} : List (Lit × DataW H) → Nat
  | [] => 0
  | x :: r => uptoBulkEntry x + uptoBulkEntries r
def uptoBulkEntry {H : Type} : Lit × DataW H → Nat
  | (.string bytes, d) => bytes.length + uptoBulk d + 1
  | (_, d) => uptoBulk d + 1
 end
def uptoSmall : (H : Type) → List (DataW H) → Bool := fun _ ds => decide (uptoBulkAll ds ≤ 1048576)
def OpenSpec.upto (s : _root_.Go.ChangeSpec) : _root_.Go.OpenSpec := { _root_.Go.OpenSpec.ofChange s with cond := some uptoSmall }

/-- 'laws.FnExactPacketGet', WHERE WHAT IT READS IS OF BULK AT MOST 1048576: true; the input reads as it did. -/
def fnExactPacketGetUptoRow : OpenClaim := { program := "ytccpdadabndleaadoor", sum := "b4c13871d5b46d80809ac686c52f609f7382334366a40b9bcdc22675578021be", func := "loop.example/skyway/laws.FnExactPacketGet", spec := "fnExactPacketGet", named := ["io.EOF"], apart := false, laid := [("io.EOF", laid_io_EOF)], narrowed := true }
def FnExactPacketGetUptoSaid : Prop := fnExactPacketGetUptoRow.holds Tryd.pinned (OpenSpec.upto fnExactPacketGetSpec)

/-- 'laws.FnExactCmdGet', WHERE WHAT IT READS IS OF BULK AT MOST 1048576: true; the input reads as it did. -/
def fnExactCmdGetUptoRow : OpenClaim := { program := "ytccpdadabndleaadoor", sum := "b4c13871d5b46d80809ac686c52f609f7382334366a40b9bcdc22675578021be", func := "loop.example/skyway/laws.FnExactCmdGet", spec := "fnExactCmdGet", named := ["io.EOF"], apart := false, laid := [("io.EOF", laid_io_EOF)], narrowed := true }
def FnExactCmdGetUptoSaid : Prop := fnExactCmdGetUptoRow.holds Tryd.pinned (OpenSpec.upto fnExactCmdGetSpec)

/-- 'laws.FnExactRepGet', WHERE WHAT IT READS IS OF BULK AT MOST 1048576: true; the input reads as it did. -/
def fnExactRepGetUptoRow : OpenClaim := { program := "ytccpdadabndleaadoor", sum := "b4c13871d5b46d80809ac686c52f609f7382334366a40b9bcdc22675578021be", func := "loop.example/skyway/laws.FnExactRepGet", spec := "fnExactRepGet", named := ["io.EOF"], apart := false, laid := [("io.EOF", laid_io_EOF)], narrowed := true }
def FnExactRepGetUptoSaid : Prop := fnExactRepGetUptoRow.holds Tryd.pinned (OpenSpec.upto fnExactRepGetSpec)

/-- 'laws.FnPacketBack', WHERE WHAT IT READS IS OF BULK AT MOST 1048576: true; the input reads as it did. -/
def fnPacketBackUptoRow : OpenClaim := { program := "ytccpdadabndleaadoor", sum := "b4c13871d5b46d80809ac686c52f609f7382334366a40b9bcdc22675578021be", func := "loop.example/skyway/laws.FnPacketBack", spec := "fnPacketBack", named := ["io.EOF"], apart := false, laid := [("io.EOF", laid_io_EOF)], narrowed := true }
def FnPacketBackUptoSaid : Prop := fnPacketBackUptoRow.holds Tryd.pinned (OpenSpec.upto fnPacketBackSpec)

/-- 'laws.FnCmdBack', WHERE WHAT IT READS IS OF BULK AT MOST 1048576: true; the input reads as it did. -/
def fnCmdBackUptoRow : OpenClaim := { program := "ytccpdadabndleaadoor", sum := "b4c13871d5b46d80809ac686c52f609f7382334366a40b9bcdc22675578021be", func := "loop.example/skyway/laws.FnCmdBack", spec := "fnCmdBack", named := ["io.EOF"], apart := false, laid := [("io.EOF", laid_io_EOF)], narrowed := true }
def FnCmdBackUptoSaid : Prop := fnCmdBackUptoRow.holds Tryd.pinned (OpenSpec.upto fnCmdBackSpec)

/-- 'laws.FnCmdByte', WHERE WHAT IT READS IS OF BULK AT MOST 1048576: true; the input reads as it did. -/
def fnCmdByteUptoRow : OpenClaim := { program := "ytccpdadabndleaadoor", sum := "b4c13871d5b46d80809ac686c52f609f7382334366a40b9bcdc22675578021be", func := "loop.example/skyway/laws.FnCmdByte", spec := "fnCmdByte", named := ["io.EOF"], apart := false, laid := [("io.EOF", laid_io_EOF)], narrowed := true }
def FnCmdByteUptoSaid : Prop := fnCmdByteUptoRow.holds Tryd.pinned (OpenSpec.upto fnCmdByteSpec)

/-- 'laws.FnRepBack', WHERE WHAT IT READS IS OF BULK AT MOST 1048576: true; the input reads as it did. -/
def fnRepBackUptoRow : OpenClaim := { program := "ytccpdadabndleaadoor", sum := "b4c13871d5b46d80809ac686c52f609f7382334366a40b9bcdc22675578021be", func := "loop.example/skyway/laws.FnRepBack", spec := "fnRepBack", named := ["io.EOF"], apart := false, laid := [("io.EOF", laid_io_EOF)], narrowed := true }
def FnRepBackUptoSaid : Prop := fnRepBackUptoRow.holds Tryd.pinned (OpenSpec.upto fnRepBackSpec)

/-- 'laws.FnExactDownPut', WHERE WHAT IT READS IS OF BULK AT MOST 1048576: true; the input reads as it did. -/
def fnExactDownPutUptoRow : OpenClaim := { program := "ytccpdadabndleaadoor", sum := "b4c13871d5b46d80809ac686c52f609f7382334366a40b9bcdc22675578021be", func := "loop.example/skyway/laws.FnExactDownPut", spec := "fnExactDownPut", named := ["loop.example/skyway/impl.errShort", "loop.example/skyway/impl.errOther"], ifaces := true, apart := false, laid := [("loop.example/skyway/impl.errShort", laid_loop_example_skyway_impl_errShort), ("loop.example/skyway/impl.errOther", laid_loop_example_skyway_impl_errOther)], narrowed := true }
def FnExactDownPutUptoSaid : Prop := fnExactDownPutUptoRow.holds Tryd.pinned (OpenSpec.upto fnExactDownPutSpec)

/-- 'laws.FnExactDownGet', WHERE WHAT IT READS IS OF BULK AT MOST 1048576: true; the input reads as it did. -/
def fnExactDownGetUptoRow : OpenClaim := { program := "ytccpdadabndleaadoor", sum := "b4c13871d5b46d80809ac686c52f609f7382334366a40b9bcdc22675578021be", func := "loop.example/skyway/laws.FnExactDownGet", spec := "fnExactDownGet", named := ["loop.example/skyway/impl.errShort", "loop.example/skyway/impl.errOther"], ifaces := true, apart := false, laid := [("loop.example/skyway/impl.errShort", laid_loop_example_skyway_impl_errShort), ("loop.example/skyway/impl.errOther", laid_loop_example_skyway_impl_errOther)], narrowed := true }
def FnExactDownGetUptoSaid : Prop := fnExactDownGetUptoRow.holds Tryd.pinned (OpenSpec.upto fnExactDownGetSpec)

/-- 'laws.FnDownBack', WHERE WHAT IT READS IS OF BULK AT MOST 1048576: true; the input reads as it did. -/
def fnDownBackUptoRow : OpenClaim := { program := "ytccpdadabndleaadoor", sum := "b4c13871d5b46d80809ac686c52f609f7382334366a40b9bcdc22675578021be", func := "loop.example/skyway/laws.FnDownBack", spec := "fnDownBack", named := ["loop.example/skyway/impl.errShort", "loop.example/skyway/impl.errOther"], ifaces := true, apart := false, laid := [("loop.example/skyway/impl.errShort", laid_loop_example_skyway_impl_errShort), ("loop.example/skyway/impl.errOther", laid_loop_example_skyway_impl_errOther)], narrowed := true }
def FnDownBackUptoSaid : Prop := fnDownBackUptoRow.holds Tryd.pinned (OpenSpec.upto fnDownBackSpec)

/-- 'laws.FnDownByte', WHERE WHAT IT READS IS OF BULK AT MOST 1048576: true; the input reads as it did. -/
def fnDownByteUptoRow : OpenClaim := { program := "ytccpdadabndleaadoor", sum := "b4c13871d5b46d80809ac686c52f609f7382334366a40b9bcdc22675578021be", func := "loop.example/skyway/laws.FnDownByte", spec := "fnDownByte", named := ["loop.example/skyway/impl.errShort", "loop.example/skyway/impl.errOther"], ifaces := true, apart := false, laid := [("loop.example/skyway/impl.errShort", laid_loop_example_skyway_impl_errShort), ("loop.example/skyway/impl.errOther", laid_loop_example_skyway_impl_errOther)], narrowed := true }
def FnDownByteUptoSaid : Prop := fnDownByteUptoRow.holds Tryd.pinned (OpenSpec.upto fnDownByteSpec)

/-- 'laws.FnExactSegHear', WHERE WHAT IT READS IS OF BULK AT MOST 1048576: true; the input reads as it did. -/
def fnExactSegHearUptoRow : OpenClaim := { program := "ytccpdadabndleaadoor", sum := "b4c13871d5b46d80809ac686c52f609f7382334366a40b9bcdc22675578021be", func := "loop.example/skyway/laws.FnExactSegHear", spec := "fnExactSegHear", named := ["bytes.ErrTooLarge"], apart := false, laid := [("bytes.ErrTooLarge", laid_bytes_ErrTooLarge)], narrowed := true }
def FnExactSegHearUptoSaid : Prop := fnExactSegHearUptoRow.holds Tryd.pinned (OpenSpec.upto fnExactSegHearSpec)

end Rows
end Go.Proofs.YtccpdadabndleaaDoor
