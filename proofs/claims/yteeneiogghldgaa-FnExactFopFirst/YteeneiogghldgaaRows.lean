/-
  No cell of these rows narrows 'for every input' (looked for: loops, veiled, ifaces, maps, wideKeys, modest, calm, conditions, laid).
  DERIVED. THE GIVEN ROWS OF THIS SEAT. 8 by the template 'for every input the law returns true; each argument reads behind the call as it read before'; 0 by the template 'total and deterministic' (their statements: YteeneiogghldgaaTotals.lean).
  GIVEN WITH THE SEED: the statements are not yours to turn. If you find one false, say at which input.
  Laid BY PROGRAM, IN A SANDBOX (cutbox-rows.mjs): the forced cells as the released guide's own fill.sh prints them over the translation 6656dbf66b036fde… (all of the seat's roots in one cut). By AI agents, Wed Nov 11 2026. No macro, syntax, notation, axiom, sorry.
-/
import Derived.Test.YteeneiogghldgaaChecked
import GoSem.Claim
import GoSem.ClaimJoined
import GoSem.ClaimMapViews
import Derived.JoinedTies
import Derived.KernelRfl
namespace Go.Proofs.Yteeneiogghldgaa
/- THE CELL 'sum', in the pinned program and in every row, IS THE sha256 OF THE DUMP (.gsa) THAT YteeneiogghldgaaProg.lean LOADS. Nothing in Lean hashes anything: it is a label: what it is worth is what the hold of that sum in a sandbox is worth. -/
noncomputable def Try.pinned : Pinned := { name := "yteeneiogghldgaa", sum := "6656dbf66b036fdecc2b6ad02a1422c9416f8b47d48ba680fba024d0d4363112", checked := Try.checked }
namespace Rows
def none {H : Type} : Left H := { results := [], args := [] }

/-- 'laws.FnExactFarmHear': WHATEVER THE INPUT: true; the input reads as it did. -/
def fnExactFarmHearSpec : ChangeSpec := { name := "fnExactFarmHear", fn := fun _ => fun
  | [d1, d2, d3] => { results := [.lit (.bool true)], args := [d1, d2, d3] }
  | _ => none }
def fnExactFarmHearRow : OpenClaim := { program := "yteeneiogghldgaa", sum := "6656dbf66b036fdecc2b6ad02a1422c9416f8b47d48ba680fba024d0d4363112", func := "loop.example/skyway/laws.FnExactFarmHear", spec := "fnExactFarmHear", unfollowed := true, recurses := true, apart := false }
def FnExactFarmHearSaid : Prop := fnExactFarmHearRow.holds Try.pinned (OpenSpec.ofChange fnExactFarmHearSpec)

/-- ITS FALSE NEIGHBOUR: 'it returns false'. Refute it at one input. -/
def fnExactFarmHearWrong : ChangeSpec := { name := "fnExactFarmHear", fn := fun _ => fun
  | [d1, d2, d3] => { results := [.lit (.bool false)], args := [d1, d2, d3] }
  | _ => none }
def FnExactFarmHearWrongFalsely : Prop := fnExactFarmHearRow.holds Try.pinned (OpenSpec.ofChange fnExactFarmHearWrong)

/-- 'laws.FnFarmOpen': WHATEVER THE INPUT: true; the input reads as it did. -/
def fnFarmOpenSpec : ChangeSpec := { name := "fnFarmOpen", fn := fun _ => fun
  | [d1, d2] => { results := [.lit (.bool true)], args := [d1, d2] }
  | _ => none }
def fnFarmOpenRow : OpenClaim := { program := "yteeneiogghldgaa", sum := "6656dbf66b036fdecc2b6ad02a1422c9416f8b47d48ba680fba024d0d4363112", func := "loop.example/skyway/laws.FnFarmOpen", spec := "fnFarmOpen", unfollowed := true, recurses := true, apart := false }
def FnFarmOpenSaid : Prop := fnFarmOpenRow.holds Try.pinned (OpenSpec.ofChange fnFarmOpenSpec)

/-- ITS FALSE NEIGHBOUR: 'it returns false'. Refute it at one input. -/
def fnFarmOpenWrong : ChangeSpec := { name := "fnFarmOpen", fn := fun _ => fun
  | [d1, d2] => { results := [.lit (.bool false)], args := [d1, d2] }
  | _ => none }
def FnFarmOpenWrongFalsely : Prop := fnFarmOpenRow.holds Try.pinned (OpenSpec.ofChange fnFarmOpenWrong)

/-- 'laws.FnFarmRoom': WHATEVER THE INPUT: true; the input reads as it did. -/
def fnFarmRoomSpec : ChangeSpec := { name := "fnFarmRoom", fn := fun _ => fun
  | [d] => { results := [.lit (.bool true)], args := [d] }
  | _ => none }
def fnFarmRoomRow : OpenClaim := { program := "yteeneiogghldgaa", sum := "6656dbf66b036fdecc2b6ad02a1422c9416f8b47d48ba680fba024d0d4363112", func := "loop.example/skyway/laws.FnFarmRoom", spec := "fnFarmRoom", unfollowed := true, recurses := true, apart := false }
def FnFarmRoomSaid : Prop := fnFarmRoomRow.holds Try.pinned (OpenSpec.ofChange fnFarmRoomSpec)

/-- ITS FALSE NEIGHBOUR: 'it returns false'. Refute it at one input. -/
def fnFarmRoomWrong : ChangeSpec := { name := "fnFarmRoom", fn := fun _ => fun
  | [d] => { results := [.lit (.bool false)], args := [d] }
  | _ => none }
def FnFarmRoomWrongFalsely : Prop := fnFarmRoomRow.holds Try.pinned (OpenSpec.ofChange fnFarmRoomWrong)

/-- 'laws.FnExactCltuPut': WHATEVER THE INPUT: true; the input reads as it did. -/
def fnExactCltuPutSpec : ChangeSpec := { name := "fnExactCltuPut", fn := fun _ => fun
  | [d] => { results := [.lit (.bool true)], args := [d] }
  | _ => none }
def fnExactCltuPutRow : OpenClaim := { program := "yteeneiogghldgaa", sum := "6656dbf66b036fdecc2b6ad02a1422c9416f8b47d48ba680fba024d0d4363112", func := "loop.example/skyway/laws.FnExactCltuPut", spec := "fnExactCltuPut", inPlace := ["internal/abi.NoEscape", "internal/bytealg.MakeNoZero"], apart := false }
def FnExactCltuPutSaid : Prop := fnExactCltuPutRow.holds Try.pinned (OpenSpec.ofChange fnExactCltuPutSpec)

/-- ITS FALSE NEIGHBOUR: 'it returns false'. Refute it at one input. -/
def fnExactCltuPutWrong : ChangeSpec := { name := "fnExactCltuPut", fn := fun _ => fun
  | [d] => { results := [.lit (.bool false)], args := [d] }
  | _ => none }
def FnExactCltuPutWrongFalsely : Prop := fnExactCltuPutRow.holds Try.pinned (OpenSpec.ofChange fnExactCltuPutWrong)

/-- 'laws.FnExactCltuGet': WHATEVER THE INPUT: true; the input reads as it did. -/
def fnExactCltuGetSpec : ChangeSpec := { name := "fnExactCltuGet", fn := fun _ => fun
  | [d] => { results := [.lit (.bool true)], args := [d] }
  | _ => none }
def fnExactCltuGetRow : OpenClaim := { program := "yteeneiogghldgaa", sum := "6656dbf66b036fdecc2b6ad02a1422c9416f8b47d48ba680fba024d0d4363112", func := "loop.example/skyway/laws.FnExactCltuGet", spec := "fnExactCltuGet", unfollowed := true, recurses := true, apart := false }
def FnExactCltuGetSaid : Prop := fnExactCltuGetRow.holds Try.pinned (OpenSpec.ofChange fnExactCltuGetSpec)

/-- ITS FALSE NEIGHBOUR: 'it returns false'. Refute it at one input. -/
def fnExactCltuGetWrong : ChangeSpec := { name := "fnExactCltuGet", fn := fun _ => fun
  | [d] => { results := [.lit (.bool false)], args := [d] }
  | _ => none }
def FnExactCltuGetWrongFalsely : Prop := fnExactCltuGetRow.holds Try.pinned (OpenSpec.ofChange fnExactCltuGetWrong)

/-- 'laws.FnExactCltuRead': WHATEVER THE INPUT: true; the input reads as it did. -/
def fnExactCltuReadSpec : ChangeSpec := { name := "fnExactCltuRead", fn := fun _ => fun
  | [d] => { results := [.lit (.bool true)], args := [d] }
  | _ => none }
def fnExactCltuReadRow : OpenClaim := { program := "yteeneiogghldgaa", sum := "6656dbf66b036fdecc2b6ad02a1422c9416f8b47d48ba680fba024d0d4363112", func := "loop.example/skyway/laws.FnExactCltuRead", spec := "fnExactCltuRead", unfollowed := true, recurses := true, apart := false }
def FnExactCltuReadSaid : Prop := fnExactCltuReadRow.holds Try.pinned (OpenSpec.ofChange fnExactCltuReadSpec)

/-- ITS FALSE NEIGHBOUR: 'it returns false'. Refute it at one input. -/
def fnExactCltuReadWrong : ChangeSpec := { name := "fnExactCltuRead", fn := fun _ => fun
  | [d] => { results := [.lit (.bool false)], args := [d] }
  | _ => none }
def FnExactCltuReadWrongFalsely : Prop := fnExactCltuReadRow.holds Try.pinned (OpenSpec.ofChange fnExactCltuReadWrong)

/-- 'laws.FnExactFopOk': WHATEVER THE INPUT: true; the input reads as it did. -/
def fnExactFopOkSpec : ChangeSpec := { name := "fnExactFopOk", fn := fun _ => fun
  | [d] => { results := [.lit (.bool true)], args := [d] }
  | _ => none }
def fnExactFopOkRow : OpenClaim := { program := "yteeneiogghldgaa", sum := "6656dbf66b036fdecc2b6ad02a1422c9416f8b47d48ba680fba024d0d4363112", func := "loop.example/skyway/laws.FnExactFopOk", spec := "fnExactFopOk", apart := false }
def FnExactFopOkSaid : Prop := fnExactFopOkRow.holds Try.pinned (OpenSpec.ofChange fnExactFopOkSpec)

/-- ITS FALSE NEIGHBOUR: 'it returns false'. Refute it at one input. -/
def fnExactFopOkWrong : ChangeSpec := { name := "fnExactFopOk", fn := fun _ => fun
  | [d] => { results := [.lit (.bool false)], args := [d] }
  | _ => none }
def FnExactFopOkWrongFalsely : Prop := fnExactFopOkRow.holds Try.pinned (OpenSpec.ofChange fnExactFopOkWrong)

/-- 'laws.FnExactFopFirst': WHATEVER THE INPUT: true; the input reads as it did. -/
def fnExactFopFirstSpec : ChangeSpec := { name := "fnExactFopFirst", fn := fun _ => fun
  | [d] => { results := [.lit (.bool true)], args := [d] }
  | _ => none }
def fnExactFopFirstRow : OpenClaim := { program := "yteeneiogghldgaa", sum := "6656dbf66b036fdecc2b6ad02a1422c9416f8b47d48ba680fba024d0d4363112", func := "loop.example/skyway/laws.FnExactFopFirst", spec := "fnExactFopFirst", apart := false }
def FnExactFopFirstSaid : Prop := fnExactFopFirstRow.holds Try.pinned (OpenSpec.ofChange fnExactFopFirstSpec)

/-- ITS FALSE NEIGHBOUR: 'it returns false'. Refute it at one input. -/
def fnExactFopFirstWrong : ChangeSpec := { name := "fnExactFopFirst", fn := fun _ => fun
  | [d] => { results := [.lit (.bool false)], args := [d] }
  | _ => none }
def FnExactFopFirstWrongFalsely : Prop := fnExactFopFirstRow.holds Try.pinned (OpenSpec.ofChange fnExactFopFirstWrong)

/- THE SECOND FORM. 'bulk': how many values and letters a reading holds, each counted each time it is reached (what is shared counts as often as it is met; a slice's spare places count too). A statement '..UptoSaid' is the law's where the arguments, and the package variables that the reading takes, are together of bulk at most 1048576: NARROWER than '..Said'. Prove '..Said' where nothing that the law and all that it calls make is longer than what came in: it says more and counts as full. Else prove '..UptoSaid'. A law counts once. -/
mutual
def uptoBulk {H : Type} : DataW H → Nat
  | .lit (.string bytes) => bytes.length + 1
  | .lit _ => 1
  | .nil => 1
  | .ptr d => uptoBulk d + 1
  | .slice elems spare => uptoBulkAll elems + uptoBulkAll spare + 1
  | .agg parts => uptoBulkAll parts + 1
  | .iface _ d => uptoBulk d + 1
  | .map entries => uptoBulkEntries entries + 1
  | .held _ => 1
def uptoBulkAll {H : Type} : List (DataW H) → Nat
  | [] => 0
  | d :: r => uptoBulk d + uptoBulkAll r
def uptoBulkEntries {H : Type} : List (Lit × DataW H) → Nat
  | [] => 0
  | x :: r => uptoBulkEntry x + uptoBulkEntries r
def uptoBulkEntry {H : Type} : Lit × DataW H → Nat
  | (.string bytes, d) => bytes.length + uptoBulk d + 1
  | (_, d) => uptoBulk d + 1
 end
def uptoSmall : (H : Type) → List (DataW H) → Bool := fun _ ds => decide (uptoBulkAll ds ≤ 1048576)
def OpenSpec.upto (s : _root_.Go.ChangeSpec) : _root_.Go.OpenSpec := { _root_.Go.OpenSpec.ofChange s with cond := some uptoSmall }

/-- 'laws.FnExactFarmHear', WHERE WHAT IT READS IS OF BULK AT MOST 1048576: true; the input reads as it did. -/
def fnExactFarmHearUptoRow : OpenClaim := { program := "yteeneiogghldgaa", sum := "6656dbf66b036fdecc2b6ad02a1422c9416f8b47d48ba680fba024d0d4363112", func := "loop.example/skyway/laws.FnExactFarmHear", spec := "fnExactFarmHear", unfollowed := true, recurses := true, apart := false, narrowed := true }
def FnExactFarmHearUptoSaid : Prop := fnExactFarmHearUptoRow.holds Try.pinned (OpenSpec.upto fnExactFarmHearSpec)

/-- 'laws.FnFarmOpen', WHERE WHAT IT READS IS OF BULK AT MOST 1048576: true; the input reads as it did. -/
def fnFarmOpenUptoRow : OpenClaim := { program := "yteeneiogghldgaa", sum := "6656dbf66b036fdecc2b6ad02a1422c9416f8b47d48ba680fba024d0d4363112", func := "loop.example/skyway/laws.FnFarmOpen", spec := "fnFarmOpen", unfollowed := true, recurses := true, apart := false, narrowed := true }
def FnFarmOpenUptoSaid : Prop := fnFarmOpenUptoRow.holds Try.pinned (OpenSpec.upto fnFarmOpenSpec)

/-- 'laws.FnFarmRoom', WHERE WHAT IT READS IS OF BULK AT MOST 1048576: true; the input reads as it did. -/
def fnFarmRoomUptoRow : OpenClaim := { program := "yteeneiogghldgaa", sum := "6656dbf66b036fdecc2b6ad02a1422c9416f8b47d48ba680fba024d0d4363112", func := "loop.example/skyway/laws.FnFarmRoom", spec := "fnFarmRoom", unfollowed := true, recurses := true, apart := false, narrowed := true }
def FnFarmRoomUptoSaid : Prop := fnFarmRoomUptoRow.holds Try.pinned (OpenSpec.upto fnFarmRoomSpec)

/-- 'laws.FnExactCltuPut', WHERE WHAT IT READS IS OF BULK AT MOST 1048576: true; the input reads as it did. -/
def fnExactCltuPutUptoRow : OpenClaim := { program := "yteeneiogghldgaa", sum := "6656dbf66b036fdecc2b6ad02a1422c9416f8b47d48ba680fba024d0d4363112", func := "loop.example/skyway/laws.FnExactCltuPut", spec := "fnExactCltuPut", inPlace := ["internal/abi.NoEscape", "internal/bytealg.MakeNoZero"], apart := false, narrowed := true }
def FnExactCltuPutUptoSaid : Prop := fnExactCltuPutUptoRow.holds Try.pinned (OpenSpec.upto fnExactCltuPutSpec)

/-- 'laws.FnExactCltuGet', WHERE WHAT IT READS IS OF BULK AT MOST 1048576: true; the input reads as it did. -/
def fnExactCltuGetUptoRow : OpenClaim := { program := "yteeneiogghldgaa", sum := "6656dbf66b036fdecc2b6ad02a1422c9416f8b47d48ba680fba024d0d4363112", func := "loop.example/skyway/laws.FnExactCltuGet", spec := "fnExactCltuGet", unfollowed := true, recurses := true, apart := false, narrowed := true }
def FnExactCltuGetUptoSaid : Prop := fnExactCltuGetUptoRow.holds Try.pinned (OpenSpec.upto fnExactCltuGetSpec)

/-- 'laws.FnExactCltuRead', WHERE WHAT IT READS IS OF BULK AT MOST 1048576: true; the input reads as it did. -/
def fnExactCltuReadUptoRow : OpenClaim := { program := "yteeneiogghldgaa", sum := "6656dbf66b036fdecc2b6ad02a1422c9416f8b47d48ba680fba024d0d4363112", func := "loop.example/skyway/laws.FnExactCltuRead", spec := "fnExactCltuRead", unfollowed := true, recurses := true, apart := false, narrowed := true }
def FnExactCltuReadUptoSaid : Prop := fnExactCltuReadUptoRow.holds Try.pinned (OpenSpec.upto fnExactCltuReadSpec)

/-- 'laws.FnExactFopOk', WHERE WHAT IT READS IS OF BULK AT MOST 1048576: true; the input reads as it did. -/
def fnExactFopOkUptoRow : OpenClaim := { program := "yteeneiogghldgaa", sum := "6656dbf66b036fdecc2b6ad02a1422c9416f8b47d48ba680fba024d0d4363112", func := "loop.example/skyway/laws.FnExactFopOk", spec := "fnExactFopOk", apart := false, narrowed := true }
def FnExactFopOkUptoSaid : Prop := fnExactFopOkUptoRow.holds Try.pinned (OpenSpec.upto fnExactFopOkSpec)

/-- 'laws.FnExactFopFirst', WHERE WHAT IT READS IS OF BULK AT MOST 1048576: true; the input reads as it did. -/
def fnExactFopFirstUptoRow : OpenClaim := { program := "yteeneiogghldgaa", sum := "6656dbf66b036fdecc2b6ad02a1422c9416f8b47d48ba680fba024d0d4363112", func := "loop.example/skyway/laws.FnExactFopFirst", spec := "fnExactFopFirst", apart := false, narrowed := true }
def FnExactFopFirstUptoSaid : Prop := fnExactFopFirstUptoRow.holds Try.pinned (OpenSpec.upto fnExactFopFirstSpec)

end Rows
end Go.Proofs.Yteeneiogghldgaa
