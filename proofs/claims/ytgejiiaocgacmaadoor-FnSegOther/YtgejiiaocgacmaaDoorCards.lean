/-
  DERIVED. GIVEN WITH THE SEED: THE CARDS: each row of YtgejiiaocgacmaaDoorRows.lean that lists a variable, with what it lists TIED to the program's text (the seventh form; the later family's looks); each row that meets fmt, with fmt's text TOLD by the authors' own Lean function (tested against real Go, not proved from fmt's source: count such statements apart). THE CARD IS WHAT COUNTS. Prove the row's statement (the work); the ties are given (YtgejiiaocgacmaaDoorTie.lean); close each card by the builder's one call (the guide's Derived/Test/ToyasCard.lean, 'card_holds'). Laid BY PROGRAM, IN A SANDBOX (cutbox-door.mjs). By AI agents, Wed Nov 11 2026. No macro, syntax, notation, axiom, sorry.
-/
import Derived.Test.YtgejiiaocgacmaaDoorRows
import GoSem.ClaimSeven
namespace Go.Proofs.YtgejiiaocgacmaaDoor
namespace Rows

/-- THE TIED CARD OF 'laws.FnExactSegHear'. -/
def fnExactSegHearCard : Claim7 := { stood := { row := fnExactSegHearRow, standIns := [], harness := (true, "8ded78c3a1522848479ed86bc08d4540c0c61a2ee5cd9045808c16af5bb79141"), looks := false }, kinds := [], alts := [], laidByText := true, laidKinds := [.sentinel], laidTests := true, laidLooks := .later }
def FnExactSegHearCardSaid : Prop := Claim7.holds Tryd.pinned (.plain (OpenSpec.ofChange fnExactSegHearSpec)) fnExactSegHearCard

/-- THE TIED CARD OF 'laws.FnSegBack'. -/
def fnSegBackCard : Claim7 := { stood := { row := fnSegBackRow, standIns := [], harness := (true, "8ded78c3a1522848479ed86bc08d4540c0c61a2ee5cd9045808c16af5bb79141"), looks := false }, kinds := [], alts := [], laidByText := true, laidKinds := [.sentinel], laidTests := true, laidLooks := .later }
def FnSegBackCardSaid : Prop := Claim7.holds Tryd.pinned (.plain (OpenSpec.ofChange fnSegBackSpec)) fnSegBackCard

/-- THE TIED CARD OF 'laws.FnSegLost'. -/
def fnSegLostCard : Claim7 := { stood := { row := fnSegLostRow, standIns := [], harness := (true, "8ded78c3a1522848479ed86bc08d4540c0c61a2ee5cd9045808c16af5bb79141"), looks := false }, kinds := [], alts := [], laidByText := true, laidKinds := [.sentinel], laidTests := true, laidLooks := .later }
def FnSegLostCardSaid : Prop := Claim7.holds Tryd.pinned (.plain (OpenSpec.ofChange fnSegLostSpec)) fnSegLostCard

/-- THE TIED CARD OF 'laws.FnSegOther'. -/
def fnSegOtherCard : Claim7 := { stood := { row := fnSegOtherRow, standIns := [], harness := (true, "8ded78c3a1522848479ed86bc08d4540c0c61a2ee5cd9045808c16af5bb79141"), looks := false }, kinds := [], alts := [], laidByText := true, laidKinds := [.sentinel], laidTests := true, laidLooks := .later }
def FnSegOtherCardSaid : Prop := Claim7.holds Tryd.pinned (.plain (OpenSpec.ofChange fnSegOtherSpec)) fnSegOtherCard

/-- THE TIED CARD OF 'laws.FnExactQueueOk'. -/
def fnExactQueueOkCard : Claim7 := { stood := { row := fnExactQueueOkRow, standIns := [], harness := (true, "8ded78c3a1522848479ed86bc08d4540c0c61a2ee5cd9045808c16af5bb79141"), looks := false }, kinds := [], alts := [], laidByText := true, laidKinds := [.sentinel], laidTests := true, laidLooks := .later }
def FnExactQueueOkCardSaid : Prop := Claim7.holds Tryd.pinned (.plain (OpenSpec.ofChange fnExactQueueOkSpec)) fnExactQueueOkCard

/-- THE TIED CARD OF 'laws.FnExactQueuePut'. -/
def fnExactQueuePutCard : Claim7 := { stood := { row := fnExactQueuePutRow, standIns := [], harness := (true, "8ded78c3a1522848479ed86bc08d4540c0c61a2ee5cd9045808c16af5bb79141"), looks := false }, kinds := [], alts := [], laidByText := true, laidKinds := [.sentinel], laidTests := true, laidLooks := .later }
def FnExactQueuePutCardSaid : Prop := Claim7.holds Tryd.pinned (.plain (OpenSpec.ofChange fnExactQueuePutSpec)) fnExactQueuePutCard

/-- THE TIED CARD OF 'laws.FnQueuePut'. -/
def fnQueuePutCard : Claim7 := { stood := { row := fnQueuePutRow, standIns := [], harness := (true, "8ded78c3a1522848479ed86bc08d4540c0c61a2ee5cd9045808c16af5bb79141"), looks := false }, kinds := [], alts := [], laidByText := true, laidKinds := [.sentinel], laidTests := true, laidLooks := .later }
def FnQueuePutCardSaid : Prop := Claim7.holds Tryd.pinned (.plain (OpenSpec.ofChange fnQueuePutSpec)) fnQueuePutCard

/-- THE TIED CARD OF 'laws.FnExactQueueFill'. -/
def fnExactQueueFillCard : Claim7 := { stood := { row := fnExactQueueFillRow, standIns := [], harness := (true, "8ded78c3a1522848479ed86bc08d4540c0c61a2ee5cd9045808c16af5bb79141"), looks := false }, kinds := [], alts := [], laidByText := true, laidKinds := [.sentinel], laidTests := true, laidLooks := .later }
def FnExactQueueFillCardSaid : Prop := Claim7.holds Tryd.pinned (.plain (OpenSpec.ofChange fnExactQueueFillSpec)) fnExactQueueFillCard

/-- THE TIED CARD OF 'laws.FnExactHearsDown'. -/
def fnExactHearsDownCard : Claim7 := { stood := { row := fnExactHearsDownRow, standIns := [], harness := (true, "8ded78c3a1522848479ed86bc08d4540c0c61a2ee5cd9045808c16af5bb79141"), looks := false }, kinds := [], alts := [], laidByText := true, laidKinds := [.sentinel, .sentinel, .sentinel], laidTests := true, laidLooks := .later }
def FnExactHearsDownCardSaid : Prop := Claim7.holds Tryd.pinned (.plain (OpenSpec.ofChange fnExactHearsDownSpec)) fnExactHearsDownCard

/-- THE TIED CARD OF 'laws.FnQueueIdle'. -/
def fnQueueIdleCard : Claim7 := { stood := { row := fnQueueIdleRow, standIns := [], harness := (true, "8ded78c3a1522848479ed86bc08d4540c0c61a2ee5cd9045808c16af5bb79141"), looks := false }, kinds := [], alts := [], laidByText := true, laidKinds := [.sentinel, .sentinel, .sentinel], laidTests := true, laidLooks := .later }
def FnQueueIdleCardSaid : Prop := Claim7.holds Tryd.pinned (.plain (OpenSpec.ofChange fnQueueIdleSpec)) fnQueueIdleCard

/-- THE TIED CARD OF 'laws.FnHearsWhole'. -/
def fnHearsWholeCard : Claim7 := { stood := { row := fnHearsWholeRow, standIns := [], harness := (true, "8ded78c3a1522848479ed86bc08d4540c0c61a2ee5cd9045808c16af5bb79141"), looks := false }, kinds := [], alts := [], laidByText := true, laidKinds := [.sentinel, .sentinel, .sentinel], laidTests := true, laidLooks := .later }
def FnHearsWholeCardSaid : Prop := Claim7.holds Tryd.pinned (.plain (OpenSpec.ofChange fnHearsWholeSpec)) fnHearsWholeCard

/-- THE SECOND FORM's CARD OF 'laws.FnExactSegHear'. -/
def fnExactSegHearUptoCard : Claim7 := { stood := { row := fnExactSegHearUptoRow, standIns := [], harness := (true, "8ded78c3a1522848479ed86bc08d4540c0c61a2ee5cd9045808c16af5bb79141"), looks := false }, kinds := [], alts := [], laidByText := true, laidKinds := [.sentinel], laidTests := true, laidLooks := .later }
def FnExactSegHearUptoCardSaid : Prop := Claim7.holds Tryd.pinned (.plain (OpenSpec.upto fnExactSegHearSpec)) fnExactSegHearUptoCard

/-- THE SECOND FORM's CARD OF 'laws.FnSegBack'. -/
def fnSegBackUptoCard : Claim7 := { stood := { row := fnSegBackUptoRow, standIns := [], harness := (true, "8ded78c3a1522848479ed86bc08d4540c0c61a2ee5cd9045808c16af5bb79141"), looks := false }, kinds := [], alts := [], laidByText := true, laidKinds := [.sentinel], laidTests := true, laidLooks := .later }
def FnSegBackUptoCardSaid : Prop := Claim7.holds Tryd.pinned (.plain (OpenSpec.upto fnSegBackSpec)) fnSegBackUptoCard

/-- THE SECOND FORM's CARD OF 'laws.FnSegLost'. -/
def fnSegLostUptoCard : Claim7 := { stood := { row := fnSegLostUptoRow, standIns := [], harness := (true, "8ded78c3a1522848479ed86bc08d4540c0c61a2ee5cd9045808c16af5bb79141"), looks := false }, kinds := [], alts := [], laidByText := true, laidKinds := [.sentinel], laidTests := true, laidLooks := .later }
def FnSegLostUptoCardSaid : Prop := Claim7.holds Tryd.pinned (.plain (OpenSpec.upto fnSegLostSpec)) fnSegLostUptoCard

/-- THE SECOND FORM's CARD OF 'laws.FnSegOther'. -/
def fnSegOtherUptoCard : Claim7 := { stood := { row := fnSegOtherUptoRow, standIns := [], harness := (true, "8ded78c3a1522848479ed86bc08d4540c0c61a2ee5cd9045808c16af5bb79141"), looks := false }, kinds := [], alts := [], laidByText := true, laidKinds := [.sentinel], laidTests := true, laidLooks := .later }
def FnSegOtherUptoCardSaid : Prop := Claim7.holds Tryd.pinned (.plain (OpenSpec.upto fnSegOtherSpec)) fnSegOtherUptoCard

/-- THE SECOND FORM's CARD OF 'laws.FnExactQueueOk'. -/
def fnExactQueueOkUptoCard : Claim7 := { stood := { row := fnExactQueueOkUptoRow, standIns := [], harness := (true, "8ded78c3a1522848479ed86bc08d4540c0c61a2ee5cd9045808c16af5bb79141"), looks := false }, kinds := [], alts := [], laidByText := true, laidKinds := [.sentinel], laidTests := true, laidLooks := .later }
def FnExactQueueOkUptoCardSaid : Prop := Claim7.holds Tryd.pinned (.plain (OpenSpec.upto fnExactQueueOkSpec)) fnExactQueueOkUptoCard

/-- THE SECOND FORM's CARD OF 'laws.FnExactQueuePut'. -/
def fnExactQueuePutUptoCard : Claim7 := { stood := { row := fnExactQueuePutUptoRow, standIns := [], harness := (true, "8ded78c3a1522848479ed86bc08d4540c0c61a2ee5cd9045808c16af5bb79141"), looks := false }, kinds := [], alts := [], laidByText := true, laidKinds := [.sentinel], laidTests := true, laidLooks := .later }
def FnExactQueuePutUptoCardSaid : Prop := Claim7.holds Tryd.pinned (.plain (OpenSpec.upto fnExactQueuePutSpec)) fnExactQueuePutUptoCard

/-- THE SECOND FORM's CARD OF 'laws.FnQueuePut'. -/
def fnQueuePutUptoCard : Claim7 := { stood := { row := fnQueuePutUptoRow, standIns := [], harness := (true, "8ded78c3a1522848479ed86bc08d4540c0c61a2ee5cd9045808c16af5bb79141"), looks := false }, kinds := [], alts := [], laidByText := true, laidKinds := [.sentinel], laidTests := true, laidLooks := .later }
def FnQueuePutUptoCardSaid : Prop := Claim7.holds Tryd.pinned (.plain (OpenSpec.upto fnQueuePutSpec)) fnQueuePutUptoCard

/-- THE SECOND FORM's CARD OF 'laws.FnExactQueueFill'. -/
def fnExactQueueFillUptoCard : Claim7 := { stood := { row := fnExactQueueFillUptoRow, standIns := [], harness := (true, "8ded78c3a1522848479ed86bc08d4540c0c61a2ee5cd9045808c16af5bb79141"), looks := false }, kinds := [], alts := [], laidByText := true, laidKinds := [.sentinel], laidTests := true, laidLooks := .later }
def FnExactQueueFillUptoCardSaid : Prop := Claim7.holds Tryd.pinned (.plain (OpenSpec.upto fnExactQueueFillSpec)) fnExactQueueFillUptoCard

/-- THE SECOND FORM's CARD OF 'laws.FnExactHearsDown'. -/
def fnExactHearsDownUptoCard : Claim7 := { stood := { row := fnExactHearsDownUptoRow, standIns := [], harness := (true, "8ded78c3a1522848479ed86bc08d4540c0c61a2ee5cd9045808c16af5bb79141"), looks := false }, kinds := [], alts := [], laidByText := true, laidKinds := [.sentinel, .sentinel, .sentinel], laidTests := true, laidLooks := .later }
def FnExactHearsDownUptoCardSaid : Prop := Claim7.holds Tryd.pinned (.plain (OpenSpec.upto fnExactHearsDownSpec)) fnExactHearsDownUptoCard

/-- THE SECOND FORM's CARD OF 'laws.FnQueueIdle'. -/
def fnQueueIdleUptoCard : Claim7 := { stood := { row := fnQueueIdleUptoRow, standIns := [], harness := (true, "8ded78c3a1522848479ed86bc08d4540c0c61a2ee5cd9045808c16af5bb79141"), looks := false }, kinds := [], alts := [], laidByText := true, laidKinds := [.sentinel, .sentinel, .sentinel], laidTests := true, laidLooks := .later }
def FnQueueIdleUptoCardSaid : Prop := Claim7.holds Tryd.pinned (.plain (OpenSpec.upto fnQueueIdleSpec)) fnQueueIdleUptoCard

/-- THE SECOND FORM's CARD OF 'laws.FnHearsWhole'. -/
def fnHearsWholeUptoCard : Claim7 := { stood := { row := fnHearsWholeUptoRow, standIns := [], harness := (true, "8ded78c3a1522848479ed86bc08d4540c0c61a2ee5cd9045808c16af5bb79141"), looks := false }, kinds := [], alts := [], laidByText := true, laidKinds := [.sentinel, .sentinel, .sentinel], laidTests := true, laidLooks := .later }
def FnHearsWholeUptoCardSaid : Prop := Claim7.holds Tryd.pinned (.plain (OpenSpec.upto fnHearsWholeSpec)) fnHearsWholeUptoCard
end Rows
end Go.Proofs.YtgejiiaocgacmaaDoor
