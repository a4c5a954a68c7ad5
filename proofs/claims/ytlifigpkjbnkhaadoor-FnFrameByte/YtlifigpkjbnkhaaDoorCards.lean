/-
  DERIVED. GIVEN WITH THE SEED: THE CARDS: each row of YtlifigpkjbnkhaaDoorRows.lean that lists a variable, with what it lists TIED to the program's text (the seventh form; the later family's looks); each row that meets fmt, with fmt's text TOLD by the authors' own Lean function (tested against real Go, not proved from fmt's source: count such statements apart). THE CARD IS WHAT COUNTS. Prove the row's statement (the work); the ties are given (YtlifigpkjbnkhaaDoorTie.lean); close each card by the builder's one call (the guide's Derived/Test/ToyasCard.lean, 'card_holds'). Laid BY PROGRAM, IN A SANDBOX (cutbox-door.mjs). By AI agents, Wed Nov 11 2026. No macro, syntax, notation, axiom, sorry.
-/
import Derived.Test.YtlifigpkjbnkhaaDoorRows
import GoSem.ClaimSeven
namespace Go.Proofs.YtlifigpkjbnkhaaDoor
namespace Rows

/-- THE TIED CARD OF 'laws.FnExactFrameGet'. -/
def fnExactFrameGetCard : Claim7 := { stood := { row := fnExactFrameGetRow, standIns := [], harness := (true, "ff472f51be62a7d9dcdcd6700b3da447531790d306e95748407a7170847a67f9"), looks := true }, kinds := [], alts := [], laidByText := true, laidKinds := [.sentinel, .sentinel], laidTests := true, laidLooks := .later }
def FnExactFrameGetCardSaid : Prop := Claim7.holds Tryd.pinned (.plain (OpenSpec.ofChange fnExactFrameGetSpec)) fnExactFrameGetCard

/-- THE TIED CARD OF 'laws.FnExactFarmGet'. -/
def fnExactFarmGetCard : Claim7 := { stood := { row := fnExactFarmGetRow, standIns := [], harness := (true, "ff472f51be62a7d9dcdcd6700b3da447531790d306e95748407a7170847a67f9"), looks := true }, kinds := [], alts := [], laidByText := true, laidKinds := [.sentinel, .sentinel], laidTests := true, laidLooks := .later }
def FnExactFarmGetCardSaid : Prop := Claim7.holds Tryd.pinned (.plain (OpenSpec.ofChange fnExactFarmGetSpec)) fnExactFarmGetCard

/-- THE TIED CARD OF 'laws.FnFarmText'. -/
def fnFarmTextCard : Claim7 := { stood := { row := fnFarmTextRow, standIns := [], harness := (true, "ff472f51be62a7d9dcdcd6700b3da447531790d306e95748407a7170847a67f9"), looks := true }, kinds := [], alts := [], laidByText := true, laidKinds := [.sentinel, .sentinel], laidTests := true, laidLooks := .later }
def FnFarmTextCardSaid : Prop := Claim7.holds Tryd.pinned (.plain (OpenSpec.ofChange fnFarmTextSpec)) fnFarmTextCard

/-- THE TIED CARD OF 'laws.FnFrameByte'. -/
def fnFrameByteCard : Claim7 := { stood := { row := fnFrameByteRow, standIns := [], harness := (true, "ff472f51be62a7d9dcdcd6700b3da447531790d306e95748407a7170847a67f9"), looks := true }, kinds := [], alts := [], laidByText := true, laidKinds := [.sentinel, .sentinel], laidTests := true, laidLooks := .later }
def FnFrameByteCardSaid : Prop := Claim7.holds Tryd.pinned (.plain (OpenSpec.ofChange fnFrameByteSpec)) fnFrameByteCard

/-- THE TIED CARD OF 'laws.FnFrameBack'. -/
def fnFrameBackCard : Claim7 := { stood := { row := fnFrameBackRow, standIns := [], harness := (true, "ff472f51be62a7d9dcdcd6700b3da447531790d306e95748407a7170847a67f9"), looks := true }, kinds := [], alts := [], laidByText := true, laidKinds := [.sentinel, .sentinel], laidTests := true, laidLooks := .later }
def FnFrameBackCardSaid : Prop := Claim7.holds Tryd.pinned (.plain (OpenSpec.ofChange fnFrameBackSpec)) fnFrameBackCard

/-- THE SECOND FORM's CARD OF 'laws.FnExactFrameGet'. -/
def fnExactFrameGetUptoCard : Claim7 := { stood := { row := fnExactFrameGetUptoRow, standIns := [], harness := (true, "ff472f51be62a7d9dcdcd6700b3da447531790d306e95748407a7170847a67f9"), looks := true }, kinds := [], alts := [], laidByText := true, laidKinds := [.sentinel, .sentinel], laidTests := true, laidLooks := .later }
def FnExactFrameGetUptoCardSaid : Prop := Claim7.holds Tryd.pinned (.plain (OpenSpec.upto fnExactFrameGetSpec)) fnExactFrameGetUptoCard

/-- THE SECOND FORM's CARD OF 'laws.FnExactFarmGet'. -/
def fnExactFarmGetUptoCard : Claim7 := { stood := { row := fnExactFarmGetUptoRow, standIns := [], harness := (true, "ff472f51be62a7d9dcdcd6700b3da447531790d306e95748407a7170847a67f9"), looks := true }, kinds := [], alts := [], laidByText := true, laidKinds := [.sentinel, .sentinel], laidTests := true, laidLooks := .later }
def FnExactFarmGetUptoCardSaid : Prop := Claim7.holds Tryd.pinned (.plain (OpenSpec.upto fnExactFarmGetSpec)) fnExactFarmGetUptoCard

/-- THE SECOND FORM's CARD OF 'laws.FnFarmText'. -/
def fnFarmTextUptoCard : Claim7 := { stood := { row := fnFarmTextUptoRow, standIns := [], harness := (true, "ff472f51be62a7d9dcdcd6700b3da447531790d306e95748407a7170847a67f9"), looks := true }, kinds := [], alts := [], laidByText := true, laidKinds := [.sentinel, .sentinel], laidTests := true, laidLooks := .later }
def FnFarmTextUptoCardSaid : Prop := Claim7.holds Tryd.pinned (.plain (OpenSpec.upto fnFarmTextSpec)) fnFarmTextUptoCard

/-- THE SECOND FORM's CARD OF 'laws.FnFrameByte'. -/
def fnFrameByteUptoCard : Claim7 := { stood := { row := fnFrameByteUptoRow, standIns := [], harness := (true, "ff472f51be62a7d9dcdcd6700b3da447531790d306e95748407a7170847a67f9"), looks := true }, kinds := [], alts := [], laidByText := true, laidKinds := [.sentinel, .sentinel], laidTests := true, laidLooks := .later }
def FnFrameByteUptoCardSaid : Prop := Claim7.holds Tryd.pinned (.plain (OpenSpec.upto fnFrameByteSpec)) fnFrameByteUptoCard

/-- THE SECOND FORM's CARD OF 'laws.FnFrameBack'. -/
def fnFrameBackUptoCard : Claim7 := { stood := { row := fnFrameBackUptoRow, standIns := [], harness := (true, "ff472f51be62a7d9dcdcd6700b3da447531790d306e95748407a7170847a67f9"), looks := true }, kinds := [], alts := [], laidByText := true, laidKinds := [.sentinel, .sentinel], laidTests := true, laidLooks := .later }
def FnFrameBackUptoCardSaid : Prop := Claim7.holds Tryd.pinned (.plain (OpenSpec.upto fnFrameBackSpec)) fnFrameBackUptoCard
end Rows
end Go.Proofs.YtlifigpkjbnkhaaDoor
