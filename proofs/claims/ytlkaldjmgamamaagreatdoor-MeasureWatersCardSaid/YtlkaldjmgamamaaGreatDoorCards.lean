/-
  DERIVED. GIVEN WITH THE SEED: THE CARDS: each row of YtlkaldjmgamamaaGreatDoorRows.lean that lists a variable, with what it lists TIED to the program's text (the seventh form; the later family's looks); each row that meets fmt, with fmt's text TOLD by the authors' own Lean function (tested against real Go, not proved from fmt's source: count such statements apart). THE CARD IS WHAT COUNTS. Prove the row's statement (the work); the ties are given (YtlkaldjmgamamaaGreatDoorTie.lean); close each card by the builder's one call (the guide's Derived/Test/ToyasCard.lean, 'card_holds'). Laid BY PROGRAM, IN A SANDBOX (cutbox-door.mjs). By AI agents, Wed Nov 11 2026. No macro, syntax, notation, axiom, sorry.
-/
import Derived.Test.YtlkaldjmgamamaaGreatDoorRows
import GoSem.ClaimSeven
namespace Go.Proofs.YtlkaldjmgamamaaGreatDoor
namespace Rows

/-- THE TIED CARD OF 'bushellaw01.MeasureWaters'. -/
def measureWatersCard : Claim7 := { stood := { row := measureWatersRow, standIns := [], harness := (true, "bf992509a9f704d3981cea91fc0608206152b4f249325443a310a9f95c859775"), looks := true }, kinds := [], alts := [], laidByText := true, laidKinds := [.data, .data, .data, .data, .sentinel, .sentinel, .pinned], laidTests := true, laidLooks := .later }
def MeasureWatersCardSaid : Prop := Claim7.holds Tryz.pinned (.plain (OpenSpec.ofChange measureWatersSpec)) measureWatersCard

/-- THE TIED CARD OF 'bushellaw01.MeasureHelly'. -/
def measureHellyCard : Claim7 := { stood := { row := measureHellyRow, standIns := [], harness := (true, "bf992509a9f704d3981cea91fc0608206152b4f249325443a310a9f95c859775"), looks := true }, kinds := [], alts := [], laidByText := true, laidKinds := [.data, .data, .data, .data, .sentinel, .sentinel, .pinned], laidTests := true, laidLooks := .later }
def MeasureHellyCardSaid : Prop := Claim7.holds Tryz.pinned (.plain (OpenSpec.ofChange measureHellySpec)) measureHellyCard

/-- THE SECOND FORM's CARD OF 'bushellaw01.MeasureWaters'. -/
def measureWatersUptoCard : Claim7 := { stood := { row := measureWatersUptoRow, standIns := [], harness := (true, "bf992509a9f704d3981cea91fc0608206152b4f249325443a310a9f95c859775"), looks := true }, kinds := [], alts := [], laidByText := true, laidKinds := [.data, .data, .data, .data, .sentinel, .sentinel, .pinned], laidTests := true, laidLooks := .later }
def MeasureWatersUptoCardSaid : Prop := Claim7.holds Tryz.pinned (.plain (OpenSpec.upto measureWatersSpec)) measureWatersUptoCard

/-- THE SECOND FORM's CARD OF 'bushellaw01.MeasureHelly'. -/
def measureHellyUptoCard : Claim7 := { stood := { row := measureHellyUptoRow, standIns := [], harness := (true, "bf992509a9f704d3981cea91fc0608206152b4f249325443a310a9f95c859775"), looks := true }, kinds := [], alts := [], laidByText := true, laidKinds := [.data, .data, .data, .data, .sentinel, .sentinel, .pinned], laidTests := true, laidLooks := .later }
def MeasureHellyUptoCardSaid : Prop := Claim7.holds Tryz.pinned (.plain (OpenSpec.upto measureHellySpec)) measureHellyUptoCard
end Rows
end Go.Proofs.YtlkaldjmgamamaaGreatDoor
