/-
  DERIVED. GIVEN WITH THE SEED: THE CARDS: each row of YtoijmhmmalnilaaGreatDoorRows.lean that lists a variable, with what it lists TIED to the program's text (the seventh form; the later family's looks); each row that meets fmt, with fmt's text TOLD by the authors' own Lean function (tested against real Go, not proved from fmt's source: count such statements apart). THE CARD IS WHAT COUNTS. Prove the row's statement (the work); the ties are given (YtoijmhmmalnilaaGreatDoorTie.lean); close each card by the builder's one call (the guide's Derived/Test/ToyasCard.lean, 'card_holds'). Laid BY PROGRAM, IN A SANDBOX (cutbox-door.mjs). By AI agents, Wed Nov 11 2026. No macro, syntax, notation, axiom, sorry.
-/
import Derived.Test.YtoijmhmmalnilaaGreatDoorRows
import GoSem.ClaimSeven
namespace Go.Proofs.YtoijmhmmalnilaaGreatDoor
namespace Rows

/-- THE TIED CARD OF 'bushellaw01.MeasureNumbers'. -/
def measureNumbersCard : Claim7 := { stood := { row := measureNumbersRow, standIns := [], harness := (true, "5cda5363ceaf95fdb500bc53d16062de5b62cceb6f767d1d40f38f358c29caee"), looks := true }, kinds := [], alts := [], laidByText := true, laidKinds := [.data, .data, .data, .data, .sentinel, .sentinel, .pinned], laidTests := true, laidLooks := .later }
def MeasureNumbersCardSaid : Prop := Claim7.holds Tryz.pinned (.plain (OpenSpec.ofChange measureNumbersSpec)) measureNumbersCard

/-- THE TIED CARD OF 'bushellaw01.MeasureDried'. -/
def measureDriedCard : Claim7 := { stood := { row := measureDriedRow, standIns := [], harness := (true, "5cda5363ceaf95fdb500bc53d16062de5b62cceb6f767d1d40f38f358c29caee"), looks := true }, kinds := [], alts := [], laidByText := true, laidKinds := [.data, .data, .data, .data, .sentinel, .sentinel, .pinned], laidTests := true, laidLooks := .later }
def MeasureDriedCardSaid : Prop := Claim7.holds Tryz.pinned (.plain (OpenSpec.ofChange measureDriedSpec)) measureDriedCard

/-- THE SECOND FORM's CARD OF 'bushellaw01.MeasureNumbers'. -/
def measureNumbersUptoCard : Claim7 := { stood := { row := measureNumbersUptoRow, standIns := [], harness := (true, "5cda5363ceaf95fdb500bc53d16062de5b62cceb6f767d1d40f38f358c29caee"), looks := true }, kinds := [], alts := [], laidByText := true, laidKinds := [.data, .data, .data, .data, .sentinel, .sentinel, .pinned], laidTests := true, laidLooks := .later }
def MeasureNumbersUptoCardSaid : Prop := Claim7.holds Tryz.pinned (.plain (OpenSpec.upto measureNumbersSpec)) measureNumbersUptoCard

/-- THE SECOND FORM's CARD OF 'bushellaw01.MeasureDried'. -/
def measureDriedUptoCard : Claim7 := { stood := { row := measureDriedUptoRow, standIns := [], harness := (true, "5cda5363ceaf95fdb500bc53d16062de5b62cceb6f767d1d40f38f358c29caee"), looks := true }, kinds := [], alts := [], laidByText := true, laidKinds := [.data, .data, .data, .data, .sentinel, .sentinel, .pinned], laidTests := true, laidLooks := .later }
def MeasureDriedUptoCardSaid : Prop := Claim7.holds Tryz.pinned (.plain (OpenSpec.upto measureDriedSpec)) measureDriedUptoCard
end Rows
end Go.Proofs.YtoijmhmmalnilaaGreatDoor
