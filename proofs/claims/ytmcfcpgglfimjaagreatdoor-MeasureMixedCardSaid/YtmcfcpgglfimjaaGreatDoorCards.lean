/-
  DERIVED. GIVEN WITH THE SEED: THE CARDS: each row of YtmcfcpgglfimjaaGreatDoorRows.lean that lists a variable, with what it lists TIED to the program's text (the seventh form; the later family's looks); each row that meets fmt, with fmt's text TOLD by the authors' own Lean function (tested against real Go, not proved from fmt's source: count such statements apart). THE CARD IS WHAT COUNTS. Prove the row's statement (the work); the ties are given (YtmcfcpgglfimjaaGreatDoorTie.lean); close each card by the builder's one call (the guide's Derived/Test/ToyasCard.lean, 'card_holds'). Laid BY PROGRAM, IN A SANDBOX (cutbox-door.mjs). By AI agents, Wed Nov 11 2026. No macro, syntax, notation, axiom, sorry.
-/
import Derived.Test.YtmcfcpgglfimjaaGreatDoorRows
import GoSem.ClaimSeven
namespace Go.Proofs.YtmcfcpgglfimjaaGreatDoor
namespace Rows

/-- THE TIED CARD OF 'bushellaw01.MeasureMixed'. -/
def measureMixedCard : Claim7 := { stood := { row := measureMixedRow, standIns := [], harness := (true, "4e5d26a4ac73d5f586cace672b25420e13414c862783d15982b23d7d78855040"), looks := true }, kinds := [], alts := [], laidByText := true, laidKinds := [.data, .data, .data, .data, .sentinel, .sentinel, .pinned], laidTests := true, laidLooks := .later }
def MeasureMixedCardSaid : Prop := Claim7.holds Tryz.pinned (.plain (OpenSpec.ofChange measureMixedSpec)) measureMixedCard

/-- THE SECOND FORM's CARD OF 'bushellaw01.MeasureMixed'. -/
def measureMixedUptoCard : Claim7 := { stood := { row := measureMixedUptoRow, standIns := [], harness := (true, "4e5d26a4ac73d5f586cace672b25420e13414c862783d15982b23d7d78855040"), looks := true }, kinds := [], alts := [], laidByText := true, laidKinds := [.data, .data, .data, .data, .sentinel, .sentinel, .pinned], laidTests := true, laidLooks := .later }
def MeasureMixedUptoCardSaid : Prop := Claim7.holds Tryz.pinned (.plain (OpenSpec.upto measureMixedSpec)) measureMixedUptoCard
end Rows
end Go.Proofs.YtmcfcpgglfimjaaGreatDoor
