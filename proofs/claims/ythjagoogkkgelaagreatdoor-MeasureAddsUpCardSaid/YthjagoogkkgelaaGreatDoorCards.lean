/-
  DERIVED. GIVEN WITH THE SEED: THE CARDS: each row of YthjagoogkkgelaaGreatDoorRows.lean that lists a variable, with what it lists TIED to the program's text (the seventh form; the later family's looks); each row that meets fmt, with fmt's text TOLD by the authors' own Lean function (tested against real Go, not proved from fmt's source: count such statements apart). THE CARD IS WHAT COUNTS. Prove the row's statement (the work); the ties are given (YthjagoogkkgelaaGreatDoorTie.lean); close each card by the builder's one call (the guide's Derived/Test/ToyasCard.lean, 'card_holds'). Laid BY PROGRAM, IN A SANDBOX (cutbox-door.mjs). By AI agents, Wed Nov 11 2026. No macro, syntax, notation, axiom, sorry.
-/
import Derived.Test.YthjagoogkkgelaaGreatDoorRows
import GoSem.ClaimSeven
namespace Go.Proofs.YthjagoogkkgelaaGreatDoor
namespace Rows

/-- THE TIED CARD OF 'bushellaw01.MeasureLists'. -/
def measureListsCard : Claim7 := { stood := { row := measureListsRow, standIns := [], harness := (true, "c1578502e9003d6357bbeae51d9efb19acbeae19a6828d25e6162ad3d1624efd"), looks := true }, kinds := [], alts := [], laidByText := true, laidKinds := [.data, .data, .data, .data, .sentinel, .sentinel, .pinned], laidTests := true, laidLooks := .later }
def MeasureListsCardSaid : Prop := Claim7.holds Tryz.pinned (.plain (OpenSpec.ofChange measureListsSpec)) measureListsCard

/-- THE TIED CARD OF 'bushellaw01.MeasureParts'. -/
def measurePartsCard : Claim7 := { stood := { row := measurePartsRow, standIns := [], harness := (true, "c1578502e9003d6357bbeae51d9efb19acbeae19a6828d25e6162ad3d1624efd"), looks := true }, kinds := [], alts := [], laidByText := true, laidKinds := [.data, .data, .data, .data, .sentinel, .sentinel, .pinned], laidTests := true, laidLooks := .later }
def MeasurePartsCardSaid : Prop := Claim7.holds Tryz.pinned (.plain (OpenSpec.ofChange measurePartsSpec)) measurePartsCard

/-- THE TIED CARD OF 'bushellaw01.MeasureAddsUp'. -/
def measureAddsUpCard : Claim7 := { stood := { row := measureAddsUpRow, standIns := [], harness := (true, "c1578502e9003d6357bbeae51d9efb19acbeae19a6828d25e6162ad3d1624efd"), looks := true }, kinds := [], alts := [], laidByText := true, laidKinds := [.data, .data, .data, .data, .sentinel, .sentinel, .pinned], laidTests := true, laidLooks := .later }
def MeasureAddsUpCardSaid : Prop := Claim7.holds Tryz.pinned (.plain (OpenSpec.ofChange measureAddsUpSpec)) measureAddsUpCard

/-- THE SECOND FORM's CARD OF 'bushellaw01.MeasureLists'. -/
def measureListsUptoCard : Claim7 := { stood := { row := measureListsUptoRow, standIns := [], harness := (true, "c1578502e9003d6357bbeae51d9efb19acbeae19a6828d25e6162ad3d1624efd"), looks := true }, kinds := [], alts := [], laidByText := true, laidKinds := [.data, .data, .data, .data, .sentinel, .sentinel, .pinned], laidTests := true, laidLooks := .later }
def MeasureListsUptoCardSaid : Prop := Claim7.holds Tryz.pinned (.plain (OpenSpec.upto measureListsSpec)) measureListsUptoCard

/-- THE SECOND FORM's CARD OF 'bushellaw01.MeasureParts'. -/
def measurePartsUptoCard : Claim7 := { stood := { row := measurePartsUptoRow, standIns := [], harness := (true, "c1578502e9003d6357bbeae51d9efb19acbeae19a6828d25e6162ad3d1624efd"), looks := true }, kinds := [], alts := [], laidByText := true, laidKinds := [.data, .data, .data, .data, .sentinel, .sentinel, .pinned], laidTests := true, laidLooks := .later }
def MeasurePartsUptoCardSaid : Prop := Claim7.holds Tryz.pinned (.plain (OpenSpec.upto measurePartsSpec)) measurePartsUptoCard

/-- THE SECOND FORM's CARD OF 'bushellaw01.MeasureAddsUp'. -/
def measureAddsUpUptoCard : Claim7 := { stood := { row := measureAddsUpUptoRow, standIns := [], harness := (true, "c1578502e9003d6357bbeae51d9efb19acbeae19a6828d25e6162ad3d1624efd"), looks := true }, kinds := [], alts := [], laidByText := true, laidKinds := [.data, .data, .data, .data, .sentinel, .sentinel, .pinned], laidTests := true, laidLooks := .later }
def MeasureAddsUpUptoCardSaid : Prop := Claim7.holds Tryz.pinned (.plain (OpenSpec.upto measureAddsUpSpec)) measureAddsUpUptoCard
end Rows
end Go.Proofs.YthjagoogkkgelaaGreatDoor
