/-
  DERIVED. GIVEN WITH THE SEED: THE CARDS: each row of YtlinhlkgdlfefaaGreatDoorRows.lean that lists a variable, with what it lists TIED to the program's text (the seventh form; the later family's looks); each row that meets fmt, with fmt's text TOLD by the authors' own Lean function (tested against real Go, not proved from fmt's source: count such statements apart). THE CARD IS WHAT COUNTS. Prove the row's statement (the work); the ties are given (YtlinhlkgdlfefaaGreatDoorTie.lean); close each card by the builder's one call (the guide's Derived/Test/ToyasCard.lean, 'card_holds'). Laid BY PROGRAM, IN A SANDBOX (cutbox-door.mjs). By AI agents, Wed Nov 11 2026. No macro, syntax, notation, axiom, sorry.
-/
import Derived.Test.YtlinhlkgdlfefaaGreatDoorRows
import GoSem.ClaimSeven
namespace Go.Proofs.YtlinhlkgdlfefaaGreatDoor
namespace Rows

/-- THE TIED CARD OF 'bushellaw01.MeasureEncloses'. -/
def measureEnclosesCard : Claim7 := { stood := { row := measureEnclosesRow, standIns := [], harness := (true, "1834abea49d31bd10d9a11b63d68a458fc566d2a271ddf6c75c150cd84584021"), looks := true }, kinds := [], alts := [], laidByText := true, laidKinds := [.data, .data, .data, .data, .sentinel, .sentinel, .pinned], laidTests := true, laidLooks := .later }
def MeasureEnclosesCardSaid : Prop := Claim7.holds Tryz.pinned (.plain (OpenSpec.ofChange measureEnclosesSpec)) measureEnclosesCard

/-- THE TIED CARD OF 'bushellaw01.MeasureHelly'. -/
def measureHellyCard : Claim7 := { stood := { row := measureHellyRow, standIns := [], harness := (true, "1834abea49d31bd10d9a11b63d68a458fc566d2a271ddf6c75c150cd84584021"), looks := true }, kinds := [], alts := [], laidByText := true, laidKinds := [.data, .data, .data, .data, .sentinel, .sentinel, .pinned], laidTests := true, laidLooks := .later }
def MeasureHellyCardSaid : Prop := Claim7.holds Tryz.pinned (.plain (OpenSpec.ofChange measureHellySpec)) measureHellyCard

/-- THE SECOND FORM's CARD OF 'bushellaw01.MeasureEncloses'. -/
def measureEnclosesUptoCard : Claim7 := { stood := { row := measureEnclosesUptoRow, standIns := [], harness := (true, "1834abea49d31bd10d9a11b63d68a458fc566d2a271ddf6c75c150cd84584021"), looks := true }, kinds := [], alts := [], laidByText := true, laidKinds := [.data, .data, .data, .data, .sentinel, .sentinel, .pinned], laidTests := true, laidLooks := .later }
def MeasureEnclosesUptoCardSaid : Prop := Claim7.holds Tryz.pinned (.plain (OpenSpec.upto measureEnclosesSpec)) measureEnclosesUptoCard

/-- THE SECOND FORM's CARD OF 'bushellaw01.MeasureHelly'. -/
def measureHellyUptoCard : Claim7 := { stood := { row := measureHellyUptoRow, standIns := [], harness := (true, "1834abea49d31bd10d9a11b63d68a458fc566d2a271ddf6c75c150cd84584021"), looks := true }, kinds := [], alts := [], laidByText := true, laidKinds := [.data, .data, .data, .data, .sentinel, .sentinel, .pinned], laidTests := true, laidLooks := .later }
def MeasureHellyUptoCardSaid : Prop := Claim7.holds Tryz.pinned (.plain (OpenSpec.upto measureHellySpec)) measureHellyUptoCard
end Rows
end Go.Proofs.YtlinhlkgdlfefaaGreatDoor
