/-
  DERIVED. GIVEN WITH THE SEED: THE CARDS: each row of YtfbjgppfpcgclaaGreatDoorRows.lean that lists a variable, with what it lists TIED to the program's text (the seventh form; the later family's looks); each row that meets fmt, with fmt's text TOLD by the authors' own Lean function (tested against real Go, not proved from fmt's source: count such statements apart). THE CARD IS WHAT COUNTS. Prove the row's statement (the work); the ties are given (YtfbjgppfpcgclaaGreatDoorTie.lean); close each card by the builder's one call (the guide's Derived/Test/ToyasCard.lean, 'card_holds'). Laid BY PROGRAM, IN A SANDBOX (cutbox-door.mjs). By AI agents, Wed Nov 11 2026. No macro, syntax, notation, axiom, sorry.
-/
import Derived.Test.YtfbjgppfpcgclaaGreatDoorRows
import GoSem.ClaimSeven
namespace Go.Proofs.YtfbjgppfpcgclaaGreatDoor
namespace Rows

/-- THE TIED CARD OF 'bushellaw01.MeasureNumbers'. -/
def measureNumbersCard : Claim7 := { stood := { row := measureNumbersRow, standIns := [], harness := (true, "e79b95d4b629481af4543da6963ccc79e16457fb00167cc16a1da8f782272bd4"), looks := true }, kinds := [], alts := [], laidByText := true, laidKinds := [.data, .data, .data, .data, .sentinel, .sentinel, .pinned], laidTests := true, laidLooks := .later }
def MeasureNumbersCardSaid : Prop := Claim7.holds Tryz.pinned (.plain (OpenSpec.ofChange measureNumbersSpec)) measureNumbersCard

/-- THE TIED CARD OF 'bushellaw01.MeasureRounded'. -/
def measureRoundedCard : Claim7 := { stood := { row := measureRoundedRow, standIns := [], harness := (true, "e79b95d4b629481af4543da6963ccc79e16457fb00167cc16a1da8f782272bd4"), looks := true }, kinds := [], alts := [], laidByText := true, laidKinds := [.data, .data, .data, .data, .sentinel, .sentinel, .pinned], laidTests := true, laidLooks := .later }
def MeasureRoundedCardSaid : Prop := Claim7.holds Tryz.pinned (.plain (OpenSpec.ofChange measureRoundedSpec)) measureRoundedCard

/-- THE SECOND FORM's CARD OF 'bushellaw01.MeasureNumbers'. -/
def measureNumbersUptoCard : Claim7 := { stood := { row := measureNumbersUptoRow, standIns := [], harness := (true, "e79b95d4b629481af4543da6963ccc79e16457fb00167cc16a1da8f782272bd4"), looks := true }, kinds := [], alts := [], laidByText := true, laidKinds := [.data, .data, .data, .data, .sentinel, .sentinel, .pinned], laidTests := true, laidLooks := .later }
def MeasureNumbersUptoCardSaid : Prop := Claim7.holds Tryz.pinned (.plain (OpenSpec.upto measureNumbersSpec)) measureNumbersUptoCard

/-- THE SECOND FORM's CARD OF 'bushellaw01.MeasureRounded'. -/
def measureRoundedUptoCard : Claim7 := { stood := { row := measureRoundedUptoRow, standIns := [], harness := (true, "e79b95d4b629481af4543da6963ccc79e16457fb00167cc16a1da8f782272bd4"), looks := true }, kinds := [], alts := [], laidByText := true, laidKinds := [.data, .data, .data, .data, .sentinel, .sentinel, .pinned], laidTests := true, laidLooks := .later }
def MeasureRoundedUptoCardSaid : Prop := Claim7.holds Tryz.pinned (.plain (OpenSpec.upto measureRoundedSpec)) measureRoundedUptoCard
end Rows
end Go.Proofs.YtfbjgppfpcgclaaGreatDoor
