/-
  DERIVED. GIVEN WITH THE SEED: THE CARDS: each row of YtpbeeneenhmjaaaGreatDoorRows.lean that lists a variable, with what it lists TIED to the program's text (the seventh form; the later family's looks); each row that meets fmt, with fmt's text TOLD by the authors' own Lean function (tested against real Go, not proved from fmt's source: count such statements apart). THE CARD IS WHAT COUNTS. Prove the row's statement (the work); the ties are given (YtpbeeneenhmjaaaGreatDoorTie.lean); close each card by the builder's one call (the guide's Derived/Test/ToyasCard.lean, 'card_holds'). Laid BY PROGRAM, IN A SANDBOX (cutbox-door.mjs). By AI agents, Wed Nov 11 2026. No macro, syntax, notation, axiom, sorry.
-/
import Derived.Test.YtpbeeneenhmjaaaGreatDoorRows
import GoSem.ClaimSeven
namespace Go.Proofs.YtpbeeneenhmjaaaGreatDoor
namespace Rows

/-- THE TIED CARD OF 'bushellaw01.MeasureSpans'. -/
def measureSpansCard : Claim7 := { stood := { row := measureSpansRow, standIns := [], harness := (true, "9a88d97f2b97ff6e9a91af65ee0f165f5901ac16a93723ab8f8fca048a37d33c"), looks := true }, kinds := [], alts := [], laidByText := true, laidKinds := [.data, .data, .data, .data, .sentinel, .sentinel, .pinned], laidTests := true, laidLooks := .later }
def MeasureSpansCardSaid : Prop := Claim7.holds Tryz.pinned (.plain (OpenSpec.ofChange measureSpansSpec)) measureSpansCard

/-- THE TIED CARD OF 'bushellaw01.MeasureRounds'. -/
def measureRoundsCard : Claim7 := { stood := { row := measureRoundsRow, standIns := [], harness := (true, "9a88d97f2b97ff6e9a91af65ee0f165f5901ac16a93723ab8f8fca048a37d33c"), looks := true }, kinds := [], alts := [], laidByText := true, laidKinds := [.data, .data, .data, .data, .sentinel, .sentinel, .pinned], laidTests := true, laidLooks := .later }
def MeasureRoundsCardSaid : Prop := Claim7.holds Tryz.pinned (.plain (OpenSpec.ofChange measureRoundsSpec)) measureRoundsCard

/-- THE SECOND FORM's CARD OF 'bushellaw01.MeasureSpans'. -/
def measureSpansUptoCard : Claim7 := { stood := { row := measureSpansUptoRow, standIns := [], harness := (true, "9a88d97f2b97ff6e9a91af65ee0f165f5901ac16a93723ab8f8fca048a37d33c"), looks := true }, kinds := [], alts := [], laidByText := true, laidKinds := [.data, .data, .data, .data, .sentinel, .sentinel, .pinned], laidTests := true, laidLooks := .later }
def MeasureSpansUptoCardSaid : Prop := Claim7.holds Tryz.pinned (.plain (OpenSpec.upto measureSpansSpec)) measureSpansUptoCard

/-- THE SECOND FORM's CARD OF 'bushellaw01.MeasureRounds'. -/
def measureRoundsUptoCard : Claim7 := { stood := { row := measureRoundsUptoRow, standIns := [], harness := (true, "9a88d97f2b97ff6e9a91af65ee0f165f5901ac16a93723ab8f8fca048a37d33c"), looks := true }, kinds := [], alts := [], laidByText := true, laidKinds := [.data, .data, .data, .data, .sentinel, .sentinel, .pinned], laidTests := true, laidLooks := .later }
def MeasureRoundsUptoCardSaid : Prop := Claim7.holds Tryz.pinned (.plain (OpenSpec.upto measureRoundsSpec)) measureRoundsUptoCard
end Rows
end Go.Proofs.YtpbeeneenhmjaaaGreatDoor
