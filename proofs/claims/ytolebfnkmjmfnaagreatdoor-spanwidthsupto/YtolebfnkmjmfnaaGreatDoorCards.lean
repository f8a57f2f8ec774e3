/-
  DERIVED. GIVEN WITH THE SEED: THE CARDS: each row of YtolebfnkmjmfnaaGreatDoorRows.lean that lists a variable, with what it lists TIED to the program's text (the seventh form; the later family's looks); each row that meets fmt, with fmt's text TOLD by the authors' own Lean function (tested against real Go, not proved from fmt's source: count such statements apart). THE CARD IS WHAT COUNTS. Prove the row's statement (the work); the ties are given (YtolebfnkmjmfnaaGreatDoorTie.lean); close each card by the builder's one call (the guide's Derived/Test/ToyasCard.lean, 'card_holds'). Laid BY PROGRAM, IN A SANDBOX (cutbox-door.mjs). By AI agents, Wed Nov 11 2026. No macro, syntax, notation, axiom, sorry.
-/
import Derived.Test.YtolebfnkmjmfnaaGreatDoorRows
import GoSem.ClaimSeven
namespace Go.Proofs.YtolebfnkmjmfnaaGreatDoor
namespace Rows

/-- THE TIED CARD OF 'surdlaw10.SpanWidths'. -/
def spanWidthsCard : Claim7 := { stood := { row := spanWidthsRow, standIns := [], harness := (true, "41fcfe8792e4c2fc7a24473185b26d88eef8a6737c0a3ed79452d3ea098f8c84"), looks := false }, kinds := [], alts := [], laidByText := true, laidKinds := [.data], laidTests := true, laidLooks := .later }
def SpanWidthsCardSaid : Prop := Claim7.holds Tryz.pinned (.plain (OpenSpec.ofChange spanWidthsSpec)) spanWidthsCard

/-- THE SECOND FORM's CARD OF 'surdlaw10.SpanWidths'. -/
def spanWidthsUptoCard : Claim7 := { stood := { row := spanWidthsUptoRow, standIns := [], harness := (true, "41fcfe8792e4c2fc7a24473185b26d88eef8a6737c0a3ed79452d3ea098f8c84"), looks := false }, kinds := [], alts := [], laidByText := true, laidKinds := [.data], laidTests := true, laidLooks := .later }
def SpanWidthsUptoCardSaid : Prop := Claim7.holds Tryz.pinned (.plain (OpenSpec.upto spanWidthsSpec)) spanWidthsUptoCard
end Rows
end Go.Proofs.YtolebfnkmjmfnaaGreatDoor
