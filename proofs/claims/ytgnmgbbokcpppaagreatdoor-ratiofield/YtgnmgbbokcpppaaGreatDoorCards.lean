/-
  DERIVED. GIVEN WITH THE SEED: THE CARDS: each row of YtgnmgbbokcpppaaGreatDoorRows.lean that lists a variable, with what it lists TIED to the program's text (the seventh form; the later family's looks); each row that meets fmt, with fmt's text TOLD by the authors' own Lean function (tested against real Go, not proved from fmt's source: count such statements apart). THE CARD IS WHAT COUNTS. Prove the row's statement (the work); the ties are given (YtgnmgbbokcpppaaGreatDoorTie.lean); close each card by the builder's one call (the guide's Derived/Test/ToyasCard.lean, 'card_holds'). Laid BY PROGRAM, IN A SANDBOX (cutbox-door.mjs). By AI agents, Wed Nov 11 2026. No macro, syntax, notation, axiom, sorry.
-/
import Derived.Test.YtgnmgbbokcpppaaGreatDoorRows
import GoSem.ClaimSeven
namespace Go.Proofs.YtgnmgbbokcpppaaGreatDoor
namespace Rows

/-- THE TIED CARD OF 'surdlaw07.RatioRings'. -/
def ratioRingsCard : Claim7 := { stood := { row := ratioRingsRow, standIns := [], harness := (true, "0af0a01c0c73a19f0d294d327125f3ad5bf4f08d05ef554a3d7f762539920313"), looks := true }, kinds := [], alts := [], laidByText := true, laidKinds := [.data, .data], laidTests := true, laidLooks := .later }
def RatioRingsCardSaid : Prop := Claim7.holds Tryz.pinned (.plain (OpenSpec.ofChange ratioRingsSpec)) ratioRingsCard

/-- THE TIED CARD OF 'surdlaw07.RatioField'. -/
def ratioFieldCard : Claim7 := { stood := { row := ratioFieldRow, standIns := [], harness := (true, "0af0a01c0c73a19f0d294d327125f3ad5bf4f08d05ef554a3d7f762539920313"), looks := true }, kinds := [], alts := [], laidByText := true, laidKinds := [.data, .data], laidTests := true, laidLooks := .later }
def RatioFieldCardSaid : Prop := Claim7.holds Tryz.pinned (.plain (OpenSpec.ofChange ratioFieldSpec)) ratioFieldCard

/-- THE SECOND FORM's CARD OF 'surdlaw07.RatioRings'. -/
def ratioRingsUptoCard : Claim7 := { stood := { row := ratioRingsUptoRow, standIns := [], harness := (true, "0af0a01c0c73a19f0d294d327125f3ad5bf4f08d05ef554a3d7f762539920313"), looks := true }, kinds := [], alts := [], laidByText := true, laidKinds := [.data, .data], laidTests := true, laidLooks := .later }
def RatioRingsUptoCardSaid : Prop := Claim7.holds Tryz.pinned (.plain (OpenSpec.upto ratioRingsSpec)) ratioRingsUptoCard

/-- THE SECOND FORM's CARD OF 'surdlaw07.RatioField'. -/
def ratioFieldUptoCard : Claim7 := { stood := { row := ratioFieldUptoRow, standIns := [], harness := (true, "0af0a01c0c73a19f0d294d327125f3ad5bf4f08d05ef554a3d7f762539920313"), looks := true }, kinds := [], alts := [], laidByText := true, laidKinds := [.data, .data], laidTests := true, laidLooks := .later }
def RatioFieldUptoCardSaid : Prop := Claim7.holds Tryz.pinned (.plain (OpenSpec.upto ratioFieldSpec)) ratioFieldUptoCard
end Rows
end Go.Proofs.YtgnmgbbokcpppaaGreatDoor
