/-
  DERIVED. GIVEN WITH THE SEED: THE CARDS: each row of YtcbpdngogkbndaaGreatDoorRows.lean that lists a variable, with what it lists TIED to the program's text (the seventh form; the later family's looks); each row that meets fmt, with fmt's text TOLD by the authors' own Lean function (tested against real Go, not proved from fmt's source: count such statements apart). THE CARD IS WHAT COUNTS. Prove the row's statement (the work); the ties are given (YtcbpdngogkbndaaGreatDoorTie.lean); close each card by the builder's one call (the guide's Derived/Test/ToyasCard.lean, 'card_holds'). Laid BY PROGRAM, IN A SANDBOX (cutbox-door.mjs). By AI agents, Wed Nov 11 2026. No macro, syntax, notation, axiom, sorry.
-/
import Derived.Test.YtcbpdngogkbndaaGreatDoorRows
import GoSem.ClaimSeven
namespace Go.Proofs.YtcbpdngogkbndaaGreatDoor
namespace Rows

/-- THE TIED CARD OF 'surdlaw06.WholeBits'. -/
def wholeBitsCard : Claim7 := { stood := { row := wholeBitsRow, standIns := [], harness := (true, "276edb75e84015a8c032542476980e6cc33c97fd4f83c3357ed9b04aa21028a4"), looks := false }, kinds := [], alts := [], laidByText := true, laidKinds := [.data], laidTests := true, laidLooks := .later }
def WholeBitsCardSaid : Prop := Claim7.holds Tryz.pinned (.plain (OpenSpec.ofChange wholeBitsSpec)) wholeBitsCard

/-- THE TIED CARD OF 'surdlaw06.WholeMasks'. -/
def wholeMasksCard : Claim7 := { stood := { row := wholeMasksRow, standIns := [], harness := (true, "276edb75e84015a8c032542476980e6cc33c97fd4f83c3357ed9b04aa21028a4"), looks := false }, kinds := [], alts := [], laidByText := true, laidKinds := [.data], laidTests := true, laidLooks := .later }
def WholeMasksCardSaid : Prop := Claim7.holds Tryz.pinned (.plain (OpenSpec.ofChange wholeMasksSpec)) wholeMasksCard

/-- THE SECOND FORM's CARD OF 'surdlaw06.WholeBits'. -/
def wholeBitsUptoCard : Claim7 := { stood := { row := wholeBitsUptoRow, standIns := [], harness := (true, "276edb75e84015a8c032542476980e6cc33c97fd4f83c3357ed9b04aa21028a4"), looks := false }, kinds := [], alts := [], laidByText := true, laidKinds := [.data], laidTests := true, laidLooks := .later }
def WholeBitsUptoCardSaid : Prop := Claim7.holds Tryz.pinned (.plain (OpenSpec.upto wholeBitsSpec)) wholeBitsUptoCard

/-- THE SECOND FORM's CARD OF 'surdlaw06.WholeMasks'. -/
def wholeMasksUptoCard : Claim7 := { stood := { row := wholeMasksUptoRow, standIns := [], harness := (true, "276edb75e84015a8c032542476980e6cc33c97fd4f83c3357ed9b04aa21028a4"), looks := false }, kinds := [], alts := [], laidByText := true, laidKinds := [.data], laidTests := true, laidLooks := .later }
def WholeMasksUptoCardSaid : Prop := Claim7.holds Tryz.pinned (.plain (OpenSpec.upto wholeMasksSpec)) wholeMasksUptoCard
end Rows
end Go.Proofs.YtcbpdngogkbndaaGreatDoor
