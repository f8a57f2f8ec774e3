/-
  DERIVED. GIVEN WITH THE SEED: THE CARDS: each row of YtppblbhkghjphaaGreatDoorRows.lean that lists a variable, with what it lists TIED to the program's text (the seventh form; the later family's looks); each row that meets fmt, with fmt's text TOLD by the authors' own Lean function (tested against real Go, not proved from fmt's source: count such statements apart). THE CARD IS WHAT COUNTS. Prove the row's statement (the work); the ties are given (YtppblbhkghjphaaGreatDoorTie.lean); close each card by the builder's one call (the guide's Derived/Test/ToyasCard.lean, 'card_holds'). Laid BY PROGRAM, IN A SANDBOX (cutbox-door.mjs). By AI agents, Wed Nov 11 2026. No macro, syntax, notation, axiom, sorry.
-/
import Derived.Test.YtppblbhkghjphaaGreatDoorRows
import GoSem.ClaimSeven
namespace Go.Proofs.YtppblbhkghjphaaGreatDoor
namespace Rows

/-- THE TIED CARD OF 'surdlaw09.RoundedNames'. -/
def roundedNamesCard : Claim7 := { stood := { row := roundedNamesRow, standIns := [], harness := (true, "b075bbe0de1748ef559afd6afa48a1c0a972a6f91f74e4ac4ad95639f2bc1a1d"), looks := true }, kinds := [], alts := [], laidByText := true, laidKinds := [.data], laidTests := true, laidLooks := .later }
def RoundedNamesCardSaid : Prop := Claim7.holds Tryz.pinned (.plain (OpenSpec.ofChange roundedNamesSpec)) roundedNamesCard

/-- THE SECOND FORM's CARD OF 'surdlaw09.RoundedNames'. -/
def roundedNamesUptoCard : Claim7 := { stood := { row := roundedNamesUptoRow, standIns := [], harness := (true, "b075bbe0de1748ef559afd6afa48a1c0a972a6f91f74e4ac4ad95639f2bc1a1d"), looks := true }, kinds := [], alts := [], laidByText := true, laidKinds := [.data], laidTests := true, laidLooks := .later }
def RoundedNamesUptoCardSaid : Prop := Claim7.holds Tryz.pinned (.plain (OpenSpec.upto roundedNamesSpec)) roundedNamesUptoCard
end Rows
end Go.Proofs.YtppblbhkghjphaaGreatDoor
