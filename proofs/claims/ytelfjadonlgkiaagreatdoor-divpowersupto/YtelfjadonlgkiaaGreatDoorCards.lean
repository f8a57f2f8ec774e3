/-
  DERIVED. GIVEN WITH THE SEED: THE CARDS: each row of YtelfjadonlgkiaaGreatDoorRows.lean that lists a variable, with what it lists TIED to the program's text (the seventh form; the later family's looks); each row that meets fmt, with fmt's text TOLD by the authors' own Lean function (tested against real Go, not proved from fmt's source: count such statements apart). THE CARD IS WHAT COUNTS. Prove the row's statement (the work); the ties are given (YtelfjadonlgkiaaGreatDoorTie.lean); close each card by the builder's one call (the guide's Derived/Test/ToyasCard.lean, 'card_holds'). Laid BY PROGRAM, IN A SANDBOX (cutbox-door.mjs). By AI agents, Wed Nov 11 2026. No macro, syntax, notation, axiom, sorry.
-/
import Derived.Test.YtelfjadonlgkiaaGreatDoorRows
import GoSem.ClaimSeven
namespace Go.Proofs.YtelfjadonlgkiaaGreatDoor
namespace Rows

/-- THE TIED CARD OF 'surdlaw03.DivPowers'. -/
def divPowersCard : Claim7 := { stood := { row := divPowersRow, standIns := [], harness := (true, "3edc3fae7ab704536fe0969147dfe5ece95e2428aa21ffbc41ab38c245430eae"), looks := false }, kinds := [], alts := [], laidByText := true, laidKinds := [.data], laidTests := true, laidLooks := .later }
def DivPowersCardSaid : Prop := Claim7.holds Tryz.pinned (.plain (OpenSpec.ofChange divPowersSpec)) divPowersCard

/-- THE SECOND FORM's CARD OF 'surdlaw03.DivPowers'. -/
def divPowersUptoCard : Claim7 := { stood := { row := divPowersUptoRow, standIns := [], harness := (true, "3edc3fae7ab704536fe0969147dfe5ece95e2428aa21ffbc41ab38c245430eae"), looks := false }, kinds := [], alts := [], laidByText := true, laidKinds := [.data], laidTests := true, laidLooks := .later }
def DivPowersUptoCardSaid : Prop := Claim7.holds Tryz.pinned (.plain (OpenSpec.upto divPowersSpec)) divPowersUptoCard
end Rows
end Go.Proofs.YtelfjadonlgkiaaGreatDoor
