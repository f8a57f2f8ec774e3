/-
  DERIVED. GIVEN WITH THE SEED: THE CARDS: each row of YtegbjdjpeblkoabGreatDoorRows.lean that lists a variable, with what it lists TIED to the program's text (the seventh form; the later family's looks); each row that meets fmt, with fmt's text TOLD by the authors' own Lean function (tested against real Go, not proved from fmt's source: count such statements apart). THE CARD IS WHAT COUNTS. Prove the row's statement (the work); the ties are given (YtegbjdjpeblkoabGreatDoorTie.lean); close each card by the builder's one call (the guide's Derived/Test/ToyasCard.lean, 'card_holds'). Laid BY PROGRAM, IN A SANDBOX (cutbox-door.mjs). By AI agents, Wed Nov 11 2026. No macro, syntax, notation, axiom, sorry.
-/
import Derived.Test.YtegbjdjpeblkoabGreatDoorRows
import GoSem.ClaimSeven
namespace Go.Proofs.YtegbjdjpeblkoabGreatDoor
namespace Rows

/-- THE TIED CARD OF 'surdlaw08.DyadicOwn'. -/
def dyadicOwnCard : Claim7 := { stood := { row := dyadicOwnRow, standIns := [], harness := (true, "5e6305cac4ac47be50947803f3337f6cacd2ae9f3a5509497af9d41cbc929163"), looks := false }, kinds := [], alts := [], laidByText := true, laidKinds := [.data], laidTests := true, laidLooks := .later }
def DyadicOwnCardSaid : Prop := Claim7.holds Tryz.pinned (.plain (OpenSpec.ofChange dyadicOwnSpec)) dyadicOwnCard

/-- THE SECOND FORM's CARD OF 'surdlaw08.DyadicOwn'. -/
def dyadicOwnUptoCard : Claim7 := { stood := { row := dyadicOwnUptoRow, standIns := [], harness := (true, "5e6305cac4ac47be50947803f3337f6cacd2ae9f3a5509497af9d41cbc929163"), looks := false }, kinds := [], alts := [], laidByText := true, laidKinds := [.data], laidTests := true, laidLooks := .later }
def DyadicOwnUptoCardSaid : Prop := Claim7.holds Tryz.pinned (.plain (OpenSpec.upto dyadicOwnSpec)) dyadicOwnUptoCard
end Rows
end Go.Proofs.YtegbjdjpeblkoabGreatDoor
