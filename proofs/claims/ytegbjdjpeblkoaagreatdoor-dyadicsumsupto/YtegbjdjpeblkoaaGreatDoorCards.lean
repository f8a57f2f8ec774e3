/-
  DERIVED. GIVEN WITH THE SEED: THE CARDS: each row of YtegbjdjpeblkoaaGreatDoorRows.lean that lists a variable, with what it lists TIED to the program's text (the seventh form; the later family's looks); each row that meets fmt, with fmt's text TOLD by the authors' own Lean function (tested against real Go, not proved from fmt's source: count such statements apart). THE CARD IS WHAT COUNTS. Prove the row's statement (the work); the ties are given (YtegbjdjpeblkoaaGreatDoorTie.lean); close each card by the builder's one call (the guide's Derived/Test/ToyasCard.lean, 'card_holds'). Laid BY PROGRAM, IN A SANDBOX (cutbox-door.mjs). By AI agents, Wed Nov 11 2026. No macro, syntax, notation, axiom, sorry.
-/
import Derived.Test.YtegbjdjpeblkoaaGreatDoorRows
import GoSem.ClaimSeven
namespace Go.Proofs.YtegbjdjpeblkoaaGreatDoor
namespace Rows

/-- THE TIED CARD OF 'surdlaw08.DyadicSums'. -/
def dyadicSumsCard : Claim7 := { stood := { row := dyadicSumsRow, standIns := [], harness := (true, "726a8ee974653fc91c48dd08ed3b721c0fd0863e43f008a2690d8f90b93bc51b"), looks := false }, kinds := [], alts := [], laidByText := true, laidKinds := [.data], laidTests := true, laidLooks := .later }
def DyadicSumsCardSaid : Prop := Claim7.holds Tryz.pinned (.plain (OpenSpec.ofChange dyadicSumsSpec)) dyadicSumsCard

/-- THE SECOND FORM's CARD OF 'surdlaw08.DyadicSums'. -/
def dyadicSumsUptoCard : Claim7 := { stood := { row := dyadicSumsUptoRow, standIns := [], harness := (true, "726a8ee974653fc91c48dd08ed3b721c0fd0863e43f008a2690d8f90b93bc51b"), looks := false }, kinds := [], alts := [], laidByText := true, laidKinds := [.data], laidTests := true, laidLooks := .later }
def DyadicSumsUptoCardSaid : Prop := Claim7.holds Tryz.pinned (.plain (OpenSpec.upto dyadicSumsSpec)) dyadicSumsUptoCard
end Rows
end Go.Proofs.YtegbjdjpeblkoaaGreatDoor
