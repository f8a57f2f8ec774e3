/-
  DERIVED. GIVEN WITH THE SEED: THE CARDS: each row of YtghhnehbpkmhdaaGreatDoorRows.lean that lists a variable, with what it lists TIED to the program's text (the seventh form; the later family's looks); each row that meets fmt, with fmt's text TOLD by the authors' own Lean function (tested against real Go, not proved from fmt's source: count such statements apart). THE CARD IS WHAT COUNTS. Prove the row's statement (the work); the ties are given (YtghhnehbpkmhdaaGreatDoorTie.lean); close each card by the builder's one call (the guide's Derived/Test/ToyasCard.lean, 'card_holds'). Laid BY PROGRAM, IN A SANDBOX (cutbox-door.mjs). By AI agents, Wed Nov 11 2026. No macro, syntax, notation, axiom, sorry.
-/
import Derived.Test.YtghhnehbpkmhdaaGreatDoorRows
import GoSem.ClaimSeven
namespace Go.Proofs.YtghhnehbpkmhdaaGreatDoor
namespace Rows

/-- THE TIED CARD OF 'surdtop.WholeTower'. -/
def wholeTowerCard : Claim7 := { stood := { row := wholeTowerRow, standIns := [], harness := (true, "2dbdfcc049d393ae9607be90df03b33a9b958c13ee17cf5ee27628a4f06af54e"), looks := false }, kinds := [], alts := [], laidByText := true, laidKinds := [.data, .data], laidTests := true, laidLooks := .later }
def WholeTowerCardSaid : Prop := Claim7.holds Tryz.pinned (.plain (OpenSpec.ofChange wholeTowerSpec)) wholeTowerCard

/-- THE SECOND FORM's CARD OF 'surdtop.WholeTower'. -/
def wholeTowerUptoCard : Claim7 := { stood := { row := wholeTowerUptoRow, standIns := [], harness := (true, "2dbdfcc049d393ae9607be90df03b33a9b958c13ee17cf5ee27628a4f06af54e"), looks := false }, kinds := [], alts := [], laidByText := true, laidKinds := [.data, .data], laidTests := true, laidLooks := .later }
def WholeTowerUptoCardSaid : Prop := Claim7.holds Tryz.pinned (.plain (OpenSpec.upto wholeTowerSpec)) wholeTowerUptoCard
end Rows
end Go.Proofs.YtghhnehbpkmhdaaGreatDoor
