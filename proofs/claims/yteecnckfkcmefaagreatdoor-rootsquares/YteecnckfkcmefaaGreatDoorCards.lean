/-
  DERIVED. GIVEN WITH THE SEED: THE CARDS: each row of YteecnckfkcmefaaGreatDoorRows.lean that lists a variable, with what it lists TIED to the program's text (the seventh form; the later family's looks); each row that meets fmt, with fmt's text TOLD by the authors' own Lean function (tested against real Go, not proved from fmt's source: count such statements apart). THE CARD IS WHAT COUNTS. Prove the row's statement (the work); the ties are given (YteecnckfkcmefaaGreatDoorTie.lean); close each card by the builder's one call (the guide's Derived/Test/ToyasCard.lean, 'card_holds'). Laid BY PROGRAM, IN A SANDBOX (cutbox-door.mjs). By AI agents, Wed Nov 11 2026. No macro, syntax, notation, axiom, sorry.
-/
import Derived.Test.YteecnckfkcmefaaGreatDoorRows
import GoSem.ClaimSeven
namespace Go.Proofs.YteecnckfkcmefaaGreatDoor
namespace Rows

/-- THE TIED CARD OF 'surdlaw04.RootSquares'. -/
def rootSquaresCard : Claim7 := { stood := { row := rootSquaresRow, standIns := [], harness := (true, "2420ab81c75894681785787b60dd86a356b7d5a9627cfd0ba8c537e609b028bb"), looks := false }, kinds := [], alts := [], laidByText := true, laidKinds := [.data], laidTests := true, laidLooks := .later }
def RootSquaresCardSaid : Prop := Claim7.holds Tryz.pinned (.plain (OpenSpec.ofChange rootSquaresSpec)) rootSquaresCard

/-- THE TIED CARD OF 'surdlaw04.RootKths'. -/
def rootKthsCard : Claim7 := { stood := { row := rootKthsRow, standIns := [], harness := (true, "2420ab81c75894681785787b60dd86a356b7d5a9627cfd0ba8c537e609b028bb"), looks := false }, kinds := [], alts := [], laidByText := true, laidKinds := [.data], laidTests := true, laidLooks := .later }
def RootKthsCardSaid : Prop := Claim7.holds Tryz.pinned (.plain (OpenSpec.ofChange rootKthsSpec)) rootKthsCard

/-- THE TIED CARD OF 'surdlaw04.RootLogs'. -/
def rootLogsCard : Claim7 := { stood := { row := rootLogsRow, standIns := [], harness := (true, "2420ab81c75894681785787b60dd86a356b7d5a9627cfd0ba8c537e609b028bb"), looks := false }, kinds := [], alts := [], laidByText := true, laidKinds := [.data], laidTests := true, laidLooks := .later }
def RootLogsCardSaid : Prop := Claim7.holds Tryz.pinned (.plain (OpenSpec.ofChange rootLogsSpec)) rootLogsCard

/-- THE TIED CARD OF 'surdlaw04.RootBetween'. -/
def rootBetweenCard : Claim7 := { stood := { row := rootBetweenRow, standIns := [], harness := (true, "2420ab81c75894681785787b60dd86a356b7d5a9627cfd0ba8c537e609b028bb"), looks := false }, kinds := [], alts := [], laidByText := true, laidKinds := [.data], laidTests := true, laidLooks := .later }
def RootBetweenCardSaid : Prop := Claim7.holds Tryz.pinned (.plain (OpenSpec.ofChange rootBetweenSpec)) rootBetweenCard

/-- THE TIED CARD OF 'surdlaw04.RootRoots'. -/
def rootRootsCard : Claim7 := { stood := { row := rootRootsRow, standIns := [], harness := (true, "2420ab81c75894681785787b60dd86a356b7d5a9627cfd0ba8c537e609b028bb"), looks := false }, kinds := [], alts := [], laidByText := true, laidKinds := [.data], laidTests := true, laidLooks := .later }
def RootRootsCardSaid : Prop := Claim7.holds Tryz.pinned (.plain (OpenSpec.ofChange rootRootsSpec)) rootRootsCard

/-- THE TIED CARD OF 'surdlaw04.RootOrders'. -/
def rootOrdersCard : Claim7 := { stood := { row := rootOrdersRow, standIns := [], harness := (true, "2420ab81c75894681785787b60dd86a356b7d5a9627cfd0ba8c537e609b028bb"), looks := false }, kinds := [], alts := [], laidByText := true, laidKinds := [.data], laidTests := true, laidLooks := .later }
def RootOrdersCardSaid : Prop := Claim7.holds Tryz.pinned (.plain (OpenSpec.ofChange rootOrdersSpec)) rootOrdersCard

/-- THE SECOND FORM's CARD OF 'surdlaw04.RootSquares'. -/
def rootSquaresUptoCard : Claim7 := { stood := { row := rootSquaresUptoRow, standIns := [], harness := (true, "2420ab81c75894681785787b60dd86a356b7d5a9627cfd0ba8c537e609b028bb"), looks := false }, kinds := [], alts := [], laidByText := true, laidKinds := [.data], laidTests := true, laidLooks := .later }
def RootSquaresUptoCardSaid : Prop := Claim7.holds Tryz.pinned (.plain (OpenSpec.upto rootSquaresSpec)) rootSquaresUptoCard

/-- THE SECOND FORM's CARD OF 'surdlaw04.RootKths'. -/
def rootKthsUptoCard : Claim7 := { stood := { row := rootKthsUptoRow, standIns := [], harness := (true, "2420ab81c75894681785787b60dd86a356b7d5a9627cfd0ba8c537e609b028bb"), looks := false }, kinds := [], alts := [], laidByText := true, laidKinds := [.data], laidTests := true, laidLooks := .later }
def RootKthsUptoCardSaid : Prop := Claim7.holds Tryz.pinned (.plain (OpenSpec.upto rootKthsSpec)) rootKthsUptoCard

/-- THE SECOND FORM's CARD OF 'surdlaw04.RootLogs'. -/
def rootLogsUptoCard : Claim7 := { stood := { row := rootLogsUptoRow, standIns := [], harness := (true, "2420ab81c75894681785787b60dd86a356b7d5a9627cfd0ba8c537e609b028bb"), looks := false }, kinds := [], alts := [], laidByText := true, laidKinds := [.data], laidTests := true, laidLooks := .later }
def RootLogsUptoCardSaid : Prop := Claim7.holds Tryz.pinned (.plain (OpenSpec.upto rootLogsSpec)) rootLogsUptoCard

/-- THE SECOND FORM's CARD OF 'surdlaw04.RootBetween'. -/
def rootBetweenUptoCard : Claim7 := { stood := { row := rootBetweenUptoRow, standIns := [], harness := (true, "2420ab81c75894681785787b60dd86a356b7d5a9627cfd0ba8c537e609b028bb"), looks := false }, kinds := [], alts := [], laidByText := true, laidKinds := [.data], laidTests := true, laidLooks := .later }
def RootBetweenUptoCardSaid : Prop := Claim7.holds Tryz.pinned (.plain (OpenSpec.upto rootBetweenSpec)) rootBetweenUptoCard

/-- THE SECOND FORM's CARD OF 'surdlaw04.RootRoots'. -/
def rootRootsUptoCard : Claim7 := { stood := { row := rootRootsUptoRow, standIns := [], harness := (true, "2420ab81c75894681785787b60dd86a356b7d5a9627cfd0ba8c537e609b028bb"), looks := false }, kinds := [], alts := [], laidByText := true, laidKinds := [.data], laidTests := true, laidLooks := .later }
def RootRootsUptoCardSaid : Prop := Claim7.holds Tryz.pinned (.plain (OpenSpec.upto rootRootsSpec)) rootRootsUptoCard

/-- THE SECOND FORM's CARD OF 'surdlaw04.RootOrders'. -/
def rootOrdersUptoCard : Claim7 := { stood := { row := rootOrdersUptoRow, standIns := [], harness := (true, "2420ab81c75894681785787b60dd86a356b7d5a9627cfd0ba8c537e609b028bb"), looks := false }, kinds := [], alts := [], laidByText := true, laidKinds := [.data], laidTests := true, laidLooks := .later }
def RootOrdersUptoCardSaid : Prop := Claim7.holds Tryz.pinned (.plain (OpenSpec.upto rootOrdersSpec)) rootOrdersUptoCard
end Rows
end Go.Proofs.YteecnckfkcmefaaGreatDoor
