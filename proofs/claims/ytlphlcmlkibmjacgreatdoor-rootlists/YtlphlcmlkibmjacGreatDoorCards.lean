/-
  DERIVED. GIVEN WITH THE SEED: THE CARDS: each row of YtlphlcmlkibmjacGreatDoorRows.lean that lists a variable, with what it lists TIED to the program's text (the seventh form; the later family's looks); each row that meets fmt, with fmt's text TOLD by the authors' own Lean function (tested against real Go, not proved from fmt's source: count such statements apart). THE CARD IS WHAT COUNTS. Prove the row's statement (the work); the ties are given (YtlphlcmlkibmjacGreatDoorTie.lean); close each card by the builder's one call (the guide's Derived/Test/ToyasCard.lean, 'card_holds'). Laid BY PROGRAM, IN A SANDBOX (cutbox-door.mjs). By AI agents, Wed Nov 11 2026. No macro, syntax, notation, axiom, sorry.
-/
import Derived.Test.YtlphlcmlkibmjacGreatDoorRows
import GoSem.ClaimSeven
namespace Go.Proofs.YtlphlcmlkibmjacGreatDoor
namespace Rows

/-- THE TIED CARD OF 'surdlaw04.RootRoots'. -/
def rootRootsCard : Claim7 := { stood := { row := rootRootsRow, standIns := [], harness := (true, "d8fc810e4e10f2f7662ae595b86e7e80b46a22af587c42d46d5c6ad36d2ba534"), looks := false }, kinds := [], alts := [], laidByText := true, laidKinds := [.data], laidTests := true, laidLooks := .later }
def RootRootsCardSaid : Prop := Claim7.holds Tryz.pinned (.plain (OpenSpec.ofChange rootRootsSpec)) rootRootsCard

/-- THE TIED CARD OF 'surdlaw04.RootOrders'. -/
def rootOrdersCard : Claim7 := { stood := { row := rootOrdersRow, standIns := [], harness := (true, "d8fc810e4e10f2f7662ae595b86e7e80b46a22af587c42d46d5c6ad36d2ba534"), looks := false }, kinds := [], alts := [], laidByText := true, laidKinds := [.data], laidTests := true, laidLooks := .later }
def RootOrdersCardSaid : Prop := Claim7.holds Tryz.pinned (.plain (OpenSpec.ofChange rootOrdersSpec)) rootOrdersCard

/-- THE TIED CARD OF 'surdlaw04.RootOnce'. -/
def rootOnceCard : Claim7 := { stood := { row := rootOnceRow, standIns := [], harness := (true, "d8fc810e4e10f2f7662ae595b86e7e80b46a22af587c42d46d5c6ad36d2ba534"), looks := false }, kinds := [], alts := [], laidByText := true, laidKinds := [.data], laidTests := true, laidLooks := .later }
def RootOnceCardSaid : Prop := Claim7.holds Tryz.pinned (.plain (OpenSpec.ofChange rootOnceSpec)) rootOnceCard

/-- THE TIED CARD OF 'surdlaw04.RootOwn'. -/
def rootOwnCard : Claim7 := { stood := { row := rootOwnRow, standIns := [], harness := (true, "d8fc810e4e10f2f7662ae595b86e7e80b46a22af587c42d46d5c6ad36d2ba534"), looks := false }, kinds := [], alts := [], laidByText := true, laidKinds := [.data], laidTests := true, laidLooks := .later }
def RootOwnCardSaid : Prop := Claim7.holds Tryz.pinned (.plain (OpenSpec.ofChange rootOwnSpec)) rootOwnCard

/-- THE TIED CARD OF 'surdlaw04.RootLists'. -/
def rootListsCard : Claim7 := { stood := { row := rootListsRow, standIns := [], harness := (true, "d8fc810e4e10f2f7662ae595b86e7e80b46a22af587c42d46d5c6ad36d2ba534"), looks := false }, kinds := [], alts := [], laidByText := true, laidKinds := [.data], laidTests := true, laidLooks := .later }
def RootListsCardSaid : Prop := Claim7.holds Tryz.pinned (.plain (OpenSpec.ofChange rootListsSpec)) rootListsCard

/-- THE SECOND FORM's CARD OF 'surdlaw04.RootRoots'. -/
def rootRootsUptoCard : Claim7 := { stood := { row := rootRootsUptoRow, standIns := [], harness := (true, "d8fc810e4e10f2f7662ae595b86e7e80b46a22af587c42d46d5c6ad36d2ba534"), looks := false }, kinds := [], alts := [], laidByText := true, laidKinds := [.data], laidTests := true, laidLooks := .later }
def RootRootsUptoCardSaid : Prop := Claim7.holds Tryz.pinned (.plain (OpenSpec.upto rootRootsSpec)) rootRootsUptoCard

/-- THE SECOND FORM's CARD OF 'surdlaw04.RootOrders'. -/
def rootOrdersUptoCard : Claim7 := { stood := { row := rootOrdersUptoRow, standIns := [], harness := (true, "d8fc810e4e10f2f7662ae595b86e7e80b46a22af587c42d46d5c6ad36d2ba534"), looks := false }, kinds := [], alts := [], laidByText := true, laidKinds := [.data], laidTests := true, laidLooks := .later }
def RootOrdersUptoCardSaid : Prop := Claim7.holds Tryz.pinned (.plain (OpenSpec.upto rootOrdersSpec)) rootOrdersUptoCard

/-- THE SECOND FORM's CARD OF 'surdlaw04.RootOnce'. -/
def rootOnceUptoCard : Claim7 := { stood := { row := rootOnceUptoRow, standIns := [], harness := (true, "d8fc810e4e10f2f7662ae595b86e7e80b46a22af587c42d46d5c6ad36d2ba534"), looks := false }, kinds := [], alts := [], laidByText := true, laidKinds := [.data], laidTests := true, laidLooks := .later }
def RootOnceUptoCardSaid : Prop := Claim7.holds Tryz.pinned (.plain (OpenSpec.upto rootOnceSpec)) rootOnceUptoCard

/-- THE SECOND FORM's CARD OF 'surdlaw04.RootOwn'. -/
def rootOwnUptoCard : Claim7 := { stood := { row := rootOwnUptoRow, standIns := [], harness := (true, "d8fc810e4e10f2f7662ae595b86e7e80b46a22af587c42d46d5c6ad36d2ba534"), looks := false }, kinds := [], alts := [], laidByText := true, laidKinds := [.data], laidTests := true, laidLooks := .later }
def RootOwnUptoCardSaid : Prop := Claim7.holds Tryz.pinned (.plain (OpenSpec.upto rootOwnSpec)) rootOwnUptoCard

/-- THE SECOND FORM's CARD OF 'surdlaw04.RootLists'. -/
def rootListsUptoCard : Claim7 := { stood := { row := rootListsUptoRow, standIns := [], harness := (true, "d8fc810e4e10f2f7662ae595b86e7e80b46a22af587c42d46d5c6ad36d2ba534"), looks := false }, kinds := [], alts := [], laidByText := true, laidKinds := [.data], laidTests := true, laidLooks := .later }
def RootListsUptoCardSaid : Prop := Claim7.holds Tryz.pinned (.plain (OpenSpec.upto rootListsSpec)) rootListsUptoCard
end Rows
end Go.Proofs.YtlphlcmlkibmjacGreatDoor
