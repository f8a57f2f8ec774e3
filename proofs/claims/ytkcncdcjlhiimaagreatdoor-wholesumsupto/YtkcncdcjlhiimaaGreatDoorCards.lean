/-
  DERIVED. GIVEN WITH THE SEED: THE CARDS: each row of YtkcncdcjlhiimaaGreatDoorRows.lean that lists a variable, with what it lists TIED to the program's text (the seventh form; the later family's looks); each row that meets fmt, with fmt's text TOLD by the authors' own Lean function (tested against real Go, not proved from fmt's source: count such statements apart). THE CARD IS WHAT COUNTS. Prove the row's statement (the work); the ties are given (YtkcncdcjlhiimaaGreatDoorTie.lean); close each card by the builder's one call (the guide's Derived/Test/ToyasCard.lean, 'card_holds'). Laid BY PROGRAM, IN A SANDBOX (cutbox-door.mjs). By AI agents, Wed Nov 11 2026. No macro, syntax, notation, axiom, sorry.
-/
import Derived.Test.YtkcncdcjlhiimaaGreatDoorRows
import GoSem.ClaimSeven
namespace Go.Proofs.YtkcncdcjlhiimaaGreatDoor
namespace Rows

/-- THE TIED CARD OF 'surdlaw06.WholeMakes'. -/
def wholeMakesCard : Claim7 := { stood := { row := wholeMakesRow, standIns := [], harness := (true, "3f957d90bf226bec3892ff1b4258665c583737011746e2adca2cac4954cec877"), looks := false }, kinds := [], alts := [], laidByText := true, laidKinds := [.data], laidTests := true, laidLooks := .later }
def WholeMakesCardSaid : Prop := Claim7.holds Tryz.pinned (.plain (OpenSpec.ofChange wholeMakesSpec)) wholeMakesCard

/-- THE TIED CARD OF 'surdlaw06.WholeSums'. -/
def wholeSumsCard : Claim7 := { stood := { row := wholeSumsRow, standIns := [], harness := (true, "3f957d90bf226bec3892ff1b4258665c583737011746e2adca2cac4954cec877"), looks := false }, kinds := [], alts := [], laidByText := true, laidKinds := [.data], laidTests := true, laidLooks := .later }
def WholeSumsCardSaid : Prop := Claim7.holds Tryz.pinned (.plain (OpenSpec.ofChange wholeSumsSpec)) wholeSumsCard

/-- THE TIED CARD OF 'surdlaw06.WholeRing'. -/
def wholeRingCard : Claim7 := { stood := { row := wholeRingRow, standIns := [], harness := (true, "3f957d90bf226bec3892ff1b4258665c583737011746e2adca2cac4954cec877"), looks := false }, kinds := [], alts := [], laidByText := true, laidKinds := [.data], laidTests := true, laidLooks := .later }
def WholeRingCardSaid : Prop := Claim7.holds Tryz.pinned (.plain (OpenSpec.ofChange wholeRingSpec)) wholeRingCard

/-- THE TIED CARD OF 'surdlaw06.WholeOwn'. -/
def wholeOwnCard : Claim7 := { stood := { row := wholeOwnRow, standIns := [], harness := (true, "3f957d90bf226bec3892ff1b4258665c583737011746e2adca2cac4954cec877"), looks := false }, kinds := [], alts := [], laidByText := true, laidKinds := [.data], laidTests := true, laidLooks := .later }
def WholeOwnCardSaid : Prop := Claim7.holds Tryz.pinned (.plain (OpenSpec.ofChange wholeOwnSpec)) wholeOwnCard

/-- THE TIED CARD OF 'surdlaw06.WholeQuos'. -/
def wholeQuosCard : Claim7 := { stood := { row := wholeQuosRow, standIns := [], harness := (true, "3f957d90bf226bec3892ff1b4258665c583737011746e2adca2cac4954cec877"), looks := false }, kinds := [], alts := [], laidByText := true, laidKinds := [.data], laidTests := true, laidLooks := .later }
def WholeQuosCardSaid : Prop := Claim7.holds Tryz.pinned (.plain (OpenSpec.ofChange wholeQuosSpec)) wholeQuosCard

/-- THE SECOND FORM's CARD OF 'surdlaw06.WholeMakes'. -/
def wholeMakesUptoCard : Claim7 := { stood := { row := wholeMakesUptoRow, standIns := [], harness := (true, "3f957d90bf226bec3892ff1b4258665c583737011746e2adca2cac4954cec877"), looks := false }, kinds := [], alts := [], laidByText := true, laidKinds := [.data], laidTests := true, laidLooks := .later }
def WholeMakesUptoCardSaid : Prop := Claim7.holds Tryz.pinned (.plain (OpenSpec.upto wholeMakesSpec)) wholeMakesUptoCard

/-- THE SECOND FORM's CARD OF 'surdlaw06.WholeSums'. -/
def wholeSumsUptoCard : Claim7 := { stood := { row := wholeSumsUptoRow, standIns := [], harness := (true, "3f957d90bf226bec3892ff1b4258665c583737011746e2adca2cac4954cec877"), looks := false }, kinds := [], alts := [], laidByText := true, laidKinds := [.data], laidTests := true, laidLooks := .later }
def WholeSumsUptoCardSaid : Prop := Claim7.holds Tryz.pinned (.plain (OpenSpec.upto wholeSumsSpec)) wholeSumsUptoCard

/-- THE SECOND FORM's CARD OF 'surdlaw06.WholeRing'. -/
def wholeRingUptoCard : Claim7 := { stood := { row := wholeRingUptoRow, standIns := [], harness := (true, "3f957d90bf226bec3892ff1b4258665c583737011746e2adca2cac4954cec877"), looks := false }, kinds := [], alts := [], laidByText := true, laidKinds := [.data], laidTests := true, laidLooks := .later }
def WholeRingUptoCardSaid : Prop := Claim7.holds Tryz.pinned (.plain (OpenSpec.upto wholeRingSpec)) wholeRingUptoCard

/-- THE SECOND FORM's CARD OF 'surdlaw06.WholeOwn'. -/
def wholeOwnUptoCard : Claim7 := { stood := { row := wholeOwnUptoRow, standIns := [], harness := (true, "3f957d90bf226bec3892ff1b4258665c583737011746e2adca2cac4954cec877"), looks := false }, kinds := [], alts := [], laidByText := true, laidKinds := [.data], laidTests := true, laidLooks := .later }
def WholeOwnUptoCardSaid : Prop := Claim7.holds Tryz.pinned (.plain (OpenSpec.upto wholeOwnSpec)) wholeOwnUptoCard

/-- THE SECOND FORM's CARD OF 'surdlaw06.WholeQuos'. -/
def wholeQuosUptoCard : Claim7 := { stood := { row := wholeQuosUptoRow, standIns := [], harness := (true, "3f957d90bf226bec3892ff1b4258665c583737011746e2adca2cac4954cec877"), looks := false }, kinds := [], alts := [], laidByText := true, laidKinds := [.data], laidTests := true, laidLooks := .later }
def WholeQuosUptoCardSaid : Prop := Claim7.holds Tryz.pinned (.plain (OpenSpec.upto wholeQuosSpec)) wholeQuosUptoCard
end Rows
end Go.Proofs.YtkcncdcjlhiimaaGreatDoor
