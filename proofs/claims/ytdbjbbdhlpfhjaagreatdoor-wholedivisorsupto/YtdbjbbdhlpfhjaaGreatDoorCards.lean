/-
  DERIVED. GIVEN WITH THE SEED: THE CARDS: each row of YtdbjbbdhlpfhjaaGreatDoorRows.lean that lists a variable, with what it lists TIED to the program's text (the seventh form; the later family's looks); each row that meets fmt, with fmt's text TOLD by the authors' own Lean function (tested against real Go, not proved from fmt's source: count such statements apart). THE CARD IS WHAT COUNTS. Prove the row's statement (the work); the ties are given (YtdbjbbdhlpfhjaaGreatDoorTie.lean); close each card by the builder's one call (the guide's Derived/Test/ToyasCard.lean, 'card_holds'). Laid BY PROGRAM, IN A SANDBOX (cutbox-door.mjs). By AI agents, Wed Nov 11 2026. No macro, syntax, notation, axiom, sorry.
-/
import Derived.Test.YtdbjbbdhlpfhjaaGreatDoorRows
import GoSem.ClaimSeven
namespace Go.Proofs.YtdbjbbdhlpfhjaaGreatDoor
namespace Rows

/-- THE TIED CARD OF 'surdlaw06.WholeDivisors'. -/
def wholeDivisorsCard : Claim7 := { stood := { row := wholeDivisorsRow, standIns := [], harness := (true, "644ff31f23c8e4703e3737f8c67c29b3f88f3007f3ae26209a175105205a2de9"), looks := false }, kinds := [], alts := [], laidByText := true, laidKinds := [.data], laidTests := true, laidLooks := .later }
def WholeDivisorsCardSaid : Prop := Claim7.holds Tryz.pinned (.plain (OpenSpec.ofChange wholeDivisorsSpec)) wholeDivisorsCard

/-- THE TIED CARD OF 'surdlaw06.WholeCommon'. -/
def wholeCommonCard : Claim7 := { stood := { row := wholeCommonRow, standIns := [], harness := (true, "644ff31f23c8e4703e3737f8c67c29b3f88f3007f3ae26209a175105205a2de9"), looks := false }, kinds := [], alts := [], laidByText := true, laidKinds := [.data], laidTests := true, laidLooks := .later }
def WholeCommonCardSaid : Prop := Claim7.holds Tryz.pinned (.plain (OpenSpec.ofChange wholeCommonSpec)) wholeCommonCard

/-- THE TIED CARD OF 'surdtop.WholeBezout'. -/
def wholeBezoutCard : Claim7 := { stood := { row := wholeBezoutRow, standIns := [], harness := (true, "644ff31f23c8e4703e3737f8c67c29b3f88f3007f3ae26209a175105205a2de9"), looks := false }, kinds := [], alts := [], laidByText := true, laidKinds := [.data, .data], laidTests := true, laidLooks := .later }
def WholeBezoutCardSaid : Prop := Claim7.holds Tryz.pinned (.plain (OpenSpec.ofChange wholeBezoutSpec)) wholeBezoutCard

/-- THE SECOND FORM's CARD OF 'surdlaw06.WholeDivisors'. -/
def wholeDivisorsUptoCard : Claim7 := { stood := { row := wholeDivisorsUptoRow, standIns := [], harness := (true, "644ff31f23c8e4703e3737f8c67c29b3f88f3007f3ae26209a175105205a2de9"), looks := false }, kinds := [], alts := [], laidByText := true, laidKinds := [.data], laidTests := true, laidLooks := .later }
def WholeDivisorsUptoCardSaid : Prop := Claim7.holds Tryz.pinned (.plain (OpenSpec.upto wholeDivisorsSpec)) wholeDivisorsUptoCard

/-- THE SECOND FORM's CARD OF 'surdlaw06.WholeCommon'. -/
def wholeCommonUptoCard : Claim7 := { stood := { row := wholeCommonUptoRow, standIns := [], harness := (true, "644ff31f23c8e4703e3737f8c67c29b3f88f3007f3ae26209a175105205a2de9"), looks := false }, kinds := [], alts := [], laidByText := true, laidKinds := [.data], laidTests := true, laidLooks := .later }
def WholeCommonUptoCardSaid : Prop := Claim7.holds Tryz.pinned (.plain (OpenSpec.upto wholeCommonSpec)) wholeCommonUptoCard

/-- THE SECOND FORM's CARD OF 'surdtop.WholeBezout'. -/
def wholeBezoutUptoCard : Claim7 := { stood := { row := wholeBezoutUptoRow, standIns := [], harness := (true, "644ff31f23c8e4703e3737f8c67c29b3f88f3007f3ae26209a175105205a2de9"), looks := false }, kinds := [], alts := [], laidByText := true, laidKinds := [.data, .data], laidTests := true, laidLooks := .later }
def WholeBezoutUptoCardSaid : Prop := Claim7.holds Tryz.pinned (.plain (OpenSpec.upto wholeBezoutSpec)) wholeBezoutUptoCard
end Rows
end Go.Proofs.YtdbjbbdhlpfhjaaGreatDoor
