/-
  DERIVED. GIVEN WITH THE SEED: THE CARDS: each row of YtemgogeokkeipaaGreatDoorRows.lean that lists a variable, with what it lists TIED to the program's text (the seventh form; the later family's looks); each row that meets fmt, with fmt's text TOLD by the authors' own Lean function (tested against real Go, not proved from fmt's source: count such statements apart). THE CARD IS WHAT COUNTS. Prove the row's statement (the work); the ties are given (YtemgogeokkeipaaGreatDoorTie.lean); close each card by the builder's one call (the guide's Derived/Test/ToyasCard.lean, 'card_holds'). Laid BY PROGRAM, IN A SANDBOX (cutbox-door.mjs). By AI agents, Wed Nov 11 2026. No macro, syntax, notation, axiom, sorry.
-/
import Derived.Test.YtemgogeokkeipaaGreatDoorRows
import GoSem.ClaimSeven
namespace Go.Proofs.YtemgogeokkeipaaGreatDoor
namespace Rows

/-- THE TIED CARD OF 'surdlaw06.WholeFermat'. -/
def wholeFermatCard : Claim7 := { stood := { row := wholeFermatRow, standIns := [], harness := (true, "d8c2c61c5b8716bfb3846817b5486634f2af2c20b1a5affbda9c98ee3b54c703"), looks := false }, kinds := [], alts := [], laidByText := true, laidKinds := [.data], laidTests := true, laidLooks := .later }
def WholeFermatCardSaid : Prop := Claim7.holds Tryz.pinned (.plain (OpenSpec.ofChange wholeFermatSpec)) wholeFermatCard

/-- THE TIED CARD OF 'surdlaw06.WholeDivisors'. -/
def wholeDivisorsCard : Claim7 := { stood := { row := wholeDivisorsRow, standIns := [], harness := (true, "d8c2c61c5b8716bfb3846817b5486634f2af2c20b1a5affbda9c98ee3b54c703"), looks := false }, kinds := [], alts := [], laidByText := true, laidKinds := [.data], laidTests := true, laidLooks := .later }
def WholeDivisorsCardSaid : Prop := Claim7.holds Tryz.pinned (.plain (OpenSpec.ofChange wholeDivisorsSpec)) wholeDivisorsCard

/-- THE TIED CARD OF 'surdlaw06.WholeCommon'. -/
def wholeCommonCard : Claim7 := { stood := { row := wholeCommonRow, standIns := [], harness := (true, "d8c2c61c5b8716bfb3846817b5486634f2af2c20b1a5affbda9c98ee3b54c703"), looks := false }, kinds := [], alts := [], laidByText := true, laidKinds := [.data], laidTests := true, laidLooks := .later }
def WholeCommonCardSaid : Prop := Claim7.holds Tryz.pinned (.plain (OpenSpec.ofChange wholeCommonSpec)) wholeCommonCard

/-- THE TIED CARD OF 'surdlaw06.WholeBits'. -/
def wholeBitsCard : Claim7 := { stood := { row := wholeBitsRow, standIns := [], harness := (true, "d8c2c61c5b8716bfb3846817b5486634f2af2c20b1a5affbda9c98ee3b54c703"), looks := false }, kinds := [], alts := [], laidByText := true, laidKinds := [.data], laidTests := true, laidLooks := .later }
def WholeBitsCardSaid : Prop := Claim7.holds Tryz.pinned (.plain (OpenSpec.ofChange wholeBitsSpec)) wholeBitsCard

/-- THE TIED CARD OF 'surdlaw06.WholeMasks'. -/
def wholeMasksCard : Claim7 := { stood := { row := wholeMasksRow, standIns := [], harness := (true, "d8c2c61c5b8716bfb3846817b5486634f2af2c20b1a5affbda9c98ee3b54c703"), looks := false }, kinds := [], alts := [], laidByText := true, laidKinds := [.data], laidTests := true, laidLooks := .later }
def WholeMasksCardSaid : Prop := Claim7.holds Tryz.pinned (.plain (OpenSpec.ofChange wholeMasksSpec)) wholeMasksCard

/-- THE SECOND FORM's CARD OF 'surdlaw06.WholeFermat'. -/
def wholeFermatUptoCard : Claim7 := { stood := { row := wholeFermatUptoRow, standIns := [], harness := (true, "d8c2c61c5b8716bfb3846817b5486634f2af2c20b1a5affbda9c98ee3b54c703"), looks := false }, kinds := [], alts := [], laidByText := true, laidKinds := [.data], laidTests := true, laidLooks := .later }
def WholeFermatUptoCardSaid : Prop := Claim7.holds Tryz.pinned (.plain (OpenSpec.upto wholeFermatSpec)) wholeFermatUptoCard

/-- THE SECOND FORM's CARD OF 'surdlaw06.WholeDivisors'. -/
def wholeDivisorsUptoCard : Claim7 := { stood := { row := wholeDivisorsUptoRow, standIns := [], harness := (true, "d8c2c61c5b8716bfb3846817b5486634f2af2c20b1a5affbda9c98ee3b54c703"), looks := false }, kinds := [], alts := [], laidByText := true, laidKinds := [.data], laidTests := true, laidLooks := .later }
def WholeDivisorsUptoCardSaid : Prop := Claim7.holds Tryz.pinned (.plain (OpenSpec.upto wholeDivisorsSpec)) wholeDivisorsUptoCard

/-- THE SECOND FORM's CARD OF 'surdlaw06.WholeCommon'. -/
def wholeCommonUptoCard : Claim7 := { stood := { row := wholeCommonUptoRow, standIns := [], harness := (true, "d8c2c61c5b8716bfb3846817b5486634f2af2c20b1a5affbda9c98ee3b54c703"), looks := false }, kinds := [], alts := [], laidByText := true, laidKinds := [.data], laidTests := true, laidLooks := .later }
def WholeCommonUptoCardSaid : Prop := Claim7.holds Tryz.pinned (.plain (OpenSpec.upto wholeCommonSpec)) wholeCommonUptoCard

/-- THE SECOND FORM's CARD OF 'surdlaw06.WholeBits'. -/
def wholeBitsUptoCard : Claim7 := { stood := { row := wholeBitsUptoRow, standIns := [], harness := (true, "d8c2c61c5b8716bfb3846817b5486634f2af2c20b1a5affbda9c98ee3b54c703"), looks := false }, kinds := [], alts := [], laidByText := true, laidKinds := [.data], laidTests := true, laidLooks := .later }
def WholeBitsUptoCardSaid : Prop := Claim7.holds Tryz.pinned (.plain (OpenSpec.upto wholeBitsSpec)) wholeBitsUptoCard

/-- THE SECOND FORM's CARD OF 'surdlaw06.WholeMasks'. -/
def wholeMasksUptoCard : Claim7 := { stood := { row := wholeMasksUptoRow, standIns := [], harness := (true, "d8c2c61c5b8716bfb3846817b5486634f2af2c20b1a5affbda9c98ee3b54c703"), looks := false }, kinds := [], alts := [], laidByText := true, laidKinds := [.data], laidTests := true, laidLooks := .later }
def WholeMasksUptoCardSaid : Prop := Claim7.holds Tryz.pinned (.plain (OpenSpec.upto wholeMasksSpec)) wholeMasksUptoCard
end Rows
end Go.Proofs.YtemgogeokkeipaaGreatDoor
