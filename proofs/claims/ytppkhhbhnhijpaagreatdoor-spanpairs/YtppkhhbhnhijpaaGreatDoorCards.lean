/-
  DERIVED. GIVEN WITH THE SEED: THE CARDS: each row of YtppkhhbhnhijpaaGreatDoorRows.lean that lists a variable, with what it lists TIED to the program's text (the seventh form; the later family's looks); each row that meets fmt, with fmt's text TOLD by the authors' own Lean function (tested against real Go, not proved from fmt's source: count such statements apart). THE CARD IS WHAT COUNTS. Prove the row's statement (the work); the ties are given (YtppkhhbhnhijpaaGreatDoorTie.lean); close each card by the builder's one call (the guide's Derived/Test/ToyasCard.lean, 'card_holds'). Laid BY PROGRAM, IN A SANDBOX (cutbox-door.mjs). By AI agents, Wed Nov 11 2026. No macro, syntax, notation, axiom, sorry.
-/
import Derived.Test.YtppkhhbhnhijpaaGreatDoorRows
import GoSem.ClaimSeven
namespace Go.Proofs.YtppkhhbhnhijpaaGreatDoor
namespace Rows

/-- THE TIED CARD OF 'surdlaw10.SpanMakes'. -/
def spanMakesCard : Claim7 := { stood := { row := spanMakesRow, standIns := [], harness := (true, "2762c53ee9dbd1dfcc2dcdd7c6ecd0944c6205187966a8c6d70c61215c246f2a"), looks := false }, kinds := [], alts := [], laidByText := true, laidKinds := [.data], laidTests := true, laidLooks := .later }
def SpanMakesCardSaid : Prop := Claim7.holds Tryz.pinned (.plain (OpenSpec.ofChange spanMakesSpec)) spanMakesCard

/-- THE TIED CARD OF 'surdlaw10.SpanPairs'. -/
def spanPairsCard : Claim7 := { stood := { row := spanPairsRow, standIns := [], harness := (true, "2762c53ee9dbd1dfcc2dcdd7c6ecd0944c6205187966a8c6d70c61215c246f2a"), looks := false }, kinds := [], alts := [], laidByText := true, laidKinds := [.data], laidTests := true, laidLooks := .later }
def SpanPairsCardSaid : Prop := Claim7.holds Tryz.pinned (.plain (OpenSpec.ofChange spanPairsSpec)) spanPairsCard

/-- THE TIED CARD OF 'surdlaw10.SpanAsks'. -/
def spanAsksCard : Claim7 := { stood := { row := spanAsksRow, standIns := [], harness := (true, "2762c53ee9dbd1dfcc2dcdd7c6ecd0944c6205187966a8c6d70c61215c246f2a"), looks := false }, kinds := [], alts := [], laidByText := true, laidKinds := [.data], laidTests := true, laidLooks := .later }
def SpanAsksCardSaid : Prop := Claim7.holds Tryz.pinned (.plain (OpenSpec.ofChange spanAsksSpec)) spanAsksCard

/-- THE TIED CARD OF 'surdlaw10.SpanWidths'. -/
def spanWidthsCard : Claim7 := { stood := { row := spanWidthsRow, standIns := [], harness := (true, "2762c53ee9dbd1dfcc2dcdd7c6ecd0944c6205187966a8c6d70c61215c246f2a"), looks := false }, kinds := [], alts := [], laidByText := true, laidKinds := [.data], laidTests := true, laidLooks := .later }
def SpanWidthsCardSaid : Prop := Claim7.holds Tryz.pinned (.plain (OpenSpec.ofChange spanWidthsSpec)) spanWidthsCard

/-- THE SECOND FORM's CARD OF 'surdlaw10.SpanMakes'. -/
def spanMakesUptoCard : Claim7 := { stood := { row := spanMakesUptoRow, standIns := [], harness := (true, "2762c53ee9dbd1dfcc2dcdd7c6ecd0944c6205187966a8c6d70c61215c246f2a"), looks := false }, kinds := [], alts := [], laidByText := true, laidKinds := [.data], laidTests := true, laidLooks := .later }
def SpanMakesUptoCardSaid : Prop := Claim7.holds Tryz.pinned (.plain (OpenSpec.upto spanMakesSpec)) spanMakesUptoCard

/-- THE SECOND FORM's CARD OF 'surdlaw10.SpanPairs'. -/
def spanPairsUptoCard : Claim7 := { stood := { row := spanPairsUptoRow, standIns := [], harness := (true, "2762c53ee9dbd1dfcc2dcdd7c6ecd0944c6205187966a8c6d70c61215c246f2a"), looks := false }, kinds := [], alts := [], laidByText := true, laidKinds := [.data], laidTests := true, laidLooks := .later }
def SpanPairsUptoCardSaid : Prop := Claim7.holds Tryz.pinned (.plain (OpenSpec.upto spanPairsSpec)) spanPairsUptoCard

/-- THE SECOND FORM's CARD OF 'surdlaw10.SpanAsks'. -/
def spanAsksUptoCard : Claim7 := { stood := { row := spanAsksUptoRow, standIns := [], harness := (true, "2762c53ee9dbd1dfcc2dcdd7c6ecd0944c6205187966a8c6d70c61215c246f2a"), looks := false }, kinds := [], alts := [], laidByText := true, laidKinds := [.data], laidTests := true, laidLooks := .later }
def SpanAsksUptoCardSaid : Prop := Claim7.holds Tryz.pinned (.plain (OpenSpec.upto spanAsksSpec)) spanAsksUptoCard

/-- THE SECOND FORM's CARD OF 'surdlaw10.SpanWidths'. -/
def spanWidthsUptoCard : Claim7 := { stood := { row := spanWidthsUptoRow, standIns := [], harness := (true, "2762c53ee9dbd1dfcc2dcdd7c6ecd0944c6205187966a8c6d70c61215c246f2a"), looks := false }, kinds := [], alts := [], laidByText := true, laidKinds := [.data], laidTests := true, laidLooks := .later }
def SpanWidthsUptoCardSaid : Prop := Claim7.holds Tryz.pinned (.plain (OpenSpec.upto spanWidthsSpec)) spanWidthsUptoCard
end Rows
end Go.Proofs.YtppkhhbhnhijpaaGreatDoor
