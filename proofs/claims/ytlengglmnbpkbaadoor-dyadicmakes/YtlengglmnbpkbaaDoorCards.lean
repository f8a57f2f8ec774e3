/-
  DERIVED. GIVEN WITH THE SEED: THE CARDS: each row of YtlengglmnbpkbaaDoorRows.lean that lists a variable, with what it lists TIED to the program's text (the seventh form; the later family's looks); each row that meets fmt, with fmt's text TOLD by the authors' own Lean function (tested against real Go, not proved from fmt's source: count such statements apart). THE CARD IS WHAT COUNTS. Prove the row's statement (the work); the ties are given (YtlengglmnbpkbaaDoorTie.lean); close each card by the builder's one call (the guide's Derived/Test/ToyasCard.lean, 'card_holds'). Laid BY PROGRAM, IN A SANDBOX (cutbox-door.mjs). By AI agents, Wed Nov 11 2026. No macro, syntax, notation, axiom, sorry.
-/
import Derived.Test.YtlengglmnbpkbaaDoorRows
import GoSem.ClaimSeven
namespace Go.Proofs.YtlengglmnbpkbaaDoor
namespace Rows

/-- THE TIED CARD OF 'surdlaw08.DyadicNames'. -/
def dyadicNamesCard : Claim7 := { stood := { row := dyadicNamesRow, standIns := [], harness := (true, "36722890c084323096ef35f4e198d85fb09ee9bb27f4630a9820abbc580b8206"), looks := false }, kinds := [], alts := [], laidByText := true, laidKinds := [.data], laidTests := true, laidLooks := .later }
def DyadicNamesCardSaid : Prop := Claim7.holds Tryd.pinned (.plain (OpenSpec.ofChange dyadicNamesSpec)) dyadicNamesCard

/-- THE TIED CARD OF 'surdlaw08.DyadicScales'. -/
def dyadicScalesCard : Claim7 := { stood := { row := dyadicScalesRow, standIns := [], harness := (true, "36722890c084323096ef35f4e198d85fb09ee9bb27f4630a9820abbc580b8206"), looks := false }, kinds := [], alts := [], laidByText := true, laidKinds := [.data], laidTests := true, laidLooks := .later }
def DyadicScalesCardSaid : Prop := Claim7.holds Tryd.pinned (.plain (OpenSpec.ofChange dyadicScalesSpec)) dyadicScalesCard

/-- THE TIED CARD OF 'surdlaw08.DyadicMakes'. -/
def dyadicMakesCard : Claim7 := { stood := { row := dyadicMakesRow, standIns := [], harness := (true, "36722890c084323096ef35f4e198d85fb09ee9bb27f4630a9820abbc580b8206"), looks := false }, kinds := [], alts := [], laidByText := true, laidKinds := [.data], laidTests := true, laidLooks := .later }
def DyadicMakesCardSaid : Prop := Claim7.holds Tryd.pinned (.plain (OpenSpec.ofChange dyadicMakesSpec)) dyadicMakesCard

/-- THE TIED CARD OF 'surdlaw08.DyadicRounds'. -/
def dyadicRoundsCard : Claim7 := { stood := { row := dyadicRoundsRow, standIns := [], harness := (true, "36722890c084323096ef35f4e198d85fb09ee9bb27f4630a9820abbc580b8206"), looks := false }, kinds := [], alts := [], laidByText := true, laidKinds := [.data], laidTests := true, laidLooks := .later }
def DyadicRoundsCardSaid : Prop := Claim7.holds Tryd.pinned (.plain (OpenSpec.ofChange dyadicRoundsSpec)) dyadicRoundsCard

/-- THE SECOND FORM's CARD OF 'surdlaw08.DyadicNames'. -/
def dyadicNamesUptoCard : Claim7 := { stood := { row := dyadicNamesUptoRow, standIns := [], harness := (true, "36722890c084323096ef35f4e198d85fb09ee9bb27f4630a9820abbc580b8206"), looks := false }, kinds := [], alts := [], laidByText := true, laidKinds := [.data], laidTests := true, laidLooks := .later }
def DyadicNamesUptoCardSaid : Prop := Claim7.holds Tryd.pinned (.plain (OpenSpec.upto dyadicNamesSpec)) dyadicNamesUptoCard

/-- THE SECOND FORM's CARD OF 'surdlaw08.DyadicScales'. -/
def dyadicScalesUptoCard : Claim7 := { stood := { row := dyadicScalesUptoRow, standIns := [], harness := (true, "36722890c084323096ef35f4e198d85fb09ee9bb27f4630a9820abbc580b8206"), looks := false }, kinds := [], alts := [], laidByText := true, laidKinds := [.data], laidTests := true, laidLooks := .later }
def DyadicScalesUptoCardSaid : Prop := Claim7.holds Tryd.pinned (.plain (OpenSpec.upto dyadicScalesSpec)) dyadicScalesUptoCard

/-- THE SECOND FORM's CARD OF 'surdlaw08.DyadicMakes'. -/
def dyadicMakesUptoCard : Claim7 := { stood := { row := dyadicMakesUptoRow, standIns := [], harness := (true, "36722890c084323096ef35f4e198d85fb09ee9bb27f4630a9820abbc580b8206"), looks := false }, kinds := [], alts := [], laidByText := true, laidKinds := [.data], laidTests := true, laidLooks := .later }
def DyadicMakesUptoCardSaid : Prop := Claim7.holds Tryd.pinned (.plain (OpenSpec.upto dyadicMakesSpec)) dyadicMakesUptoCard

/-- THE SECOND FORM's CARD OF 'surdlaw08.DyadicRounds'. -/
def dyadicRoundsUptoCard : Claim7 := { stood := { row := dyadicRoundsUptoRow, standIns := [], harness := (true, "36722890c084323096ef35f4e198d85fb09ee9bb27f4630a9820abbc580b8206"), looks := false }, kinds := [], alts := [], laidByText := true, laidKinds := [.data], laidTests := true, laidLooks := .later }
def DyadicRoundsUptoCardSaid : Prop := Claim7.holds Tryd.pinned (.plain (OpenSpec.upto dyadicRoundsSpec)) dyadicRoundsUptoCard
end Rows
end Go.Proofs.YtlengglmnbpkbaaDoor
