/-
  DERIVED. GIVEN WITH THE SEED: THE CARDS: each row of YtefdjmgnnkiddaaDoorRows.lean that lists a variable, with what it lists TIED to the program's text (the seventh form; the later family's looks); each row that meets fmt, with fmt's text TOLD by the authors' own Lean function (tested against real Go, not proved from fmt's source: count such statements apart). THE CARD IS WHAT COUNTS. Prove the row's statement (the work); the ties are given (YtefdjmgnnkiddaaDoorTie.lean); close each card by the builder's one call (the guide's Derived/Test/ToyasCard.lean, 'card_holds'). Laid BY PROGRAM, IN A SANDBOX (cutbox-door.mjs). By AI agents, Wed Nov 11 2026. No macro, syntax, notation, axiom, sorry.
-/
import Derived.Test.YtefdjmgnnkiddaaDoorRows
import GoSem.ClaimSeven
namespace Go.Proofs.YtefdjmgnnkiddaaDoor
namespace Rows

/-- THE TIED CARD OF 'surdlaw02.MulMany'. -/
def mulManyCard : Claim7 := { stood := { row := mulManyRow, standIns := [], harness := (true, "4714b0bff5c171747a670f1a6ebc643bf8d1bdb3e6e8b2ebaa6da5d9ea74108b"), looks := false }, kinds := [], alts := [], laidByText := true, laidKinds := [.data], laidTests := true, laidLooks := .later }
def MulManyCardSaid : Prop := Claim7.holds Tryd.pinned (.plain (OpenSpec.ofChange mulManySpec)) mulManyCard

/-- THE TIED CARD OF 'surdlaw02.MulOwn'. -/
def mulOwnCard : Claim7 := { stood := { row := mulOwnRow, standIns := [], harness := (true, "4714b0bff5c171747a670f1a6ebc643bf8d1bdb3e6e8b2ebaa6da5d9ea74108b"), looks := false }, kinds := [], alts := [], laidByText := true, laidKinds := [.data], laidTests := true, laidLooks := .later }
def MulOwnCardSaid : Prop := Claim7.holds Tryd.pinned (.plain (OpenSpec.ofChange mulOwnSpec)) mulOwnCard

/-- THE TIED CARD OF 'surdlaw04.RootNewton'. -/
def rootNewtonCard : Claim7 := { stood := { row := rootNewtonRow, standIns := [], harness := (true, "4714b0bff5c171747a670f1a6ebc643bf8d1bdb3e6e8b2ebaa6da5d9ea74108b"), looks := false }, kinds := [], alts := [], laidByText := true, laidKinds := [.data], laidTests := true, laidLooks := .later }
def RootNewtonCardSaid : Prop := Claim7.holds Tryd.pinned (.plain (OpenSpec.ofChange rootNewtonSpec)) rootNewtonCard

/-- THE SECOND FORM's CARD OF 'surdlaw02.MulMany'. -/
def mulManyUptoCard : Claim7 := { stood := { row := mulManyUptoRow, standIns := [], harness := (true, "4714b0bff5c171747a670f1a6ebc643bf8d1bdb3e6e8b2ebaa6da5d9ea74108b"), looks := false }, kinds := [], alts := [], laidByText := true, laidKinds := [.data], laidTests := true, laidLooks := .later }
def MulManyUptoCardSaid : Prop := Claim7.holds Tryd.pinned (.plain (OpenSpec.upto mulManySpec)) mulManyUptoCard

/-- THE SECOND FORM's CARD OF 'surdlaw02.MulOwn'. -/
def mulOwnUptoCard : Claim7 := { stood := { row := mulOwnUptoRow, standIns := [], harness := (true, "4714b0bff5c171747a670f1a6ebc643bf8d1bdb3e6e8b2ebaa6da5d9ea74108b"), looks := false }, kinds := [], alts := [], laidByText := true, laidKinds := [.data], laidTests := true, laidLooks := .later }
def MulOwnUptoCardSaid : Prop := Claim7.holds Tryd.pinned (.plain (OpenSpec.upto mulOwnSpec)) mulOwnUptoCard

/-- THE SECOND FORM's CARD OF 'surdlaw04.RootNewton'. -/
def rootNewtonUptoCard : Claim7 := { stood := { row := rootNewtonUptoRow, standIns := [], harness := (true, "4714b0bff5c171747a670f1a6ebc643bf8d1bdb3e6e8b2ebaa6da5d9ea74108b"), looks := false }, kinds := [], alts := [], laidByText := true, laidKinds := [.data], laidTests := true, laidLooks := .later }
def RootNewtonUptoCardSaid : Prop := Claim7.holds Tryd.pinned (.plain (OpenSpec.upto rootNewtonSpec)) rootNewtonUptoCard
end Rows
end Go.Proofs.YtefdjmgnnkiddaaDoor
