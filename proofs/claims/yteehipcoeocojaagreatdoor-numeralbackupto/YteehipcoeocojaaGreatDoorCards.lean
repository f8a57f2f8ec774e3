/-
  DERIVED. GIVEN WITH THE SEED: THE CARDS: each row of YteehipcoeocojaaGreatDoorRows.lean that lists a variable, with what it lists TIED to the program's text (the seventh form; the later family's looks); each row that meets fmt, with fmt's text TOLD by the authors' own Lean function (tested against real Go, not proved from fmt's source: count such statements apart). THE CARD IS WHAT COUNTS. Prove the row's statement (the work); the ties are given (YteehipcoeocojaaGreatDoorTie.lean); close each card by the builder's one call (the guide's Derived/Test/ToyasCard.lean, 'card_holds'). Laid BY PROGRAM, IN A SANDBOX (cutbox-door.mjs). By AI agents, Wed Nov 11 2026. No macro, syntax, notation, axiom, sorry.
-/
import Derived.Test.YteehipcoeocojaaGreatDoorRows
import GoSem.ClaimSeven
namespace Go.Proofs.YteehipcoeocojaaGreatDoor
namespace Rows

/-- THE TIED CARD OF 'surdlaw05.NumeralPrints'. -/
def numeralPrintsCard : Claim7 := { stood := { row := numeralPrintsRow, standIns := [], harness := (true, "5eaba4d7958c12d1827c094dad15601b39a233013159722578292a79aa91fbf1"), looks := false }, kinds := [], alts := [], laidByText := true, laidKinds := [.data, .data], laidTests := true, laidLooks := .later }
def NumeralPrintsCardSaid : Prop := Claim7.holds Tryz.pinned (.plain (OpenSpec.ofChange numeralPrintsSpec)) numeralPrintsCard

/-- THE TIED CARD OF 'surdlaw05.NumeralParses'. -/
def numeralParsesCard : Claim7 := { stood := { row := numeralParsesRow, standIns := [], harness := (true, "5eaba4d7958c12d1827c094dad15601b39a233013159722578292a79aa91fbf1"), looks := false }, kinds := [], alts := [], laidByText := true, laidKinds := [.data, .data], laidTests := true, laidLooks := .later }
def NumeralParsesCardSaid : Prop := Claim7.holds Tryz.pinned (.plain (OpenSpec.ofChange numeralParsesSpec)) numeralParsesCard

/-- THE TIED CARD OF 'surdlaw05.NumeralBuilds'. -/
def numeralBuildsCard : Claim7 := { stood := { row := numeralBuildsRow, standIns := [], harness := (true, "5eaba4d7958c12d1827c094dad15601b39a233013159722578292a79aa91fbf1"), looks := false }, kinds := [], alts := [], laidByText := true, laidKinds := [.data, .data], laidTests := true, laidLooks := .later }
def NumeralBuildsCardSaid : Prop := Claim7.holds Tryz.pinned (.plain (OpenSpec.ofChange numeralBuildsSpec)) numeralBuildsCard

/-- THE TIED CARD OF 'surdlaw05.NumeralPoints'. -/
def numeralPointsCard : Claim7 := { stood := { row := numeralPointsRow, standIns := [], harness := (true, "5eaba4d7958c12d1827c094dad15601b39a233013159722578292a79aa91fbf1"), looks := false }, kinds := [], alts := [], laidByText := true, laidKinds := [.data, .data], laidTests := true, laidLooks := .later }
def NumeralPointsCardSaid : Prop := Claim7.holds Tryz.pinned (.plain (OpenSpec.ofChange numeralPointsSpec)) numeralPointsCard

/-- THE TIED CARD OF 'surdlaw05.NumeralBack'. -/
def numeralBackCard : Claim7 := { stood := { row := numeralBackRow, standIns := [], harness := (true, "5eaba4d7958c12d1827c094dad15601b39a233013159722578292a79aa91fbf1"), looks := false }, kinds := [], alts := [], laidByText := true, laidKinds := [.data, .data], laidTests := true, laidLooks := .later }
def NumeralBackCardSaid : Prop := Claim7.holds Tryz.pinned (.plain (OpenSpec.ofChange numeralBackSpec)) numeralBackCard

/-- THE TIED CARD OF 'surdlaw05.NumeralOrders'. -/
def numeralOrdersCard : Claim7 := { stood := { row := numeralOrdersRow, standIns := [], harness := (true, "5eaba4d7958c12d1827c094dad15601b39a233013159722578292a79aa91fbf1"), looks := false }, kinds := [], alts := [], laidByText := true, laidKinds := [.data, .data], laidTests := true, laidLooks := .later }
def NumeralOrdersCardSaid : Prop := Claim7.holds Tryz.pinned (.plain (OpenSpec.ofChange numeralOrdersSpec)) numeralOrdersCard

/-- THE SECOND FORM's CARD OF 'surdlaw05.NumeralPrints'. -/
def numeralPrintsUptoCard : Claim7 := { stood := { row := numeralPrintsUptoRow, standIns := [], harness := (true, "5eaba4d7958c12d1827c094dad15601b39a233013159722578292a79aa91fbf1"), looks := false }, kinds := [], alts := [], laidByText := true, laidKinds := [.data, .data], laidTests := true, laidLooks := .later }
def NumeralPrintsUptoCardSaid : Prop := Claim7.holds Tryz.pinned (.plain (OpenSpec.upto numeralPrintsSpec)) numeralPrintsUptoCard

/-- THE SECOND FORM's CARD OF 'surdlaw05.NumeralParses'. -/
def numeralParsesUptoCard : Claim7 := { stood := { row := numeralParsesUptoRow, standIns := [], harness := (true, "5eaba4d7958c12d1827c094dad15601b39a233013159722578292a79aa91fbf1"), looks := false }, kinds := [], alts := [], laidByText := true, laidKinds := [.data, .data], laidTests := true, laidLooks := .later }
def NumeralParsesUptoCardSaid : Prop := Claim7.holds Tryz.pinned (.plain (OpenSpec.upto numeralParsesSpec)) numeralParsesUptoCard

/-- THE SECOND FORM's CARD OF 'surdlaw05.NumeralBuilds'. -/
def numeralBuildsUptoCard : Claim7 := { stood := { row := numeralBuildsUptoRow, standIns := [], harness := (true, "5eaba4d7958c12d1827c094dad15601b39a233013159722578292a79aa91fbf1"), looks := false }, kinds := [], alts := [], laidByText := true, laidKinds := [.data, .data], laidTests := true, laidLooks := .later }
def NumeralBuildsUptoCardSaid : Prop := Claim7.holds Tryz.pinned (.plain (OpenSpec.upto numeralBuildsSpec)) numeralBuildsUptoCard

/-- THE SECOND FORM's CARD OF 'surdlaw05.NumeralPoints'. -/
def numeralPointsUptoCard : Claim7 := { stood := { row := numeralPointsUptoRow, standIns := [], harness := (true, "5eaba4d7958c12d1827c094dad15601b39a233013159722578292a79aa91fbf1"), looks := false }, kinds := [], alts := [], laidByText := true, laidKinds := [.data, .data], laidTests := true, laidLooks := .later }
def NumeralPointsUptoCardSaid : Prop := Claim7.holds Tryz.pinned (.plain (OpenSpec.upto numeralPointsSpec)) numeralPointsUptoCard

/-- THE SECOND FORM's CARD OF 'surdlaw05.NumeralBack'. -/
def numeralBackUptoCard : Claim7 := { stood := { row := numeralBackUptoRow, standIns := [], harness := (true, "5eaba4d7958c12d1827c094dad15601b39a233013159722578292a79aa91fbf1"), looks := false }, kinds := [], alts := [], laidByText := true, laidKinds := [.data, .data], laidTests := true, laidLooks := .later }
def NumeralBackUptoCardSaid : Prop := Claim7.holds Tryz.pinned (.plain (OpenSpec.upto numeralBackSpec)) numeralBackUptoCard

/-- THE SECOND FORM's CARD OF 'surdlaw05.NumeralOrders'. -/
def numeralOrdersUptoCard : Claim7 := { stood := { row := numeralOrdersUptoRow, standIns := [], harness := (true, "5eaba4d7958c12d1827c094dad15601b39a233013159722578292a79aa91fbf1"), looks := false }, kinds := [], alts := [], laidByText := true, laidKinds := [.data, .data], laidTests := true, laidLooks := .later }
def NumeralOrdersUptoCardSaid : Prop := Claim7.holds Tryz.pinned (.plain (OpenSpec.upto numeralOrdersSpec)) numeralOrdersUptoCard
end Rows
end Go.Proofs.YteehipcoeocojaaGreatDoor
