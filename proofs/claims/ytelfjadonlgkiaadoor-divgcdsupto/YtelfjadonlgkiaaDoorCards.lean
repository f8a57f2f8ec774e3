/-
  DERIVED. GIVEN WITH THE SEED: THE CARDS: each row of YtelfjadonlgkiaaDoorRows.lean that lists a variable, with what it lists TIED to the program's text (the seventh form; the later family's looks); each row that meets fmt, with fmt's text TOLD by the authors' own Lean function (tested against real Go, not proved from fmt's source: count such statements apart). THE CARD IS WHAT COUNTS. Prove the row's statement (the work); the ties are given (YtelfjadonlgkiaaDoorTie.lean); close each card by the builder's one call (the guide's Derived/Test/ToyasCard.lean, 'card_holds'). Laid BY PROGRAM, IN A SANDBOX (cutbox-door.mjs). By AI agents, Wed Nov 11 2026. No macro, syntax, notation, axiom, sorry.
-/
import Derived.Test.YtelfjadonlgkiaaDoorRows
import GoSem.ClaimSeven
namespace Go.Proofs.YtelfjadonlgkiaaDoor
namespace Rows

/-- THE TIED CARD OF 'surdlaw03.DivNames'. -/
def divNamesCard : Claim7 := { stood := { row := divNamesRow, standIns := [], harness := (true, "c7fc58dcfb50fcca9036f604a42d4838f0c398c023c33798d85080ee4f6e3121"), looks := false }, kinds := [], alts := [], laidByText := true, laidKinds := [.data], laidTests := true, laidLooks := .later }
def DivNamesCardSaid : Prop := Claim7.holds Tryd.pinned (.plain (OpenSpec.ofChange divNamesSpec)) divNamesCard

/-- THE TIED CARD OF 'surdlaw03.DivBoths'. -/
def divBothsCard : Claim7 := { stood := { row := divBothsRow, standIns := [], harness := (true, "c7fc58dcfb50fcca9036f604a42d4838f0c398c023c33798d85080ee4f6e3121"), looks := false }, kinds := [], alts := [], laidByText := true, laidKinds := [.data], laidTests := true, laidLooks := .later }
def DivBothsCardSaid : Prop := Claim7.holds Tryd.pinned (.plain (OpenSpec.ofChange divBothsSpec)) divBothsCard

/-- THE TIED CARD OF 'surdlaw03.DivGcds'. -/
def divGcdsCard : Claim7 := { stood := { row := divGcdsRow, standIns := [], harness := (true, "c7fc58dcfb50fcca9036f604a42d4838f0c398c023c33798d85080ee4f6e3121"), looks := false }, kinds := [], alts := [], laidByText := true, laidKinds := [.data], laidTests := true, laidLooks := .later }
def DivGcdsCardSaid : Prop := Claim7.holds Tryd.pinned (.plain (OpenSpec.ofChange divGcdsSpec)) divGcdsCard

/-- THE TIED CARD OF 'surdlaw03.DivSplits'. -/
def divSplitsCard : Claim7 := { stood := { row := divSplitsRow, standIns := [], harness := (true, "c7fc58dcfb50fcca9036f604a42d4838f0c398c023c33798d85080ee4f6e3121"), looks := false }, kinds := [], alts := [], laidByText := true, laidKinds := [.data], laidTests := true, laidLooks := .later }
def DivSplitsCardSaid : Prop := Claim7.holds Tryd.pinned (.plain (OpenSpec.ofChange divSplitsSpec)) divSplitsCard

/-- THE TIED CARD OF 'surdlaw03.DivBack'. -/
def divBackCard : Claim7 := { stood := { row := divBackRow, standIns := [], harness := (true, "c7fc58dcfb50fcca9036f604a42d4838f0c398c023c33798d85080ee4f6e3121"), looks := false }, kinds := [], alts := [], laidByText := true, laidKinds := [.data], laidTests := true, laidLooks := .later }
def DivBackCardSaid : Prop := Claim7.holds Tryd.pinned (.plain (OpenSpec.ofChange divBackSpec)) divBackCard

/-- THE SECOND FORM's CARD OF 'surdlaw03.DivNames'. -/
def divNamesUptoCard : Claim7 := { stood := { row := divNamesUptoRow, standIns := [], harness := (true, "c7fc58dcfb50fcca9036f604a42d4838f0c398c023c33798d85080ee4f6e3121"), looks := false }, kinds := [], alts := [], laidByText := true, laidKinds := [.data], laidTests := true, laidLooks := .later }
def DivNamesUptoCardSaid : Prop := Claim7.holds Tryd.pinned (.plain (OpenSpec.upto divNamesSpec)) divNamesUptoCard

/-- THE SECOND FORM's CARD OF 'surdlaw03.DivBoths'. -/
def divBothsUptoCard : Claim7 := { stood := { row := divBothsUptoRow, standIns := [], harness := (true, "c7fc58dcfb50fcca9036f604a42d4838f0c398c023c33798d85080ee4f6e3121"), looks := false }, kinds := [], alts := [], laidByText := true, laidKinds := [.data], laidTests := true, laidLooks := .later }
def DivBothsUptoCardSaid : Prop := Claim7.holds Tryd.pinned (.plain (OpenSpec.upto divBothsSpec)) divBothsUptoCard

/-- THE SECOND FORM's CARD OF 'surdlaw03.DivGcds'. -/
def divGcdsUptoCard : Claim7 := { stood := { row := divGcdsUptoRow, standIns := [], harness := (true, "c7fc58dcfb50fcca9036f604a42d4838f0c398c023c33798d85080ee4f6e3121"), looks := false }, kinds := [], alts := [], laidByText := true, laidKinds := [.data], laidTests := true, laidLooks := .later }
def DivGcdsUptoCardSaid : Prop := Claim7.holds Tryd.pinned (.plain (OpenSpec.upto divGcdsSpec)) divGcdsUptoCard

/-- THE SECOND FORM's CARD OF 'surdlaw03.DivSplits'. -/
def divSplitsUptoCard : Claim7 := { stood := { row := divSplitsUptoRow, standIns := [], harness := (true, "c7fc58dcfb50fcca9036f604a42d4838f0c398c023c33798d85080ee4f6e3121"), looks := false }, kinds := [], alts := [], laidByText := true, laidKinds := [.data], laidTests := true, laidLooks := .later }
def DivSplitsUptoCardSaid : Prop := Claim7.holds Tryd.pinned (.plain (OpenSpec.upto divSplitsSpec)) divSplitsUptoCard

/-- THE SECOND FORM's CARD OF 'surdlaw03.DivBack'. -/
def divBackUptoCard : Claim7 := { stood := { row := divBackUptoRow, standIns := [], harness := (true, "c7fc58dcfb50fcca9036f604a42d4838f0c398c023c33798d85080ee4f6e3121"), looks := false }, kinds := [], alts := [], laidByText := true, laidKinds := [.data], laidTests := true, laidLooks := .later }
def DivBackUptoCardSaid : Prop := Claim7.holds Tryd.pinned (.plain (OpenSpec.upto divBackSpec)) divBackUptoCard
end Rows
end Go.Proofs.YtelfjadonlgkiaaDoor
