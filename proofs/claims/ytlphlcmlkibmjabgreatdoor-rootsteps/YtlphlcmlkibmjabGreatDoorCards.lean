/-
  DERIVED. GIVEN WITH THE SEED: THE CARDS: each row of YtlphlcmlkibmjabGreatDoorRows.lean that lists a variable, with what it lists TIED to the program's text (the seventh form; the later family's looks); each row that meets fmt, with fmt's text TOLD by the authors' own Lean function (tested against real Go, not proved from fmt's source: count such statements apart). THE CARD IS WHAT COUNTS. Prove the row's statement (the work); the ties are given (YtlphlcmlkibmjabGreatDoorTie.lean); close each card by the builder's one call (the guide's Derived/Test/ToyasCard.lean, 'card_holds'). Laid BY PROGRAM, IN A SANDBOX (cutbox-door.mjs). By AI agents, Wed Nov 11 2026. No macro, syntax, notation, axiom, sorry.
-/
import Derived.Test.YtlphlcmlkibmjabGreatDoorRows
import GoSem.ClaimSeven
namespace Go.Proofs.YtlphlcmlkibmjabGreatDoor
namespace Rows

/-- THE TIED CARD OF 'surdlaw04.RootKths'. -/
def rootKthsCard : Claim7 := { stood := { row := rootKthsRow, standIns := [], harness := (true, "12992058047132e302314e9b3b8ad1444a0652a7239d53e8da8d4792f877b8df"), looks := false }, kinds := [], alts := [], laidByText := true, laidKinds := [.data], laidTests := true, laidLooks := .later }
def RootKthsCardSaid : Prop := Claim7.holds Tryz.pinned (.plain (OpenSpec.ofChange rootKthsSpec)) rootKthsCard

/-- THE TIED CARD OF 'surdlaw04.RootLogs'. -/
def rootLogsCard : Claim7 := { stood := { row := rootLogsRow, standIns := [], harness := (true, "12992058047132e302314e9b3b8ad1444a0652a7239d53e8da8d4792f877b8df"), looks := false }, kinds := [], alts := [], laidByText := true, laidKinds := [.data], laidTests := true, laidLooks := .later }
def RootLogsCardSaid : Prop := Claim7.holds Tryz.pinned (.plain (OpenSpec.ofChange rootLogsSpec)) rootLogsCard

/-- THE TIED CARD OF 'surdlaw04.RootSteps'. -/
def rootStepsCard : Claim7 := { stood := { row := rootStepsRow, standIns := [], harness := (true, "12992058047132e302314e9b3b8ad1444a0652a7239d53e8da8d4792f877b8df"), looks := false }, kinds := [], alts := [], laidByText := true, laidKinds := [.data], laidTests := true, laidLooks := .later }
def RootStepsCardSaid : Prop := Claim7.holds Tryz.pinned (.plain (OpenSpec.ofChange rootStepsSpec)) rootStepsCard

/-- THE TIED CARD OF 'surdlaw04.RootResidues'. -/
def rootResiduesCard : Claim7 := { stood := { row := rootResiduesRow, standIns := [], harness := (true, "12992058047132e302314e9b3b8ad1444a0652a7239d53e8da8d4792f877b8df"), looks := false }, kinds := [], alts := [], laidByText := true, laidKinds := [.data], laidTests := true, laidLooks := .later }
def RootResiduesCardSaid : Prop := Claim7.holds Tryz.pinned (.plain (OpenSpec.ofChange rootResiduesSpec)) rootResiduesCard

/-- THE TIED CARD OF 'surdlaw04.RootBetween'. -/
def rootBetweenCard : Claim7 := { stood := { row := rootBetweenRow, standIns := [], harness := (true, "12992058047132e302314e9b3b8ad1444a0652a7239d53e8da8d4792f877b8df"), looks := false }, kinds := [], alts := [], laidByText := true, laidKinds := [.data], laidTests := true, laidLooks := .later }
def RootBetweenCardSaid : Prop := Claim7.holds Tryz.pinned (.plain (OpenSpec.ofChange rootBetweenSpec)) rootBetweenCard

/-- THE SECOND FORM's CARD OF 'surdlaw04.RootKths'. -/
def rootKthsUptoCard : Claim7 := { stood := { row := rootKthsUptoRow, standIns := [], harness := (true, "12992058047132e302314e9b3b8ad1444a0652a7239d53e8da8d4792f877b8df"), looks := false }, kinds := [], alts := [], laidByText := true, laidKinds := [.data], laidTests := true, laidLooks := .later }
def RootKthsUptoCardSaid : Prop := Claim7.holds Tryz.pinned (.plain (OpenSpec.upto rootKthsSpec)) rootKthsUptoCard

/-- THE SECOND FORM's CARD OF 'surdlaw04.RootLogs'. -/
def rootLogsUptoCard : Claim7 := { stood := { row := rootLogsUptoRow, standIns := [], harness := (true, "12992058047132e302314e9b3b8ad1444a0652a7239d53e8da8d4792f877b8df"), looks := false }, kinds := [], alts := [], laidByText := true, laidKinds := [.data], laidTests := true, laidLooks := .later }
def RootLogsUptoCardSaid : Prop := Claim7.holds Tryz.pinned (.plain (OpenSpec.upto rootLogsSpec)) rootLogsUptoCard

/-- THE SECOND FORM's CARD OF 'surdlaw04.RootSteps'. -/
def rootStepsUptoCard : Claim7 := { stood := { row := rootStepsUptoRow, standIns := [], harness := (true, "12992058047132e302314e9b3b8ad1444a0652a7239d53e8da8d4792f877b8df"), looks := false }, kinds := [], alts := [], laidByText := true, laidKinds := [.data], laidTests := true, laidLooks := .later }
def RootStepsUptoCardSaid : Prop := Claim7.holds Tryz.pinned (.plain (OpenSpec.upto rootStepsSpec)) rootStepsUptoCard

/-- THE SECOND FORM's CARD OF 'surdlaw04.RootResidues'. -/
def rootResiduesUptoCard : Claim7 := { stood := { row := rootResiduesUptoRow, standIns := [], harness := (true, "12992058047132e302314e9b3b8ad1444a0652a7239d53e8da8d4792f877b8df"), looks := false }, kinds := [], alts := [], laidByText := true, laidKinds := [.data], laidTests := true, laidLooks := .later }
def RootResiduesUptoCardSaid : Prop := Claim7.holds Tryz.pinned (.plain (OpenSpec.upto rootResiduesSpec)) rootResiduesUptoCard

/-- THE SECOND FORM's CARD OF 'surdlaw04.RootBetween'. -/
def rootBetweenUptoCard : Claim7 := { stood := { row := rootBetweenUptoRow, standIns := [], harness := (true, "12992058047132e302314e9b3b8ad1444a0652a7239d53e8da8d4792f877b8df"), looks := false }, kinds := [], alts := [], laidByText := true, laidKinds := [.data], laidTests := true, laidLooks := .later }
def RootBetweenUptoCardSaid : Prop := Claim7.holds Tryz.pinned (.plain (OpenSpec.upto rootBetweenSpec)) rootBetweenUptoCard
end Rows
end Go.Proofs.YtlphlcmlkibmjabGreatDoor
