/-
  DERIVED. GIVEN WITH THE SEED: THE CARDS: each row of YtegbjdjpeblkoaaDoorRows.lean that lists a variable, with what it lists TIED to the program's text (the seventh form; the later family's looks); each row that meets fmt, with fmt's text TOLD by the authors' own Lean function (tested against real Go, not proved from fmt's source: count such statements apart). THE CARD IS WHAT COUNTS. Prove the row's statement (the work); the ties are given (YtegbjdjpeblkoaaDoorTie.lean); close each card by the builder's one call (the guide's Derived/Test/ToyasCard.lean, 'card_holds'). Laid BY PROGRAM, IN A SANDBOX (cutbox-door.mjs). By AI agents, Wed Nov 11 2026. No macro, syntax, notation, axiom, sorry.
-/
import Derived.Test.YtegbjdjpeblkoaaDoorRows
import GoSem.ClaimSeven
namespace Go.Proofs.YtegbjdjpeblkoaaDoor
namespace Rows

/-- THE TIED CARD OF 'surdlaw08.DyadicOrders'. -/
def dyadicOrdersCard : Claim7 := { stood := { row := dyadicOrdersRow, standIns := [], harness := (true, "0ab5a8ba302a8d48d4d0dbebc3ddfa4be4a67e4071940f486efb09844c07af52"), looks := false }, kinds := [], alts := [], laidByText := true, laidKinds := [.data], laidTests := true, laidLooks := .later }
def DyadicOrdersCardSaid : Prop := Claim7.holds Tryd.pinned (.plain (OpenSpec.ofChange dyadicOrdersSpec)) dyadicOrdersCard

/-- THE TIED CARD OF 'surdlaw08.DyadicNear'. -/
def dyadicNearCard : Claim7 := { stood := { row := dyadicNearRow, standIns := [], harness := (true, "0ab5a8ba302a8d48d4d0dbebc3ddfa4be4a67e4071940f486efb09844c07af52"), looks := false }, kinds := [], alts := [], laidByText := true, laidKinds := [.data], laidTests := true, laidLooks := .later }
def DyadicNearCardSaid : Prop := Claim7.holds Tryd.pinned (.plain (OpenSpec.ofChange dyadicNearSpec)) dyadicNearCard

/-- THE TIED CARD OF 'surdlaw08.DyadicTwice'. -/
def dyadicTwiceCard : Claim7 := { stood := { row := dyadicTwiceRow, standIns := [], harness := (true, "0ab5a8ba302a8d48d4d0dbebc3ddfa4be4a67e4071940f486efb09844c07af52"), looks := false }, kinds := [], alts := [], laidByText := true, laidKinds := [.data], laidTests := true, laidLooks := .later }
def DyadicTwiceCardSaid : Prop := Claim7.holds Tryd.pinned (.plain (OpenSpec.ofChange dyadicTwiceSpec)) dyadicTwiceCard

/-- THE TIED CARD OF 'surdlaw08.DyadicShort'. -/
def dyadicShortCard : Claim7 := { stood := { row := dyadicShortRow, standIns := [], harness := (true, "0ab5a8ba302a8d48d4d0dbebc3ddfa4be4a67e4071940f486efb09844c07af52"), looks := false }, kinds := [], alts := [], laidByText := true, laidKinds := [.data], laidTests := true, laidLooks := .later }
def DyadicShortCardSaid : Prop := Claim7.holds Tryd.pinned (.plain (OpenSpec.ofChange dyadicShortSpec)) dyadicShortCard

/-- THE TIED CARD OF 'surdlaw08.DyadicCuts'. -/
def dyadicCutsCard : Claim7 := { stood := { row := dyadicCutsRow, standIns := [], harness := (true, "0ab5a8ba302a8d48d4d0dbebc3ddfa4be4a67e4071940f486efb09844c07af52"), looks := false }, kinds := [], alts := [], laidByText := true, laidKinds := [.data], laidTests := true, laidLooks := .later }
def DyadicCutsCardSaid : Prop := Claim7.holds Tryd.pinned (.plain (OpenSpec.ofChange dyadicCutsSpec)) dyadicCutsCard

/-- THE SECOND FORM's CARD OF 'surdlaw08.DyadicOrders'. -/
def dyadicOrdersUptoCard : Claim7 := { stood := { row := dyadicOrdersUptoRow, standIns := [], harness := (true, "0ab5a8ba302a8d48d4d0dbebc3ddfa4be4a67e4071940f486efb09844c07af52"), looks := false }, kinds := [], alts := [], laidByText := true, laidKinds := [.data], laidTests := true, laidLooks := .later }
def DyadicOrdersUptoCardSaid : Prop := Claim7.holds Tryd.pinned (.plain (OpenSpec.upto dyadicOrdersSpec)) dyadicOrdersUptoCard

/-- THE SECOND FORM's CARD OF 'surdlaw08.DyadicNear'. -/
def dyadicNearUptoCard : Claim7 := { stood := { row := dyadicNearUptoRow, standIns := [], harness := (true, "0ab5a8ba302a8d48d4d0dbebc3ddfa4be4a67e4071940f486efb09844c07af52"), looks := false }, kinds := [], alts := [], laidByText := true, laidKinds := [.data], laidTests := true, laidLooks := .later }
def DyadicNearUptoCardSaid : Prop := Claim7.holds Tryd.pinned (.plain (OpenSpec.upto dyadicNearSpec)) dyadicNearUptoCard

/-- THE SECOND FORM's CARD OF 'surdlaw08.DyadicTwice'. -/
def dyadicTwiceUptoCard : Claim7 := { stood := { row := dyadicTwiceUptoRow, standIns := [], harness := (true, "0ab5a8ba302a8d48d4d0dbebc3ddfa4be4a67e4071940f486efb09844c07af52"), looks := false }, kinds := [], alts := [], laidByText := true, laidKinds := [.data], laidTests := true, laidLooks := .later }
def DyadicTwiceUptoCardSaid : Prop := Claim7.holds Tryd.pinned (.plain (OpenSpec.upto dyadicTwiceSpec)) dyadicTwiceUptoCard

/-- THE SECOND FORM's CARD OF 'surdlaw08.DyadicShort'. -/
def dyadicShortUptoCard : Claim7 := { stood := { row := dyadicShortUptoRow, standIns := [], harness := (true, "0ab5a8ba302a8d48d4d0dbebc3ddfa4be4a67e4071940f486efb09844c07af52"), looks := false }, kinds := [], alts := [], laidByText := true, laidKinds := [.data], laidTests := true, laidLooks := .later }
def DyadicShortUptoCardSaid : Prop := Claim7.holds Tryd.pinned (.plain (OpenSpec.upto dyadicShortSpec)) dyadicShortUptoCard

/-- THE SECOND FORM's CARD OF 'surdlaw08.DyadicCuts'. -/
def dyadicCutsUptoCard : Claim7 := { stood := { row := dyadicCutsUptoRow, standIns := [], harness := (true, "0ab5a8ba302a8d48d4d0dbebc3ddfa4be4a67e4071940f486efb09844c07af52"), looks := false }, kinds := [], alts := [], laidByText := true, laidKinds := [.data], laidTests := true, laidLooks := .later }
def DyadicCutsUptoCardSaid : Prop := Claim7.holds Tryd.pinned (.plain (OpenSpec.upto dyadicCutsSpec)) dyadicCutsUptoCard
end Rows
end Go.Proofs.YtegbjdjpeblkoaaDoor
