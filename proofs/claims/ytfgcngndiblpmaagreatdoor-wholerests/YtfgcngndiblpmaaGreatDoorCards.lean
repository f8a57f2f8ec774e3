/-
  DERIVED. GIVEN WITH THE SEED: THE CARDS: each row of YtfgcngndiblpmaaGreatDoorRows.lean that lists a variable, with what it lists TIED to the program's text (the seventh form; the later family's looks); each row that meets fmt, with fmt's text TOLD by the authors' own Lean function (tested against real Go, not proved from fmt's source: count such statements apart). THE CARD IS WHAT COUNTS. Prove the row's statement (the work); the ties are given (YtfgcngndiblpmaaGreatDoorTie.lean); close each card by the builder's one call (the guide's Derived/Test/ToyasCard.lean, 'card_holds'). Laid BY PROGRAM, IN A SANDBOX (cutbox-door.mjs). By AI agents, Wed Nov 11 2026. No macro, syntax, notation, axiom, sorry.
-/
import Derived.Test.YtfgcngndiblpmaaGreatDoorRows
import GoSem.ClaimSeven
namespace Go.Proofs.YtfgcngndiblpmaaGreatDoor
namespace Rows

/-- THE TIED CARD OF 'surdlaw06.WholeQuos'. -/
def wholeQuosCard : Claim7 := { stood := { row := wholeQuosRow, standIns := [], harness := (true, "973a4a40697123277566273f98a236d0070beb512ed50f09b7a5ebf537203088"), looks := false }, kinds := [], alts := [], laidByText := true, laidKinds := [.data], laidTests := true, laidLooks := .later }
def WholeQuosCardSaid : Prop := Claim7.holds Tryz.pinned (.plain (OpenSpec.ofChange wholeQuosSpec)) wholeQuosCard

/-- THE TIED CARD OF 'surdlaw06.WholeRests'. -/
def wholeRestsCard : Claim7 := { stood := { row := wholeRestsRow, standIns := [], harness := (true, "973a4a40697123277566273f98a236d0070beb512ed50f09b7a5ebf537203088"), looks := false }, kinds := [], alts := [], laidByText := true, laidKinds := [.data], laidTests := true, laidLooks := .later }
def WholeRestsCardSaid : Prop := Claim7.holds Tryz.pinned (.plain (OpenSpec.ofChange wholeRestsSpec)) wholeRestsCard

/-- THE TIED CARD OF 'surdlaw06.WholeRing'. -/
def wholeRingCard : Claim7 := { stood := { row := wholeRingRow, standIns := [], harness := (true, "973a4a40697123277566273f98a236d0070beb512ed50f09b7a5ebf537203088"), looks := false }, kinds := [], alts := [], laidByText := true, laidKinds := [.data], laidTests := true, laidLooks := .later }
def WholeRingCardSaid : Prop := Claim7.holds Tryz.pinned (.plain (OpenSpec.ofChange wholeRingSpec)) wholeRingCard

/-- THE TIED CARD OF 'surdlaw06.WholeOwn'. -/
def wholeOwnCard : Claim7 := { stood := { row := wholeOwnRow, standIns := [], harness := (true, "973a4a40697123277566273f98a236d0070beb512ed50f09b7a5ebf537203088"), looks := false }, kinds := [], alts := [], laidByText := true, laidKinds := [.data], laidTests := true, laidLooks := .later }
def WholeOwnCardSaid : Prop := Claim7.holds Tryz.pinned (.plain (OpenSpec.ofChange wholeOwnSpec)) wholeOwnCard

/-- THE TIED CARD OF 'surdlaw06.WholeBits'. -/
def wholeBitsCard : Claim7 := { stood := { row := wholeBitsRow, standIns := [], harness := (true, "973a4a40697123277566273f98a236d0070beb512ed50f09b7a5ebf537203088"), looks := false }, kinds := [], alts := [], laidByText := true, laidKinds := [.data], laidTests := true, laidLooks := .later }
def WholeBitsCardSaid : Prop := Claim7.holds Tryz.pinned (.plain (OpenSpec.ofChange wholeBitsSpec)) wholeBitsCard

/-- THE SECOND FORM's CARD OF 'surdlaw06.WholeQuos'. -/
def wholeQuosUptoCard : Claim7 := { stood := { row := wholeQuosUptoRow, standIns := [], harness := (true, "973a4a40697123277566273f98a236d0070beb512ed50f09b7a5ebf537203088"), looks := false }, kinds := [], alts := [], laidByText := true, laidKinds := [.data], laidTests := true, laidLooks := .later }
def WholeQuosUptoCardSaid : Prop := Claim7.holds Tryz.pinned (.plain (OpenSpec.upto wholeQuosSpec)) wholeQuosUptoCard

/-- THE SECOND FORM's CARD OF 'surdlaw06.WholeRests'. -/
def wholeRestsUptoCard : Claim7 := { stood := { row := wholeRestsUptoRow, standIns := [], harness := (true, "973a4a40697123277566273f98a236d0070beb512ed50f09b7a5ebf537203088"), looks := false }, kinds := [], alts := [], laidByText := true, laidKinds := [.data], laidTests := true, laidLooks := .later }
def WholeRestsUptoCardSaid : Prop := Claim7.holds Tryz.pinned (.plain (OpenSpec.upto wholeRestsSpec)) wholeRestsUptoCard

/-- THE SECOND FORM's CARD OF 'surdlaw06.WholeRing'. -/
def wholeRingUptoCard : Claim7 := { stood := { row := wholeRingUptoRow, standIns := [], harness := (true, "973a4a40697123277566273f98a236d0070beb512ed50f09b7a5ebf537203088"), looks := false }, kinds := [], alts := [], laidByText := true, laidKinds := [.data], laidTests := true, laidLooks := .later }
def WholeRingUptoCardSaid : Prop := Claim7.holds Tryz.pinned (.plain (OpenSpec.upto wholeRingSpec)) wholeRingUptoCard

/-- THE SECOND FORM's CARD OF 'surdlaw06.WholeOwn'. -/
def wholeOwnUptoCard : Claim7 := { stood := { row := wholeOwnUptoRow, standIns := [], harness := (true, "973a4a40697123277566273f98a236d0070beb512ed50f09b7a5ebf537203088"), looks := false }, kinds := [], alts := [], laidByText := true, laidKinds := [.data], laidTests := true, laidLooks := .later }
def WholeOwnUptoCardSaid : Prop := Claim7.holds Tryz.pinned (.plain (OpenSpec.upto wholeOwnSpec)) wholeOwnUptoCard

/-- THE SECOND FORM's CARD OF 'surdlaw06.WholeBits'. -/
def wholeBitsUptoCard : Claim7 := { stood := { row := wholeBitsUptoRow, standIns := [], harness := (true, "973a4a40697123277566273f98a236d0070beb512ed50f09b7a5ebf537203088"), looks := false }, kinds := [], alts := [], laidByText := true, laidKinds := [.data], laidTests := true, laidLooks := .later }
def WholeBitsUptoCardSaid : Prop := Claim7.holds Tryz.pinned (.plain (OpenSpec.upto wholeBitsSpec)) wholeBitsUptoCard
end Rows
end Go.Proofs.YtfgcngndiblpmaaGreatDoor
