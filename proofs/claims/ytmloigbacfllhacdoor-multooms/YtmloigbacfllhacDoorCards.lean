/-
  DERIVED. GIVEN WITH THE SEED: THE CARDS: each row of YtmloigbacfllhacDoorRows.lean that lists a variable, with what it lists TIED to the program's text (the seventh form; the later family's looks); each row that meets fmt, with fmt's text TOLD by the authors' own Lean function (tested against real Go, not proved from fmt's source: count such statements apart). THE CARD IS WHAT COUNTS. Prove the row's statement (the work); the ties are given (YtmloigbacfllhacDoorTie.lean); close each card by the builder's one call (the guide's Derived/Test/ToyasCard.lean, 'card_holds'). Laid BY PROGRAM, IN A SANDBOX (cutbox-door.mjs). By AI agents, Wed Nov 11 2026. No macro, syntax, notation, axiom, sorry.
-/
import Derived.Test.YtmloigbacfllhacDoorRows
import GoSem.ClaimSeven
namespace Go.Proofs.YtmloigbacfllhacDoor
namespace Rows

/-- THE TIED CARD OF 'surdlaw02.MulOwn'. -/
def mulOwnCard : Claim7 := { stood := { row := mulOwnRow, standIns := [], harness := (true, "476846e3a3c321ec9fb05db787bf4f233f1d0877ab0759cc95101cb55147df36"), looks := false }, kinds := [], alts := [], laidByText := true, laidKinds := [.data], laidTests := true, laidLooks := .later }
def MulOwnCardSaid : Prop := Claim7.holds Tryd.pinned (.plain (OpenSpec.ofChange mulOwnSpec)) mulOwnCard

/-- THE TIED CARD OF 'surdlaw02.MulTooms'. -/
def mulToomsCard : Claim7 := { stood := { row := mulToomsRow, standIns := [], harness := (true, "476846e3a3c321ec9fb05db787bf4f233f1d0877ab0759cc95101cb55147df36"), looks := false }, kinds := [], alts := [], laidByText := true, laidKinds := [.data], laidTests := true, laidLooks := .later }
def MulToomsCardSaid : Prop := Claim7.holds Tryd.pinned (.plain (OpenSpec.ofChange mulToomsSpec)) mulToomsCard

/-- THE TIED CARD OF 'surdlaw03.DivNames'. -/
def divNamesCard : Claim7 := { stood := { row := divNamesRow, standIns := [], harness := (true, "476846e3a3c321ec9fb05db787bf4f233f1d0877ab0759cc95101cb55147df36"), looks := false }, kinds := [], alts := [], laidByText := true, laidKinds := [.data], laidTests := true, laidLooks := .later }
def DivNamesCardSaid : Prop := Claim7.holds Tryd.pinned (.plain (OpenSpec.ofChange divNamesSpec)) divNamesCard

/-- THE TIED CARD OF 'surdlaw03.DivBoths'. -/
def divBothsCard : Claim7 := { stood := { row := divBothsRow, standIns := [], harness := (true, "476846e3a3c321ec9fb05db787bf4f233f1d0877ab0759cc95101cb55147df36"), looks := false }, kinds := [], alts := [], laidByText := true, laidKinds := [.data], laidTests := true, laidLooks := .later }
def DivBothsCardSaid : Prop := Claim7.holds Tryd.pinned (.plain (OpenSpec.ofChange divBothsSpec)) divBothsCard

/-- THE TIED CARD OF 'surdlaw03.DivGcds'. -/
def divGcdsCard : Claim7 := { stood := { row := divGcdsRow, standIns := [], harness := (true, "476846e3a3c321ec9fb05db787bf4f233f1d0877ab0759cc95101cb55147df36"), looks := false }, kinds := [], alts := [], laidByText := true, laidKinds := [.data], laidTests := true, laidLooks := .later }
def DivGcdsCardSaid : Prop := Claim7.holds Tryd.pinned (.plain (OpenSpec.ofChange divGcdsSpec)) divGcdsCard

/-- THE SECOND FORM's CARD OF 'surdlaw02.MulOwn'. -/
def mulOwnUptoCard : Claim7 := { stood := { row := mulOwnUptoRow, standIns := [], harness := (true, "476846e3a3c321ec9fb05db787bf4f233f1d0877ab0759cc95101cb55147df36"), looks := false }, kinds := [], alts := [], laidByText := true, laidKinds := [.data], laidTests := true, laidLooks := .later }
def MulOwnUptoCardSaid : Prop := Claim7.holds Tryd.pinned (.plain (OpenSpec.upto mulOwnSpec)) mulOwnUptoCard

/-- THE SECOND FORM's CARD OF 'surdlaw02.MulTooms'. -/
def mulToomsUptoCard : Claim7 := { stood := { row := mulToomsUptoRow, standIns := [], harness := (true, "476846e3a3c321ec9fb05db787bf4f233f1d0877ab0759cc95101cb55147df36"), looks := false }, kinds := [], alts := [], laidByText := true, laidKinds := [.data], laidTests := true, laidLooks := .later }
def MulToomsUptoCardSaid : Prop := Claim7.holds Tryd.pinned (.plain (OpenSpec.upto mulToomsSpec)) mulToomsUptoCard

/-- THE SECOND FORM's CARD OF 'surdlaw03.DivNames'. -/
def divNamesUptoCard : Claim7 := { stood := { row := divNamesUptoRow, standIns := [], harness := (true, "476846e3a3c321ec9fb05db787bf4f233f1d0877ab0759cc95101cb55147df36"), looks := false }, kinds := [], alts := [], laidByText := true, laidKinds := [.data], laidTests := true, laidLooks := .later }
def DivNamesUptoCardSaid : Prop := Claim7.holds Tryd.pinned (.plain (OpenSpec.upto divNamesSpec)) divNamesUptoCard

/-- THE SECOND FORM's CARD OF 'surdlaw03.DivBoths'. -/
def divBothsUptoCard : Claim7 := { stood := { row := divBothsUptoRow, standIns := [], harness := (true, "476846e3a3c321ec9fb05db787bf4f233f1d0877ab0759cc95101cb55147df36"), looks := false }, kinds := [], alts := [], laidByText := true, laidKinds := [.data], laidTests := true, laidLooks := .later }
def DivBothsUptoCardSaid : Prop := Claim7.holds Tryd.pinned (.plain (OpenSpec.upto divBothsSpec)) divBothsUptoCard

/-- THE SECOND FORM's CARD OF 'surdlaw03.DivGcds'. -/
def divGcdsUptoCard : Claim7 := { stood := { row := divGcdsUptoRow, standIns := [], harness := (true, "476846e3a3c321ec9fb05db787bf4f233f1d0877ab0759cc95101cb55147df36"), looks := false }, kinds := [], alts := [], laidByText := true, laidKinds := [.data], laidTests := true, laidLooks := .later }
def DivGcdsUptoCardSaid : Prop := Claim7.holds Tryd.pinned (.plain (OpenSpec.upto divGcdsSpec)) divGcdsUptoCard
end Rows
end Go.Proofs.YtmloigbacfllhacDoor
