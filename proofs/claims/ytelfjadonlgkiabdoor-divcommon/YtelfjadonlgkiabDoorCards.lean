/-
  DERIVED. GIVEN WITH THE SEED: THE CARDS: each row of YtelfjadonlgkiabDoorRows.lean that lists a variable, with what it lists TIED to the program's text (the seventh form; the later family's looks); each row that meets fmt, with fmt's text TOLD by the authors' own Lean function (tested against real Go, not proved from fmt's source: count such statements apart). THE CARD IS WHAT COUNTS. Prove the row's statement (the work); the ties are given (YtelfjadonlgkiabDoorTie.lean); close each card by the builder's one call (the guide's Derived/Test/ToyasCard.lean, 'card_holds'). Laid BY PROGRAM, IN A SANDBOX (cutbox-door.mjs). By AI agents, Wed Nov 11 2026. No macro, syntax, notation, axiom, sorry.
-/
import Derived.Test.YtelfjadonlgkiabDoorRows
import GoSem.ClaimSeven
namespace Go.Proofs.YtelfjadonlgkiabDoor
namespace Rows

/-- THE TIED CARD OF 'surdlaw03.DivCommon'. -/
def divCommonCard : Claim7 := { stood := { row := divCommonRow, standIns := [], harness := (true, "e2cf67c97967879036d80fb5bc88e5bc847085947cde5d2678181feb3753fa23"), looks := false }, kinds := [], alts := [], laidByText := true, laidKinds := [.data], laidTests := true, laidLooks := .later }
def DivCommonCardSaid : Prop := Claim7.holds Tryd.pinned (.plain (OpenSpec.ofChange divCommonSpec)) divCommonCard

/-- THE TIED CARD OF 'surdlaw03.DivAdds'. -/
def divAddsCard : Claim7 := { stood := { row := divAddsRow, standIns := [], harness := (true, "e2cf67c97967879036d80fb5bc88e5bc847085947cde5d2678181feb3753fa23"), looks := false }, kinds := [], alts := [], laidByText := true, laidKinds := [.data], laidTests := true, laidLooks := .later }
def DivAddsCardSaid : Prop := Claim7.holds Tryd.pinned (.plain (OpenSpec.ofChange divAddsSpec)) divAddsCard

/-- THE SECOND FORM's CARD OF 'surdlaw03.DivCommon'. -/
def divCommonUptoCard : Claim7 := { stood := { row := divCommonUptoRow, standIns := [], harness := (true, "e2cf67c97967879036d80fb5bc88e5bc847085947cde5d2678181feb3753fa23"), looks := false }, kinds := [], alts := [], laidByText := true, laidKinds := [.data], laidTests := true, laidLooks := .later }
def DivCommonUptoCardSaid : Prop := Claim7.holds Tryd.pinned (.plain (OpenSpec.upto divCommonSpec)) divCommonUptoCard

/-- THE SECOND FORM's CARD OF 'surdlaw03.DivAdds'. -/
def divAddsUptoCard : Claim7 := { stood := { row := divAddsUptoRow, standIns := [], harness := (true, "e2cf67c97967879036d80fb5bc88e5bc847085947cde5d2678181feb3753fa23"), looks := false }, kinds := [], alts := [], laidByText := true, laidKinds := [.data], laidTests := true, laidLooks := .later }
def DivAddsUptoCardSaid : Prop := Claim7.holds Tryd.pinned (.plain (OpenSpec.upto divAddsSpec)) divAddsUptoCard
end Rows
end Go.Proofs.YtelfjadonlgkiabDoor
