/-
  DERIVED. GIVEN WITH THE SEED: THE CARDS: each row of YtlphlcmlkibmjaaDoorRows.lean that lists a variable, with what it lists TIED to the program's text (the seventh form; the later family's looks); each row that meets fmt, with fmt's text TOLD by the authors' own Lean function (tested against real Go, not proved from fmt's source: count such statements apart). THE CARD IS WHAT COUNTS. Prove the row's statement (the work); the ties are given (YtlphlcmlkibmjaaDoorTie.lean); close each card by the builder's one call (the guide's Derived/Test/ToyasCard.lean, 'card_holds'). Laid BY PROGRAM, IN A SANDBOX (cutbox-door.mjs). By AI agents, Wed Nov 11 2026. No macro, syntax, notation, axiom, sorry.
-/
import Derived.Test.YtlphlcmlkibmjaaDoorRows
import GoSem.ClaimSeven
namespace Go.Proofs.YtlphlcmlkibmjaaDoor
namespace Rows

/-- THE TIED CARD OF 'surdlaw02.MulMany'. -/
def mulManyCard : Claim7 := { stood := { row := mulManyRow, standIns := [], harness := (true, "201d905d5f9aa2b7f186c041514360c5734912195e699b7c7843d4a2c2daa269"), looks := false }, kinds := [], alts := [], laidByText := true, laidKinds := [.data], laidTests := true, laidLooks := .later }
def MulManyCardSaid : Prop := Claim7.holds Tryd.pinned (.plain (OpenSpec.ofChange mulManySpec)) mulManyCard

/-- THE TIED CARD OF 'surdlaw02.MulCounts'. -/
def mulCountsCard : Claim7 := { stood := { row := mulCountsRow, standIns := [], harness := (true, "201d905d5f9aa2b7f186c041514360c5734912195e699b7c7843d4a2c2daa269"), looks := false }, kinds := [], alts := [], laidByText := true, laidKinds := [.data], laidTests := true, laidLooks := .later }
def MulCountsCardSaid : Prop := Claim7.holds Tryd.pinned (.plain (OpenSpec.ofChange mulCountsSpec)) mulCountsCard

/-- THE TIED CARD OF 'surdlaw02.MulRecurs'. -/
def mulRecursCard : Claim7 := { stood := { row := mulRecursRow, standIns := [], harness := (true, "201d905d5f9aa2b7f186c041514360c5734912195e699b7c7843d4a2c2daa269"), looks := false }, kinds := [], alts := [], laidByText := true, laidKinds := [.data], laidTests := true, laidLooks := .later }
def MulRecursCardSaid : Prop := Claim7.holds Tryd.pinned (.plain (OpenSpec.ofChange mulRecursSpec)) mulRecursCard

/-- THE TIED CARD OF 'surdlaw02.MulOwn'. -/
def mulOwnCard : Claim7 := { stood := { row := mulOwnRow, standIns := [], harness := (true, "201d905d5f9aa2b7f186c041514360c5734912195e699b7c7843d4a2c2daa269"), looks := false }, kinds := [], alts := [], laidByText := true, laidKinds := [.data], laidTests := true, laidLooks := .later }
def MulOwnCardSaid : Prop := Claim7.holds Tryd.pinned (.plain (OpenSpec.ofChange mulOwnSpec)) mulOwnCard

/-- THE TIED CARD OF 'surdlaw04.RootNames'. -/
def rootNamesCard : Claim7 := { stood := { row := rootNamesRow, standIns := [], harness := (true, "201d905d5f9aa2b7f186c041514360c5734912195e699b7c7843d4a2c2daa269"), looks := false }, kinds := [], alts := [], laidByText := true, laidKinds := [.data], laidTests := true, laidLooks := .later }
def RootNamesCardSaid : Prop := Claim7.holds Tryd.pinned (.plain (OpenSpec.ofChange rootNamesSpec)) rootNamesCard

/-- THE SECOND FORM's CARD OF 'surdlaw02.MulMany'. -/
def mulManyUptoCard : Claim7 := { stood := { row := mulManyUptoRow, standIns := [], harness := (true, "201d905d5f9aa2b7f186c041514360c5734912195e699b7c7843d4a2c2daa269"), looks := false }, kinds := [], alts := [], laidByText := true, laidKinds := [.data], laidTests := true, laidLooks := .later }
def MulManyUptoCardSaid : Prop := Claim7.holds Tryd.pinned (.plain (OpenSpec.upto mulManySpec)) mulManyUptoCard

/-- THE SECOND FORM's CARD OF 'surdlaw02.MulCounts'. -/
def mulCountsUptoCard : Claim7 := { stood := { row := mulCountsUptoRow, standIns := [], harness := (true, "201d905d5f9aa2b7f186c041514360c5734912195e699b7c7843d4a2c2daa269"), looks := false }, kinds := [], alts := [], laidByText := true, laidKinds := [.data], laidTests := true, laidLooks := .later }
def MulCountsUptoCardSaid : Prop := Claim7.holds Tryd.pinned (.plain (OpenSpec.upto mulCountsSpec)) mulCountsUptoCard

/-- THE SECOND FORM's CARD OF 'surdlaw02.MulRecurs'. -/
def mulRecursUptoCard : Claim7 := { stood := { row := mulRecursUptoRow, standIns := [], harness := (true, "201d905d5f9aa2b7f186c041514360c5734912195e699b7c7843d4a2c2daa269"), looks := false }, kinds := [], alts := [], laidByText := true, laidKinds := [.data], laidTests := true, laidLooks := .later }
def MulRecursUptoCardSaid : Prop := Claim7.holds Tryd.pinned (.plain (OpenSpec.upto mulRecursSpec)) mulRecursUptoCard

/-- THE SECOND FORM's CARD OF 'surdlaw02.MulOwn'. -/
def mulOwnUptoCard : Claim7 := { stood := { row := mulOwnUptoRow, standIns := [], harness := (true, "201d905d5f9aa2b7f186c041514360c5734912195e699b7c7843d4a2c2daa269"), looks := false }, kinds := [], alts := [], laidByText := true, laidKinds := [.data], laidTests := true, laidLooks := .later }
def MulOwnUptoCardSaid : Prop := Claim7.holds Tryd.pinned (.plain (OpenSpec.upto mulOwnSpec)) mulOwnUptoCard

/-- THE SECOND FORM's CARD OF 'surdlaw04.RootNames'. -/
def rootNamesUptoCard : Claim7 := { stood := { row := rootNamesUptoRow, standIns := [], harness := (true, "201d905d5f9aa2b7f186c041514360c5734912195e699b7c7843d4a2c2daa269"), looks := false }, kinds := [], alts := [], laidByText := true, laidKinds := [.data], laidTests := true, laidLooks := .later }
def RootNamesUptoCardSaid : Prop := Claim7.holds Tryd.pinned (.plain (OpenSpec.upto rootNamesSpec)) rootNamesUptoCard
end Rows
end Go.Proofs.YtlphlcmlkibmjaaDoor
