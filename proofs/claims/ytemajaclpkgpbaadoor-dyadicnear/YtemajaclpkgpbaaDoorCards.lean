/-
  DERIVED. GIVEN WITH THE SEED: THE CARDS: each row of YtemajaclpkgpbaaDoorRows.lean that lists a variable, with what it lists TIED to the program's text (the seventh form; the later family's looks); each row that meets fmt, with fmt's text TOLD by the authors' own Lean function (tested against real Go, not proved from fmt's source: count such statements apart). THE CARD IS WHAT COUNTS. Prove the row's statement (the work); the ties are given (YtemajaclpkgpbaaDoorTie.lean); close each card by the builder's one call (the guide's Derived/Test/ToyasCard.lean, 'card_holds'). Laid BY PROGRAM, IN A SANDBOX (cutbox-door.mjs). By AI agents, Wed Nov 11 2026. No macro, syntax, notation, axiom, sorry.
-/
import Derived.Test.YtemajaclpkgpbaaDoorRows
import GoSem.ClaimSeven
namespace Go.Proofs.YtemajaclpkgpbaaDoor
namespace Rows

/-- THE TIED CARD OF 'surdlaw08.DyadicCuts'. -/
def dyadicCutsCard : Claim7 := { stood := { row := dyadicCutsRow, standIns := [], harness := (true, "e6d00cb2c957172f08bc2d8d7add49b413a2968f5921b8033b0a5b87260303c1"), looks := false }, kinds := [], alts := [], laidByText := true, laidKinds := [.data], laidTests := true, laidLooks := .later }
def DyadicCutsCardSaid : Prop := Claim7.holds Tryd.pinned (.plain (OpenSpec.ofChange dyadicCutsSpec)) dyadicCutsCard

/-- THE TIED CARD OF 'surdlaw08.DyadicRatios'. -/
def dyadicRatiosCard : Claim7 := { stood := { row := dyadicRatiosRow, standIns := [], harness := (true, "e6d00cb2c957172f08bc2d8d7add49b413a2968f5921b8033b0a5b87260303c1"), looks := false }, kinds := [], alts := [], laidByText := true, laidKinds := [.data], laidTests := true, laidLooks := .later }
def DyadicRatiosCardSaid : Prop := Claim7.holds Tryd.pinned (.plain (OpenSpec.ofChange dyadicRatiosSpec)) dyadicRatiosCard

/-- THE TIED CARD OF 'surdlaw08.DyadicNear'. -/
def dyadicNearCard : Claim7 := { stood := { row := dyadicNearRow, standIns := [], harness := (true, "e6d00cb2c957172f08bc2d8d7add49b413a2968f5921b8033b0a5b87260303c1"), looks := false }, kinds := [], alts := [], laidByText := true, laidKinds := [.data], laidTests := true, laidLooks := .later }
def DyadicNearCardSaid : Prop := Claim7.holds Tryd.pinned (.plain (OpenSpec.ofChange dyadicNearSpec)) dyadicNearCard

/-- THE TIED CARD OF 'surdlaw08.DyadicShort'. -/
def dyadicShortCard : Claim7 := { stood := { row := dyadicShortRow, standIns := [], harness := (true, "e6d00cb2c957172f08bc2d8d7add49b413a2968f5921b8033b0a5b87260303c1"), looks := false }, kinds := [], alts := [], laidByText := true, laidKinds := [.data], laidTests := true, laidLooks := .later }
def DyadicShortCardSaid : Prop := Claim7.holds Tryd.pinned (.plain (OpenSpec.ofChange dyadicShortSpec)) dyadicShortCard

/-- THE TIED CARD OF 'surdlaw08.DyadicPolys'. -/
def dyadicPolysCard : Claim7 := { stood := { row := dyadicPolysRow, standIns := [], harness := (true, "e6d00cb2c957172f08bc2d8d7add49b413a2968f5921b8033b0a5b87260303c1"), looks := false }, kinds := [], alts := [], laidByText := true, laidKinds := [.data], laidTests := true, laidLooks := .later }
def DyadicPolysCardSaid : Prop := Claim7.holds Tryd.pinned (.plain (OpenSpec.ofChange dyadicPolysSpec)) dyadicPolysCard

/-- THE SECOND FORM's CARD OF 'surdlaw08.DyadicCuts'. -/
def dyadicCutsUptoCard : Claim7 := { stood := { row := dyadicCutsUptoRow, standIns := [], harness := (true, "e6d00cb2c957172f08bc2d8d7add49b413a2968f5921b8033b0a5b87260303c1"), looks := false }, kinds := [], alts := [], laidByText := true, laidKinds := [.data], laidTests := true, laidLooks := .later }
def DyadicCutsUptoCardSaid : Prop := Claim7.holds Tryd.pinned (.plain (OpenSpec.upto dyadicCutsSpec)) dyadicCutsUptoCard

/-- THE SECOND FORM's CARD OF 'surdlaw08.DyadicRatios'. -/
def dyadicRatiosUptoCard : Claim7 := { stood := { row := dyadicRatiosUptoRow, standIns := [], harness := (true, "e6d00cb2c957172f08bc2d8d7add49b413a2968f5921b8033b0a5b87260303c1"), looks := false }, kinds := [], alts := [], laidByText := true, laidKinds := [.data], laidTests := true, laidLooks := .later }
def DyadicRatiosUptoCardSaid : Prop := Claim7.holds Tryd.pinned (.plain (OpenSpec.upto dyadicRatiosSpec)) dyadicRatiosUptoCard

/-- THE SECOND FORM's CARD OF 'surdlaw08.DyadicNear'. -/
def dyadicNearUptoCard : Claim7 := { stood := { row := dyadicNearUptoRow, standIns := [], harness := (true, "e6d00cb2c957172f08bc2d8d7add49b413a2968f5921b8033b0a5b87260303c1"), looks := false }, kinds := [], alts := [], laidByText := true, laidKinds := [.data], laidTests := true, laidLooks := .later }
def DyadicNearUptoCardSaid : Prop := Claim7.holds Tryd.pinned (.plain (OpenSpec.upto dyadicNearSpec)) dyadicNearUptoCard

/-- THE SECOND FORM's CARD OF 'surdlaw08.DyadicShort'. -/
def dyadicShortUptoCard : Claim7 := { stood := { row := dyadicShortUptoRow, standIns := [], harness := (true, "e6d00cb2c957172f08bc2d8d7add49b413a2968f5921b8033b0a5b87260303c1"), looks := false }, kinds := [], alts := [], laidByText := true, laidKinds := [.data], laidTests := true, laidLooks := .later }
def DyadicShortUptoCardSaid : Prop := Claim7.holds Tryd.pinned (.plain (OpenSpec.upto dyadicShortSpec)) dyadicShortUptoCard

/-- THE SECOND FORM's CARD OF 'surdlaw08.DyadicPolys'. -/
def dyadicPolysUptoCard : Claim7 := { stood := { row := dyadicPolysUptoRow, standIns := [], harness := (true, "e6d00cb2c957172f08bc2d8d7add49b413a2968f5921b8033b0a5b87260303c1"), looks := false }, kinds := [], alts := [], laidByText := true, laidKinds := [.data], laidTests := true, laidLooks := .later }
def DyadicPolysUptoCardSaid : Prop := Claim7.holds Tryd.pinned (.plain (OpenSpec.upto dyadicPolysSpec)) dyadicPolysUptoCard
end Rows
end Go.Proofs.YtemajaclpkgpbaaDoor
