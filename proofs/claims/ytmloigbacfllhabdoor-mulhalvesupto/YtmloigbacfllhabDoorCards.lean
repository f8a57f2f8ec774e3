/-
  DERIVED. GIVEN WITH THE SEED: THE CARDS: each row of YtmloigbacfllhabDoorRows.lean that lists a variable, with what it lists TIED to the program's text (the seventh form; the later family's looks); each row that meets fmt, with fmt's text TOLD by the authors' own Lean function (tested against real Go, not proved from fmt's source: count such statements apart). THE CARD IS WHAT COUNTS. Prove the row's statement (the work); the ties are given (YtmloigbacfllhabDoorTie.lean); close each card by the builder's one call (the guide's Derived/Test/ToyasCard.lean, 'card_holds'). Laid BY PROGRAM, IN A SANDBOX (cutbox-door.mjs). By AI agents, Wed Nov 11 2026. No macro, syntax, notation, axiom, sorry.
-/
import Derived.Test.YtmloigbacfllhabDoorRows
import GoSem.ClaimSeven
namespace Go.Proofs.YtmloigbacfllhabDoor
namespace Rows

/-- THE TIED CARD OF 'surdlaw02.MulHalves'. -/
def mulHalvesCard : Claim7 := { stood := { row := mulHalvesRow, standIns := [], harness := (true, "6d783c20e5e3bf24cc6c4da37754b2624c293482915b9be59c3aff8da2018c8d"), looks := false }, kinds := [], alts := [], laidByText := true, laidKinds := [.data], laidTests := true, laidLooks := .later }
def MulHalvesCardSaid : Prop := Claim7.holds Tryd.pinned (.plain (OpenSpec.ofChange mulHalvesSpec)) mulHalvesCard

/-- THE TIED CARD OF 'surdlaw02.MulMany'. -/
def mulManyCard : Claim7 := { stood := { row := mulManyRow, standIns := [], harness := (true, "6d783c20e5e3bf24cc6c4da37754b2624c293482915b9be59c3aff8da2018c8d"), looks := false }, kinds := [], alts := [], laidByText := true, laidKinds := [.data], laidTests := true, laidLooks := .later }
def MulManyCardSaid : Prop := Claim7.holds Tryd.pinned (.plain (OpenSpec.ofChange mulManySpec)) mulManyCard

/-- THE TIED CARD OF 'surdlaw02.MulCounts'. -/
def mulCountsCard : Claim7 := { stood := { row := mulCountsRow, standIns := [], harness := (true, "6d783c20e5e3bf24cc6c4da37754b2624c293482915b9be59c3aff8da2018c8d"), looks := false }, kinds := [], alts := [], laidByText := true, laidKinds := [.data], laidTests := true, laidLooks := .later }
def MulCountsCardSaid : Prop := Claim7.holds Tryd.pinned (.plain (OpenSpec.ofChange mulCountsSpec)) mulCountsCard

/-- THE TIED CARD OF 'surdlaw02.MulRing'. -/
def mulRingCard : Claim7 := { stood := { row := mulRingRow, standIns := [], harness := (true, "6d783c20e5e3bf24cc6c4da37754b2624c293482915b9be59c3aff8da2018c8d"), looks := false }, kinds := [], alts := [], laidByText := true, laidKinds := [.data], laidTests := true, laidLooks := .later }
def MulRingCardSaid : Prop := Claim7.holds Tryd.pinned (.plain (OpenSpec.ofChange mulRingSpec)) mulRingCard

/-- THE TIED CARD OF 'surdlaw02.MulIdentity'. -/
def mulIdentityCard : Claim7 := { stood := { row := mulIdentityRow, standIns := [], harness := (true, "6d783c20e5e3bf24cc6c4da37754b2624c293482915b9be59c3aff8da2018c8d"), looks := false }, kinds := [], alts := [], laidByText := true, laidKinds := [.data], laidTests := true, laidLooks := .later }
def MulIdentityCardSaid : Prop := Claim7.holds Tryd.pinned (.plain (OpenSpec.ofChange mulIdentitySpec)) mulIdentityCard

/-- THE TIED CARD OF 'surdlaw02.MulRecurs'. -/
def mulRecursCard : Claim7 := { stood := { row := mulRecursRow, standIns := [], harness := (true, "6d783c20e5e3bf24cc6c4da37754b2624c293482915b9be59c3aff8da2018c8d"), looks := false }, kinds := [], alts := [], laidByText := true, laidKinds := [.data], laidTests := true, laidLooks := .later }
def MulRecursCardSaid : Prop := Claim7.holds Tryd.pinned (.plain (OpenSpec.ofChange mulRecursSpec)) mulRecursCard

/-- THE SECOND FORM's CARD OF 'surdlaw02.MulHalves'. -/
def mulHalvesUptoCard : Claim7 := { stood := { row := mulHalvesUptoRow, standIns := [], harness := (true, "6d783c20e5e3bf24cc6c4da37754b2624c293482915b9be59c3aff8da2018c8d"), looks := false }, kinds := [], alts := [], laidByText := true, laidKinds := [.data], laidTests := true, laidLooks := .later }
def MulHalvesUptoCardSaid : Prop := Claim7.holds Tryd.pinned (.plain (OpenSpec.upto mulHalvesSpec)) mulHalvesUptoCard

/-- THE SECOND FORM's CARD OF 'surdlaw02.MulMany'. -/
def mulManyUptoCard : Claim7 := { stood := { row := mulManyUptoRow, standIns := [], harness := (true, "6d783c20e5e3bf24cc6c4da37754b2624c293482915b9be59c3aff8da2018c8d"), looks := false }, kinds := [], alts := [], laidByText := true, laidKinds := [.data], laidTests := true, laidLooks := .later }
def MulManyUptoCardSaid : Prop := Claim7.holds Tryd.pinned (.plain (OpenSpec.upto mulManySpec)) mulManyUptoCard

/-- THE SECOND FORM's CARD OF 'surdlaw02.MulCounts'. -/
def mulCountsUptoCard : Claim7 := { stood := { row := mulCountsUptoRow, standIns := [], harness := (true, "6d783c20e5e3bf24cc6c4da37754b2624c293482915b9be59c3aff8da2018c8d"), looks := false }, kinds := [], alts := [], laidByText := true, laidKinds := [.data], laidTests := true, laidLooks := .later }
def MulCountsUptoCardSaid : Prop := Claim7.holds Tryd.pinned (.plain (OpenSpec.upto mulCountsSpec)) mulCountsUptoCard

/-- THE SECOND FORM's CARD OF 'surdlaw02.MulRing'. -/
def mulRingUptoCard : Claim7 := { stood := { row := mulRingUptoRow, standIns := [], harness := (true, "6d783c20e5e3bf24cc6c4da37754b2624c293482915b9be59c3aff8da2018c8d"), looks := false }, kinds := [], alts := [], laidByText := true, laidKinds := [.data], laidTests := true, laidLooks := .later }
def MulRingUptoCardSaid : Prop := Claim7.holds Tryd.pinned (.plain (OpenSpec.upto mulRingSpec)) mulRingUptoCard

/-- THE SECOND FORM's CARD OF 'surdlaw02.MulIdentity'. -/
def mulIdentityUptoCard : Claim7 := { stood := { row := mulIdentityUptoRow, standIns := [], harness := (true, "6d783c20e5e3bf24cc6c4da37754b2624c293482915b9be59c3aff8da2018c8d"), looks := false }, kinds := [], alts := [], laidByText := true, laidKinds := [.data], laidTests := true, laidLooks := .later }
def MulIdentityUptoCardSaid : Prop := Claim7.holds Tryd.pinned (.plain (OpenSpec.upto mulIdentitySpec)) mulIdentityUptoCard

/-- THE SECOND FORM's CARD OF 'surdlaw02.MulRecurs'. -/
def mulRecursUptoCard : Claim7 := { stood := { row := mulRecursUptoRow, standIns := [], harness := (true, "6d783c20e5e3bf24cc6c4da37754b2624c293482915b9be59c3aff8da2018c8d"), looks := false }, kinds := [], alts := [], laidByText := true, laidKinds := [.data], laidTests := true, laidLooks := .later }
def MulRecursUptoCardSaid : Prop := Claim7.holds Tryd.pinned (.plain (OpenSpec.upto mulRecursSpec)) mulRecursUptoCard
end Rows
end Go.Proofs.YtmloigbacfllhabDoor
