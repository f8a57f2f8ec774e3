/-
  DERIVED. GIVEN WITH THE SEED: THE CARDS: each row of YtmloigbacfllhaaDoorRows.lean that lists a variable, with what it lists TIED to the program's text (the seventh form; the later family's looks); each row that meets fmt, with fmt's text TOLD by the authors' own Lean function (tested against real Go, not proved from fmt's source: count such statements apart). THE CARD IS WHAT COUNTS. Prove the row's statement (the work); the ties are given (YtmloigbacfllhaaDoorTie.lean); close each card by the builder's one call (the guide's Derived/Test/ToyasCard.lean, 'card_holds'). Laid BY PROGRAM, IN A SANDBOX (cutbox-door.mjs). By AI agents, Wed Nov 11 2026. No macro, syntax, notation, axiom, sorry.
-/
import Derived.Test.YtmloigbacfllhaaDoorRows
import GoSem.ClaimSeven
namespace Go.Proofs.YtmloigbacfllhaaDoor
namespace Rows

/-- THE TIED CARD OF 'surdlaw01.NatForms'. -/
def natFormsCard : Claim7 := { stood := { row := natFormsRow, standIns := [], harness := (true, "a703a74aa38fe59ea1e41cbf372b6e5ff1d264c6c7da05a0101314f272640fe7"), looks := false }, kinds := [], alts := [], laidByText := true, laidKinds := [.data], laidTests := true, laidLooks := .later }
def NatFormsCardSaid : Prop := Claim7.holds Tryd.pinned (.plain (OpenSpec.ofChange natFormsSpec)) natFormsCard

/-- THE TIED CARD OF 'surdlaw02.MulProducts'. -/
def mulProductsCard : Claim7 := { stood := { row := mulProductsRow, standIns := [], harness := (true, "a703a74aa38fe59ea1e41cbf372b6e5ff1d264c6c7da05a0101314f272640fe7"), looks := false }, kinds := [], alts := [], laidByText := true, laidKinds := [.data], laidTests := true, laidLooks := .later }
def MulProductsCardSaid : Prop := Claim7.holds Tryd.pinned (.plain (OpenSpec.ofChange mulProductsSpec)) mulProductsCard

/-- THE TIED CARD OF 'surdlaw02.MulSquares'. -/
def mulSquaresCard : Claim7 := { stood := { row := mulSquaresRow, standIns := [], harness := (true, "a703a74aa38fe59ea1e41cbf372b6e5ff1d264c6c7da05a0101314f272640fe7"), looks := false }, kinds := [], alts := [], laidByText := true, laidKinds := [.data], laidTests := true, laidLooks := .later }
def MulSquaresCardSaid : Prop := Claim7.holds Tryd.pinned (.plain (OpenSpec.ofChange mulSquaresSpec)) mulSquaresCard

/-- THE TIED CARD OF 'surdlaw02.MulSplits'. -/
def mulSplitsCard : Claim7 := { stood := { row := mulSplitsRow, standIns := [], harness := (true, "a703a74aa38fe59ea1e41cbf372b6e5ff1d264c6c7da05a0101314f272640fe7"), looks := false }, kinds := [], alts := [], laidByText := true, laidKinds := [.data], laidTests := true, laidLooks := .later }
def MulSplitsCardSaid : Prop := Claim7.holds Tryd.pinned (.plain (OpenSpec.ofChange mulSplitsSpec)) mulSplitsCard

/-- THE TIED CARD OF 'surdlaw02.MulParts'. -/
def mulPartsCard : Claim7 := { stood := { row := mulPartsRow, standIns := [], harness := (true, "a703a74aa38fe59ea1e41cbf372b6e5ff1d264c6c7da05a0101314f272640fe7"), looks := false }, kinds := [], alts := [], laidByText := true, laidKinds := [.data], laidTests := true, laidLooks := .later }
def MulPartsCardSaid : Prop := Claim7.holds Tryd.pinned (.plain (OpenSpec.ofChange mulPartsSpec)) mulPartsCard

/-- THE SECOND FORM's CARD OF 'surdlaw01.NatForms'. -/
def natFormsUptoCard : Claim7 := { stood := { row := natFormsUptoRow, standIns := [], harness := (true, "a703a74aa38fe59ea1e41cbf372b6e5ff1d264c6c7da05a0101314f272640fe7"), looks := false }, kinds := [], alts := [], laidByText := true, laidKinds := [.data], laidTests := true, laidLooks := .later }
def NatFormsUptoCardSaid : Prop := Claim7.holds Tryd.pinned (.plain (OpenSpec.upto natFormsSpec)) natFormsUptoCard

/-- THE SECOND FORM's CARD OF 'surdlaw02.MulProducts'. -/
def mulProductsUptoCard : Claim7 := { stood := { row := mulProductsUptoRow, standIns := [], harness := (true, "a703a74aa38fe59ea1e41cbf372b6e5ff1d264c6c7da05a0101314f272640fe7"), looks := false }, kinds := [], alts := [], laidByText := true, laidKinds := [.data], laidTests := true, laidLooks := .later }
def MulProductsUptoCardSaid : Prop := Claim7.holds Tryd.pinned (.plain (OpenSpec.upto mulProductsSpec)) mulProductsUptoCard

/-- THE SECOND FORM's CARD OF 'surdlaw02.MulSquares'. -/
def mulSquaresUptoCard : Claim7 := { stood := { row := mulSquaresUptoRow, standIns := [], harness := (true, "a703a74aa38fe59ea1e41cbf372b6e5ff1d264c6c7da05a0101314f272640fe7"), looks := false }, kinds := [], alts := [], laidByText := true, laidKinds := [.data], laidTests := true, laidLooks := .later }
def MulSquaresUptoCardSaid : Prop := Claim7.holds Tryd.pinned (.plain (OpenSpec.upto mulSquaresSpec)) mulSquaresUptoCard

/-- THE SECOND FORM's CARD OF 'surdlaw02.MulSplits'. -/
def mulSplitsUptoCard : Claim7 := { stood := { row := mulSplitsUptoRow, standIns := [], harness := (true, "a703a74aa38fe59ea1e41cbf372b6e5ff1d264c6c7da05a0101314f272640fe7"), looks := false }, kinds := [], alts := [], laidByText := true, laidKinds := [.data], laidTests := true, laidLooks := .later }
def MulSplitsUptoCardSaid : Prop := Claim7.holds Tryd.pinned (.plain (OpenSpec.upto mulSplitsSpec)) mulSplitsUptoCard

/-- THE SECOND FORM's CARD OF 'surdlaw02.MulParts'. -/
def mulPartsUptoCard : Claim7 := { stood := { row := mulPartsUptoRow, standIns := [], harness := (true, "a703a74aa38fe59ea1e41cbf372b6e5ff1d264c6c7da05a0101314f272640fe7"), looks := false }, kinds := [], alts := [], laidByText := true, laidKinds := [.data], laidTests := true, laidLooks := .later }
def MulPartsUptoCardSaid : Prop := Claim7.holds Tryd.pinned (.plain (OpenSpec.upto mulPartsSpec)) mulPartsUptoCard
end Rows
end Go.Proofs.YtmloigbacfllhaaDoor
