/- The walk of the law MulNames. -/
import Derived.Test.YthfakkmghoijkaaDoorAwake
namespace Go.Proofs.YthfakkmghoijkaaDoor
open Go.RowKit
open Lm

theorem mulNames_walk (w : World) (hT : Tab w) : Calls Tryd.prog 3 #[] w fun e w' => e = .returned (.bool true) ∧ Below w.heap.size w w' := by
  have H := awake_any w hT
  go_enter Tryd.func3, Tryd.ntmps3
  go_wp2_with fail
  refine (num_any 1 w).mono ?_
  rintro e w2 ⟨rfl, hw⟩; subst hw
  go_wp2_with fail
  refine (num_any 3 w2).mono ?_
  rintro e w3 ⟨rfl, hw⟩; subst hw
  go_wp2_with fail
  refine H.mono ?_
  rintro e w4 ⟨rfl, hb⟩
  have HB := hide hb
  clear hb H hT
  go_wp2
  go_ret
  exact ⟨rfl, HB.out⟩

end Go.Proofs.YthfakkmghoijkaaDoor
