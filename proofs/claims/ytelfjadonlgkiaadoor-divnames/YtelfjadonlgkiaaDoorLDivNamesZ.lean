/- The walk of the law DivNames. -/
import Derived.Test.YtelfjadonlgkiaaDoorQM
namespace Go.Proofs.YtelfjadonlgkiaaDoor
open Go.RowKit
open Lm

theorem divNames_walk (w : World) (hT : Tab w) : Calls Tryd.prog 3 #[] w fun e w' => e = .returned (.bool true) ∧ Below w.heap.size w w' := by
  have H := lives3_any w hT
  go_enter Tryd.func3, Tryd.ntmps3
  go_wp2_with fail
  refine H.mono ?_
  rintro e w4 ⟨rfl, hb⟩
  have HB := hide hb
  clear hb H hT
  go_wp2
  go_ret
  exact ⟨rfl, HB.out⟩

end Go.Proofs.YtelfjadonlgkiaaDoor
