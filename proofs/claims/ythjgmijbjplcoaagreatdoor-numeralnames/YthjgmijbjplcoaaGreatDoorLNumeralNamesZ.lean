/- The walk of the law NumeralNames. -/
import Derived.Test.YthjgmijbjplcoaaGreatDoorQY
namespace Go.Proofs.YthjgmijbjplcoaaGreatDoor
open Go.RowKit
open Lm
attribute [local go_sem ↓] Go.wp_at_zero Go.wp_at_succ

theorem numeralNames_walk (w : World) (hT : Tab w) :
    Calls Tryz.prog 3 #[] w fun e w' => e = .returned (.bool true) ∧ Below w.heap.size w w' := by
  have HL := lives5_any w hT
  clear hT
  go_enter Tryz.func3, Tryz.ntmps3
  go_wp2_with fail
  refine HL.mono ?_
  rintro e w1 ⟨rfl, hb⟩
  have HB := hide hb
  clear HL hb
  go_wp2
  go_ret
  exact ⟨rfl, HB.out⟩

end Go.Proofs.YthjgmijbjplcoaaGreatDoor
