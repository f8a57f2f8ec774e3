/- The walk of the law RoundedNames. -/
import Derived.Test.YtppblbhkghjphaaGreatDoorQQ
namespace Go.Proofs.YtppblbhkghjphaaGreatDoor
open Go.RowKit
open Lm
attribute [local go_sem ↓] Go.wp_at_zero Go.wp_at_succ

theorem roundedNames_walk (w : World) (hT : Tab w) : Calls Tryz.prog 3 #[] w fun e w' => e = .returned (.bool true) ∧ Below w.heap.size w w' := by
  have H := lives_any w hT
  clear hT
  go_enter Tryz.func3, Tryz.ntmps3
  go_wp2_with fail
  refine H.mono ?_
  rintro e w4 ⟨rfl, hb⟩
  have HB := hide hb
  clear hb H
  go_wp2
  go_ret
  exact ⟨rfl, HB.out⟩

end Go.Proofs.YtppblbhkghjphaaGreatDoor
