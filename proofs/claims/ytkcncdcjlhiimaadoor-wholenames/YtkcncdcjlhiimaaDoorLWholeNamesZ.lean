/- The walk of the law WholeNames. -/
import Derived.Test.YtkcncdcjlhiimaaDoorQ4
namespace Go.Proofs.YtkcncdcjlhiimaaDoor
open Go.RowKit
open Lm
attribute [local go_sem ↓] Go.wp_at_zero Go.wp_at_succ

theorem wholeNames_walk (w : World) (hT : Tab w) : Calls Tryd.prog 3 #[] w fun e w' => e = .returned (.bool true) ∧ Below w.heap.size w w' := by
  have H := awake6_any w hT
  clear hT
  go_enter Tryd.func3, Tryd.ntmps3
  go_wp2_with fail
  refine (num6_any 60 w).mono ?_
  rintro e wn ⟨rfl, hw⟩; rw [hw]; clear hw wn
  go_wp2_with fail
  refine (num6_any 61 w).mono ?_
  rintro e wn ⟨rfl, hw⟩; rw [hw]; clear hw wn
  go_wp2_with fail
  refine (num6_any 62 w).mono ?_
  rintro e wn ⟨rfl, hw⟩; rw [hw]; clear hw wn
  go_wp2_with fail
  refine (num6_any 30 w).mono ?_
  rintro e wn ⟨rfl, hw⟩; rw [hw]; clear hw wn
  go_wp2_with fail
  refine H.mono ?_
  rintro e w4 ⟨rfl, hb⟩
  have HB := hide hb
  clear hb H
  go_wp2
  go_ret
  exact ⟨rfl, HB.out⟩

end Go.Proofs.YtkcncdcjlhiimaaDoor
