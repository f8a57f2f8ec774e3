/- The walk of the law RootNames. -/
import Derived.Test.YtlphlcmlkibmjaaDoorRootBZ
namespace Go.Proofs.YtlphlcmlkibmjaaDoor
open Go.RowKit
open Lm

theorem rootNames_walk (w : World) (_hT : Tab w) : Calls Tryd.prog 7 #[] w fun e w' => e = .returned (.bool true) ∧ Below w.heap.size w w' := by
  have H := awake4_any w
  go_enter Tryd.func7, Tryd.ntmps7
  go_wp2_with fail
  refine (num4_any 40 w).mono ?_
  rintro e wn ⟨rfl, hw⟩; rw [hw]; clear hw wn
  go_wp2_with fail
  refine (num4_any 30 w).mono ?_
  rintro e wn ⟨rfl, hw⟩; rw [hw]; clear hw wn
  go_wp2_with fail
  refine (num4_any 1 w).mono ?_
  rintro e wn ⟨rfl, hw⟩; rw [hw]; clear hw wn
  go_wp2_with fail
  refine (num4_any 3 w).mono ?_
  rintro e wn ⟨rfl, hw⟩; rw [hw]; clear hw wn
  go_wp2_with fail
  refine H.mono ?_
  rintro e w4 ⟨rfl, hb⟩
  have HB := hide hb
  clear hb H
  go_wp2
  go_ret
  exact ⟨rfl, HB.out⟩

end Go.Proofs.YtlphlcmlkibmjaaDoor
