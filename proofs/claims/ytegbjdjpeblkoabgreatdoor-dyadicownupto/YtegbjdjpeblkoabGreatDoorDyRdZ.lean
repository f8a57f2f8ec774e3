/- The document's Add of any two dyadics; Sum. -/
import Derived.Test.YtegbjdjpeblkoabGreatDoorDyRcZ
import Derived.Test.YtegbjdjpeblkoabGreatDoorDyZZ
import Derived.Test.YtegbjdjpeblkoabGreatDoorDyKZ
namespace Go.Proofs.YtegbjdjpeblkoabGreatDoor
open Go.RowKit
open Lm
attribute [local go_sem ↓] Go.wp_at_zero Go.wp_at_succ

theorem Nr8.odd {M E : Int} (h : Nr8 M E) (h0 : M ≠ 0) : M.natAbs % 2 = 1 := by
  rcases h with ⟨h, _⟩ | h
  · exact absurd h h0
  · exact h

end Go.Proofs.YtegbjdjpeblkoabGreatDoor
