/- The document's Shift upwards. -/
import Derived.Test.YtegbjdjpeblkoabGreatDoorQ9
import Derived.Test.YtegbjdjpeblkoabGreatDoorQ3
import Derived.Test.YtegbjdjpeblkoabGreatDoorQG
namespace Go.Proofs.YtegbjdjpeblkoabGreatDoor
open Go.RowKit
open Lm
attribute [local go_sem ↓] Go.wp_at_zero Go.wp_at_succ

theorem zz_shift (b : Bool) (x n : Nat) : zz b (x * 2 ^ n) = zz b x * 2 ^ n := by cases b <;> simp [zz, Int.neg_mul]

end Go.Proofs.YtegbjdjpeblkoabGreatDoor
