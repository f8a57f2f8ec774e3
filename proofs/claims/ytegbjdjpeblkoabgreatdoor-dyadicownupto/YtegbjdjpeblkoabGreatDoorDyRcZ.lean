/- The document's Add of two dyadics that are not 0. -/
import Derived.Test.YtegbjdjpeblkoabGreatDoorDyRbZ
namespace Go.Proofs.YtegbjdjpeblkoabGreatDoor
open Go.RowKit
open Lm
attribute [local go_sem ↓] Go.wp_at_zero Go.wp_at_succ

end Go.Proofs.YtegbjdjpeblkoabGreatDoor
