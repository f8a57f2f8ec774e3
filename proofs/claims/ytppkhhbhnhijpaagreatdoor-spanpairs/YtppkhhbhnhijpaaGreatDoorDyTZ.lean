/- What the laws of dyadics use: lent, of, mode. -/
import Derived.Test.YtppkhhbhnhijpaaGreatDoorDyKZ
import Derived.Test.YtppkhhbhnhijpaaGreatDoorDyMZ
namespace Go.Proofs.YtppkhhbhnhijpaaGreatDoor
open Go.RowKit
open Lm
attribute [local go_sem ↓] Go.wp_at_zero Go.wp_at_succ

end Go.Proofs.YtppkhhbhnhijpaaGreatDoor
