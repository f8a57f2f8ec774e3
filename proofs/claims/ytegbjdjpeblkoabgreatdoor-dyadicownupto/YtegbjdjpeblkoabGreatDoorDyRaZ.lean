/- The document's Add of dyadics, where one of them is 0; where the first has the higher exponent. -/
import Derived.Test.YtegbjdjpeblkoabGreatDoorDyRnZ
import Derived.Test.YtegbjdjpeblkoabGreatDoorRzSZ
import Derived.Test.YtegbjdjpeblkoabGreatDoorDyV2Z
namespace Go.Proofs.YtegbjdjpeblkoabGreatDoor
open Go.RowKit
open Lm
attribute [local go_sem ↓] Go.wp_at_zero Go.wp_at_succ

/-- What the document's Add answers: M times 2^E, or that it is too big. -/
def AddR (w : World) (M E : Int) (e : Ending) (w' : World) : Prop :=
  (∃ b a n k E' ok, e = .returned (.tuple #[.agg #[.bool b, .slice a n k, .int .i64 E'], .bool ok]) ∧ ((ok = true ∧ Dn w' b (.slice a n k) M ∧ E' = E) ∨ (ok = false ∧ 67108864 < blen M.natAbs))) ∧ Below w.heap.size w w'

end Go.Proofs.YtegbjdjpeblkoabGreatDoor
