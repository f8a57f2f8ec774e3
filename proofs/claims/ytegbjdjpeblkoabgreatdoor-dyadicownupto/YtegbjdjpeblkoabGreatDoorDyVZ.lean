/- Package dyadic: length, top, plus. -/
import Derived.Test.YtegbjdjpeblkoabGreatDoorDyUZ
namespace Go.Proofs.YtegbjdjpeblkoabGreatDoor
open Go.RowKit
open Lm
attribute [local go_sem ↓] Go.wp_at_zero Go.wp_at_succ

/-- What plus answers: M and E are the sum's, as it is normal. -/
def YPlus (w : World) (M E : Int) (e : Ending) (w' : World) : Prop :=
  ((∃ b a n k X z ex, e = .returned (.tuple #[.agg #[.bool b, .slice a n k, .int .i64 ex], .int .i64 0]) ∧ n = X.length ∧ Nm w' b (.slice a n k) X z ∧ omz z = M ∧ oe z ex = E ∧ -2305843009213693952 ≤ ex ∧ ex ≤ 2305843009213693952 ∧ X.length ≤ 35184372088800) ∨
    (e = .returned (.tuple #[.agg #[.bool false, .slice none 0 0, .int .i64 0], .int .i64 3]) ∧ 67108864 < blen M.natAbs)) ∧ Below w.heap.size w w'

end Go.Proofs.YtegbjdjpeblkoabGreatDoor
