/- The document's Sum of dyadics. -/
import Derived.Test.YtegbjdjpeblkoabGreatDoorDyRdZ
namespace Go.Proofs.YtegbjdjpeblkoabGreatDoor
open Go.RowKit
open Lm
attribute [local go_sem ↓] Go.wp_at_zero Go.wp_at_succ

/-- What the document's Sum answers: M times 2^E, or an error. -/
def SumR (w : World) (M E : Int) (e : Ending) (w' : World) : Prop :=
  (∃ b a n k E' f, e = .returned (.tuple #[.agg #[.bool b, .slice a n k, .int .i64 E'], .int .i64 f]) ∧
    ((f = 0 ∧ Dn w' b (.slice a n k) M ∧ E' = E ∧ blen M.natAbs ≤ 67108864 ∧ fitE E = true) ∨ (f = 3 ∧ 67108864 < blen M.natAbs) ∨ (f = 80 ∧ blen M.natAbs ≤ 67108864 ∧ fitE E = false))) ∧ Below w.heap.size w w'

end Go.Proofs.YtegbjdjpeblkoabGreatDoor
