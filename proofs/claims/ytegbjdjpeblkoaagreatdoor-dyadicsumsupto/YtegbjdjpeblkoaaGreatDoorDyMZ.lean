/- Package dyadic: isMode, goesAway, rounded. -/
import Derived.Test.YtegbjdjpeblkoaaGreatDoorDyLZ
import Derived.Test.YtegbjdjpeblkoaaGreatDoorQJ
namespace Go.Proofs.YtegbjdjpeblkoaaGreatDoor
open Go.RowKit
open Lm
attribute [local go_sem ↓] Go.wp_at_zero Go.wp_at_succ

/-- Is what is rounded the next one away from 0? -/
def ga (b : Bool) (x d : Nat) (m : Int) : Bool := if m = 0 then b else if m = 1 then !b else if d = 1 then decide (x / 2 ^ 1 % 2 = 1) else decide (x / 2 ^ (d - 1) % 2 = 1)

/-- The size of what is rounded, in steps. -/
def rq (b : Bool) (x d : Nat) (m : Int) : Nat := x / 2 ^ d + if ga b x d m then 1 else 0

def isM (m : Int) : Bool := decide (0 ≤ m) && decide (m ≤ 2)

theorem isM_iff (m : Int) : isM m = true ↔ m = 0 ∨ m = 1 ∨ m = 2 := by simp [isM]; omega

theorem bit_eq_one (y : Nat) : (((y % 2 : Nat) : Int) == 1) = decide (y % 2 = 1) := by
  by_cases h : y % 2 = 1
  · rw [h]; rfl
  · have : y % 2 = 0 := by omega
    rw [this]; rfl

/-- A number of the program's. -/
def YNum (w : World) (z ex : Int) (e : Ending) (w' : World) : Prop :=
  (∃ b a n k X, e = .returned (.agg #[.bool b, .slice a n k, .int .i64 ex]) ∧ n = X.length ∧ Nm w' b (.slice a n k) X z) ∧ Below w.heap.size w w'

end Go.Proofs.YtegbjdjpeblkoaaGreatDoor
