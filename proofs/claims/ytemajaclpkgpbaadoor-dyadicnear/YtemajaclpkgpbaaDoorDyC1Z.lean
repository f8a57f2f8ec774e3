/- Package dyadic: compareSizes. -/
import Derived.Test.YtemajaclpkgpbaaDoorDyCPZ
import Derived.Test.YtemajaclpkgpbaaDoorDyVZ
import Derived.Test.YtemajaclpkgpbaaDoorQ5
namespace Go.Proofs.YtemajaclpkgpbaaDoor
open Go.RowKit
open Lm
attribute [local go_sem ↓] Go.wp_at_zero Go.wp_at_succ

/-- The order by the tops, or that they are the same. -/
theorem tops_cmp {x y p q : Nat} {E1 E2 : Int} {L : Nat} (hx : x ≠ 0) (hy : y ≠ 0) (hp : (p : Int) = E1 + L) (hq : (q : Int) = E2 + L) :
    (cmpZ (E1 + (blen x : Int) - 1) (E2 + (blen y : Int) - 1) ≠ 0 → cmpZ (E1 + (blen x : Int) - 1) (E2 + (blen y : Int) - 1) = cmpN (x * 2 ^ p) (y * 2 ^ q)) ∧ (cmpZ (E1 + (blen x : Int) - 1) (E2 + (blen y : Int) - 1) = 0 → E1 + (blen x : Int) = E2 + (blen y : Int)) := by
  unfold cmpZ
  by_cases h1 : E1 + (blen x : Int) - 1 < E2 + (blen y : Int) - 1
  · rw [if_pos h1, cmpN_lt (top_lt hy (by omega))]
    exact ⟨fun _ => rfl, fun h => by omega⟩
  · rw [if_neg h1]
    by_cases h2 : E2 + (blen y : Int) - 1 < E1 + (blen x : Int) - 1
    · rw [if_pos h2, cmpN_gt (top_lt hx (by omega))]
      exact ⟨fun _ => rfl, fun h => by omega⟩
    · rw [if_neg h2]
      exact ⟨fun h => absurd rfl h, fun _ => by omega⟩

end Go.Proofs.YtemajaclpkgpbaaDoor
