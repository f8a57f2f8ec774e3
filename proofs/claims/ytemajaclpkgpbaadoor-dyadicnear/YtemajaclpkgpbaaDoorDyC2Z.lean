/- Package dyadic: compare, Compare, Sign. -/
import Derived.Test.YtemajaclpkgpbaaDoorDyC1Z
namespace Go.Proofs.YtemajaclpkgpbaaDoor
open Go.RowKit
open Lm
attribute [local go_sem ↓] Go.wp_at_zero Go.wp_at_succ

theorem zz_pow2 (b : Bool) (x g : Nat) : zz b x * 2 ^ g = zz b (x * 2 ^ g) := by cases b <;> simp [zz, Int.neg_mul]

theorem sg_cmp (b1 : Bool) (x : Nat) (b2 : Bool) (y : Nat) (p q : Nat) :
    (cmpZ (sg b1 x) (sg b2 y) ≠ 0 → cmpZ (sg b1 x) (sg b2 y) = cmpZ (zz b1 x * 2 ^ p) (zz b2 y * 2 ^ q)) ∧ (cmpZ (sg b1 x) (sg b2 y) = 0 → sg b1 x = sg b2 y) ∧ (cmpZ (sg b1 x) (sg b2 y) = 0 → sg b1 x = 0 → cmpZ (zz b1 x * 2 ^ p) (zz b2 y * 2 ^ q) = 0) ∧
    (sg b1 x = sg b2 y → sg b1 x * cmpN (x * 2 ^ p) (y * 2 ^ q) = cmpZ (zz b1 x * 2 ^ p) (zz b2 y * 2 ^ q)) := by
  rw [zz_pow2, zz_pow2]
  have hA : x * 2 ^ p = 0 ↔ x = 0 := by
    have := Nat.two_pow_pos p
    rw [Nat.mul_eq_zero]; omega
  have hB : y * 2 ^ q = 0 ↔ y = 0 := by
    have := Nat.two_pow_pos q
    rw [Nat.mul_eq_zero]; omega
  generalize x * 2 ^ p = A at *
  generalize y * 2 ^ q = B at *
  unfold cmpZ cmpN sg zz
  by_cases hx : x = 0
  · have hA0 : A = 0 := hA.2 hx
    subst hA0
    by_cases hy : y = 0
    · have hB0 : B = 0 := hB.2 hy
      subst hB0
      cases b1 <;> cases b2 <;> simp [hx, hy]
    · have hB0 : B ≠ 0 := fun h => hy (hB.1 h)
      cases b1 <;> cases b2 <;> simp [hx, hy] <;> omega
  · have hA0 : A ≠ 0 := fun h => hx (hA.1 h)
    by_cases hy : y = 0
    · have hB0 : B = 0 := hB.2 hy
      subst hB0
      cases b1 <;> cases b2 <;> simp [hx, hy] <;> omega
    · have hB0 : B ≠ 0 := fun h => hy (hB.1 h)
      cases b1 <;> cases b2 <;> simp [hx, hy] <;> omega

theorem sg_val (b : Bool) (x : Nat) : (sg b x = 0 ↔ x = 0) ∧ -1 ≤ sg b x ∧ sg b x ≤ 1 := by
  unfold sg
  by_cases h : x = 0
  · simp [h]
  · cases b <;> simp [h]

end Go.Proofs.YtemajaclpkgpbaaDoor
