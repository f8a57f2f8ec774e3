/- Package dyadic: plus, where none is 0 and the first one's exponent is the lower. -/
import Derived.Test.YtegbjdjpeblkoabGreatDoorDyVZ
namespace Go.Proofs.YtegbjdjpeblkoabGreatDoor
open Go.RowKit
open Lm
attribute [local go_sem ↓] Go.wp_at_zero Go.wp_at_succ

theorem dlt_false {a b : Int} (h : b ≤ a) : decide (a < b) = false := decide_eq_false (by omega)

theorem zz_pow (b : Bool) (x g : Nat) : zz b (x * 2 ^ g) = zz b x * 2 ^ g := by
  cases b <;> simp [zz, Int.neg_mul]

theorem plus_blen {M1 M2 : Int} {g n : Nat} (h1 : blen M1.natAbs ≤ n) (h2 : blen M2.natAbs + g ≤ n) : blen (M1 + M2 * 2 ^ g).natAbs ≤ n + 1 := by
  have h3 : blen (M2.natAbs * 2 ^ g) ≤ n := by
    by_cases h0 : M2.natAbs = 0
    · rw [h0, Nat.zero_mul]; exact Nat.le_trans (by decide) (Nat.zero_le n)
    · rw [blen_shl _ _ h0]; exact h2
  have h4 := blen_add8 n h1 h3
  have h5 : (M1 + M2 * 2 ^ g).natAbs ≤ M1.natAbs + M2.natAbs * 2 ^ g := by
    have := Int.natAbs_add_le M1 (M2 * 2 ^ g)
    rw [Int.natAbs_mul, Int.natAbs_pow] at this
    exact this
  have := blen_mono h5
  omega

theorem dlt_true {a b : Int} (h : a < b) : decide (a < b) = true := decide_eq_true h

/-- A sum of numbers far apart is long. -/
theorem plus_long {M1 M2 : Int} {g : Nat} (h0 : M2.natAbs ≠ 0) (hg : blen M1.natAbs + 1 < g) (h1 : M1.natAbs % 2 = 1) : g + blen M2.natAbs - 1 ≤ blen (omz (M1 + M2 * 2 ^ g)).natAbs := by
  have hodd : (M1 + M2 * 2 ^ g).natAbs % 2 = 1 := by
    obtain ⟨k, rfl⟩ : ∃ k, g = k + 1 := ⟨g - 1, by omega⟩
    have e : M1 + M2 * 2 ^ (k + 1) = M1 + 2 * (M2 * 2 ^ k) := by rw [Int.pow_succ]; grind
    rw [e]
    generalize M2 * 2 ^ k = q
    omega
  rw [(omz_odd hodd 0).1]
  have l1 := (blen_le_iff M1.natAbs _).1 (Nat.le_refl _)
  have l2 : ¬ M2.natAbs < 2 ^ (blen M2.natAbs - 1) := fun h => by
    have := (blen_le_iff _ _).2 h
    have : blen M2.natAbs ≠ 0 := fun h => h0 ((blen_zeroW _).1 h)
    omega
  have hb0 : blen M2.natAbs ≠ 0 := fun h => h0 ((blen_zeroW _).1 h)
  have h3 : M2.natAbs * 2 ^ g ≤ (M1 + M2 * 2 ^ g).natAbs + M1.natAbs := by
    have := Int.natAbs_add_le (M1 + M2 * 2 ^ g) (-M1)
    rw [Int.natAbs_neg, show M1 + M2 * 2 ^ g + -M1 = M2 * 2 ^ g by omega, Int.natAbs_mul, Int.natAbs_pow] at this
    exact this
  refine Nat.le_of_not_lt fun hlt => ?_
  have h4 := (blen_le_iff (M1 + M2 * 2 ^ g).natAbs (g + blen M2.natAbs - 2)).1 (by omega)
  have p1 : 2 ^ (blen M2.natAbs - 1) * 2 ^ g ≤ M2.natAbs * 2 ^ g := Nat.mul_le_mul_right _ (by omega)
  have e1 : 2 ^ (blen M2.natAbs - 1) * 2 ^ g = 2 ^ (g + blen M2.natAbs - 2) * 2 := by
    rw [← Nat.pow_add, ← Nat.pow_succ]; congr 1; omega
  have p2 : 2 ^ blen M1.natAbs ≤ 2 ^ (g + blen M2.natAbs - 2) := Nat.pow_le_pow_right (by omega) (by omega)
  omega

end Go.Proofs.YtegbjdjpeblkoabGreatDoor
