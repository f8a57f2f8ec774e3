/- Plain facts: division, digit by digit. -/
import Derived.Test.YthpihbofcgeljaaP35
namespace Go.Proofs.Ythpihbofcgeljaa
open Lm

theorem vb_drop_cons (B : Nat) (X : List Nat) (j : Nat) (h : j < X.length) : vb B (X.drop j) = X.getD j 0 + B * vb B (X.drop (j + 1)) := by
  rw [List.drop_eq_getElem_cons h, vb]
  simp [List.getD, h]

theorem vb_drop_set (B : Nat) (out : List Nat) (j q : Nat) (h : j < out.length) : vb B ((out.set j q).drop j) = q + B * vb B (out.drop (j + 1)) := by
  rw [vb_drop_cons B _ j (by simpa using h)]
  congr 1
  · simp [List.getD, h]
  · congr 2
    rw [List.drop_set_of_lt (by omega)]

/-- A digit is brought down and divided. -/
theorem rdiv_step (X out : List Nat) (j y R q R2 : Nat) (hX : j < X.length) (ho : j < out.length)
    (h : vb 4294967296 (X.drop (j + 1)) = vb 4294967296 (out.drop (j + 1)) * y + R) (hq : R * 2 ^ 32 + X.getD j 0 = q * y + R2) :
    vb 4294967296 (X.drop j) = vb 4294967296 ((out.set j q).drop j) * y + R2 := by
  rw [vb_drop_cons _ X j hX, vb_drop_set _ _ _ _ ho, h]
  have e : (2 : Nat) ^ 32 = 4294967296 := by decide
  rw [e] at hq
  generalize vb 4294967296 (out.drop (j + 1)) = V at *
  generalize X.getD j 0 = x at *
  grind

theorem half_down (y R t : Nat) (h : R < y * 2 ^ (t + 1)) (hge : y * 2 ^ t ≤ R) : R - y * 2 ^ t < y * 2 ^ t := by
  rw [Nat.pow_succ, ← Nat.mul_assoc] at h
  omega

theorem half_sum (y R R2 q t : Nat) (h : R = q * y + R2) (hge : y * 2 ^ t ≤ R2) : R = (q + 2 ^ t) * y + (R2 - y * 2 ^ t) := by
  rw [Nat.add_mul, Nat.mul_comm (2 ^ t) y]
  omega

theorem rest_lt (y R x : Nat) (hR : R < y) (hx : x < 4294967296) : R * 2 ^ 32 + x < y * 2 ^ 32 := by
  have h1 : (R + 1) * 2 ^ 32 ≤ y * 2 ^ 32 := Nat.mul_le_mul_right _ hR
  have e : (2 : Nat) ^ 32 = 4294967296 := by decide
  rw [Nat.add_mul, Nat.one_mul] at h1
  omega

theorem div_end (x y V R : Nat) (h : x = V * y + R) (hR : R < y) : V = x / y ∧ R = x % y := by
  subst h
  rw [Nat.mul_comm]
  refine ⟨?_, ?_⟩
  · rw [Nat.mul_add_div (by omega), Nat.div_eq_of_lt hR, Nat.add_zero]
  · rw [Nat.mul_add_mod, Nat.mod_eq_of_lt hR]

theorem blen_lt_mono {a b : Nat} (h : a < b) : blen a ≤ blen b := blen_mono (Nat.le_of_lt h)

theorem blen_shift (y n : Nat) : blen (y * 2 ^ n) ≤ blen y + n := by
  rw [blen_le_iff, Nat.pow_add]
  exact Nat.mul_lt_mul_of_pos_right ((blen_le_iff _ _).1 (Nat.le_refl _)) (Nat.two_pow_pos _)

end Go.Proofs.Ythpihbofcgeljaa
