/- Plain facts: two sizes held against each other from the top down. -/
import Derived.Test.YtppkhhbhnhijpaaGreatDoorDyZZ
import Derived.Test.YtppkhhbhnhijpaaGreatDoorQ3
namespace Go.Proofs.YtppkhhbhnhijpaaGreatDoor
open Go.RowKit
open Lm

/-- One limb more of the front. -/
theorem fl_next (x : Nat) (n : Int) : fl x (n + 64) / 18446744073709551616 = fl x n := by
  obtain ⟨p, hp⟩ : ∃ p : Nat, 0 ≤ (p : Int) - n - 64 := ⟨(n + 64).toNat, by omega⟩
  rw [fl_quo x (n + 64) p (by omega), fl_quo x n p (by omega), Nat.div_div_eq_div_mul, show (18446744073709551616 : Nat) = 2 ^ 64 from rfl, ← Nat.pow_add]
  congr 2
  omega

/-- The fronts are the same: so is the next, or its limb tells them apart. -/
theorem front_step {x y : Nat} {n m : Int} (h : fl x n = fl y m) : cmpN (fl x (n + 64)) (fl y (m + 64)) = cmpN (fl x (n + 64) % 18446744073709551616) (fl y (m + 64) % 18446744073709551616) := by
  have h1 := fl_next x n
  have h2 := fl_next y m
  rw [← h] at h2
  generalize fl x (n + 64) = a at *
  generalize fl y (m + 64) = b at *
  have e1 := Nat.div_add_mod a 18446744073709551616
  have e2 := Nat.div_add_mod b 18446744073709551616
  rw [h1] at e1
  rw [h2] at e2
  generalize fl x n = q at *
  rcases Nat.lt_trichotomy a b with hl | hl | hl
  · rw [cmpN_lt hl, cmpN_lt (by omega)]
  · rw [hl, cmpN_self, cmpN_self]
  · rw [cmpN_gt hl, cmpN_gt (by omega)]

/-- A lesser front: a lesser number. -/
theorem front_lt {x y : Nat} {n m : Int} {d : Nat} {p q : Nat} (hp : (p : Int) = d + n) (hq : (q : Int) = d + m) (h : fl x n < fl y m) : x * 2 ^ p < y * 2 ^ q := by
  rw [fl_quo x n p (by omega), fl_quo y m q (by omega), show ((p : Int) - n).toNat = d by omega, show ((q : Int) - m).toNat = d by omega] at h
  refine Nat.lt_of_not_le fun hle => ?_
  have := Nat.div_le_div_right (c := 2 ^ d) hle
  omega

theorem front_eq {x y : Nat} {n m : Int} {d : Nat} {p q : Nat} (hp : (p : Int) = d + n) (hq : (q : Int) = d + m) (hn : 0 ≤ n) (hm : 0 ≤ m) (h : fl x n = fl y m) : x * 2 ^ p = y * 2 ^ q := by
  have e1 : fl x n = x * 2 ^ n.toNat := by unfold fl; rw [if_pos hn]
  have e2 : fl y m = y * 2 ^ m.toNat := by unfold fl; rw [if_pos hm]
  rw [e1, e2] at h
  rw [show p = n.toNat + d by omega, show q = m.toNat + d by omega, Nat.pow_add, Nat.pow_add, ← Nat.mul_assoc, ← Nat.mul_assoc, h]

/-- A lower top: a lesser number. -/
theorem top_lt {x y p q : Nat} (hy : y ≠ 0) (h : p + blen x < q + blen y) : x * 2 ^ p < y * 2 ^ q := by
  have h1 := (blen_le_iff x (blen x)).1 (Nat.le_refl _)
  have hb0 : blen y ≠ 0 := fun h0 => hy ((blen_zeroW _).1 h0)
  have h2 : ¬ y < 2 ^ (blen y - 1) := fun hh => by have := (blen_le_iff y (blen y - 1)).2 hh; omega
  have h3 : x * 2 ^ p < 2 ^ blen x * 2 ^ p := (Nat.mul_lt_mul_right (Nat.two_pow_pos p)).2 h1
  have h4 : 2 ^ (blen y - 1) * 2 ^ q ≤ y * 2 ^ q := Nat.mul_le_mul_right _ (by omega)
  have h5 : 2 ^ blen x * 2 ^ p ≤ 2 ^ (blen y - 1) * 2 ^ q := by
    rw [← Nat.pow_add, ← Nat.pow_add]; exact Nat.pow_le_pow_right (by omega) (by omega)
  omega

theorem cmpN_iff (a b : Nat) : (cmpN a b = -1 ↔ a < b) ∧ (cmpN a b = 1 ↔ b < a) ∧ (cmpN a b = 0 ↔ a = b) := by
  rcases cmpN_range a b with h | h | h <;> omega

theorem fl_top (x : Nat) : fl x (-((blen x : Nat) : Int)) = 0 := by
  rw [fl_down]
  exact Nat.div_eq_of_lt ((blen_le_iff x _).1 (Nat.le_refl _))

/-- How two numbers that are not 0 stand by their fronts. -/
theorem front_cmp {x y : Nat} {n m : Int} {d p q : Nat} (hp : (p : Int) = d + n) (hq : (q : Int) = d + m) (h : fl x n ≠ fl y m) : cmpN (x * 2 ^ p) (y * 2 ^ q) = cmpN (fl x n) (fl y m) := by
  rcases Nat.lt_trichotomy (fl x n) (fl y m) with h1 | h1 | h1
  · rw [cmpN_lt h1, cmpN_lt (front_lt hp hq h1)]
  · exact absurd h1 h
  · rw [cmpN_gt h1, cmpN_gt (front_lt hq hp h1)]

end Go.Proofs.YtppkhhbhnhijpaaGreatDoor
