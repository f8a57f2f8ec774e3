/- Plain facts: what is rounded, at one scale. -/
import Derived.Test.YtppkhhbhnhijpaaGreatDoorDyRZ
import Derived.Test.YtppkhhbhnhijpaaGreatDoorDyZZ
namespace Go.Proofs.YtppkhhbhnhijpaaGreatDoor
open Go.RowKit
open Lm

def rvQ (m V : Int) (P : Nat) : Int :=
  if m = 0 then V / (P : Int) else if m = 1 then -((-V) / (P : Int)) else if (P : Int) < 2 * (V % (P : Int)) ∨ (2 * (V % (P : Int)) = (P : Int) ∧ V / (P : Int) % 2 = 1) then V / (P : Int) + 1 else V / (P : Int)

/-- V at a multiple of P. -/
def rv (m V : Int) (P : Nat) : Int := rvQ m V P * (P : Int)

theorem rv_mult {m V : Int} {P : Nat} (hP : 0 < P) (h : V % (P : Int) = 0) : rv m V P = V := by
  have h1 := Int.mul_ediv_add_emod V (P : Int)
  rw [h, Int.add_zero, Int.mul_comm] at h1
  unfold rv rvQ
  split
  · exact h1
  · split
    · rw [Int.neg_ediv_of_dvd (Int.dvd_of_emod_eq_zero h), Int.neg_neg]; exact h1
    · rw [if_neg, h1]
      rw [h]; omega

theorem rv_rest (m V : Int) (P : Nat) : rv m V P % (P : Int) = 0 := by unfold rv; exact Int.mul_emod_left _ _

theorem rvQ_scale (m V : Int) (P T : Nat) (hT : 0 < T) : rvQ m (V * (T : Int)) (P * T) = rvQ m V P := by
  have hT' : (0 : Int) < (T : Int) := by omega
  have e1 : V * (T : Int) / ((P * T : Nat) : Int) = V / (P : Int) := by
    rw [Int.natCast_mul]; exact Int.mul_ediv_mul_of_pos_left _ _ hT'
  have e2 : -(V * (T : Int)) / ((P * T : Nat) : Int) = -V / (P : Int) := by
    rw [Int.natCast_mul, ← Int.neg_mul]; exact Int.mul_ediv_mul_of_pos_left _ _ hT'
  have e3 : V * (T : Int) % ((P * T : Nat) : Int) = V % (P : Int) * (T : Int) := by
    rw [Int.natCast_mul]
    have h1 := Int.mul_ediv_add_emod V (P : Int)
    have h2 := Int.mul_ediv_add_emod (V * (T : Int)) ((P : Int) * (T : Int))
    rw [Int.mul_ediv_mul_of_pos_left _ _ hT'] at h2
    generalize V / (P : Int) = q at *
    generalize V % (P : Int) = r at *
    rw [← h1] at h2 ⊢
    grind
  unfold rvQ
  rw [e1, e2, e3]
  have c1 : ((P * T : Nat) : Int) < 2 * (V % (P : Int) * (T : Int)) ↔ (P : Int) < 2 * (V % (P : Int)) := by
    rw [Int.natCast_mul, ← Int.mul_assoc]
    exact ⟨fun h => Int.lt_of_mul_lt_mul_right h (by omega), fun h => Int.mul_lt_mul_of_pos_right h hT'⟩
  have c2 : 2 * (V % (P : Int) * (T : Int)) = ((P * T : Nat) : Int) ↔ 2 * (V % (P : Int)) = (P : Int) := by
    rw [Int.natCast_mul, ← Int.mul_assoc]
    exact ⟨fun h => Int.eq_of_mul_eq_mul_right (by omega) h, fun h => by rw [h]⟩
  simp only [c1, c2]

theorem rv_scale (m V : Int) (P T : Nat) (hT : 0 < T) : rv m (V * (T : Int)) (P * T) = rv m V P * (T : Int) := by
  unfold rv
  rw [rvQ_scale m V P T hT, Int.natCast_mul, Int.mul_assoc]

theorem rv_mono (m : Int) {V1 V2 : Int} (P : Nat) (hP : 0 < P) (h : V1 ≤ V2) : rv m V1 P ≤ rv m V2 P := by
  have hP' : (0 : Int) < (P : Int) := by omega
  have hq : V1 / (P : Int) ≤ V2 / (P : Int) := Int.ediv_le_ediv hP' h
  have hn : -V2 / (P : Int) ≤ -V1 / (P : Int) := Int.ediv_le_ediv hP' (by omega)
  unfold rv
  refine Int.mul_le_mul_of_nonneg_right ?_ (by omega)
  unfold rvQ
  split
  · exact hq
  · split
    · omega
    · have a1 := Int.mul_ediv_add_emod V1 (P : Int)
      have a2 := Int.mul_ediv_add_emod V2 (P : Int)
      by_cases he : V1 / (P : Int) = V2 / (P : Int)
      · rw [he] at a1 ⊢
        have hr : V1 % (P : Int) ≤ V2 % (P : Int) := by omega
        generalize V2 / (P : Int) = q at *
        generalize V2 % (P : Int) = r2 at *
        generalize V1 % (P : Int) = r1 at *
        clear a1 a2 hq hn
        split
        · rw [if_pos (by omega)]; omega
        · split <;> omega
      · have : V1 / (P : Int) + 1 ≤ V2 / (P : Int) := by omega
        split <;> split <;> omega

theorem rv_twice {m : Int} (hm : m = 0 ∨ m = 1) (V : Int) (P Q : Nat) (hP : 0 < P) : rv m (rv m V P) (P * Q) = rv m V (P * Q) := by
  have hP' : (0 : Int) < (P : Int) := by omega
  have k (X : Int) : X / (P : Int) * (P : Int) / ((P * Q : Nat) : Int) = X / ((P * Q : Nat) : Int) := by
    rw [Int.natCast_mul, ← Int.ediv_ediv_of_nonneg (by omega), ← Int.ediv_ediv_of_nonneg (by omega), Int.mul_ediv_cancel _ (by omega)]
  unfold rv rvQ
  rcases hm with rfl | rfl
  · simp only [if_true]
    rw [k]
  · simp only [show ¬ (1 : Int) = 0 by decide, if_true, if_false]
    rw [show -(-(-V / (P : Int)) * (P : Int)) = -V / (P : Int) * (P : Int) by rw [Int.neg_mul, Int.neg_neg], k]

theorem flq_ediv (y : Int) (P : Nat) (hP : 0 < P) : flq y (P : Int) = y / (P : Int) := by
  have hP' : (0 : Int) < (P : Int) := by omega
  have e1 : decide ((P : Int) < 0) = false := decide_eq_false (by omega)
  have h1 := Nat.div_add_mod y.natAbs P
  have h2 := Nat.mod_lt y.natAbs hP
  unfold flq
  rw [e1, Int.natAbs_natCast]
  generalize hq : y.natAbs / P = q at *
  generalize hr : y.natAbs % P = r at *
  have h3 : (y.natAbs : Int) = (P : Int) * (q : Int) + (r : Int) := by rw [← h1]; simp
  by_cases hy : y < 0
  · rw [decide_eq_true hy]
    have h4 : y = -((P : Int) * (q : Int) + (r : Int)) := by omega
    by_cases h0 : r = 0
    · subst h0
      have : y = -(q : Int) * (P : Int) := by rw [h4, Int.neg_mul, Int.mul_comm]; simp
      rw [this, Int.mul_ediv_cancel _ (by omega)]
      simp [zz]
    · have : y = ((P : Int) - (r : Int)) + (-(q : Int) - 1) * (P : Int) := by rw [h4, Int.sub_mul, Int.neg_mul, Int.one_mul, Int.mul_comm (q : Int)]; omega
      rw [this, Int.add_mul_ediv_right _ _ (by omega), Int.ediv_eq_zero_of_lt (by omega) (by omega)]
      simp [zz, h0]
  · rw [decide_eq_false hy]
    have h4 : y = (r : Int) + (q : Int) * (P : Int) := by rw [Int.mul_comm]; omega
    rw [h4, Int.add_mul_ediv_right _ _ (by omega), Int.ediv_eq_zero_of_lt (by omega) (by omega)]
    simp [zz]

theorem flq_emod (y : Int) (P : Nat) (hP : 0 < P) : y - flq y (P : Int) * (P : Int) = y % (P : Int) := by
  rw [flq_ediv y P hP]
  have := Int.mul_ediv_add_emod y (P : Int)
  rw [Int.mul_comm] at this
  omega

theorem ceq_rv (y : Int) (P : Nat) (hP : 0 < P) : ceq y (P : Int) = rvQ 1 y P := by
  unfold ceq rvQ
  rw [flq_emod y P hP, flq_ediv y P hP, if_neg (show ¬ (1 : Int) = 0 by decide), if_pos (show (1 : Int) = 1 from rfl)]
  have h1 := Int.mul_ediv_add_emod y (P : Int)
  have h2 := Int.emod_nonneg y (show (P : Int) ≠ 0 by omega)
  have h3 := Int.emod_lt_of_pos y (show (0 : Int) < (P : Int) by omega)
  generalize y / (P : Int) = q at *
  generalize y % (P : Int) = r at *
  split
  · rename_i h
    have : -y = (-q) * (P : Int) := by rw [← h1, h, Int.neg_mul, Int.mul_comm]; omega
    rw [this, Int.mul_ediv_cancel _ (by omega), Int.neg_neg]
  · have : -y = ((P : Int) - r) + (-q - 1) * (P : Int) := by rw [← h1, Int.sub_mul, Int.neg_mul, Int.one_mul, Int.mul_comm q]; omega
    rw [this, Int.add_mul_ediv_right _ _ (by omega), Int.ediv_eq_zero_of_lt (by omega) (by omega)]
    omega

theorem neq_rv (y : Int) (P : Nat) (hP : 0 < P) : neq y (P : Int) = rvQ 2 y P := by
  unfold neq nearC rvQ
  rw [flq_emod y P hP, flq_ediv y P hP, if_neg (show ¬ (2 : Int) = 0 by decide), if_neg (show ¬ (2 : Int) = 1 by decide), Int.natAbs_natCast]
  have h2 := Int.emod_nonneg y (show (P : Int) ≠ 0 by omega)
  have e : (decide (P < (y % (P : Int)).natAbs * 2) || decide ((y % (P : Int)).natAbs * 2 = P) && decide ((y / (P : Int)).natAbs % 2 = 1)) = decide ((P : Int) < 2 * (y % (P : Int)) ∨ (2 * (y % (P : Int)) = (P : Int) ∧ y / (P : Int) % 2 = 1)) := by
    rw [← Bool.decide_and, ← Bool.decide_or]
    refine decide_eq_decide.2 ?_
    omega
  rw [e]
  simp only [decide_eq_true_eq]

theorem rq_rv {m : Int} (hm : m = 0 ∨ m = 1 ∨ m = 2) (b : Bool) (x s : Nat) (hx : x % 2 = 1) (hs : 0 < s) : zz b (rq b x s m) = rvQ m (zz b x) (2 ^ s) := by
  have hP : 0 < 2 ^ s := Nat.two_pow_pos s
  rcases hm with rfl | rfl | rfl
  · rw [← rq_floor b x s hx hs, flq_ediv _ _ hP]; simp [rvQ]
  · rw [← rq_ceil b x s hx hs, ceq_rv _ _ hP]
  · rw [← rq_near b x s hx hs, neq_rv _ _ hP]

theorem rnd_rv {L : Nat} {M E V pos m : Int} (hr : Rp L M E V) (hn : Nr8 M E) (hp : 0 ≤ pos + L) (hm : m = 0 ∨ m = 1 ∨ m = 2) : Rp L (rndM M E pos m) (rndE M E pos) (rv m V (2 ^ (pos + L).toNat)) := by
  have hP : 0 < 2 ^ (pos + L).toNat := Nat.two_pow_pos _
  obtain ⟨h1, h2⟩ := hr
  by_cases h0 : M = 0
  · unfold rndM rndE
    rw [if_pos (.inl h0), if_pos (.inl h0)]
    have hV : V = 0 := by rw [← h2, h0, Int.zero_mul]
    rw [hV, rv_mult hP (by simp)]
    exact ⟨h1, by rw [h0, Int.zero_mul]⟩
  by_cases he : pos ≤ E
  · unfold rndM rndE
    rw [if_pos (.inr he), if_pos (.inr he), rv_mult hP]
    · exact ⟨h1, h2⟩
    · rw [← h2, show (E + L).toNat = (E - pos).toNat + (pos + L).toNat by omega, Int.pow_add, ← Int.mul_assoc, Int.natCast_pow]
      exact Int.mul_emod_left _ _
  · have hc : ¬ (M = 0 ∨ pos ≤ E) := by omega
    unfold rndM rndE
    rw [if_neg hc, if_neg hc]
    refine ⟨hp, ?_⟩
    have hodd : M.natAbs % 2 = 1 := by
      rcases hn with ⟨h, _⟩ | h
      · exact absurd h h0
      · exact h
    have hT : 0 < 2 ^ (E + L).toNat := Nat.two_pow_pos _
    have e1 : (2 : Nat) ^ (pos + L).toNat = 2 ^ (pos - E).toNat * 2 ^ (E + L).toNat := by rw [← Nat.pow_add]; congr 1; omega
    have e2 : V = M * ((2 ^ (E + L).toNat : Nat) : Int) := by rw [← h2, Int.natCast_pow]; rfl
    have e3 : (2 : Int) ^ (pos + L).toNat = ((2 ^ (pos + L).toNat : Nat) : Int) := by rw [Int.natCast_pow]; rfl
    rw [e3, e1, e2, rv_scale _ _ _ _ hT, rq_rv hm _ _ _ hodd (by omega), zz_self]
    unfold rv
    rw [Int.natCast_mul, Int.mul_assoc]

end Go.Proofs.YtppkhhbhnhijpaaGreatDoor
