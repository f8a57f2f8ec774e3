/- Plain facts: rounding by the program and by the document. -/
import Derived.Test.YtppkhhbhnhijpaaGreatDoorDyMZ
import Derived.Test.YtppkhhbhnhijpaaGreatDoorQ7
namespace Go.Proofs.YtppkhhbhnhijpaaGreatDoor
open Go.RowKit
open Lm

/-- An odd number's rest by a step. -/
theorem odd_rest {x s : Nat} (h : x % 2 = 1) (hs : 0 < s) : x % 2 ^ s ≠ 0 ∧ x % 2 ^ s % 2 = 1 := by
  obtain ⟨t, rfl⟩ : ∃ t, s = t + 1 := ⟨s - 1, by omega⟩
  have h1 : x % 2 ^ (t + 1) % 2 = x % 2 := Nat.mod_mod_of_dvd _ ⟨2 ^ t, by rw [Nat.pow_succ, Nat.mul_comm]⟩
  rw [h] at h1
  exact ⟨by omega, h1⟩

/-- The highest bit that is dropped. -/
theorem half_bit (x s : Nat) (hs : 0 < s) : x / 2 ^ (s - 1) % 2 = 1 ↔ 2 ^ s ≤ x % 2 ^ s * 2 := by
  obtain ⟨t, rfl⟩ : ∃ t, s = t + 1 := ⟨s - 1, by omega⟩
  rw [Nat.add_sub_cancel]
  have h1 := Nat.div_add_mod x (2 ^ (t + 1))
  have h2 := Nat.mod_lt x (Nat.two_pow_pos (t + 1))
  generalize x / 2 ^ (t + 1) = q at *
  generalize x % 2 ^ (t + 1) = r at *
  have hp := Nat.two_pow_pos t
  have e : 2 ^ (t + 1) = 2 ^ t * 2 := Nat.pow_succ ..
  rw [e] at h1 h2 ⊢
  generalize 2 ^ t = H at *
  have h3 : x / H = 2 * q + r / H := by
    rw [← h1, Nat.mul_assoc, Nat.mul_add_div hp]
  rw [h3]
  by_cases hr : r < H
  · rw [Nat.div_eq_of_lt hr]; omega
  · have : r / H = 1 := by
      rw [Nat.div_eq_iff hp]
      omega
    rw [this]; omega

theorem zz_lt {b : Bool} {x : Nat} (h : x ≠ 0) : decide (zz b x < 0) = b := by
  cases b
  · simp [zz]
  · simp only [zz, if_true, decide_eq_true_eq]; omega

theorem two_pow_int (s : Nat) : (((2 ^ s : Nat) : Int)).natAbs = 2 ^ s ∧ decide (((2 ^ s : Nat) : Int) < 0) = false := by
  have := Nat.two_pow_pos s
  exact ⟨by omega, by rw [decide_eq_false]; omega⟩

theorem flq_pow (b : Bool) (x s : Nat) (hx : x % 2 = 1) (hs : 0 < s) : flq (zz b x) ((2 ^ s : Nat) : Int) = zz b (x / 2 ^ s) - if b then 1 else 0 := by
  unfold flq
  rw [(two_pow_int s).1, (two_pow_int s).2, zz_abs, zz_lt (by omega), decide_eq_true (odd_rest hx hs).1]
  cases b <;> simp

/-- The rest of that. -/
theorem flq_rest (b : Bool) (x s : Nat) (hx : x % 2 = 1) (hs : 0 < s) : zz b x - flq (zz b x) ((2 ^ s : Nat) : Int) * ((2 ^ s : Nat) : Int) = if b then (2 ^ s : Nat) - ((x % 2 ^ s : Nat) : Int) else ((x % 2 ^ s : Nat) : Int) := by
  rw [flq_pow b x s hx hs]
  have h1 := Nat.div_add_mod x (2 ^ s)
  generalize x / 2 ^ s = q at *
  generalize x % 2 ^ s = r at *
  generalize 2 ^ s = P at *
  have h2 : (x : Int) = (P : Int) * (q : Int) + (r : Int) := by rw [← h1]; simp
  cases b
  · show (x : Int) - ((q : Int) - 0) * (P : Int) = (r : Int)
    rw [h2, Int.sub_zero, Int.mul_comm]; omega
  · show -(x : Int) - (-(q : Int) - 1) * (P : Int) = (P : Int) - (r : Int)
    rw [h2, Int.sub_mul, Int.neg_mul, Int.one_mul, Int.mul_comm (q : Int)]; omega

theorem rq_floor (b : Bool) (x s : Nat) (hx : x % 2 = 1) (hs : 0 < s) : flq (zz b x) ((2 ^ s : Nat) : Int) = zz b (rq b x s 0) := by
  rw [flq_pow b x s hx hs]
  unfold rq ga
  rw [if_pos rfl]
  generalize x / 2 ^ s = q
  cases b <;> simp [zz]; omega

theorem rq_ceil (b : Bool) (x s : Nat) (hx : x % 2 = 1) (hs : 0 < s) : ceq (zz b x) ((2 ^ s : Nat) : Int) = zz b (rq b x s 1) := by
  unfold ceq
  rw [flq_rest b x s hx hs, flq_pow b x s hx hs]
  have h0 := (odd_rest hx hs).1
  have h2 := Nat.mod_lt x (Nat.two_pow_pos s)
  have hga : ga b x s 1 = !b := by unfold ga; rw [if_neg (by decide), if_pos rfl]
  unfold rq
  rw [hga]
  generalize x / 2 ^ s = q
  generalize x % 2 ^ s = r at *
  generalize 2 ^ s = P at *
  cases b
  · have e1 : (if false = true then (P : Int) - (r : Int) else (r : Int)) = (r : Int) := by simp
    rw [e1, if_neg (by omega)]
    simp [zz]
  · have e1 : (if true = true then (P : Int) - (r : Int) else (r : Int)) = (P : Int) - (r : Int) := by simp
    rw [e1, if_neg (by omega)]
    simp [zz]

theorem rq_near (b : Bool) (x s : Nat) (hx : x % 2 = 1) (hs : 0 < s) : neq (zz b x) ((2 ^ s : Nat) : Int) = zz b (rq b x s 2) := by
  have hr := flq_rest b x s hx hs
  have hq := flq_pow b x s hx hs
  have h0 := (odd_rest hx hs).2
  have h2 := Nat.mod_lt x (Nat.two_pow_pos s)
  have hb := half_bit x s hs
  have hP : (((2 ^ s : Nat) : Int)).natAbs = 2 ^ s := (two_pow_int s).1
  have hg : ga b x s 2 = decide (2 ^ s < x % 2 ^ s * 2 ∨ (x % 2 ^ s * 2 = 2 ^ s ∧ x / 2 ^ s % 2 = 1)) := by
    unfold ga
    rw [if_neg (by decide), if_neg (by decide)]
    by_cases h1 : s = 1
    · subst h1
      rw [if_pos rfl]
      refine decide_eq_decide.2 ?_
      have e1 : (2 : Nat) ^ 1 = 2 := rfl
      rw [e1] at h2 ⊢
      omega
    · rw [if_neg h1]
      refine decide_eq_decide.2 (hb.trans ?_)
      obtain ⟨t, rfl⟩ : ∃ t, s = t + 2 := ⟨s - 2, by omega⟩
      have e2 : 2 ^ (t + 2) = 2 ^ t * 4 := Nat.pow_add 2 t 2
      rw [e2] at h0 h2 ⊢
      generalize x / (2 ^ t * 4) = q
      generalize x % (2 ^ t * 4) = r at *
      generalize 2 ^ t = T at *
      omega
  unfold neq nearC rq
  rw [hr, hq, hg, hP]
  generalize x / 2 ^ s = q at *
  generalize x % 2 ^ s = r at *
  generalize 2 ^ s = P at *
  clear hr hq hg hP hb
  cases b
  · have e1 : (if false = true then (P : Int) - (r : Int) else (r : Int)) = (r : Int) := by simp
    have e2 : zz false q - (if false = true then (1 : Int) else 0) = (q : Int) := by simp [zz]
    rw [e1, e2, Int.natAbs_natCast, Int.natAbs_natCast]
    have e3 : (decide (P < r * 2) || (decide (r * 2 = P) && decide (q % 2 = 1))) = decide (P < r * 2 ∨ (r * 2 = P ∧ q % 2 = 1)) := by simp
    rw [e3]
    by_cases hc : P < r * 2 ∨ (r * 2 = P ∧ q % 2 = 1)
    · rw [decide_eq_true hc]; simp [zz]
    · rw [decide_eq_false hc]; simp [zz]
  · have e1 : (if true = true then (P : Int) - (r : Int) else (r : Int)) = ((P - r : Nat) : Int) := by rw [if_pos rfl]; omega
    have e2 : zz true q - (if true = true then (1 : Int) else 0) = -((q + 1 : Nat) : Int) := by simp [zz]; omega
    rw [e1, e2, Int.natAbs_natCast, Int.natAbs_neg, Int.natAbs_natCast]
    have e3 : (decide (P < (P - r) * 2) || (decide ((P - r) * 2 = P) && decide ((q + 1) % 2 = 1))) = !decide (P < r * 2 ∨ (r * 2 = P ∧ q % 2 = 1)) := by
      rw [← Bool.decide_and, ← Bool.decide_or, ← decide_not]
      refine decide_eq_decide.2 ?_
      omega
    rw [e3]
    by_cases hc : P < r * 2 ∨ (r * 2 = P ∧ q % 2 = 1)
    · rw [decide_eq_true hc]; simp [zz]
    · rw [decide_eq_false hc]; simp [zz]; omega

/-- Far below a step. -/
theorem rq_far (b : Bool) (x s : Nat) (m : Int) (h : blen x + 2 < s) (hm : m = 0 ∨ m = 1 ∨ m = 2) : rq b x s m = if (m = 0 ∧ b = true) ∨ (m = 1 ∧ b = false) then 1 else 0 := by
  have h1 : x < 2 ^ blen x := (blen_le_iff x _).1 (Nat.le_refl _)
  have h2 : x / 2 ^ s = 0 := Nat.div_eq_of_lt (Nat.lt_of_lt_of_le h1 (Nat.pow_le_pow_right (by omega) (by omega)))
  have h3 : x / 2 ^ (s - 1) = 0 := Nat.div_eq_of_lt (Nat.lt_of_lt_of_le h1 (Nat.pow_le_pow_right (by omega) (by omega)))
  unfold rq ga
  rw [h2, h3]
  rcases hm with rfl | rfl | rfl
  · cases b <;> simp
  · cases b <;> simp
  · have : ¬ s = 1 := by omega
    simp [this]

/-- A mantissa and an exponent that are normal. -/
def Norm8 (M E : Int) : Prop := (M = 0 ∧ E = 0) ∨ M.natAbs % 2 = 1

theorem norm8_of (z e : Int) : Norm8 (omz z) (oe z e) := by
  by_cases h : z = 0
  · subst h; exact .inl ⟨omz_zero, by simp [oe]⟩
  · refine .inr ?_
    rw [omz_abs]
    exact (od_form (by omega)).2

theorem Norm8.stay {M E : Int} (h : Norm8 M E) : omz M = M ∧ oe M E = E := by
  rcases h with ⟨rfl, rfl⟩ | h
  · exact ⟨omz_zero, by simp [oe]⟩
  · exact omz_odd h E

/-- What is rounded: its mantissa and its exponent, not normal yet. -/
def rndM (M E pos m : Int) : Int := if M = 0 ∨ pos ≤ E then M else zz (decide (M < 0)) (rq (decide (M < 0)) M.natAbs (pos - E).toNat m)
def rndE (M E pos : Int) : Int := if M = 0 ∨ pos ≤ E then E else pos

end Go.Proofs.YtppkhhbhnhijpaaGreatDoor
