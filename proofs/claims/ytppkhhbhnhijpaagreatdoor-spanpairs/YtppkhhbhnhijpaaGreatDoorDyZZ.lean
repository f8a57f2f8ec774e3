/- Plain facts: dyadics as whole numbers at one scale. -/
import Derived.Test.YtppkhhbhnhijpaaGreatDoorQ9
namespace Go.Proofs.YtppkhhbhnhijpaaGreatDoor
open Go.RowKit
open Lm

/-- A mantissa and an exponent that are normal. -/
def Nr8 (M E : Int) : Prop := (M = 0 ∧ E = 0) ∨ M.natAbs % 2 = 1

theorem nr8_of (z e : Int) : Nr8 (omz z) (oe z e) := by
  by_cases h : z = 0
  · subst h; exact .inl ⟨omz_zero, by simp [oe]⟩
  · refine .inr ?_
    rw [omz_abs]
    exact (od_form (by omega)).2

theorem Nr8.stay {M E : Int} (h : Nr8 M E) : omz M = M ∧ oe M E = E := by
  rcases h with ⟨rfl, rfl⟩ | h
  · exact ⟨omz_zero, by simp [oe]⟩
  · exact omz_odd h E

/-- z times 2^e is V, counted in 2^-L. -/
def Rp (L : Nat) (z e V : Int) : Prop := 0 ≤ e + L ∧ z * 2 ^ (e + L).toNat = V

theorem Rp.norm {L : Nat} {z e V : Int} (h : Rp L z e V) : Rp L (omz z) (oe z e) V := by
  obtain ⟨h1, h2⟩ := h
  by_cases h0 : z = 0
  · subst h0
    rw [omz_zero, show oe 0 e = 0 by simp [oe]]
    refine ⟨by omega, ?_⟩
    rw [← h2, Int.zero_mul, Int.zero_mul]
  · have e1 : oe z e = e + (tl z.natAbs : Int) := by unfold oe; rw [if_neg h0]
    have e2 : (oe z e + L).toNat = tl z.natAbs + (e + L).toNat := by rw [e1]; omega
    refine ⟨by rw [e1]; omega, ?_⟩
    rw [e2, Int.pow_add, ← Int.mul_assoc, ← omz_form, h2]

/-- Of normal ones there is but one. -/
theorem Rp.one {L : Nat} {M E M' E' V : Int} (h : Rp L M E V) (h' : Rp L M' E' V) (n : Nr8 M E) (n' : Nr8 M' E') : M = M' ∧ E = E' := by
  have a : ∀ {z e : Int}, Rp L z e V → omz V = omz z ∧ oe V (-(L : Int)) = oe z e := by
    intro z e h
    have hs := omz_shift z (-(L : Int)) (e + L).toNat
    rw [h.2] at hs
    refine ⟨hs.1, ?_⟩
    rw [hs.2]
    have := h.1
    congr 1
    omega
  have h1 := a h
  have h2 := a h'
  rw [n.stay.1, n.stay.2] at h1
  rw [n'.stay.1, n'.stay.2] at h2
  exact ⟨h1.1.symm.trans h2.1, h1.2.symm.trans h2.2⟩

theorem Rp.mul {L K : Nat} {z e V z' e' V' : Int} (h : Rp L z e V) (h' : Rp K z' e' V') : Rp (L + K) (z * z') (e + e') (V * V') := by
  obtain ⟨h1, h2⟩ := h
  obtain ⟨k1, k2⟩ := h'
  refine ⟨by omega, ?_⟩
  have e1 : (e + e' + ((L + K : Nat) : Int)).toNat = (e + L).toNat + (e' + K).toNat := by omega
  rw [e1, Int.pow_add, ← h2, ← k2]
  generalize (2 : Int) ^ (e + L).toNat = a
  generalize (2 : Int) ^ (e' + K).toNat = b
  grind

theorem Rp.neg {L : Nat} {z e V : Int} (h : Rp L z e V) : Rp L (-z) e (-V) := by
  obtain ⟨h1, h2⟩ := h
  exact ⟨h1, by rw [Int.neg_mul, h2]⟩

/-- The sum of two, at the lower exponent. -/
def sm (z e z' e' : Int) : Int := z * 2 ^ (e - min e e').toNat + z' * 2 ^ (e' - min e e').toNat

theorem Rp.add {L : Nat} {z e V z' e' V' : Int} (h : Rp L z e V) (h' : Rp L z' e' V') : Rp L (sm z e z' e') (min e e') (V + V') := by
  obtain ⟨h1, h2⟩ := h
  obtain ⟨k1, k2⟩ := h'
  refine ⟨by omega, ?_⟩
  unfold sm
  rw [Int.add_mul, Int.mul_assoc, Int.mul_assoc, ← Int.pow_add, ← Int.pow_add, show (e - min e e').toNat + (min e e' + L).toNat = (e + L).toNat by omega, show (e' - min e e').toNat + (min e e' + L).toNat = (e' + L).toNat by omega, h2, k2]

theorem Rp.zero_left {L : Nat} {e V : Int} (h : Rp L 0 e V) : V = 0 := by rw [← h.2, Int.zero_mul]

theorem Rp.pos {L : Nat} {z e V : Int} (h : Rp L z e V) : (V < 0 ↔ z < 0) ∧ (V = 0 ↔ z = 0) := by
  obtain ⟨h1, h2⟩ := h
  have hp : (0 : Int) < 2 ^ (e + L).toNat := Int.pow_pos (by omega)
  generalize (2 : Int) ^ (e + L).toNat = P at *
  subst h2
  constructor
  · constructor
    · intro h
      refine Int.lt_of_not_ge fun hz => ?_
      have := Int.mul_nonneg hz (Int.le_of_lt hp)
      omega
    · intro h; exact Int.mul_neg_of_neg_of_pos h hp
  · constructor
    · intro h
      rcases Int.mul_eq_zero.1 h with h | h
      · exact h
      · omega
    · rintro rfl; exact Int.zero_mul _

/-- A scale for an exponent. -/
theorem Rp.make (L : Nat) (z e : Int) (h : 0 ≤ e + L) : Rp L z e (z * 2 ^ (e + L).toNat) := ⟨h, rfl⟩

/-- The sum, as it is normal, where one of them is 0. -/
theorem sm_zero (z e e' : Int) : omz (sm 0 e z e') = omz z ∧ oe (sm 0 e z e') (min e e') = oe z e' := by
  unfold sm
  rw [Int.zero_mul, Int.zero_add]
  have h := omz_shift z (min e e') (e' - min e e').toNat
  refine ⟨h.1, ?_⟩
  rw [h.2]
  congr 1
  omega

theorem sm_comm (z e z' e' : Int) : sm z e z' e' = sm z' e' z e := by
  unfold sm
  rw [Int.min_comm, Int.add_comm]

end Go.Proofs.YtppkhhbhnhijpaaGreatDoor
