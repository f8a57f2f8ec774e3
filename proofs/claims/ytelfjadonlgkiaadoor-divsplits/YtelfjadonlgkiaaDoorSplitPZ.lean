/- A number as a power of another times what that one does not divide: plain facts. -/
import Derived.Test.YtelfjadonlgkiaaDoorQK
namespace Go.Proofs.YtelfjadonlgkiaaDoor
namespace Lm

/-- x is y^k times c, which y does not divide. -/
def IsSplit (x y k c : Nat) : Prop := x = y ^ k * c ∧ c % y ≠ 0

theorem split_uniq {x y k c l d : Nat} (hx : 0 < x) (h : IsSplit x y k c) (g : IsSplit x y l d) : k = l ∧ c = d := by
  have key : ∀ k c l d, k < l → IsSplit x y k c → IsSplit x y l d → False := by
    intro k c l d hlt h g
    obtain ⟨e, rfl⟩ : ∃ e, l = k + (e + 1) := ⟨l - k - 1, by omega⟩
    have h1 := h.1.symm.trans g.1
    rw [Nat.pow_add, Nat.mul_assoc] at h1
    have hp : 0 < y ^ k := by
      rcases Nat.eq_zero_or_pos (y ^ k) with z | z
      · have := h.1; rw [z, Nat.zero_mul] at this; omega
      · exact z
    have h2 := Nat.eq_of_mul_eq_mul_left hp h1
    apply h.2
    rw [h2, Nat.pow_succ, Nat.mul_comm (y ^ e) y, Nat.mul_assoc]
    exact Nat.mul_mod_right _ _
  rcases Nat.lt_trichotomy k l with h1 | h1 | h1
  · exact (key k c l d h1 h g).elim
  · subst h1
    refine ⟨rfl, ?_⟩
    have hp : 0 < y ^ k := by
      rcases Nat.eq_zero_or_pos (y ^ k) with z | z
      · have := h.1; rw [z, Nat.zero_mul] at this; omega
      · exact z
    exact Nat.eq_of_mul_eq_mul_left hp (h.1.symm.trans g.1)
  · exact (key l d k c h1 g h).elim

/-- The square of the divisor first. -/
theorem split_square {x y p c : Nat} (h : x % y = 0) (g : IsSplit (x / y) (y * y) p c) : (c % y = 0 → IsSplit x y (1 + 2 * p + 1) (c / y)) ∧ (c % y ≠ 0 → IsSplit x y (1 + 2 * p) c) := by
  have e1 : x = y * (x / y) := by have := Nat.div_add_mod x y; omega
  have e2 : x = y ^ (1 + 2 * p) * c := by
    rw [Nat.pow_add, Nat.pow_one, Nat.pow_mul, show y ^ 2 = y * y from Nat.pow_two y, Nat.mul_assoc, ← g.1]
    exact e1
  refine ⟨fun hc => ⟨?_, ?_⟩, fun hc => ⟨e2, hc⟩⟩
  · have e3 : c = y * (c / y) := by have := Nat.div_add_mod c y; omega
    rw [Nat.pow_succ, Nat.mul_assoc, ← e3]
    exact e2
  · intro h0
    apply g.2
    have e3 : c = y * (c / y) := by have := Nat.div_add_mod c y; omega
    have e4 : c / y = y * (c / y / y) := by have := Nat.div_add_mod (c / y) y; omega
    rw [e3, e4, ← Nat.mul_assoc]
    exact Nat.mul_mod_right _ _

/-- Less than the square: the square does not divide it. -/
theorem split_few {x y : Nat} (hx : 0 < x) (h : x < y * y) : IsSplit x (y * y) 0 x := ⟨by simp, by rw [Nat.mod_eq_of_lt h]; omega⟩

theorem split_le {x y k c : Nat} (hx : 0 < x) (hy : 2 ≤ y) (h : IsSplit x y k c) : 2 ^ k ≤ x := by
  have h1 : 0 < c := by
    rcases Nat.eq_zero_or_pos c with z | z
    · have := h.1; rw [z, Nat.mul_zero] at this; omega
    · exact z
  rw [h.1]
  exact Nat.le_trans (Nat.pow_le_pow_left hy k) (Nat.le_mul_of_pos_right _ h1)

end Lm
end Go.Proofs.YtelfjadonlgkiaaDoor
