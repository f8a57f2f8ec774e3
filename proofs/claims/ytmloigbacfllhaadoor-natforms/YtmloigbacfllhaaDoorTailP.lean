/- Noughts at the bottom of a number, and the table that tells them. -/
import Derived.Test.YtmloigbacfllhaaDoorTail
namespace Go.Proofs.YtmloigbacfllhaaDoor
open Go.RowKit
open Lm

/-- x has t noughts at its bottom, then a one. -/
def IsTail (x t : Nat) : Prop := x % 2 ^ t = 0 ∧ x / 2 ^ t % 2 = 1

theorem isTail_form (t m : Nat) : IsTail (2 ^ t * (2 * m + 1)) t := by
  refine ⟨Nat.mul_mod_right _ _, ?_⟩
  rw [Nat.mul_div_cancel_left _ (Nat.two_pow_pos t)]
  omega

theorem isTail_of {x t : Nat} (h : IsTail x t) : x = 2 ^ t * (2 * (x / 2 ^ t / 2) + 1) := by
  have h1 := Nat.div_add_mod x (2 ^ t)
  rw [h.1, Nat.add_zero] at h1
  have h2 := Nat.div_add_mod (x / 2 ^ t) 2
  rw [h.2] at h2
  rw [h2]; exact h1.symm

theorem tail_is (x : Nat) (h : x ≠ 0) : ∃ t, IsTail x t := by
  induction x using Nat.strongRecOn with
  | ind x ih =>
    by_cases h2 : x % 2 = 1
    · exact ⟨0, by simp [Nat.mod_one], by simpa using h2⟩
    · obtain ⟨t, ht⟩ := ih (x / 2) (by omega) (by omega)
      refine ⟨t + 1, ?_⟩
      have e := isTail_of ht
      generalize x / 2 / 2 ^ t / 2 = m at e
      have e2 : x = 2 ^ (t + 1) * (2 * m + 1) := by
        rw [Nat.pow_succ, Nat.mul_comm (2 ^ t) 2, Nat.mul_assoc, ← e]; omega
      rw [e2]; exact isTail_form _ _

theorem isTail_lt {x t n : Nat} (h : IsTail x t) (hx : x < 2 ^ n) : t < n := by
  refine Nat.lt_of_not_le fun hn => ?_
  have : 2 ^ n ≤ 2 ^ t := Nat.pow_le_pow_right (by omega) hn
  have h2 := h.2
  rw [Nat.div_eq_of_lt (by omega)] at h2
  omega

theorem lowbit (x t : Nat) (h : IsTail x t) (hx : x < 18446744073709551616) : x &&& (18446744073709551616 - x) = 2 ^ t := by
  have e := isTail_of h
  generalize x / 2 ^ t / 2 = m at e
  have hp := Nat.two_pow_pos t
  have e1 : x = 2 ^ t * (2 * m + 1) + 0 := by rw [Nat.add_zero]; exact e
  have e2 : x - 1 = 2 ^ t * (2 * m) + (2 ^ t - 1) := by rw [e, Nat.mul_add, Nat.mul_one]; omega
  have h0 : 0 < x := by rw [e]; exact Nat.mul_pos hp (by omega)
  have e3 : 18446744073709551616 - x = 2 ^ 64 - ((x - 1) + 1) := by omega
  have hlt := isTail_lt (n := 64) h hx
  refine Nat.eq_of_testBit_eq fun j => ?_
  rw [Nat.testBit_and, e3, Nat.testBit_two_pow_sub_succ (by omega), Nat.testBit_two_pow, e2]
  conv => lhs; lhs; rw [e1]
  rw [Nat.testBit_two_pow_mul_add _ hp, Nat.testBit_two_pow_mul_add _ (by omega)]
  by_cases hj : j < t
  · have : t ≠ j := by omega
    simp [hj, this]
  · rw [if_neg hj, if_neg hj]
    obtain ⟨s, rfl⟩ : ∃ s, j = t + s := ⟨j - t, by omega⟩
    rw [Nat.add_sub_cancel_left]
    cases s with
    | zero =>
      have e0 : (2 * m).testBit 0 = false := by simp [Nat.testBit_zero]
      have e4 : (2 * m + 1).testBit 0 = true := by simp [Nat.testBit_zero]
      rw [e0, e4]
      have h64 : t + 0 < 64 := by omega
      simp [hlt]
    | succ s =>
      have e4 : (2 * m + 1).testBit (s + 1) = m.testBit s := by rw [Nat.testBit_succ]; congr 1; omega
      have e5 : (2 * m).testBit (s + 1) = m.testBit s := by rw [Nat.testBit_succ]; congr 1; omega
      rw [e4, e5]
      cases m.testBit s <;> simp

theorem tab64_tail : ∀ t : Fin 64, tab64.getD (2 ^ t.1 * 285870213051353865 % 18446744073709551616 / 288230376151711744) 0 = t.1 := by decide +kernel

set_option maxRecDepth 20000 in
theorem tz_any (x t : Nat) (w : World) (hx : x < 18446744073709551616) (h : IsTail x t) (hT : Tab w) :
    Calls Tryd.prog 47 #[.int .u64 x] w fun e w' => e = .returned (.int .i64 (t : Int)) ∧ w' = w := by
  have hlt := isTail_lt (n := 64) h hx
  have h0 : x ≠ 0 := by
    intro e; subst e
    have := h.2
    simp at this
  have hd : ((x : Int) == 0) = false := by rw [beq_eq_false_iff_ne]; omega
  have hand := lowbit x t h hx
  have hw : IntKind.u64.wrap (-(x : Int)) = ((18446744073709551616 - x : Nat) : Int) := by rw [IntKind.wrap_u64]; omega
  have hb := bits_and_u64_nat x (18446744073709551616 - x) hx (by omega)
  rw [hand, ← hw] at hb
  have ht := tab64_tail ⟨t, hlt⟩
  obtain ⟨j, hj, ej⟩ : ∃ j : Nat, Hid (2 ^ t * 285870213051353865 % 18446744073709551616 / 288230376151711744 = j) ∧ IntKind.u64.wrap (bits BinOp.and IntKind.u64 (x : Int) (IntKind.u64.wrap (-(x : Int))) * 285870213051353865) / 288230376151711744 = (j : Int) := by
    refine ⟨_, hide rfl, ?_⟩
    rw [hb, IntKind.wrap_u64]
    generalize 2 ^ t = p
    omega
  have ht2 : tab64.getD j 0 = t := by rw [← hj.out]; exact ht
  have hj1 : j < 64 := by rw [← hj.out]; omega
  have hc := hT.2 j hj1
  rw [ht2] at hc
  have hj2 : (j : Int) < 64 := by omega
  have hj3 : (0 : Int) ≤ (j : Int) := by omega
  clear hT ht ht2 hj hb hw hand h
  go_enter Tryd.func47, Tryd.ntmps47
  go_wp2
  go_ret
  exact ⟨rfl, rfl⟩

end Go.Proofs.YtmloigbacfllhaaDoor
