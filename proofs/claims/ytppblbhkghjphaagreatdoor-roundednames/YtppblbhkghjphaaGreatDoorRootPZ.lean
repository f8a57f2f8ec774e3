/- Second roots of natural numbers: plain facts on Newton's steps. -/
import Derived.Test.YtppblbhkghjphaaGreatDoorQA
namespace Go.Proofs.YtppblbhkghjphaaGreatDoor
namespace Lm

/-- s is the second root of v, downwards. -/
def IsRoot2 (v s : Nat) : Prop := s * s ≤ v ∧ v < (s + 1) * (s + 1)

theorem root2_is : ∀ v : Nat, ∃ s, IsRoot2 v s
  | 0 => ⟨0, by simp, by simp⟩
  | v + 1 => by
    obtain ⟨s, h1, h2⟩ := root2_is v
    by_cases h : (s + 1) * (s + 1) ≤ v + 1
    · refine ⟨s + 1, h, ?_⟩
      have : (s + 1 + 1) * (s + 1 + 1) = (s + 1) * (s + 1) + 2 * (s + 1) + 1 := by
        rw [Nat.add_mul (s + 1) 1, Nat.mul_add (s + 1)]; omega
      omega
    · exact ⟨s, by omega, by omega⟩

theorem root2_uniq {v s t : Nat} (h : IsRoot2 v s) (k : IsRoot2 v t) : s = t := by
  have key : ∀ s t, s < t → IsRoot2 v s → IsRoot2 v t → False := by
    intro s t hlt h k
    have := Nat.mul_le_mul (Nat.succ_le_of_lt hlt) (Nat.succ_le_of_lt hlt)
    have h2 := h.2
    have k1 := k.1
    simp only [Nat.succ_eq_add_one] at this
    omega
  rcases Nat.lt_trichotomy s t with h1 | h1 | h1
  · exact (key s t h1 h k).elim
  · exact h1
  · exact (key t s h1 k h).elim

/-- A step from anywhere is not below the root. -/
theorem newton_ge {v s x : Nat} (h : IsRoot2 v s) (hx : 0 < x) : s ≤ (x + v / x) / 2 := by
  have h1 : 2 * s - x ≤ v / x := by
    rw [Nat.le_div_iff_mul_le hx]
    refine Nat.le_trans ?_ h.1
    rcases Nat.le_total (2 * s) x with hc | hc
    · rw [Nat.sub_eq_zero_of_le hc, Nat.zero_mul]; exact Nat.zero_le _
    · obtain ⟨d, hd⟩ : ∃ d, 2 * s = x + d := ⟨2 * s - x, by omega⟩
      rw [hd, Nat.add_sub_cancel_left]
      rcases Nat.le_total d x with hdx | hdx
      · obtain ⟨e, rfl⟩ : ∃ e, x = d + e := ⟨x - d, by omega⟩
        obtain ⟨f, rfl⟩ : ∃ f, e = 2 * f := ⟨e / 2, by omega⟩
        have hs : s = d + f := by omega
        subst hs
        have : (d + f) * (d + f) = d * (d + 2 * f) + f * f := by grind
        omega
      · obtain ⟨e, rfl⟩ : ∃ e, d = x + e := ⟨d - x, by omega⟩
        obtain ⟨f, rfl⟩ : ∃ f, e = 2 * f := ⟨e / 2, by omega⟩
        have hs : s = x + f := by omega
        subst hs
        have : (x + f) * (x + f) = (x + 2 * f) * x + f * f := by grind
        omega
  omega

/-- Where a step does not come down, the root is reached. -/
theorem newton_end {v s x : Nat} (h : IsRoot2 v s) (hx : 0 < x) (hs : s ≤ x) (hn : x ≤ (x + v / x) / 2) : x = s := by
  have h1 : x ≤ v / x := by omega
  have h2 := (Nat.le_div_iff_mul_le hx).1 h1
  refine Nat.le_antisymm (Nat.le_of_not_lt fun hlt => ?_) hs
  have := Nat.mul_le_mul (Nat.succ_le_of_lt hlt) (Nat.succ_le_of_lt hlt)
  have h3 := h.2
  simp only [Nat.succ_eq_add_one] at this
  omega

/-- The first guess is not below the root. -/
theorem newton_first {v s k : Nat} (h : IsRoot2 v s) (hv : v < 2 ^ (k + k)) : s ≤ 2 ^ k := by
  rw [Nat.pow_add] at hv
  refine Nat.le_of_not_lt fun hlt => ?_
  have := Nat.mul_le_mul (Nat.le_of_lt hlt) (Nat.le_of_lt hlt)
  have := h.1
  omega

theorem newton_room {v s x : Nat} (h : IsRoot2 v s) (hs : s ≤ x) (h0 : 0 < s) (hx : x ≤ 4294967296) : x + v / x < 18446744073709551616 := by
  have h1 : v / x ≤ v / s := Nat.div_le_div_left hs h0
  have h2 : v / s ≤ s + 2 := by
    have h3 : v < (s + 3) * s := by
      have := h.2
      have e1 : (s + 1) * (s + 1) = s * s + 2 * s + 1 := by grind
      have e2 : (s + 3) * s = s * s + 3 * s := by grind
      omega
    have := (Nat.div_lt_iff_lt_mul h0).2 h3
    omega
  omega

end Lm
end Go.Proofs.YtppblbhkghjphaaGreatDoor
