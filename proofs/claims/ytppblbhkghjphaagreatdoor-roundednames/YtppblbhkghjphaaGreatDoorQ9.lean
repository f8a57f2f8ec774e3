/- Plain facts: numbers m times 2^e in their normal form. -/
import Derived.Test.YtppblbhkghjphaaGreatDoorRefPZ
import Derived.Test.YtppblbhkghjphaaGreatDoorQ2
import Derived.Test.YtppblbhkghjphaaGreatDoorQA
namespace Go.Proofs.YtppblbhkghjphaaGreatDoor
open Go.RowKit
open Lm

/-- How many noughts x has at its bottom. -/
noncomputable def tl (x : Nat) : Nat := if h : x = 0 then 0 else Classical.choose (tail_is x h)
/-- x without them. -/
noncomputable def od (x : Nat) : Nat := x / 2 ^ tl x

theorem tl_is {x : Nat} (h : x ≠ 0) : IsTail x (tl x) := by
  unfold tl; rw [dif_neg h]; exact Classical.choose_spec (tail_is x h)

theorem isTail_one {x s t : Nat} (h : IsTail x s) (k : IsTail x t) : s = t := by
  rcases Nat.lt_trichotomy s t with hlt | heq | hgt
  · have := tail_low k hlt; have := h.2; omega
  · exact heq
  · have := tail_low h hgt; have := k.2; omega

theorem tl_of {x t : Nat} (h : IsTail x t) : tl x = t := by
  have hx : x ≠ 0 := by rintro rfl; have := h.2; simp at this
  exact isTail_one (tl_is hx) h

theorem od_form {x : Nat} (h : x ≠ 0) : x = 2 ^ tl x * od x ∧ od x % 2 = 1 := by
  have h1 := tl_is h
  refine ⟨?_, h1.2⟩
  have := Nat.div_add_mod x (2 ^ tl x)
  rw [h1.1] at this
  exact this.symm

theorem od_zero : od 0 = 0 := by unfold od; simp

theorem od_pos {x : Nat} (h : x ≠ 0) : od x ≠ 0 := by have := (od_form h).2; omega

theorem od_le (x : Nat) : od x ≤ x := Nat.div_le_self _ _

theorem tl_shift {x : Nat} (h : x ≠ 0) (k : Nat) : tl (x * 2 ^ k) = tl x + k ∧ od (x * 2 ^ k) = od x := by
  obtain ⟨h1, h2⟩ := od_form h
  obtain ⟨m, hm⟩ : ∃ m, od x = 2 * m + 1 := ⟨od x / 2, by omega⟩
  have e : x * 2 ^ k = 2 ^ (tl x + k) * (2 * m + 1) := by
    rw [← hm, Nat.pow_add]
    conv => lhs; rw [h1]
    rw [Nat.mul_assoc, Nat.mul_assoc, Nat.mul_comm (od x)]
  have ht : tl (x * 2 ^ k) = tl x + k := by
    refine tl_of ?_
    rw [e]; exact isTail_form _ _
  refine ⟨ht, ?_⟩
  have : od (x * 2 ^ k) = x * 2 ^ k / 2 ^ (tl x + k) := by unfold od; rw [ht]
  rw [this, e, Nat.mul_div_cancel_left _ (Nat.two_pow_pos _), hm]

theorem tl_odd {x : Nat} (h : x % 2 = 1) : tl x = 0 ∧ od x = x := by
  have ht : tl x = 0 := tl_of ⟨by simp [Nat.mod_one], by simpa using h⟩
  refine ⟨ht, ?_⟩
  unfold od; rw [ht]; simp

/-- The mantissa as it is normal. -/
noncomputable def omz (z : Int) : Int := zz (decide (z < 0)) (od z.natAbs)
/-- The exponent as it is normal. -/
noncomputable def oe (z e : Int) : Int := if z = 0 then 0 else e + (tl z.natAbs : Int)

theorem omz_abs (z : Int) : (omz z).natAbs = od z.natAbs := zz_abs _ _

theorem omz_zero : omz 0 = 0 := by unfold omz; rw [show (0 : Int).natAbs = 0 from rfl, od_zero]; exact zz_zero _

theorem omz_ne {z : Int} (h : z ≠ 0) : omz z ≠ 0 := by
  intro e
  have h1 := omz_abs z
  rw [e] at h1
  exact od_pos (x := z.natAbs) (by omega) h1.symm

theorem omz_lt (z : Int) : omz z < 0 ↔ z < 0 := by
  by_cases h0 : z = 0
  · subst h0; rw [omz_zero]
  · have hp := od_pos (x := z.natAbs) (by omega)
    unfold omz zz
    by_cases h : z < 0
    · rw [decide_eq_true h, if_pos rfl]; omega
    · rw [decide_eq_false h]; simp only [Bool.false_eq_true, if_false]; omega

theorem omz_form (z : Int) : z = omz z * 2 ^ (tl z.natAbs) := by
  by_cases h0 : z = 0
  · subst h0; rw [omz_zero]; simp
  · have h1 := (od_form (x := z.natAbs) (by omega)).1
    unfold omz
    generalize od z.natAbs = o at *
    have h2 : (z.natAbs : Int) = (o : Int) * 2 ^ (tl z.natAbs) := by
      have := congrArg (fun n : Nat => (n : Int)) h1
      simp only [Int.natCast_mul, Int.natCast_pow] at this
      rw [Int.mul_comm]; exact this
    by_cases h : z < 0
    · have h3 : z = -(z.natAbs : Int) := by omega
      rw [decide_eq_true h]
      show z = -(o : Int) * 2 ^ (tl z.natAbs)
      rw [Int.neg_mul, ← h2]; exact h3
    · have h3 : z = (z.natAbs : Int) := by omega
      rw [decide_eq_false h]
      show z = (o : Int) * 2 ^ (tl z.natAbs)
      rw [← h2]; exact h3

theorem omz_shift (z e : Int) (k : Nat) : omz (z * 2 ^ k) = omz z ∧ oe (z * 2 ^ k) e = oe z (e + k) := by
  by_cases h0 : z = 0
  · subst h0; simp [oe]
  · have hp : (0 : Int) < 2 ^ k := Int.pow_pos (by omega)
    have ha : (z * 2 ^ k).natAbs = z.natAbs * 2 ^ k := by rw [Int.natAbs_mul, Int.natAbs_pow]; rfl
    obtain ⟨h1, h2⟩ := tl_shift (x := z.natAbs) (by omega) k
    have hne : z * 2 ^ k ≠ 0 := Int.mul_ne_zero h0 (by omega)
    have hs : (z * 2 ^ k < 0) ↔ z < 0 := by
      constructor
      · intro h
        refine Int.lt_of_not_ge fun hz => ?_
        have := Int.mul_nonneg hz (Int.le_of_lt hp)
        omega
      · intro h; exact Int.mul_neg_of_neg_of_pos h hp
    unfold omz oe
    rw [ha, h1, h2, if_neg h0, if_neg hne]
    refine ⟨by rw [decide_eq_decide.2 hs], by omega⟩

theorem omz_odd {z : Int} (h : z.natAbs % 2 = 1) (e : Int) : omz z = z ∧ oe z e = e := by
  obtain ⟨h1, h2⟩ := tl_odd h
  unfold omz oe
  rw [h1, h2, zz_self, if_neg (by omega)]
  exact ⟨rfl, by omega⟩

/-- A normal mantissa stays. -/
theorem omz_twice (z e : Int) : omz (omz z) = omz z ∧ oe (omz z) e = if z = 0 then 0 else e := by
  by_cases h0 : z = 0
  · subst h0; rw [omz_zero, omz_zero]; simp [oe]
  · have h1 := (od_form (x := z.natAbs) (by omega)).2
    rw [if_neg h0]
    exact omz_odd (z := omz z) (by rw [omz_abs]; exact h1) e

theorem tl_le (x : Nat) : tl x ≤ blen x := by
  by_cases h : x = 0
  · subst h; simp [tl]
  · have := isTail_lt (n := blen x) (tl_is h) ((blen_le_iff _ _).1 (Nat.le_refl _))
    omega

theorem od_blen {x : Nat} (h : x ≠ 0) : blen x = blen (od x) + tl x := by
  conv => lhs; rw [(od_form h).1, Nat.mul_comm]
  exact blen_shl _ _ (od_pos h)

theorem zz_eq_zero (b : Bool) (x : Nat) : zz b x = 0 ↔ x = 0 := by cases b <;> simp [zz]

theorem omz_zz (b : Bool) (x : Nat) : omz (zz b x) = zz b (od x) := by
  by_cases h : x = 0
  · subst h; rw [od_zero, zz_zero, omz_zero]
  · unfold omz
    rw [zz_abs]
    congr 1
    cases b
    · simp [zz]
    · simp only [zz, if_true, decide_eq_true_eq]; omega

theorem oe_zz (b : Bool) (x : Nat) (e : Int) : oe (zz b x) e = if x = 0 then 0 else e + (tl x : Int) := by
  unfold oe
  rw [zz_abs]
  by_cases h : x = 0
  · rw [if_pos h, if_pos ((zz_eq_zero b x).2 h)]
  · rw [if_neg h, if_neg (fun h' => h ((zz_eq_zero b x).1 h'))]

end Go.Proofs.YtppblbhkghjphaaGreatDoor
