/- Plain facts of the law WholeRests: where each rest lies. -/
import Derived.Test.YtfgcngndiblpmaaGreatDoorQ8
namespace Go.Proofs.YtfgcngndiblpmaaGreatDoor
open Go.RowKit
open Lm

/-- The rest by the sizes' rest r, one further or not. -/
def rz (b0 f : Bool) (r y : Nat) : Int := zz (if f && decide (0 < r) then !b0 else b0) (if f && decide (0 < r) then y - r else r)

theorem rz_lt (b0 f : Bool) {r y : Nat} (h : r < y) : (rz b0 f r y).natAbs < y := by
  unfold rz
  rw [zz_abs]
  split
  · rename_i h1
    simp only [Bool.and_eq_true, decide_eq_true_eq] at h1
    omega
  · exact h

theorem rz_euclid (b0 : Bool) {r y : Nat} (h : r < y) : 0 ≤ rz b0 b0 r y := by
  unfold rz
  rcases Nat.eq_zero_or_pos r with h0 | h0
  · subst h0
    cases b0 <;> simp [zz]
  · cases b0 <;> simp [zz, h0]

theorem rz_near (b0 : Bool) (q : Nat) {r y : Nat} (h : r < y) : (rz b0 (nearB q r (y - r)) r y).natAbs * 2 ≤ y := by
  unfold rz
  rw [zz_abs]
  rcases Nat.eq_zero_or_pos r with h0 | h0
  · subst h0
    simp
  · rw [decide_eq_true h0, Bool.and_true]
    split
    · rename_i h1
      unfold nearB at h1
      simp only [Bool.or_eq_true, Bool.and_eq_true, decide_eq_true_eq] at h1
      omega
    · rename_i h1
      unfold nearB at h1
      simp only [Bool.or_eq_true, Bool.and_eq_true, decide_eq_true_eq, not_or] at h1
      omega

theorem rz_zero (b0 f : Bool) {r y : Nat} (h : r < y) : rz b0 f r y = 0 ↔ r = 0 := by
  unfold rz
  rw [zz_eq_zero]
  rcases Nat.eq_zero_or_pos r with h0 | h0
  · subst h0; simp
  · split <;> omega

theorem rz_quo_sign (b0 : Bool) (r y x : Nat) : 0 ≤ rz b0 false r y * zz b0 x := by
  have e : rz b0 false r y = zz b0 r := by unfold rz; simp
  rw [e]
  cases b0
  · simp only [zz, Bool.false_eq_true, if_false]
    exact Int.mul_nonneg (by omega) (by omega)
  · simp only [zz, if_true]
    rw [Int.neg_mul_neg]
    exact Int.mul_nonneg (by omega) (by omega)

theorem rz_floor_sign (b0 b1 : Bool) {r y : Nat} (h : r < y) : 0 ≤ rz b0 (b0 != b1) r y * zz b1 y := by
  have hn : (0 : Int) ≤ ((y - r : Nat) : Int) * (y : Int) := Int.mul_nonneg (by omega) (by omega)
  have hm : (0 : Int) ≤ (r : Int) * (y : Int) := Int.mul_nonneg (by omega) (by omega)
  unfold rz
  rcases Nat.eq_zero_or_pos r with h0 | h0
  · subst h0
    simp [zz_zero]
  · rw [decide_eq_true h0]
    cases b0 <;> cases b1 <;> simp [zz] <;> first | exact hm | exact hn | (have := hn; have := hm; simp only [Int.neg_mul, Int.mul_neg]; omega)

theorem rz_ceil_sign (b0 b1 : Bool) {r y : Nat} (h : r < y) : rz b0 (!(b0 != b1)) r y * zz b1 y ≤ 0 := by
  have hn : (0 : Int) ≤ ((y - r : Nat) : Int) * (y : Int) := Int.mul_nonneg (by omega) (by omega)
  have hm : (0 : Int) ≤ (r : Int) * (y : Int) := Int.mul_nonneg (by omega) (by omega)
  unfold rz
  rcases Nat.eq_zero_or_pos r with h0 | h0
  · subst h0
    simp [zz_zero]
  · rw [decide_eq_true h0]
    cases b0 <;> cases b1 <;> simp [zz] <;> first | exact hm | exact hn | (have := hn; have := hm; simp only [Int.neg_mul, Int.mul_neg]; omega)

theorem gap_step (b0 b1 : Bool) (q r : Nat) : zz (b0 != b1) (q + if (!(b0 != b1)) && decide (0 < r) then 1 else 0) - zz (b0 != b1) (q + if (b0 != b1) && decide (0 < r) then 1 else 0) = if r = 0 then 0 else 1 := by
  rcases Nat.eq_zero_or_pos r with h0 | h0
  · subst h0
    simp
  · have hr : ¬ r = 0 := by omega
    rw [decide_eq_true h0, if_neg hr]
    cases b0 <;> cases b1 <;> simp [zz] <;> omega

/-- What a division that is taken answers. -/
theorem DivR.fine {w : World} {base : Nat} {b1 : Bool} {v1 : Value} {b2 : Bool} {v2 : Value} {c qz rz : Int} (h : DivR w base b1 v1 b2 v2 c qz rz) (hq : blen qz.natAbs ≤ 67108864) (hr : blen rz.natAbs ≤ 67108864) :
    c = 0 ∧ ∃ rs1 rs2, Arg w v1 rs1 ∧ Arg w v2 rs2 ∧ zz b1 (val rs1) = qz ∧ zz b2 (val rs2) = rz ∧ rs1.length ≤ 1048576 ∧ rs2.length ≤ 1048576 := by
  obtain ⟨rs1, rs2, h1, h2, _, hc⟩ := h
  have hf := DivR.few hc
  rcases hc with ⟨h0, e1, e2, _, e4, e5, _, _, _⟩ | ⟨_, _, _, _, _, _, _, hb⟩
  · exact ⟨h0, rs1, rs2, h1.arg (by omega), h2.arg (by omega), by rw [e1, e2]; exact zz_self qz, by rw [e4, e5]; exact zz_self rz, hf.1, hf.2⟩
  · omega

theorem quo_blen {x y : Nat} (b f : Bool) (hx : blen x < 67108864) : blen (zz b (x / y + if f && decide (0 < x % y) then 1 else 0)).natAbs ≤ 67108864 := by
  rw [zz_abs]
  have h1 : x / y + (if f && decide (0 < x % y) then 1 else 0) ≤ x + 1 := by
    have := Nat.div_le_self x y
    split <;> omega
  have h2 : blen (x + 1) ≤ blen x + 1 := by
    refine (blen_le_iff _ _).2 ?_
    have h1 := (blen_le_iff x _).1 (Nat.le_refl _)
    rw [Nat.pow_succ]
    have := Nat.two_pow_pos (blen x)
    omega
  have h3 := blen_mono h1
  omega

theorem rz_blen (b0 f : Bool) {r y : Nat} (h : r < y) (hy : blen y ≤ 67108864) : blen (rz b0 f r y).natAbs ≤ 67108864 := by
  have h1 := blen_mono (Nat.le_of_lt (rz_lt b0 f h))
  omega

theorem sign_ge {a b : Int} (h : 0 ≤ a * b) : 0 ≤ a.sign * b.sign := by
  rw [← Int.sign_mul]
  rcases Int.lt_or_eq_of_le h with h1 | h1
  · rw [Int.sign_eq_one_of_pos h1]; omega
  · rw [← h1]; simp

theorem sign_le {a b : Int} (h : a * b ≤ 0) : a.sign * b.sign ≤ 0 := by
  rw [← Int.sign_mul]
  rcases Int.lt_or_eq_of_le h with h1 | h1
  · rw [Int.sign_eq_neg_one_of_neg h1]; omega
  · rw [h1]; simp

theorem sign_three (a : Int) : a.sign = -1 ∨ a.sign = 0 ∨ a.sign = 1 := by
  rcases Int.lt_trichotomy a 0 with h | h | h
  · exact .inl (Int.sign_eq_neg_one_of_neg h)
  · exact .inr (.inl (by rw [h]; rfl))
  · exact .inr (.inr (Int.sign_eq_one_of_pos h))

theorem near_cmp {a b : Nat} (h : a * 2 ≤ b) : ¬ 0 < cmpZ ((a : Int) + (a : Int)) (b : Int) := by
  unfold cmpZ
  split
  · omega
  · split <;> omega

theorem lt_cmp {a : Int} {b : Nat} (h : a.natAbs < b) : cmpZ a (b : Int) = -1 := by
  unfold cmpZ
  rw [if_pos (by omega)]

theorem not_neg_sign {a : Int} (h : 0 ≤ a) : ¬ a.sign < 0 := by
  rcases Int.lt_or_eq_of_le h with h1 | h1
  · rw [Int.sign_eq_one_of_pos h1]; omega
  · rw [← h1]; simp

theorem step_int (r : Nat) : (if r = 0 then (0 : Int) else 1) = 0 ∨ (if r = 0 then (0 : Int) else 1) = 1 := by
  split
  · exact .inl rfl
  · exact .inr rfl

theorem fldZ (b : Bool) (a : Option Addr) (n k : Nat) (w : World) : (Instr.field 32 (.agg #[.bool b, .slice a n k]) 1).run Tryz.prog w = .ok (.slice a n k) w := by kernel_rfl

theorem sign_wrap (a b : Int) : IntKind.i64.wrap (a.sign * b.sign) = a.sign * b.sign := by
  rw [← Int.sign_mul]
  rcases sign_three (a * b) with h | h | h <;> rw [h] <;> decide

end Go.Proofs.YtfgcngndiblpmaaGreatDoor
