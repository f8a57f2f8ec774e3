/- Plain facts: one step of a product by a limb; one step of a quotient by a limb. -/
import Derived.Test.YtmloigbacfllhaaDoorPure4
namespace Go.Proofs.YtmloigbacfllhaaDoor
namespace Lm

/-- A limb times a limb and a carry: two limbs. -/
theorem mul_hi (x m cy : Nat) (hx : x < 18446744073709551616) (hm : m < 18446744073709551616) (hc : cy < 18446744073709551616) :
    x * m / 18446744073709551616 + (x * m % 18446744073709551616 + cy) / 18446744073709551616 = (x * m + cy) / 18446744073709551616 ∧ (x * m + cy) / 18446744073709551616 < 18446744073709551616 ∧
    (x * m % 18446744073709551616 + cy) % 18446744073709551616 = (x * m + cy) % 18446744073709551616 := by
  have h1 : x * m ≤ 18446744073709551615 * 18446744073709551615 := Nat.mul_le_mul (by omega) (by omega)
  generalize x * m = p at *
  omega

theorem times_step (X out : List Nat) (m k cy : Nat) (hk : k < out.length) (h : val (out.take k) + cy * 18446744073709551616 ^ k = val (X.take k) * m) :
    val ((out.set k ((X.getD k 0 * m + cy) % 18446744073709551616)).take (k + 1)) + (X.getD k 0 * m + cy) / 18446744073709551616 * 18446744073709551616 ^ (k + 1) = val (X.take (k + 1)) * m := by
  rw [take_set_succ _ _ _ hk, val_take_next X]
  generalize X.getD k 0 = x
  have hd := Nat.div_add_mod (x * m + cy) 18446744073709551616
  generalize (x * m + cy) % 18446744073709551616 = r at *
  generalize (x * m + cy) / 18446744073709551616 = d at *
  rw [Nat.pow_succ, Nat.add_mul, ← h]
  generalize (18446744073709551616 : Nat) ^ k = p at *
  have e1 : p * (18446744073709551616 * d + r) = p * (x * m + cy) := by rw [hd]
  rw [Nat.mul_add, Nat.mul_add] at e1
  have e2 : d * (p * 18446744073709551616) = p * (18446744073709551616 * d) := by rw [← Nat.mul_assoc, Nat.mul_comm d p, Nat.mul_assoc, Nat.mul_comm d]
  have e3 : cy * p = p * cy := Nat.mul_comm _ _
  have e4 : p * x * m = p * (x * m) := Nat.mul_assoc _ _ _
  omega

/-- One step of a quotient: from the top down; 'j' limbs are still to come. -/
theorem through_step (X out : List Nat) (d j r : Nat) (hj : j < out.length)
    (h : val (out.drop (j + 1)) * d + r = val (X.drop (j + 1))) (hxl : j < X.length) :
    val ((out.set j ((r * 18446744073709551616 + X.getD j 0) / d)).drop j) * d + (r * 18446744073709551616 + X.getD j 0) % d = val (X.drop j) := by
  have e1 : (out.set j ((r * 18446744073709551616 + X.getD j 0) / d)).drop j = ((r * 18446744073709551616 + X.getD j 0) / d) :: out.drop (j + 1) := by
    rw [List.drop_eq_getElem_cons (by simpa using hj)]
    simp [List.drop_set]
  have e2 : X.drop j = X.getD j 0 :: X.drop (j + 1) := by
    rw [List.drop_eq_getElem_cons hxl]; simp [List.getD, hxl]
  rw [e1, e2]
  simp only [val]
  rw [← h]
  generalize X.getD j 0 = x
  generalize val (out.drop (j + 1)) = q
  have hdm := Nat.div_add_mod (r * 18446744073709551616 + x) d
  generalize (r * 18446744073709551616 + x) / d = a at *
  generalize (r * 18446744073709551616 + x) % d = b at *
  have e3 : (a + 18446744073709551616 * q) * d = d * a + 18446744073709551616 * (q * d) := by
    rw [Nat.add_mul, Nat.mul_comm a d, Nat.mul_assoc]
  rw [e3]
  omega

theorem quo_lt (r x d : Nat) (hr : r < d) (hx : x < 18446744073709551616) : (r * 18446744073709551616 + x) / d < 18446744073709551616 := by
  rw [Nat.div_lt_iff_lt_mul (by omega)]
  have := Nat.mul_le_mul_right 18446744073709551616 (Nat.succ_le_of_lt hr)
  rw [Nat.succ_eq_add_one, Nat.add_mul] at this
  rw [Nat.mul_comm]
  omega

end Lm
end Go.Proofs.YtmloigbacfllhaaDoor
