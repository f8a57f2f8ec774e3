/- Plain facts: the order of two lists of limbs; one step of a difference with its borrow. -/
import Derived.Test.YtmloigbacfllhaaDoorPure2
namespace Go.Proofs.YtmloigbacfllhaaDoor
namespace Lm

/-- -1, 0, 1. -/
def cmpN (a b : Nat) : Int := if a < b then -1 else if b < a then 1 else 0

theorem cmpN_lt {a b : Nat} (h : a < b) : cmpN a b = -1 := by simp [cmpN, h]
theorem cmpN_gt {a b : Nat} (h : b < a) : cmpN a b = 1 := by
  unfold cmpN; rw [if_neg (by omega), if_pos h]
theorem cmpN_self (a : Nat) : cmpN a a = 0 := by simp [cmpN]
theorem cmpN_swap (a b : Nat) : cmpN a b = - cmpN b a := by
  rcases Nat.lt_trichotomy a b with h | h | h
  · rw [cmpN_lt h, cmpN_gt h]
  · subst h; simp [cmpN_self]
  · rw [cmpN_lt h, cmpN_gt h]; omega
theorem cmpN_range (a b : Nat) : cmpN a b = -1 ∧ a < b ∨ cmpN a b = 0 ∧ a = b ∨ cmpN a b = 1 ∧ b < a := by
  rcases Nat.lt_trichotomy a b with h | h | h
  · exact .inl ⟨cmpN_lt h, h⟩
  · subst h; exact .inr (.inl ⟨cmpN_self a, rfl⟩)
  · exact .inr (.inr ⟨cmpN_gt h, h⟩)
theorem cmpN_add (a b c : Nat) : cmpN (a + c) (b + c) = cmpN a b := by
  unfold cmpN
  simp

theorem W_pos (n : Nat) : 0 < (18446744073709551616 : Nat) ^ n := Nat.pow_pos (by omega)

/-- Top limbs decide. -/
theorem cmpN_top (p a b x y : Nat) (ha : a < p) (hb : b < p) (hxy : x ≠ y) : cmpN (a + p * x) (b + p * y) = cmpN x y := by
  rcases Nat.lt_or_gt_of_ne hxy with h | h
  · rw [cmpN_lt h, cmpN_lt]
    have := Nat.mul_le_mul_left p (Nat.succ_le_of_lt h)
    rw [Nat.succ_eq_add_one, Nat.mul_add] at this
    omega
  · rw [cmpN_gt h, cmpN_gt]
    have := Nat.mul_le_mul_left p (Nat.succ_le_of_lt h)
    rw [Nat.succ_eq_add_one, Nat.mul_add] at this
    omega

theorem limbs_take {zs : List Nat} (h : Limbs zs) (n : Nat) : Limbs (zs.take n) := fun z hz => h z (List.mem_of_mem_take hz)

theorem val_take_lt {zs : List Nat} (h : Limbs zs) (n : Nat) : val (zs.take n) < 18446744073709551616 ^ n := by
  have h1 := val_lt (limbs_take h n)
  have h2 : (zs.take n).length ≤ n := List.length_take_le _ _
  exact Nat.lt_of_lt_of_le h1 (Nat.pow_le_pow_right (by omega) h2)

theorem cmp_same {Z Y : List Nat} (j : Nat) (he : Z.getD j 0 = Y.getD j 0) : cmpN (val (Z.take (j + 1))) (val (Y.take (j + 1))) = cmpN (val (Z.take j)) (val (Y.take j)) := by
  rw [val_take_next, val_take_next, he, cmpN_add]

theorem cmp_top {Z Y : List Nat} (hZ : Limbs Z) (hY : Limbs Y) (j : Nat) (hne : Z.getD j 0 ≠ Y.getD j 0) : cmpN (val (Z.take (j + 1))) (val (Y.take (j + 1))) = cmpN (Z.getD j 0) (Y.getD j 0) := by
  rw [val_take_next, val_take_next]
  exact cmpN_top _ _ _ _ _ (val_take_lt hZ j) (val_take_lt hY j) hne

theorem tr_val_ge (ys : List Nat) (n : Nat) (h : (tr ys).length = n + 1) : 18446744073709551616 ^ n ≤ val (tr ys) := by
  have h1 := tr_last ys n h
  have h2 := val_take_succ (tr ys) n (by omega)
  rw [← h, List.take_length] at h2
  rw [h2]
  have := Nat.mul_le_mul_left (18446744073709551616 ^ n) (Nat.one_le_iff_ne_zero.2 h1)
  omega

theorem shorter_lt {zs ys : List Nat} (hz : Limbs zs) (h : (tr zs).length < (tr ys).length) : val (tr zs) < val (tr ys) := by
  obtain ⟨n, hn⟩ : ∃ n, (tr ys).length = n + 1 := ⟨(tr ys).length - 1, by omega⟩
  have h1 := val_lt (limbs_tr hz)
  have h2 := tr_val_ge ys n hn
  have h3 : (18446744073709551616 : Nat) ^ (tr zs).length ≤ 18446744073709551616 ^ n := Nat.pow_le_pow_right (by omega) (by omega)
  omega

theorem cmp_len {zs ys : List Nat} (hz : Limbs zs) (hy : Limbs ys) (h : (tr zs).length ≠ (tr ys).length) : cmpN (val (tr zs)) (val (tr ys)) = cmpN (tr zs).length (tr ys).length := by
  rcases Nat.lt_or_gt_of_ne h with h | h
  · rw [cmpN_lt h, cmpN_lt (shorter_lt hz h)]
  · rw [cmpN_gt h, cmpN_gt (shorter_lt hy h)]

/-- The borrow. -/
def bor (x y b : Nat) : Nat := if x < y + b then 1 else 0

theorem sub_step (X S out : List Nat) (k bw : Nat) (hk : k < out.length) (hx : X.getD k 0 < 18446744073709551616) (hy : S.getD k 0 < 18446744073709551616) (hb : bw ≤ 1)
    (h : val (out.take k) + val (S.take k) = val (X.take k) + bw * 18446744073709551616 ^ k) :
    val ((out.set k ((X.getD k 0 + 18446744073709551616 - S.getD k 0 - bw) % 18446744073709551616)).take (k + 1)) + val (S.take (k + 1)) = val (X.take (k + 1)) + bor (X.getD k 0) (S.getD k 0) bw * 18446744073709551616 ^ (k + 1) := by
  rw [take_set_succ _ _ _ hk, val_take_next X, val_take_next S, Nat.pow_succ]
  generalize X.getD k 0 = x at *
  generalize S.getD k 0 = y at *
  have hm : (x + 18446744073709551616 - y - bw) % 18446744073709551616 + y + bw = x + bor x y bw * 18446744073709551616 := by
    unfold bor; split <;> omega
  generalize (x + 18446744073709551616 - y - bw) % 18446744073709551616 = m at *
  generalize bor x y bw = d at *
  generalize (18446744073709551616 : Nat) ^ k = p at *
  have e : p * (m + y + bw) = p * (x + d * 18446744073709551616) := by rw [hm]
  rw [Nat.mul_add, Nat.mul_add, Nat.mul_add] at e
  have e2 : d * (p * 18446744073709551616) = p * (d * 18446744073709551616) := by rw [← Nat.mul_assoc, Nat.mul_comm d p, Nat.mul_assoc]
  have e3 : bw * p = p * bw := Nat.mul_comm _ _
  omega

end Lm
end Go.Proofs.YtmloigbacfllhaaDoor
