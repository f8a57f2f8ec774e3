/- Plain facts: the product, digit by digit. -/
import Derived.Test.YtmloigbacfllhaaDoorP34
namespace Go.Proofs.YtmloigbacfllhaaDoor
open Lm

theorem vb_set_any (B : Nat) : ∀ (out : List Nat) (j n z : Nat), j < n → n ≤ out.length → vb B ((out.set j z).take n) + B ^ j * out.getD j 0 = vb B (out.take n) + B ^ j * z
  | [], j, n, z, h1, h2 => by simp at h2; omega
  | a :: r, 0, n + 1, z, _, _ => by
    simp only [List.set_cons_zero, List.take_succ_cons, vb, List.getD_cons_zero, Nat.pow_zero, Nat.one_mul]
    omega
  | a :: r, j + 1, n + 1, z, h1, h2 => by
    have ih := vb_set_any B r j n z (by omega) (by simpa using h2)
    simp only [List.set_cons_succ, List.take_succ_cons, vb, List.getD_cons_succ]
    rw [show B ^ (j + 1) = B * B ^ j by rw [Nat.pow_succ, Nat.mul_comm]]
    grind

/-- One digit of the inner loop. -/
theorem rmul_step (B : Nat) (Y out : List Nat) (i k n x cy s V : Nat) (hk : i + k < n) (hn : n ≤ out.length)
    (h : vb B (out.take n) + cy * B ^ (i + k) = V + B ^ i * (x * vb B (Y.take k))) (hs : s = x * Y.getD k 0 + out.getD (i + k) 0 + cy) :
    vb B ((out.set (i + k) (s % B)).take n) + s / B * B ^ (i + (k + 1)) = V + B ^ i * (x * vb B (Y.take (k + 1))) := by
  have h1 := vb_set_any B out (i + k) n (s % B) hk hn
  have h2 := Nat.mod_add_div s B
  rw [vb_take_next Y k]
  have e1 : B ^ (i + (k + 1)) = B ^ (i + k) * B := by rw [← Nat.add_assoc, Nat.pow_succ]
  have e2 : B ^ (i + k) = B ^ i * B ^ k := Nat.pow_add _ _ _
  rw [e1]
  rw [e2] at h h1 ⊢
  generalize out.getD (i + k) 0 = o at *
  generalize Y.getD k 0 = y at *
  generalize vb B (Y.take k) = U at *
  generalize vb B (out.take n) = W at *
  generalize vb B ((out.set (i + k) (s % B)).take n) = W' at *
  generalize s % B = m at *
  generalize s / B = d at *
  generalize B ^ i = I at *
  generalize B ^ k = K at *
  subst hs
  grind

/-- A round of the outer loop. -/
theorem rmul_round (B : Nat) (X Y out0 out : List Nat) (i x cy : Nat) (hx : x = X.getD i 0) (hn : i + Y.length < out.length)
    (h0 : vb B (out0.take (i + Y.length)) = vb B (X.take i) * vb B Y)
    (h : vb B (out.take (i + Y.length)) + cy * B ^ (i + Y.length) = vb B (out0.take (i + Y.length)) + B ^ i * (x * vb B (Y.take Y.length))) :
    vb B ((out.set (i + Y.length) cy).take (i + 1 + Y.length)) = vb B (X.take (i + 1)) * vb B Y := by
  rw [show i + 1 + Y.length = i + Y.length + 1 by omega, vb_set_succ _ _ _ hn, vb_take_next X i, ← hx]
  rw [List.take_length, h0] at h
  grind

theorem rmul_fit (x y o cy : Nat) (hx : x < 4294967296) (hy : y < 4294967296) (ho : o < 4294967296) (hc : cy < 4294967296) : x * y ≤ 18446744065119617025 ∧ x * y + o + cy < 18446744073709551616 := by
  have := Nat.mul_le_mul (Nat.le_sub_one_of_lt hx) (Nat.le_sub_one_of_lt hy)
  omega

end Go.Proofs.YtmloigbacfllhaaDoor
