/- Plain facts: Knuth's step of a division, two half limbs at a time. -/
import Derived.Test.YthpihbofcgeljaaShift
namespace Go.Proofs.Ythpihbofcgeljaa
namespace Lm

/-- What holds at the loop's head: q is not too small, r goes with it. -/
structure Knuth (U Y y1 u1 q r : Nat) : Prop where
  sum : q * y1 + r = U
  ge : (U * 4294967296 + u1) / Y ≤ q
  few : q ≤ 4294967297
  small : r < 4294967296

variable {U Y y1 y0 u1 q r : Nat}

theorem knuth_start (hY : Y = y1 * 4294967296 + y0) (hy1 : 2147483648 ≤ y1) (hy2 : y1 < 4294967296) (hy0 : y0 < 4294967296) (hu1 : u1 < 4294967296) (hU : U < Y) : Knuth U Y y1 u1 (U / y1) (U % y1) := by
  have hd := Nat.div_add_mod U y1
  have hm : U % y1 < y1 := Nat.mod_lt _ (by omega)
  have hs : U / y1 * y1 + U % y1 = U := by rw [Nat.mul_comm]; exact hd
  clear hd
  generalize U / y1 = q at *
  generalize U % y1 = r at *
  refine ⟨hs, ?_, ?_, by omega⟩
  · have h1 : (U * 4294967296 + u1) / Y < q + 1 := by
      rw [Nat.div_lt_iff_lt_mul (by omega), hY, Nat.add_mul, Nat.mul_add, Nat.one_mul, ← Nat.mul_assoc]
      omega
    omega
  · refine Nat.le_of_not_lt fun h => ?_
    have h2 := Nat.mul_le_mul_right y1 (show 4294967298 ≤ q by omega)
    omega

/-- q times the divisor, by halves. -/
theorem knuth_mul (hY : Y = y1 * 4294967296 + y0) (h : q * y1 + r = U) : q * Y + r * 4294967296 = U * 4294967296 + q * y0 := by
  rw [hY, Nat.mul_add, ← h, Nat.add_mul, ← Nat.mul_assoc]; omega

theorem knuth_lt (hu1 : u1 < 4294967296) (hU : U < Y) : (U * 4294967296 + u1) / Y < 4294967296 := by
  rw [Nat.div_lt_iff_lt_mul (by omega)]
  omega

theorem knuth_down (hY : Y = y1 * 4294967296 + y0) (hu1 : u1 < 4294967296) (hU : U < Y) (k : Knuth U Y y1 u1 q r)
    (hc : 4294967296 ≤ q ∨ r * 4294967296 + u1 < q * y0) : 1 ≤ q ∧ (U * 4294967296 + u1) / Y ≤ q - 1 ∧ (q - 1) * y1 + (r + y1) = U := by
  have hlt : (U * 4294967296 + u1) / Y < q := by
    rcases hc with hc | hc
    · have h9 := knuth_lt hu1 hU
      revert h9 hc
      generalize (U * 4294967296 + u1) / Y = z
      clear k hY hU hu1
      intro hc h9
      omega
    · rw [Nat.div_lt_iff_lt_mul (by omega)]
      have := knuth_mul hY k.sum
      refine Nat.lt_of_add_lt_add_right (n := r * 4294967296) ?_
      rw [this, Nat.add_assoc, Nat.add_comm u1]
      exact Nat.add_lt_add_left hc _
  have hge : 1 ≤ q := Nat.lt_of_le_of_lt (Nat.zero_le _) hlt
  refine ⟨hge, Nat.le_sub_one_of_lt hlt, ?_⟩
  have hq : q - 1 + 1 = q := by omega
  have := k.sum
  rw [← hq, Nat.add_mul, Nat.one_mul] at this
  omega

theorem knuth_stop (hY : Y = y1 * 4294967296 + y0) (k : Knuth U Y y1 u1 q r) (hy : 0 < Y) (h : q * y0 ≤ r * 4294967296 + u1) : q = (U * 4294967296 + u1) / Y := by
  have := knuth_mul hY k.sum
  have h2 : q ≤ (U * 4294967296 + u1) / Y := by
    rw [Nat.le_div_iff_mul_le hy]; omega
  exact Nat.le_antisymm h2 k.ge

theorem knuth_break (hY : Y = y1 * 4294967296 + y0) (hy : 0 < Y) (hy0 : y0 < 4294967296) (hs : q * y1 + r = U) (hge : (U * 4294967296 + u1) / Y ≤ q) (hq : q ≤ 4294967296) (hr : 4294967296 ≤ r) :
    q = (U * 4294967296 + u1) / Y := by
  have := knuth_mul hY hs
  have h1 : q * y0 ≤ 4294967296 * 4294967296 := Nat.mul_le_mul hq (by omega)
  have h2 : q ≤ (U * 4294967296 + u1) / Y := by
    rw [Nat.le_div_iff_mul_le hy]; omega
  exact Nat.le_antisymm h2 hge

theorem knuth_key (V t Y N u0 q1 q0 r1 r0 : Nat) (hV : V * t = N * 4294967296 + u0) (d1 : Y * q1 + r1 = N) (d0 : Y * q0 + r0 = r1 * 4294967296 + u0) :
    V * t = Y * (q1 * 4294967296 + q0) + r0 := by
  rw [hV, ← d1, Nat.mul_add Y, ← Nat.mul_assoc]
  omega

/-- The two steps make the quotient and the rest. -/
theorem knuth_whole (V y s N u0 q1 q0 : Nat) (hy : 0 < y) (hV : V * 2 ^ s = N * 4294967296 + u0)
    (h1 : q1 = N / (y * 2 ^ s)) (h0 : q0 = (N % (y * 2 ^ s) * 4294967296 + u0) / (y * 2 ^ s)) :
    q1 * 4294967296 + q0 = V / y ∧ (N % (y * 2 ^ s) * 4294967296 + u0) % (y * 2 ^ s) / 2 ^ s = V % y := by
  have hp := Nat.two_pow_pos s
  have hY : 0 < y * 2 ^ s := Nat.mul_pos hy hp
  have d1 := Nat.div_add_mod N (y * 2 ^ s)
  have d0 := Nat.div_add_mod (N % (y * 2 ^ s) * 4294967296 + u0) (y * 2 ^ s)
  have l0 := Nat.mod_lt (N % (y * 2 ^ s) * 4294967296 + u0) hY
  rw [← h1] at d1
  rw [← h0] at d0
  have key := knuth_key V (2 ^ s) (y * 2 ^ s) N u0 q1 q0 _ _ hV d1 d0
  have hq : V * 2 ^ s / (y * 2 ^ s) = q1 * 4294967296 + q0 := by
    rw [key, Nat.mul_add_div hY, Nat.div_eq_of_lt l0, Nat.add_zero]
  have hr : V * 2 ^ s % (y * 2 ^ s) = (N % (y * 2 ^ s) * 4294967296 + u0) % (y * 2 ^ s) := by
    rw [key, Nat.mul_add_mod, Nat.mod_mod]
  rw [Nat.mul_div_mul_right _ _ hp] at hq
  rw [Nat.mul_mod_mul_right] at hr
  exact ⟨hq.symm, by rw [← hr, Nat.mul_div_cancel _ hp]⟩

theorem rest_wrap1 (a b p r : Nat) (hd : p + r = a * 4294967296 + b) (hr : r < 18446744073709551616) :
    ((a * 4294967296 % 18446744073709551616 + b) % 18446744073709551616 + 18446744073709551616 - p % 18446744073709551616) % 18446744073709551616 = r := by
  omega

theorem shift_whole (hi lo s : Nat) (hs : s ≤ 64) :
    (hi * 18446744073709551616 + lo) * 2 ^ s = ((hi * 2 ^ s + lo / 2 ^ (64 - s)) * 4294967296 + lo * 2 ^ s % 18446744073709551616 / 4294967296) * 4294967296 + lo * 2 ^ s % 18446744073709551616 % 4294967296 := by
  rw [shr_mul lo s hs, Nat.add_mul, Nat.mul_right_comm]
  generalize hi * 2 ^ s = a
  generalize lo * 2 ^ s = b
  omega

theorem norm_y (y : Nat) (h0 : 0 < y) (hy : y < 18446744073709551616) : 1 ≤ Lib.bitLen y ∧ Lib.bitLen y ≤ 64 ∧ 9223372036854775808 ≤ y * 2 ^ (64 - Lib.bitLen y) ∧ y * 2 ^ (64 - Lib.bitLen y) < 18446744073709551616 := by
  obtain ⟨h1, h2, h3⟩ := Lib.bitLenAux_bounds 64 y hy (by omega)
  have h4 := Lib.bitLen_le y 64 (by omega) hy
  have h1' : 1 ≤ Lib.bitLen y := h1
  have h2' : 2 ^ (Lib.bitLen y - 1) ≤ y := h2
  have h3' : y < 2 ^ Lib.bitLen y := h3
  generalize Lib.bitLen y = k at *
  refine ⟨h1', h4, ?_, ?_⟩
  · have := Nat.mul_le_mul_right (2 ^ (64 - k)) h2'
    rw [← Nat.pow_add, show k - 1 + (64 - k) = 63 by omega] at this
    exact this
  · have := (Nat.mul_lt_mul_right (Nat.two_pow_pos (64 - k))).2 h3'
    rw [← Nat.pow_add, show k + (64 - k) = 64 by omega] at this
    exact this

end Lm
end Go.Proofs.Ythpihbofcgeljaa
