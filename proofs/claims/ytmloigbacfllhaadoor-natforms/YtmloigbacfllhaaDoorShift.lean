/- One limb's shift: as the walk spells it, and as numbers; steps of a shift of many limbs. -/
import Derived.Test.YtmloigbacfllhaaDoorPure4
import Derived.WalkKit
import Derived.Laws.Bits64b
namespace Go.Proofs.YtmloigbacfllhaaDoor
open Go.RowKit
namespace Lm

theorem two64 (s : Nat) (hs : s ≤ 64) : (18446744073709551616 : Nat) = 2 ^ (64 - s) * 2 ^ s := by
  rw [← Nat.pow_add, Nat.sub_add_cancel hs]

/-- The limb that a left shift makes. -/
def shl (x s cy : Nat) : Nat := x * 2 ^ s % 18446744073709551616 + cy

theorem shl_low (x s : Nat) (hs : s ≤ 64) : x * 2 ^ s % 18446744073709551616 = x % 2 ^ (64 - s) * 2 ^ s := by
  rw [two64 s hs, Nat.mul_mod_mul_right]

theorem shr_mul (x s : Nat) (hs : s ≤ 64) : x / 2 ^ (64 - s) = x * 2 ^ s / 18446744073709551616 := by
  rw [two64 s hs, Nat.mul_div_mul_right _ _ (Nat.two_pow_pos s)]

theorem shl_lt (x s cy : Nat) (hs : s ≤ 64) (hc : cy < 2 ^ s) : shl x s cy < 18446744073709551616 := by
  unfold shl
  rw [shl_low x s hs]
  have h1 : x % 2 ^ (64 - s) < 2 ^ (64 - s) := Nat.mod_lt _ (Nat.two_pow_pos _)
  have h2 := Nat.mul_le_mul_right (2 ^ s) (Nat.succ_le_of_lt h1)
  rw [← two64 s hs, Nat.succ_eq_add_one, Nat.add_mul] at h2
  omega

theorem shr_lt (x s : Nat) (hs : s ≤ 64) (hx : x < 18446744073709551616) : x / 2 ^ (64 - s) < 2 ^ s := by
  rw [Nat.div_lt_iff_lt_mul (Nat.two_pow_pos _), Nat.mul_comm, ← two64 s hs]; exact hx

theorem shl_split (x s cy : Nat) (hs : s ≤ 64) : shl x s cy + x / 2 ^ (64 - s) * 18446744073709551616 = x * 2 ^ s + cy := by
  rw [shr_mul x s hs]
  unfold shl
  have := Nat.div_add_mod (x * 2 ^ s) 18446744073709551616
  omega

/-- As the walk spells a left shift with what comes from below. -/
theorem walk_shl (x s cy : Nat) (hs : s ≤ 64) (hc : cy < 2 ^ s) :
    bits BinOp.or IntKind.u64 (IntKind.u64.wrap ((x : Int) * 2 ^ s)) (cy : Int) = ((shl x s cy : Nat) : Int) := by
  have e1 : IntKind.u64.wrap ((x : Int) * 2 ^ s) = ((x * 2 ^ s % 18446744073709551616 : Nat) : Int) := by
    rw [IntKind.wrap_u64]
    have : ((x : Int) * 2 ^ s) = ((x * 2 ^ s : Nat) : Int) := by rw [Int.natCast_mul, Int.natCast_pow]; rfl
    rw [this]; omega
  have hcl : cy < 18446744073709551616 := Nat.lt_of_lt_of_le hc (by rw [show (18446744073709551616 : Nat) = 2 ^ 64 from rfl]; exact Nat.pow_le_pow_right (by omega) hs)
  rw [e1, bits_or_u64_nat _ _ (Nat.mod_lt _ (by omega)) hcl, shl_low x s hs]
  unfold shl
  rw [shl_low x s hs, Nat.mul_comm, Nat.two_pow_add_eq_or_of_lt hc]

theorem walk_shr (x k : Nat) : ((x : Int) / 2 ^ k) = ((x / 2 ^ k : Nat) : Int) := by
  rw [Int.natCast_ediv, Int.natCast_pow]; rfl

theorem val_replicate (n : Nat) : val (List.replicate n 0) = 0 := by
  induction n with
  | zero => rfl
  | succ n ih => simp [List.replicate_succ, val, ih]

/-- One step of a left shift by q limbs and s bits. -/
theorem left_step (Z out : List Nat) (q s k cy n : Nat) (hs : s ≤ 64) (hn : n = q * 64 + s) (hk : q + k < out.length)
    (h : val (out.take (q + k)) + cy * 18446744073709551616 ^ (q + k) = val (Z.take k) * 2 ^ n) :
    val ((out.set (q + k) (shl (Z.getD k 0) s cy)).take (q + (k + 1))) + Z.getD k 0 / 2 ^ (64 - s) * 18446744073709551616 ^ (q + (k + 1)) = val (Z.take (k + 1)) * 2 ^ n := by
  rw [show q + (k + 1) = q + k + 1 from rfl, take_set_succ _ _ _ hk, val_take_next Z, Nat.add_mul, ← h]
  have hsp := shl_split (Z.getD k 0) s cy hs
  generalize Z.getD k 0 = x at *
  generalize shl x s cy = r at *
  generalize x / 2 ^ (64 - s) = d at *
  have e1 : 18446744073709551616 ^ k * x * 2 ^ n = 18446744073709551616 ^ (q + k) * (x * 2 ^ s) := by
    rw [hn, Nat.pow_add 2, ← W_pow, Nat.pow_add]
    generalize (18446744073709551616 : Nat) ^ k = a
    generalize (18446744073709551616 : Nat) ^ q = c
    generalize (2 : Nat) ^ s = t
    rw [Nat.mul_comm c a, Nat.mul_assoc, Nat.mul_assoc]
    congr 1
    rw [← Nat.mul_assoc, ← Nat.mul_assoc, Nat.mul_comm x c]
  rw [e1, Nat.pow_succ 18446744073709551616 (q + k)]
  generalize (18446744073709551616 : Nat) ^ (q + k) = p at *
  have e2 : p * (r + d * 18446744073709551616) = p * (x * 2 ^ s + cy) := by rw [hsp]
  rw [Nat.mul_add, Nat.mul_add] at e2
  have e3 : d * (p * 18446744073709551616) = p * (d * 18446744073709551616) := by rw [← Nat.mul_assoc, Nat.mul_comm d p, Nat.mul_assoc]
  have e4 : cy * p = p * cy := Nat.mul_comm _ _
  omega

theorem blen_shl (v n : Nat) (hv : v ≠ 0) : blen (v * 2 ^ n) = blen v + n := by
  unfold blen
  have hp := Nat.two_pow_pos n
  have h0 : v * 2 ^ n ≠ 0 := Nat.mul_ne_zero hv (by omega)
  rw [if_neg h0, if_neg hv]
  have h1 := Nat.log2_self_le hv
  have h2 := (Nat.log2_lt hv (k := v.log2 + 1)).1 (by omega)
  have h3 : (v * 2 ^ n).log2 = v.log2 + n := by
    have a : ¬ (v * 2 ^ n).log2 < v.log2 + n := by
      rw [Nat.log2_lt h0, Nat.pow_add]
      exact Nat.not_lt.2 (Nat.mul_le_mul_right _ h1)
    have b : (v * 2 ^ n).log2 < v.log2 + n + 1 := by
      rw [Nat.log2_lt h0, show v.log2 + n + 1 = (v.log2 + 1) + n by omega, Nat.pow_add]
      exact (Nat.mul_lt_mul_right hp).2 h2
    omega
  omega

/-- A number of few bits has few limbs. -/
theorem few_limbs (zs : List Nat) (k : Nat) (hb : blen (val zs) ≤ k * 64) : (tr zs).length ≤ k := by
  refine Nat.le_of_not_lt fun hlt => ?_
  obtain ⟨n, hn⟩ : ∃ n, (tr zs).length = n + 1 := ⟨(tr zs).length - 1, by omega⟩
  have h1 := tr_val_ge zs n hn
  rw [val_tr, W_pow] at h1
  have h2 := (blen_le_iff _ _).1 hb
  have h3 : 2 ^ (k * 64) ≤ 2 ^ (n * 64) := Nat.pow_le_pow_right (by omega) (by omega)
  omega

theorem val_parts (zs : List Nat) (q : Nat) (h : q ≤ zs.length) : val zs = val (zs.take q) + 18446744073709551616 ^ q * val (zs.drop q) := by
  have e := val_append (zs.take q) (zs.drop q)
  rw [List.take_append_drop, List.length_take, Nat.min_eq_left h] at e
  exact e

theorem val_drop_next (zs : List Nat) (q : Nat) (h : q < zs.length) : val (zs.drop q) = zs.getD q 0 + 18446744073709551616 * val (zs.drop (q + 1)) := by
  rw [List.drop_eq_getElem_cons h]
  simp [val, List.getD, h]

theorem val_drop {zs : List Nat} (hl : Limbs zs) (q : Nat) (h : q ≤ zs.length) : val (zs.drop q) = val zs / 2 ^ (q * 64) := by
  have h1 := val_parts zs q h
  have h2 := val_take_lt hl q
  rw [← W_pow, h1, Nat.add_mul_div_left _ _ (W_pos q), Nat.div_eq_of_lt h2, Nat.zero_add]

theorem walk_and (x s : Nat) (hs : s < 64) (hx : x < 18446744073709551616) :
    bits BinOp.and IntKind.u64 (x : Int) (IntKind.u64.wrap (IntKind.u64.wrap (2 ^ s) - 1)) = ((x % 2 ^ s : Nat) : Int) := by
  have hp : 2 ^ s < 18446744073709551616 := by rw [show (18446744073709551616 : Nat) = 2 ^ 64 from rfl]; exact Nat.pow_lt_pow_right (by omega) hs
  have h0 := Nat.two_pow_pos s
  have e0 : ((2 : Int) ^ s) = ((2 ^ s : Nat) : Int) := by rw [Int.natCast_pow]; rfl
  have e1 : IntKind.u64.wrap (IntKind.u64.wrap (2 ^ s) - 1) = ((2 ^ s - 1 : Nat) : Int) := by
    rw [IntKind.wrap_u64, IntKind.wrap_u64, e0]; omega
  rw [e1, bits_and_u64_nat _ _ hx (by omega), Nat.and_two_pow_sub_one_eq_mod]

theorem low_val {Z : List Nat} (hl : Limbs Z) (q s n : Nat) (hs : s < 64) (hn : n = q * 64 + s) (h : q < Z.length) :
    val ((Z.take (q + 1)).set q (Z.getD q 0 % 2 ^ s)) = val Z % 2 ^ n := by
  have e1 : ((Z.take (q + 1)).set q (Z.getD q 0 % 2 ^ s)).take (q + 1) = (Z.take (q + 1)).set q (Z.getD q 0 % 2 ^ s) := List.take_of_length_le (by simp; omega)
  rw [← e1, take_set_succ _ _ _ (by simp; omega), List.take_take, Nat.min_eq_left (by omega)]
  have h1 := val_parts Z q (by omega)
  have h2 := val_take_lt hl q
  have h3 := val_drop_next Z q h
  have h4 : val (Z.drop q) % 2 ^ s = Z.getD q 0 % 2 ^ s := by
    rw [h3, two64 s (by omega), Nat.mul_comm (2 ^ (64 - s)), Nat.mul_assoc, Nat.add_mul_mod_self_left]
  rw [hn, Nat.pow_add, ← W_pow, Nat.mod_mul, h1, Nat.add_mul_mod_self_left, Nat.mod_eq_of_lt h2, Nat.add_mul_div_left _ _ (W_pos q), Nat.div_eq_of_lt h2, Nat.zero_add, h4]

/-- The limb that a right shift makes: what is left of x, and what comes from y above. -/
def shr (x y s : Nat) : Nat := x / 2 ^ s + y % 2 ^ s * 2 ^ (64 - s)

theorem walk_shr2 (x y s : Nat) (hs : s < 64) (hx : x < 18446744073709551616) :
    bits BinOp.or IntKind.u64 ((x : Int) / 2 ^ s) (IntKind.u64.wrap ((y : Int) * 2 ^ (64 - s))) = ((shr x y s : Nat) : Int) := by
  have e1 : IntKind.u64.wrap ((y : Int) * 2 ^ (64 - s)) = ((y * 2 ^ (64 - s) % 18446744073709551616 : Nat) : Int) := by
    rw [IntKind.wrap_u64]
    have : ((y : Int) * 2 ^ (64 - s)) = ((y * 2 ^ (64 - s) : Nat) : Int) := by rw [Int.natCast_mul, Int.natCast_pow]; rfl
    rw [this]; omega
  have hxl : x / 2 ^ s < 2 ^ (64 - s) := by
    rw [Nat.div_lt_iff_lt_mul (Nat.two_pow_pos s), ← two64 s (by omega)]; exact hx
  have hx2 : x / 2 ^ s < 18446744073709551616 := Nat.lt_of_le_of_lt (Nat.div_le_self _ _) hx
  rw [e1, walk_shr, bits_or_u64_nat _ _ hx2 (Nat.mod_lt _ (by omega)), shl_low y (64 - s) (by omega), show 64 - (64 - s) = s by omega]
  unfold shr
  rw [Nat.or_comm, Nat.mul_comm (y % 2 ^ s), ← Nat.two_pow_add_eq_or_of_lt hxl, Nat.add_comm]

theorem shr_lt2 (x y s : Nat) (hs : s < 64) (hx : x < 18446744073709551616) : shr x y s < 18446744073709551616 := by
  unfold shr
  have hxl : x / 2 ^ s < 2 ^ (64 - s) := by
    rw [Nat.div_lt_iff_lt_mul (Nat.two_pow_pos s), ← two64 s (by omega)]; exact hx
  have h1 : y % 2 ^ s < 2 ^ s := Nat.mod_lt _ (Nat.two_pow_pos _)
  have h2 := Nat.mul_le_mul_right (2 ^ (64 - s)) (Nat.succ_le_of_lt h1)
  rw [Nat.mul_comm (Nat.succ _), Nat.mul_comm (2 ^ s), ← two64 s (by omega), Nat.succ_eq_add_one, Nat.mul_add, Nat.mul_comm] at h2
  omega

/-- One step of a right shift by s bits. -/
theorem right_step (X out : List Nat) (s k : Nat) (hs : s < 64) (hk : k < out.length)
    (h : 2 ^ s * val (out.take k) + X.getD 0 0 % 2 ^ s = val (X.take k) + X.getD k 0 % 2 ^ s * 18446744073709551616 ^ k) :
    2 ^ s * val ((out.set k (shr (X.getD k 0) (X.getD (k + 1) 0) s)).take (k + 1)) + X.getD 0 0 % 2 ^ s = val (X.take (k + 1)) + X.getD (k + 1) 0 % 2 ^ s * 18446744073709551616 ^ (k + 1) := by
  rw [take_set_succ _ _ _ hk, val_take_next X, Nat.mul_add]
  have e : 2 ^ s * shr (X.getD k 0) (X.getD (k + 1) 0) s + X.getD k 0 % 2 ^ s = X.getD k 0 + X.getD (k + 1) 0 % 2 ^ s * 18446744073709551616 := by
    unfold shr
    have := Nat.div_add_mod (X.getD k 0) (2 ^ s)
    rw [Nat.mul_add]
    have e2 : 2 ^ s * (X.getD (k + 1) 0 % 2 ^ s * 2 ^ (64 - s)) = X.getD (k + 1) 0 % 2 ^ s * 18446744073709551616 := by
      rw [two64 s (by omega), Nat.mul_comm (2 ^ s), Nat.mul_assoc]
    omega
  generalize shr (X.getD k 0) (X.getD (k + 1) 0) s = r at *
  generalize X.getD (k + 1) 0 % 2 ^ s = b at *
  generalize X.getD k 0 % 2 ^ s = a at *
  generalize X.getD k 0 = x at *
  generalize X.getD 0 0 % 2 ^ s = c at *
  rw [Nat.pow_succ]
  generalize (18446744073709551616 : Nat) ^ k = p at *
  generalize (2 : Nat) ^ s = t at *
  have e3 : p * (t * r + a) = p * (x + b * 18446744073709551616) := by rw [e]
  rw [Nat.mul_add, Nat.mul_add] at e3
  have e4 : t * (p * r) = p * (t * r) := by rw [← Nat.mul_assoc, Nat.mul_comm t p, Nat.mul_assoc]
  have e5 : b * (p * 18446744073709551616) = p * (b * 18446744073709551616) := by rw [← Nat.mul_assoc, Nat.mul_comm b p, Nat.mul_assoc]
  have e6 : a * p = p * a := Nat.mul_comm _ _
  omega

theorem right_end (X out : List Nat) (s : Nat) (hl : out.length = X.length)
    (h : 2 ^ s * val (out.take X.length) + X.getD 0 0 % 2 ^ s = val (X.take X.length) + X.getD X.length 0 % 2 ^ s * 18446744073709551616 ^ X.length) : val out = val X / 2 ^ s := by
  have e : X.getD X.length 0 = 0 := by simp [List.getD]
  rw [e, Nat.zero_mod, Nat.zero_mul, Nat.add_zero, List.take_length, List.take_of_length_le (by omega)] at h
  have hlt : X.getD 0 0 % 2 ^ s < 2 ^ s := Nat.mod_lt _ (Nat.two_pow_pos s)
  rw [← h, Nat.mul_add_div (Nat.two_pow_pos s), Nat.div_eq_of_lt hlt, Nat.add_zero]

end Lm
end Go.Proofs.YtmloigbacfllhaaDoor
