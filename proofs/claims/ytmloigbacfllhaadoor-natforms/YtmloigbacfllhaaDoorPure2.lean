/- Plain facts: how many bits a number has; one step of a sum with its carry. -/
import Derived.Test.YtmloigbacfllhaaDoorPure
import Derived.Lib.BitFns
import Derived.Lib.ItoaNum
namespace Go.Proofs.YtmloigbacfllhaaDoor
namespace Lm

/-- How many bits a number has. -/
def blen (n : Nat) : Nat := if n = 0 then 0 else Nat.log2 n + 1

theorem blen_le_iff (n k : Nat) : blen n ≤ k ↔ n < 2 ^ k := by
  unfold blen
  by_cases h : n = 0
  · subst h; simp; exact Nat.two_pow_pos k
  · rw [if_neg h, ← Nat.log2_lt h]; omega

theorem blen_mono {a b : Nat} (h : a ≤ b) : blen a ≤ blen b := (blen_le_iff a _).2 (Nat.lt_of_le_of_lt h ((blen_le_iff b _).1 (Nat.le_refl _)))

theorem blen_eq (n k : Nat) (h1 : 2 ^ k ≤ n) (h2 : n < 2 ^ (k + 1)) : blen n = k + 1 := by
  have a := (blen_le_iff n (k + 1)).2 h2
  have b : ¬ blen n ≤ k := fun h => by have := (blen_le_iff n k).1 h; omega
  omega

/-- How many bits a list of limbs has. -/
def bl (zs : List Nat) : Nat := if tr zs = [] then 0 else ((tr zs).length - 1) * 64 + Lib.bitLen ((tr zs).getD ((tr zs).length - 1) 0)

theorem tr_last (zs : List Nat) (n : Nat) (h : (tr zs).length = n + 1) : (tr zs).getD n 0 ≠ 0 := by
  induction zs generalizing n with
  | nil => simp [tr] at h
  | cons z r ih =>
    unfold tr at h ⊢
    split at h
    · simp at h
    · rename_i hh
      rw [if_neg hh]
      simp only [List.length_cons] at h
      cases n with
      | zero =>
        have h0 : tr r = [] := List.length_eq_zero_iff.1 (by omega)
        simp only [List.getD_cons_zero]
        intro hz; exact hh ⟨hz, h0⟩
      | succ n => simp only [List.getD_cons_succ]; exact ih n (by omega)

theorem W_pow (n : Nat) : (18446744073709551616 : Nat) ^ n = 2 ^ (n * 64) := by
  rw [Nat.mul_comm, Nat.pow_mul]

theorem bl_eq {zs : List Nat} (h : Limbs zs) : bl zs = blen (val zs) := by
  by_cases h0 : tr zs = []
  · have hv := val_tr zs
    rw [h0] at hv
    simp only [val] at hv
    rw [← hv]; simp [bl, h0, blen]
  · obtain ⟨n, hn⟩ : ∃ n, (tr zs).length = n + 1 := ⟨(tr zs).length - 1, by have := List.length_pos_iff.2 h0; omega⟩
    have hl := limbs_tr h
    have hz := limb_lt hl n
    have hne := tr_last zs n hn
    have hb := Lib.bitLenAux_bounds 64 _ hz hne
    have e : val zs = val ((tr zs).take n) + 18446744073709551616 ^ n * (tr zs).getD n 0 := by
      rw [← val_tr zs, ← val_take_succ (tr zs) n (by omega), ← hn, List.take_length]
    have hlt : val ((tr zs).take n) < 18446744073709551616 ^ n := by
      have := val_lt (zs := (tr zs).take n) (fun z hz => hl z (List.mem_of_mem_take hz))
      have e2 : ((tr zs).take n).length = n := by simp; omega
      rwa [e2] at this
    have eb : bl zs = n * 64 + Lib.bitLen ((tr zs).getD n 0) := by simp [bl, h0, hn]
    rw [eb]
    rw [W_pow] at hlt e
    have hb' : 1 ≤ Lib.bitLen ((tr zs).getD n 0) ∧ 2 ^ (Lib.bitLen ((tr zs).getD n 0) - 1) ≤ (tr zs).getD n 0 ∧ (tr zs).getD n 0 < 2 ^ Lib.bitLen ((tr zs).getD n 0) := hb
    clear hb eb hz
    generalize (tr zs).getD n 0 = z at *
    generalize Lib.bitLen z = y at *
    generalize val ((tr zs).take n) = q at *
    obtain ⟨y1, y2, y3⟩ := hb'
    obtain ⟨m, rfl⟩ : ∃ m, y = m + 1 := ⟨y - 1, by omega⟩
    rw [Nat.add_sub_cancel] at y2
    have g1 : 2 ^ (n * 64 + m) ≤ val zs := by
      rw [e, Nat.pow_add]
      exact Nat.le_trans (Nat.mul_le_mul_left _ y2) (Nat.le_add_left _ _)
    have g2 : val zs < 2 ^ (n * 64 + m + 1) := by
      rw [e, Nat.add_assoc, Nat.pow_add]
      have := Nat.mul_le_mul_left (2 ^ (n * 64)) (Nat.succ_le_of_lt y3)
      rw [Nat.succ_eq_add_one, Nat.mul_add] at this
      omega
    rw [blen_eq _ _ g1 g2]; omega

theorem bl_tr {zs : List Nat} (h : Limbs zs) : bl (tr zs) = bl zs := by
  rw [bl_eq h, bl_eq (limbs_tr h), val_tr]

theorem tr_tr (zs : List Nat) : tr (tr zs) = tr zs := by
  induction zs with
  | nil => rfl
  | cons z r ih =>
    by_cases h : z = 0 ∧ tr r = []
    · simp [tr, h]
    · have e : tr (z :: r) = z :: tr r := by simp only [tr]; rw [if_neg h]
      rw [e]; simp only [tr, ih]; rw [if_neg h]

theorem val_take_next (zs : List Nat) (k : Nat) : val (zs.take (k + 1)) = val (zs.take k) + 18446744073709551616 ^ k * zs.getD k 0 := by
  by_cases h : k < zs.length
  · exact val_take_succ zs k h
  · have e : zs.getD k 0 = 0 := by simp [List.getD, Nat.le_of_not_lt h]
    rw [e, List.take_of_length_le (by omega), List.take_of_length_le (by omega)]; simp

theorem take_set_succ (out : List Nat) (k z : Nat) (h : k < out.length) : val ((out.set k z).take (k + 1)) = val (out.take k) + 18446744073709551616 ^ k * z := by
  rw [val_take_next, List.take_set_of_le (Nat.le_refl k)]
  congr 2
  simp [List.getD, h]

theorem add_step (X S out : List Nat) (k cy : Nat) (hk : k < out.length) (h : val (out.take k) + cy * 18446744073709551616 ^ k = val (X.take k) + val (S.take k)) :
    val ((out.set k ((X.getD k 0 + S.getD k 0 + cy) % 18446744073709551616)).take (k + 1)) + (X.getD k 0 + S.getD k 0 + cy) / 18446744073709551616 * 18446744073709551616 ^ (k + 1) = val (X.take (k + 1)) + val (S.take (k + 1)) := by
  rw [take_set_succ _ _ _ hk, val_take_next X, val_take_next S]
  generalize X.getD k 0 = x
  generalize S.getD k 0 = y
  have hd := Nat.div_add_mod (x + y + cy) 18446744073709551616
  generalize (x + y + cy) % 18446744073709551616 = m at *
  generalize (x + y + cy) / 18446744073709551616 = d at *
  rw [Nat.pow_succ]
  generalize (18446744073709551616 : Nat) ^ k = p at *
  have e1 : p * m + d * (p * 18446744073709551616) = p * (18446744073709551616 * d + m) := by
    rw [Nat.mul_add, Nat.add_comm]; congr 1; rw [← Nat.mul_assoc, ← Nat.mul_assoc, Nat.mul_comm d p, Nat.mul_assoc, Nat.mul_assoc, Nat.mul_comm d]
  have e2 : p * (x + y + cy) = p * x + p * y + cy * p := by rw [Nat.mul_add, Nat.mul_add, Nat.mul_comm cy]
  rw [hd, e2] at e1
  omega

theorem limbs_set {out : List Nat} (h : Limbs out) (k z : Nat) (hz : z < 18446744073709551616) : Limbs (out.set k z) := by
  intro y hy
  rcases List.mem_or_eq_of_mem_set hy with h1 | h1
  · exact h y h1
  · omega

theorem limbs_replicate (n : Nat) : Limbs (List.replicate n 0) := by
  intro z hz
  have := List.eq_of_mem_replicate hz
  omega

end Lm
end Go.Proofs.YtmloigbacfllhaaDoor
