/- Plain facts on lists of limbs (no Go text): the value of a list, the list without noughts at its top. -/
import Derived.Lib.BitFns
import Derived.Lib.ItoaNum
import Derived.WalkKit
import Derived.Laws.Bits64b
import Derived.Laws.BitsLemmas
namespace Go.Proofs.YtppblbhkghjphaaGreatDoor
namespace Lm

/-- The value of limbs of 64 bits, the least first. -/
def val : List Nat → Nat
  | [] => 0
  | z :: r => z + 18446744073709551616 * val r

/-- Without noughts at the top. -/
def tr : List Nat → List Nat
  | [] => []
  | z :: r => if z = 0 ∧ tr r = [] then [] else z :: tr r

/-- All limbs are limbs. -/
def Limbs (zs : List Nat) : Prop := ∀ z ∈ zs, z < 18446744073709551616

theorem tr_snoc_zero (l : List Nat) : tr (l ++ [0]) = tr l := by
  induction l with
  | nil => simp [tr]
  | cons z r ih => simp [tr, ih]

theorem tr_snoc (l : List Nat) (z : Nat) (h : z ≠ 0) : tr (l ++ [z]) = l ++ [z] := by
  induction l with
  | nil => simp [tr, h]
  | cons y r ih => simp [tr, ih]

theorem take_snoc (zs : List Nat) (k : Nat) (h : k < zs.length) : zs.take (k + 1) = zs.take k ++ [zs.getD k 0] := by
  rw [List.take_succ_eq_append_getElem h]; simp [List.getD, h]

theorem tr_step (zs : List Nat) (k : Nat) (h : k < zs.length) (hz : zs.getD k 0 = 0) : tr (zs.take (k + 1)) = tr (zs.take k) := by
  rw [take_snoc zs k h, hz, tr_snoc_zero]

theorem tr_stop (zs : List Nat) (k : Nat) (h : k < zs.length) (hz : zs.getD k 0 ≠ 0) : tr (zs.take (k + 1)) = zs.take (k + 1) := by
  rw [take_snoc zs k h, tr_snoc _ _ hz]

theorem tr_length_le (zs : List Nat) : (tr zs).length ≤ zs.length := by
  induction zs with
  | nil => simp [tr]
  | cons z r ih => unfold tr; split <;> simp <;> omega

/-- What is left is the head of the list. -/
theorem tr_take (zs : List Nat) : tr zs = zs.take (tr zs).length := by
  induction zs with
  | nil => simp [tr]
  | cons z r ih =>
    unfold tr
    split
    · simp
    · simp only [List.length_cons, List.take_succ_cons]; rw [← ih]

theorem tr_getD (zs : List Nat) (k : Nat) (h : k < (tr zs).length) : (tr zs).getD k 0 = zs.getD k 0 := by
  have e := tr_take zs
  have hl := tr_length_le zs
  rw [e]; simp [List.getD, h]

theorem val_tr (zs : List Nat) : val (tr zs) = val zs := by
  induction zs with
  | nil => rfl
  | cons z r ih =>
    unfold tr
    split
    · rename_i h
      rw [h.2] at ih
      simp only [val] at ih ⊢
      rw [← ih, h.1]
    · simp only [val]; rw [ih]

theorem limbs_tr {zs : List Nat} (h : Limbs zs) : Limbs (tr zs) := by
  intro z hz
  rw [tr_take] at hz
  exact h z (List.mem_of_mem_take hz)

theorem limb_lt {zs : List Nat} (h : Limbs zs) (k : Nat) : zs.getD k 0 < 18446744073709551616 := by
  by_cases hk : k < zs.length
  · have e : zs.getD k 0 = zs[k] := by simp [List.getD, hk]
    rw [e]; exact h _ (List.getElem_mem hk)
  · have e : zs.getD k 0 = 0 := by simp [List.getD, Nat.le_of_not_lt hk]
    omega

theorem val_append (a b : List Nat) : val (a ++ b) = val a + 18446744073709551616 ^ a.length * val b := by
  induction a with
  | nil => simp [val]
  | cons z r ih =>
    simp only [List.cons_append, val, ih, List.length_cons, Nat.pow_succ, Nat.mul_add]
    rw [← Nat.mul_assoc, Nat.mul_comm (18446744073709551616 ^ r.length) 18446744073709551616]; omega

theorem val_lt {zs : List Nat} (h : Limbs zs) : val zs < 18446744073709551616 ^ zs.length := by
  induction zs with
  | nil => simp [val]
  | cons z r ih =>
    have hz : z < 18446744073709551616 := h z (by simp)
    have hr := ih (fun x hx => h x (by simp [hx]))
    simp only [val, List.length_cons, Nat.pow_succ]
    have := Nat.mul_le_mul_left 18446744073709551616 (Nat.succ_le_of_lt hr)
    rw [Nat.mul_comm] at this ⊢
    omega

theorem val_take_succ (zs : List Nat) (k : Nat) (h : k < zs.length) : val (zs.take (k + 1)) = val (zs.take k) + 18446744073709551616 ^ k * zs.getD k 0 := by
  rw [take_snoc zs k h, val_append]
  have e : (zs.take k).length = k := by simp; omega
  rw [e]; simp [val]

end Lm
end Go.Proofs.YtppblbhkghjphaaGreatDoor

/- Plain facts: how many bits a number has; one step of a sum with its carry. -/
namespace Go.Proofs.YtppblbhkghjphaaGreatDoor
namespace Lm

/-- How many bits a number has. -/
def blen (n : Nat) : Nat := if n = 0 then 0 else Nat.log2 n + 1

theorem blen_le_iff (n k : Nat) : blen n ≤ k ↔ n < 2 ^ k := by
  unfold blen
  by_cases h : n = 0
  · subst h; simp; exact Nat.two_pow_pos k
  · rw [if_neg h, ← Nat.log2_lt h]; omega

theorem blen_mono {a b : Nat} (h : a ≤ b) : blen a ≤ blen b := (blen_le_iff a _).2 (Nat.lt_of_le_of_lt h ((blen_le_iff b _).1 (Nat.le_refl _)))

theorem blen_eq (n k : Nat) (h1 : 2 ^ k ≤ n) (h2 : n < 2 ^ (k + 1)) : blen n = k + 1 := by
  have a := (blen_le_iff n (k + 1)).2 h2
  have b : ¬ blen n ≤ k := fun h => by have := (blen_le_iff n k).1 h; omega
  omega

/-- How many bits a list of limbs has. -/
def bl (zs : List Nat) : Nat := if tr zs = [] then 0 else ((tr zs).length - 1) * 64 + Lib.bitLen ((tr zs).getD ((tr zs).length - 1) 0)

theorem tr_last (zs : List Nat) (n : Nat) (h : (tr zs).length = n + 1) : (tr zs).getD n 0 ≠ 0 := by
  induction zs generalizing n with
  | nil => simp [tr] at h
  | cons z r ih =>
    unfold tr at h ⊢
    split at h
    · simp at h
    · rename_i hh
      rw [if_neg hh]
      simp only [List.length_cons] at h
      cases n with
      | zero =>
        have h0 : tr r = [] := List.length_eq_zero_iff.1 (by omega)
        simp only [List.getD_cons_zero]
        intro hz; exact hh ⟨hz, h0⟩
      | succ n => simp only [List.getD_cons_succ]; exact ih n (by omega)

theorem W_pow (n : Nat) : (18446744073709551616 : Nat) ^ n = 2 ^ (n * 64) := by
  rw [Nat.mul_comm, Nat.pow_mul]

theorem bl_eq {zs : List Nat} (h : Limbs zs) : bl zs = blen (val zs) := by
  by_cases h0 : tr zs = []
  · have hv := val_tr zs
    rw [h0] at hv
    simp only [val] at hv
    rw [← hv]; simp [bl, h0, blen]
  · obtain ⟨n, hn⟩ : ∃ n, (tr zs).length = n + 1 := ⟨(tr zs).length - 1, by have := List.length_pos_iff.2 h0; omega⟩
    have hl := limbs_tr h
    have hz := limb_lt hl n
    have hne := tr_last zs n hn
    have hb := Lib.bitLenAux_bounds 64 _ hz hne
    have e : val zs = val ((tr zs).take n) + 18446744073709551616 ^ n * (tr zs).getD n 0 := by
      rw [← val_tr zs, ← val_take_succ (tr zs) n (by omega), ← hn, List.take_length]
    have hlt : val ((tr zs).take n) < 18446744073709551616 ^ n := by
      have := val_lt (zs := (tr zs).take n) (fun z hz => hl z (List.mem_of_mem_take hz))
      have e2 : ((tr zs).take n).length = n := by simp; omega
      rwa [e2] at this
    have eb : bl zs = n * 64 + Lib.bitLen ((tr zs).getD n 0) := by simp [bl, h0, hn]
    rw [eb]
    rw [W_pow] at hlt e
    have hb' : 1 ≤ Lib.bitLen ((tr zs).getD n 0) ∧ 2 ^ (Lib.bitLen ((tr zs).getD n 0) - 1) ≤ (tr zs).getD n 0 ∧ (tr zs).getD n 0 < 2 ^ Lib.bitLen ((tr zs).getD n 0) := hb
    clear hb eb hz
    generalize (tr zs).getD n 0 = z at *
    generalize Lib.bitLen z = y at *
    generalize val ((tr zs).take n) = q at *
    obtain ⟨y1, y2, y3⟩ := hb'
    obtain ⟨m, rfl⟩ : ∃ m, y = m + 1 := ⟨y - 1, by omega⟩
    rw [Nat.add_sub_cancel] at y2
    have g1 : 2 ^ (n * 64 + m) ≤ val zs := by
      rw [e, Nat.pow_add]
      exact Nat.le_trans (Nat.mul_le_mul_left _ y2) (Nat.le_add_left _ _)
    have g2 : val zs < 2 ^ (n * 64 + m + 1) := by
      rw [e, Nat.add_assoc, Nat.pow_add]
      have := Nat.mul_le_mul_left (2 ^ (n * 64)) (Nat.succ_le_of_lt y3)
      rw [Nat.succ_eq_add_one, Nat.mul_add] at this
      omega
    rw [blen_eq _ _ g1 g2]; omega

theorem bl_tr {zs : List Nat} (h : Limbs zs) : bl (tr zs) = bl zs := by
  rw [bl_eq h, bl_eq (limbs_tr h), val_tr]

theorem tr_tr (zs : List Nat) : tr (tr zs) = tr zs := by
  induction zs with
  | nil => rfl
  | cons z r ih =>
    by_cases h : z = 0 ∧ tr r = []
    · simp [tr, h]
    · have e : tr (z :: r) = z :: tr r := by simp only [tr]; rw [if_neg h]
      rw [e]; simp only [tr, ih]; rw [if_neg h]

theorem val_take_next (zs : List Nat) (k : Nat) : val (zs.take (k + 1)) = val (zs.take k) + 18446744073709551616 ^ k * zs.getD k 0 := by
  by_cases h : k < zs.length
  · exact val_take_succ zs k h
  · have e : zs.getD k 0 = 0 := by simp [List.getD, Nat.le_of_not_lt h]
    rw [e, List.take_of_length_le (by omega), List.take_of_length_le (by omega)]; simp

theorem take_set_succ (out : List Nat) (k z : Nat) (h : k < out.length) : val ((out.set k z).take (k + 1)) = val (out.take k) + 18446744073709551616 ^ k * z := by
  rw [val_take_next, List.take_set_of_le (Nat.le_refl k)]
  congr 2
  simp [List.getD, h]

theorem add_step (X S out : List Nat) (k cy : Nat) (hk : k < out.length) (h : val (out.take k) + cy * 18446744073709551616 ^ k = val (X.take k) + val (S.take k)) :
    val ((out.set k ((X.getD k 0 + S.getD k 0 + cy) % 18446744073709551616)).take (k + 1)) + (X.getD k 0 + S.getD k 0 + cy) / 18446744073709551616 * 18446744073709551616 ^ (k + 1) = val (X.take (k + 1)) + val (S.take (k + 1)) := by
  rw [take_set_succ _ _ _ hk, val_take_next X, val_take_next S]
  generalize X.getD k 0 = x
  generalize S.getD k 0 = y
  have hd := Nat.div_add_mod (x + y + cy) 18446744073709551616
  generalize (x + y + cy) % 18446744073709551616 = m at *
  generalize (x + y + cy) / 18446744073709551616 = d at *
  rw [Nat.pow_succ]
  generalize (18446744073709551616 : Nat) ^ k = p at *
  have e1 : p * m + d * (p * 18446744073709551616) = p * (18446744073709551616 * d + m) := by
    rw [Nat.mul_add, Nat.add_comm]; congr 1; rw [← Nat.mul_assoc, ← Nat.mul_assoc, Nat.mul_comm d p, Nat.mul_assoc, Nat.mul_assoc, Nat.mul_comm d]
  have e2 : p * (x + y + cy) = p * x + p * y + cy * p := by rw [Nat.mul_add, Nat.mul_add, Nat.mul_comm cy]
  rw [hd, e2] at e1
  omega

theorem limbs_set {out : List Nat} (h : Limbs out) (k z : Nat) (hz : z < 18446744073709551616) : Limbs (out.set k z) := by
  intro y hy
  rcases List.mem_or_eq_of_mem_set hy with h1 | h1
  · exact h y h1
  · omega

theorem limbs_replicate (n : Nat) : Limbs (List.replicate n 0) := by
  intro z hz
  have := List.eq_of_mem_replicate hz
  omega

end Lm
end Go.Proofs.YtppblbhkghjphaaGreatDoor

/- Plain facts: the order of two lists of limbs; one step of a difference with its borrow. -/
namespace Go.Proofs.YtppblbhkghjphaaGreatDoor
namespace Lm

/-- -1, 0, 1. -/
def cmpN (a b : Nat) : Int := if a < b then -1 else if b < a then 1 else 0

theorem cmpN_lt {a b : Nat} (h : a < b) : cmpN a b = -1 := by simp [cmpN, h]
theorem cmpN_gt {a b : Nat} (h : b < a) : cmpN a b = 1 := by
  unfold cmpN; rw [if_neg (by omega), if_pos h]
theorem cmpN_self (a : Nat) : cmpN a a = 0 := by simp [cmpN]
theorem cmpN_swap (a b : Nat) : cmpN a b = - cmpN b a := by
  rcases Nat.lt_trichotomy a b with h | h | h
  · rw [cmpN_lt h, cmpN_gt h]
  · subst h; simp [cmpN_self]
  · rw [cmpN_lt h, cmpN_gt h]; omega
theorem cmpN_range (a b : Nat) : cmpN a b = -1 ∧ a < b ∨ cmpN a b = 0 ∧ a = b ∨ cmpN a b = 1 ∧ b < a := by
  rcases Nat.lt_trichotomy a b with h | h | h
  · exact .inl ⟨cmpN_lt h, h⟩
  · subst h; exact .inr (.inl ⟨cmpN_self a, rfl⟩)
  · exact .inr (.inr ⟨cmpN_gt h, h⟩)
theorem cmpN_add (a b c : Nat) : cmpN (a + c) (b + c) = cmpN a b := by
  unfold cmpN
  simp

theorem W_pos (n : Nat) : 0 < (18446744073709551616 : Nat) ^ n := Nat.pow_pos (by omega)

/-- Top limbs decide. -/
theorem cmpN_top (p a b x y : Nat) (ha : a < p) (hb : b < p) (hxy : x ≠ y) : cmpN (a + p * x) (b + p * y) = cmpN x y := by
  rcases Nat.lt_or_gt_of_ne hxy with h | h
  · rw [cmpN_lt h, cmpN_lt]
    have := Nat.mul_le_mul_left p (Nat.succ_le_of_lt h)
    rw [Nat.succ_eq_add_one, Nat.mul_add] at this
    omega
  · rw [cmpN_gt h, cmpN_gt]
    have := Nat.mul_le_mul_left p (Nat.succ_le_of_lt h)
    rw [Nat.succ_eq_add_one, Nat.mul_add] at this
    omega

theorem limbs_take {zs : List Nat} (h : Limbs zs) (n : Nat) : Limbs (zs.take n) := fun z hz => h z (List.mem_of_mem_take hz)

theorem val_take_lt {zs : List Nat} (h : Limbs zs) (n : Nat) : val (zs.take n) < 18446744073709551616 ^ n := by
  have h1 := val_lt (limbs_take h n)
  have h2 : (zs.take n).length ≤ n := List.length_take_le _ _
  exact Nat.lt_of_lt_of_le h1 (Nat.pow_le_pow_right (by omega) h2)

theorem cmp_same {Z Y : List Nat} (j : Nat) (he : Z.getD j 0 = Y.getD j 0) : cmpN (val (Z.take (j + 1))) (val (Y.take (j + 1))) = cmpN (val (Z.take j)) (val (Y.take j)) := by
  rw [val_take_next, val_take_next, he, cmpN_add]

theorem cmp_top {Z Y : List Nat} (hZ : Limbs Z) (hY : Limbs Y) (j : Nat) (hne : Z.getD j 0 ≠ Y.getD j 0) : cmpN (val (Z.take (j + 1))) (val (Y.take (j + 1))) = cmpN (Z.getD j 0) (Y.getD j 0) := by
  rw [val_take_next, val_take_next]
  exact cmpN_top _ _ _ _ _ (val_take_lt hZ j) (val_take_lt hY j) hne

theorem tr_val_ge (ys : List Nat) (n : Nat) (h : (tr ys).length = n + 1) : 18446744073709551616 ^ n ≤ val (tr ys) := by
  have h1 := tr_last ys n h
  have h2 := val_take_succ (tr ys) n (by omega)
  rw [← h, List.take_length] at h2
  rw [h2]
  have := Nat.mul_le_mul_left (18446744073709551616 ^ n) (Nat.one_le_iff_ne_zero.2 h1)
  omega

theorem shorter_lt {zs ys : List Nat} (hz : Limbs zs) (h : (tr zs).length < (tr ys).length) : val (tr zs) < val (tr ys) := by
  obtain ⟨n, hn⟩ : ∃ n, (tr ys).length = n + 1 := ⟨(tr ys).length - 1, by omega⟩
  have h1 := val_lt (limbs_tr hz)
  have h2 := tr_val_ge ys n hn
  have h3 : (18446744073709551616 : Nat) ^ (tr zs).length ≤ 18446744073709551616 ^ n := Nat.pow_le_pow_right (by omega) (by omega)
  omega

theorem cmp_len {zs ys : List Nat} (hz : Limbs zs) (hy : Limbs ys) (h : (tr zs).length ≠ (tr ys).length) : cmpN (val (tr zs)) (val (tr ys)) = cmpN (tr zs).length (tr ys).length := by
  rcases Nat.lt_or_gt_of_ne h with h | h
  · rw [cmpN_lt h, cmpN_lt (shorter_lt hz h)]
  · rw [cmpN_gt h, cmpN_gt (shorter_lt hy h)]

/-- The borrow. -/
def bor (x y b : Nat) : Nat := if x < y + b then 1 else 0

theorem sub_step (X S out : List Nat) (k bw : Nat) (hk : k < out.length) (hx : X.getD k 0 < 18446744073709551616) (hy : S.getD k 0 < 18446744073709551616) (hb : bw ≤ 1)
    (h : val (out.take k) + val (S.take k) = val (X.take k) + bw * 18446744073709551616 ^ k) :
    val ((out.set k ((X.getD k 0 + 18446744073709551616 - S.getD k 0 - bw) % 18446744073709551616)).take (k + 1)) + val (S.take (k + 1)) = val (X.take (k + 1)) + bor (X.getD k 0) (S.getD k 0) bw * 18446744073709551616 ^ (k + 1) := by
  rw [take_set_succ _ _ _ hk, val_take_next X, val_take_next S, Nat.pow_succ]
  generalize X.getD k 0 = x at *
  generalize S.getD k 0 = y at *
  have hm : (x + 18446744073709551616 - y - bw) % 18446744073709551616 + y + bw = x + bor x y bw * 18446744073709551616 := by
    unfold bor; split <;> omega
  generalize (x + 18446744073709551616 - y - bw) % 18446744073709551616 = m at *
  generalize bor x y bw = d at *
  generalize (18446744073709551616 : Nat) ^ k = p at *
  have e : p * (m + y + bw) = p * (x + d * 18446744073709551616) := by rw [hm]
  rw [Nat.mul_add, Nat.mul_add, Nat.mul_add] at e
  have e2 : d * (p * 18446744073709551616) = p * (d * 18446744073709551616) := by rw [← Nat.mul_assoc, Nat.mul_comm d p, Nat.mul_assoc]
  have e3 : bw * p = p * bw := Nat.mul_comm _ _
  omega

end Lm
end Go.Proofs.YtppblbhkghjphaaGreatDoor

/- Plain facts: a number has one list of limbs without noughts at its top. -/
namespace Go.Proofs.YtppblbhkghjphaaGreatDoor
namespace Lm

theorem tr_tail {z : Nat} {r : List Nat} (h : tr (z :: r) = z :: r) : tr r = r := by
  simp only [tr] at h
  split at h
  · cases h
  · injection h

theorem val_zero {a : List Nat} (h : tr a = a) (hv : val a = 0) : a = [] := by
  induction a with
  | nil => rfl
  | cons z r ih =>
    exfalso
    simp only [val] at hv
    have hz : z = 0 := by omega
    have hr : val r = 0 := by omega
    have := ih (tr_tail h) hr
    subst this hz
    simp [tr] at h

theorem norm_inj : ∀ (a b : List Nat), Limbs a → Limbs b → tr a = a → tr b = b → val a = val b → a = b
  | [], b, _, _, _, hb, hv => (val_zero hb (by simp only [val] at hv; omega)).symm
  | a, [], _, _, ha, _, hv => val_zero ha (by simp only [val] at hv; omega)
  | x :: r, y :: s, hla, hlb, ha, hb, hv => by
    have hx : x < 18446744073709551616 := hla x (by simp)
    have hy : y < 18446744073709551616 := hlb y (by simp)
    simp only [val] at hv
    have e1 : x = y := by omega
    have e2 : val r = val s := by omega
    have := norm_inj r s (fun z hz => hla z (by simp [hz])) (fun z hz => hlb z (by simp [hz])) (tr_tail ha) (tr_tail hb) e2
    rw [e1, this]

end Lm
end Go.Proofs.YtppblbhkghjphaaGreatDoor

/- Plain facts: one step of a product by a limb; one step of a quotient by a limb. -/
namespace Go.Proofs.YtppblbhkghjphaaGreatDoor
namespace Lm

/-- A limb times a limb and a carry: two limbs. -/
theorem mul_hi (x m cy : Nat) (hx : x < 18446744073709551616) (hm : m < 18446744073709551616) (hc : cy < 18446744073709551616) :
    x * m / 18446744073709551616 + (x * m % 18446744073709551616 + cy) / 18446744073709551616 = (x * m + cy) / 18446744073709551616 ∧ (x * m + cy) / 18446744073709551616 < 18446744073709551616 ∧
    (x * m % 18446744073709551616 + cy) % 18446744073709551616 = (x * m + cy) % 18446744073709551616 := by
  have h1 : x * m ≤ 18446744073709551615 * 18446744073709551615 := Nat.mul_le_mul (by omega) (by omega)
  generalize x * m = p at *
  omega

theorem times_step (X out : List Nat) (m k cy : Nat) (hk : k < out.length) (h : val (out.take k) + cy * 18446744073709551616 ^ k = val (X.take k) * m) :
    val ((out.set k ((X.getD k 0 * m + cy) % 18446744073709551616)).take (k + 1)) + (X.getD k 0 * m + cy) / 18446744073709551616 * 18446744073709551616 ^ (k + 1) = val (X.take (k + 1)) * m := by
  rw [take_set_succ _ _ _ hk, val_take_next X]
  generalize X.getD k 0 = x
  have hd := Nat.div_add_mod (x * m + cy) 18446744073709551616
  generalize (x * m + cy) % 18446744073709551616 = r at *
  generalize (x * m + cy) / 18446744073709551616 = d at *
  rw [Nat.pow_succ, Nat.add_mul, ← h]
  generalize (18446744073709551616 : Nat) ^ k = p at *
  have e1 : p * (18446744073709551616 * d + r) = p * (x * m + cy) := by rw [hd]
  rw [Nat.mul_add, Nat.mul_add] at e1
  have e2 : d * (p * 18446744073709551616) = p * (18446744073709551616 * d) := by rw [← Nat.mul_assoc, Nat.mul_comm d p, Nat.mul_assoc, Nat.mul_comm d]
  have e3 : cy * p = p * cy := Nat.mul_comm _ _
  have e4 : p * x * m = p * (x * m) := Nat.mul_assoc _ _ _
  omega

/-- One step of a quotient: from the top down; 'j' limbs are still to come. -/
theorem through_step (X out : List Nat) (d j r : Nat) (hj : j < out.length)
    (h : val (out.drop (j + 1)) * d + r = val (X.drop (j + 1))) (hxl : j < X.length) :
    val ((out.set j ((r * 18446744073709551616 + X.getD j 0) / d)).drop j) * d + (r * 18446744073709551616 + X.getD j 0) % d = val (X.drop j) := by
  have e1 : (out.set j ((r * 18446744073709551616 + X.getD j 0) / d)).drop j = ((r * 18446744073709551616 + X.getD j 0) / d) :: out.drop (j + 1) := by
    rw [List.drop_eq_getElem_cons (by simpa using hj)]
    simp [List.drop_set]
  have e2 : X.drop j = X.getD j 0 :: X.drop (j + 1) := by
    rw [List.drop_eq_getElem_cons hxl]; simp [List.getD, hxl]
  rw [e1, e2]
  simp only [val]
  rw [← h]
  generalize X.getD j 0 = x
  generalize val (out.drop (j + 1)) = q
  have hdm := Nat.div_add_mod (r * 18446744073709551616 + x) d
  generalize (r * 18446744073709551616 + x) / d = a at *
  generalize (r * 18446744073709551616 + x) % d = b at *
  have e3 : (a + 18446744073709551616 * q) * d = d * a + 18446744073709551616 * (q * d) := by
    rw [Nat.add_mul, Nat.mul_comm a d, Nat.mul_assoc]
  rw [e3]
  omega

theorem quo_lt (r x d : Nat) (hr : r < d) (hx : x < 18446744073709551616) : (r * 18446744073709551616 + x) / d < 18446744073709551616 := by
  rw [Nat.div_lt_iff_lt_mul (by omega)]
  have := Nat.mul_le_mul_right 18446744073709551616 (Nat.succ_le_of_lt hr)
  rw [Nat.succ_eq_add_one, Nat.add_mul] at this
  rw [Nat.mul_comm]
  omega

end Lm
end Go.Proofs.YtppblbhkghjphaaGreatDoor

/- One limb's shift: as the walk spells it, and as numbers; steps of a shift of many limbs. -/
namespace Go.Proofs.YtppblbhkghjphaaGreatDoor
open Go.RowKit
namespace Lm

theorem two64 (s : Nat) (hs : s ≤ 64) : (18446744073709551616 : Nat) = 2 ^ (64 - s) * 2 ^ s := by
  rw [← Nat.pow_add, Nat.sub_add_cancel hs]

/-- The limb that a left shift makes. -/
def shl (x s cy : Nat) : Nat := x * 2 ^ s % 18446744073709551616 + cy

theorem shl_low (x s : Nat) (hs : s ≤ 64) : x * 2 ^ s % 18446744073709551616 = x % 2 ^ (64 - s) * 2 ^ s := by
  rw [two64 s hs, Nat.mul_mod_mul_right]

theorem shr_mul (x s : Nat) (hs : s ≤ 64) : x / 2 ^ (64 - s) = x * 2 ^ s / 18446744073709551616 := by
  rw [two64 s hs, Nat.mul_div_mul_right _ _ (Nat.two_pow_pos s)]

theorem shl_lt (x s cy : Nat) (hs : s ≤ 64) (hc : cy < 2 ^ s) : shl x s cy < 18446744073709551616 := by
  unfold shl
  rw [shl_low x s hs]
  have h1 : x % 2 ^ (64 - s) < 2 ^ (64 - s) := Nat.mod_lt _ (Nat.two_pow_pos _)
  have h2 := Nat.mul_le_mul_right (2 ^ s) (Nat.succ_le_of_lt h1)
  rw [← two64 s hs, Nat.succ_eq_add_one, Nat.add_mul] at h2
  omega

theorem shr_lt (x s : Nat) (hs : s ≤ 64) (hx : x < 18446744073709551616) : x / 2 ^ (64 - s) < 2 ^ s := by
  rw [Nat.div_lt_iff_lt_mul (Nat.two_pow_pos _), Nat.mul_comm, ← two64 s hs]; exact hx

theorem shl_split (x s cy : Nat) (hs : s ≤ 64) : shl x s cy + x / 2 ^ (64 - s) * 18446744073709551616 = x * 2 ^ s + cy := by
  rw [shr_mul x s hs]
  unfold shl
  have := Nat.div_add_mod (x * 2 ^ s) 18446744073709551616
  omega

/-- As the walk spells a left shift with what comes from below. -/
theorem walk_shl (x s cy : Nat) (hs : s ≤ 64) (hc : cy < 2 ^ s) :
    bits BinOp.or IntKind.u64 (IntKind.u64.wrap ((x : Int) * 2 ^ s)) (cy : Int) = ((shl x s cy : Nat) : Int) := by
  have e1 : IntKind.u64.wrap ((x : Int) * 2 ^ s) = ((x * 2 ^ s % 18446744073709551616 : Nat) : Int) := by
    rw [IntKind.wrap_u64]
    have : ((x : Int) * 2 ^ s) = ((x * 2 ^ s : Nat) : Int) := by rw [Int.natCast_mul, Int.natCast_pow]; rfl
    rw [this]; omega
  have hcl : cy < 18446744073709551616 := Nat.lt_of_lt_of_le hc (by rw [show (18446744073709551616 : Nat) = 2 ^ 64 from rfl]; exact Nat.pow_le_pow_right (by omega) hs)
  rw [e1, bits_or_u64_nat _ _ (Nat.mod_lt _ (by omega)) hcl, shl_low x s hs]
  unfold shl
  rw [shl_low x s hs, Nat.mul_comm, Nat.two_pow_add_eq_or_of_lt hc]

theorem walk_shr (x k : Nat) : ((x : Int) / 2 ^ k) = ((x / 2 ^ k : Nat) : Int) := by
  rw [Int.natCast_ediv, Int.natCast_pow]; rfl

theorem val_replicate (n : Nat) : val (List.replicate n 0) = 0 := by
  induction n with
  | zero => rfl
  | succ n ih => simp [List.replicate_succ, val, ih]

/-- One step of a left shift by q limbs and s bits. -/
theorem left_step (Z out : List Nat) (q s k cy n : Nat) (hs : s ≤ 64) (hn : n = q * 64 + s) (hk : q + k < out.length)
    (h : val (out.take (q + k)) + cy * 18446744073709551616 ^ (q + k) = val (Z.take k) * 2 ^ n) :
    val ((out.set (q + k) (shl (Z.getD k 0) s cy)).take (q + (k + 1))) + Z.getD k 0 / 2 ^ (64 - s) * 18446744073709551616 ^ (q + (k + 1)) = val (Z.take (k + 1)) * 2 ^ n := by
  rw [show q + (k + 1) = q + k + 1 from rfl, take_set_succ _ _ _ hk, val_take_next Z, Nat.add_mul, ← h]
  have hsp := shl_split (Z.getD k 0) s cy hs
  generalize Z.getD k 0 = x at *
  generalize shl x s cy = r at *
  generalize x / 2 ^ (64 - s) = d at *
  have e1 : 18446744073709551616 ^ k * x * 2 ^ n = 18446744073709551616 ^ (q + k) * (x * 2 ^ s) := by
    rw [hn, Nat.pow_add 2, ← W_pow, Nat.pow_add]
    generalize (18446744073709551616 : Nat) ^ k = a
    generalize (18446744073709551616 : Nat) ^ q = c
    generalize (2 : Nat) ^ s = t
    rw [Nat.mul_comm c a, Nat.mul_assoc, Nat.mul_assoc]
    congr 1
    rw [← Nat.mul_assoc, ← Nat.mul_assoc, Nat.mul_comm x c]
  rw [e1, Nat.pow_succ 18446744073709551616 (q + k)]
  generalize (18446744073709551616 : Nat) ^ (q + k) = p at *
  have e2 : p * (r + d * 18446744073709551616) = p * (x * 2 ^ s + cy) := by rw [hsp]
  rw [Nat.mul_add, Nat.mul_add] at e2
  have e3 : d * (p * 18446744073709551616) = p * (d * 18446744073709551616) := by rw [← Nat.mul_assoc, Nat.mul_comm d p, Nat.mul_assoc]
  have e4 : cy * p = p * cy := Nat.mul_comm _ _
  omega

theorem blen_shl (v n : Nat) (hv : v ≠ 0) : blen (v * 2 ^ n) = blen v + n := by
  unfold blen
  have hp := Nat.two_pow_pos n
  have h0 : v * 2 ^ n ≠ 0 := Nat.mul_ne_zero hv (by omega)
  rw [if_neg h0, if_neg hv]
  have h1 := Nat.log2_self_le hv
  have h2 := (Nat.log2_lt hv (k := v.log2 + 1)).1 (by omega)
  have h3 : (v * 2 ^ n).log2 = v.log2 + n := by
    have a : ¬ (v * 2 ^ n).log2 < v.log2 + n := by
      rw [Nat.log2_lt h0, Nat.pow_add]
      exact Nat.not_lt.2 (Nat.mul_le_mul_right _ h1)
    have b : (v * 2 ^ n).log2 < v.log2 + n + 1 := by
      rw [Nat.log2_lt h0, show v.log2 + n + 1 = (v.log2 + 1) + n by omega, Nat.pow_add]
      exact (Nat.mul_lt_mul_right hp).2 h2
    omega
  omega

/-- A number of few bits has few limbs. -/
theorem few_limbs (zs : List Nat) (k : Nat) (hb : blen (val zs) ≤ k * 64) : (tr zs).length ≤ k := by
  refine Nat.le_of_not_lt fun hlt => ?_
  obtain ⟨n, hn⟩ : ∃ n, (tr zs).length = n + 1 := ⟨(tr zs).length - 1, by omega⟩
  have h1 := tr_val_ge zs n hn
  rw [val_tr, W_pow] at h1
  have h2 := (blen_le_iff _ _).1 hb
  have h3 : 2 ^ (k * 64) ≤ 2 ^ (n * 64) := Nat.pow_le_pow_right (by omega) (by omega)
  omega

theorem val_parts (zs : List Nat) (q : Nat) (h : q ≤ zs.length) : val zs = val (zs.take q) + 18446744073709551616 ^ q * val (zs.drop q) := by
  have e := val_append (zs.take q) (zs.drop q)
  rw [List.take_append_drop, List.length_take, Nat.min_eq_left h] at e
  exact e

theorem val_drop_next (zs : List Nat) (q : Nat) (h : q < zs.length) : val (zs.drop q) = zs.getD q 0 + 18446744073709551616 * val (zs.drop (q + 1)) := by
  rw [List.drop_eq_getElem_cons h]
  simp [val, List.getD, h]

theorem val_drop {zs : List Nat} (hl : Limbs zs) (q : Nat) (h : q ≤ zs.length) : val (zs.drop q) = val zs / 2 ^ (q * 64) := by
  have h1 := val_parts zs q h
  have h2 := val_take_lt hl q
  rw [← W_pow, h1, Nat.add_mul_div_left _ _ (W_pos q), Nat.div_eq_of_lt h2, Nat.zero_add]

theorem walk_and (x s : Nat) (hs : s < 64) (hx : x < 18446744073709551616) :
    bits BinOp.and IntKind.u64 (x : Int) (IntKind.u64.wrap (IntKind.u64.wrap (2 ^ s) - 1)) = ((x % 2 ^ s : Nat) : Int) := by
  have hp : 2 ^ s < 18446744073709551616 := by rw [show (18446744073709551616 : Nat) = 2 ^ 64 from rfl]; exact Nat.pow_lt_pow_right (by omega) hs
  have h0 := Nat.two_pow_pos s
  have e0 : ((2 : Int) ^ s) = ((2 ^ s : Nat) : Int) := by rw [Int.natCast_pow]; rfl
  have e1 : IntKind.u64.wrap (IntKind.u64.wrap (2 ^ s) - 1) = ((2 ^ s - 1 : Nat) : Int) := by
    rw [IntKind.wrap_u64, IntKind.wrap_u64, e0]; omega
  rw [e1, bits_and_u64_nat _ _ hx (by omega), Nat.and_two_pow_sub_one_eq_mod]

theorem low_val {Z : List Nat} (hl : Limbs Z) (q s n : Nat) (hs : s < 64) (hn : n = q * 64 + s) (h : q < Z.length) :
    val ((Z.take (q + 1)).set q (Z.getD q 0 % 2 ^ s)) = val Z % 2 ^ n := by
  have e1 : ((Z.take (q + 1)).set q (Z.getD q 0 % 2 ^ s)).take (q + 1) = (Z.take (q + 1)).set q (Z.getD q 0 % 2 ^ s) := List.take_of_length_le (by simp; omega)
  rw [← e1, take_set_succ _ _ _ (by simp; omega), List.take_take, Nat.min_eq_left (by omega)]
  have h1 := val_parts Z q (by omega)
  have h2 := val_take_lt hl q
  have h3 := val_drop_next Z q h
  have h4 : val (Z.drop q) % 2 ^ s = Z.getD q 0 % 2 ^ s := by
    rw [h3, two64 s (by omega), Nat.mul_comm (2 ^ (64 - s)), Nat.mul_assoc, Nat.add_mul_mod_self_left]
  rw [hn, Nat.pow_add, ← W_pow, Nat.mod_mul, h1, Nat.add_mul_mod_self_left, Nat.mod_eq_of_lt h2, Nat.add_mul_div_left _ _ (W_pos q), Nat.div_eq_of_lt h2, Nat.zero_add, h4]

/-- The limb that a right shift makes: what is left of x, and what comes from y above. -/
def shr (x y s : Nat) : Nat := x / 2 ^ s + y % 2 ^ s * 2 ^ (64 - s)

theorem walk_shr2 (x y s : Nat) (hs : s < 64) (hx : x < 18446744073709551616) :
    bits BinOp.or IntKind.u64 ((x : Int) / 2 ^ s) (IntKind.u64.wrap ((y : Int) * 2 ^ (64 - s))) = ((shr x y s : Nat) : Int) := by
  have e1 : IntKind.u64.wrap ((y : Int) * 2 ^ (64 - s)) = ((y * 2 ^ (64 - s) % 18446744073709551616 : Nat) : Int) := by
    rw [IntKind.wrap_u64]
    have : ((y : Int) * 2 ^ (64 - s)) = ((y * 2 ^ (64 - s) : Nat) : Int) := by rw [Int.natCast_mul, Int.natCast_pow]; rfl
    rw [this]; omega
  have hxl : x / 2 ^ s < 2 ^ (64 - s) := by
    rw [Nat.div_lt_iff_lt_mul (Nat.two_pow_pos s), ← two64 s (by omega)]; exact hx
  have hx2 : x / 2 ^ s < 18446744073709551616 := Nat.lt_of_le_of_lt (Nat.div_le_self _ _) hx
  rw [e1, walk_shr, bits_or_u64_nat _ _ hx2 (Nat.mod_lt _ (by omega)), shl_low y (64 - s) (by omega), show 64 - (64 - s) = s by omega]
  unfold shr
  rw [Nat.or_comm, Nat.mul_comm (y % 2 ^ s), ← Nat.two_pow_add_eq_or_of_lt hxl, Nat.add_comm]

theorem shr_lt2 (x y s : Nat) (hs : s < 64) (hx : x < 18446744073709551616) : shr x y s < 18446744073709551616 := by
  unfold shr
  have hxl : x / 2 ^ s < 2 ^ (64 - s) := by
    rw [Nat.div_lt_iff_lt_mul (Nat.two_pow_pos s), ← two64 s (by omega)]; exact hx
  have h1 : y % 2 ^ s < 2 ^ s := Nat.mod_lt _ (Nat.two_pow_pos _)
  have h2 := Nat.mul_le_mul_right (2 ^ (64 - s)) (Nat.succ_le_of_lt h1)
  rw [Nat.mul_comm (Nat.succ _), Nat.mul_comm (2 ^ s), ← two64 s (by omega), Nat.succ_eq_add_one, Nat.mul_add, Nat.mul_comm] at h2
  omega

/-- One step of a right shift by s bits. -/
theorem right_step (X out : List Nat) (s k : Nat) (hs : s < 64) (hk : k < out.length)
    (h : 2 ^ s * val (out.take k) + X.getD 0 0 % 2 ^ s = val (X.take k) + X.getD k 0 % 2 ^ s * 18446744073709551616 ^ k) :
    2 ^ s * val ((out.set k (shr (X.getD k 0) (X.getD (k + 1) 0) s)).take (k + 1)) + X.getD 0 0 % 2 ^ s = val (X.take (k + 1)) + X.getD (k + 1) 0 % 2 ^ s * 18446744073709551616 ^ (k + 1) := by
  rw [take_set_succ _ _ _ hk, val_take_next X, Nat.mul_add]
  have e : 2 ^ s * shr (X.getD k 0) (X.getD (k + 1) 0) s + X.getD k 0 % 2 ^ s = X.getD k 0 + X.getD (k + 1) 0 % 2 ^ s * 18446744073709551616 := by
    unfold shr
    have := Nat.div_add_mod (X.getD k 0) (2 ^ s)
    rw [Nat.mul_add]
    have e2 : 2 ^ s * (X.getD (k + 1) 0 % 2 ^ s * 2 ^ (64 - s)) = X.getD (k + 1) 0 % 2 ^ s * 18446744073709551616 := by
      rw [two64 s (by omega), Nat.mul_comm (2 ^ s), Nat.mul_assoc]
    omega
  generalize shr (X.getD k 0) (X.getD (k + 1) 0) s = r at *
  generalize X.getD (k + 1) 0 % 2 ^ s = b at *
  generalize X.getD k 0 % 2 ^ s = a at *
  generalize X.getD k 0 = x at *
  generalize X.getD 0 0 % 2 ^ s = c at *
  rw [Nat.pow_succ]
  generalize (18446744073709551616 : Nat) ^ k = p at *
  generalize (2 : Nat) ^ s = t at *
  have e3 : p * (t * r + a) = p * (x + b * 18446744073709551616) := by rw [e]
  rw [Nat.mul_add, Nat.mul_add] at e3
  have e4 : t * (p * r) = p * (t * r) := by rw [← Nat.mul_assoc, Nat.mul_comm t p, Nat.mul_assoc]
  have e5 : b * (p * 18446744073709551616) = p * (b * 18446744073709551616) := by rw [← Nat.mul_assoc, Nat.mul_comm b p, Nat.mul_assoc]
  have e6 : a * p = p * a := Nat.mul_comm _ _
  omega

theorem right_end (X out : List Nat) (s : Nat) (hl : out.length = X.length)
    (h : 2 ^ s * val (out.take X.length) + X.getD 0 0 % 2 ^ s = val (X.take X.length) + X.getD X.length 0 % 2 ^ s * 18446744073709551616 ^ X.length) : val out = val X / 2 ^ s := by
  have e : X.getD X.length 0 = 0 := by simp [List.getD]
  rw [e, Nat.zero_mod, Nat.zero_mul, Nat.add_zero, List.take_length, List.take_of_length_le (by omega)] at h
  have hlt : X.getD 0 0 % 2 ^ s < 2 ^ s := Nat.mod_lt _ (Nat.two_pow_pos s)
  rw [← h, Nat.mul_add_div (Nat.two_pow_pos s), Nat.div_eq_of_lt hlt, Nat.add_zero]

end Lm
end Go.Proofs.YtppblbhkghjphaaGreatDoor

/- Plain facts: digits to a base B, the least first; limbs of 64 bits as digits of 32. -/
namespace Go.Proofs.YtppblbhkghjphaaGreatDoor
namespace Lm

/-- The value of digits to base B. -/
def vb (B : Nat) : List Nat → Nat
  | [] => 0
  | z :: r => z + B * vb B r

/-- All digits are below B. -/
def Digs (B : Nat) (zs : List Nat) : Prop := ∀ z ∈ zs, z < B

variable {B : Nat}

theorem vb_tr (zs : List Nat) : vb B (tr zs) = vb B zs := by
  induction zs with
  | nil => rfl
  | cons z r ih =>
    unfold tr
    split
    · rename_i h
      rw [h.2] at ih
      simp only [vb] at ih ⊢
      rw [← ih, h.1]; simp
    · simp only [vb]; rw [ih]

theorem vb_append (a b : List Nat) : vb B (a ++ b) = vb B a + B ^ a.length * vb B b := by
  induction a with
  | nil => simp [vb]
  | cons z r ih =>
    simp only [List.cons_append, vb, ih, List.length_cons, Nat.pow_succ, Nat.mul_add]
    rw [← Nat.mul_assoc, Nat.mul_comm (B ^ r.length) B]; omega

theorem vb_lt {zs : List Nat} (h : Digs B zs) : vb B zs < B ^ zs.length := by
  induction zs with
  | nil => simp [vb]
  | cons z r ih =>
    have hz : z < B := h z (by simp)
    have hr := ih (fun x hx => h x (by simp [hx]))
    simp only [vb, List.length_cons, Nat.pow_succ]
    have := Nat.mul_le_mul_left B (Nat.succ_le_of_lt hr)
    rw [Nat.succ_eq_add_one, Nat.mul_add] at this
    rw [Nat.mul_comm (B ^ r.length)]
    omega

theorem vb_take_next (zs : List Nat) (k : Nat) : vb B (zs.take (k + 1)) = vb B (zs.take k) + B ^ k * zs.getD k 0 := by
  by_cases h : k < zs.length
  · rw [take_snoc zs k h, vb_append]
    have e : (zs.take k).length = k := by simp; omega
    rw [e]; simp [vb]
  · have e : zs.getD k 0 = 0 := by simp [List.getD, Nat.le_of_not_lt h]
    rw [e, List.take_of_length_le (by omega), List.take_of_length_le (by omega)]; simp

theorem vb_set_succ (out : List Nat) (k z : Nat) (h : k < out.length) : vb B ((out.set k z).take (k + 1)) = vb B (out.take k) + B ^ k * z := by
  rw [vb_take_next, List.take_set_of_le (Nat.le_refl k)]
  congr 2
  simp [List.getD, h]

theorem digs_tr {zs : List Nat} (h : Digs B zs) : Digs B (tr zs) := by
  intro z hz
  rw [tr_take] at hz
  exact h z (List.mem_of_mem_take hz)

theorem dig_lt (hB : 0 < B) {zs : List Nat} (h : Digs B zs) (k : Nat) : zs.getD k 0 < B := by
  by_cases hk : k < zs.length
  · have e : zs.getD k 0 = zs[k] := by simp [List.getD, hk]
    rw [e]; exact h _ (List.getElem_mem hk)
  · have e : zs.getD k 0 = 0 := by simp [List.getD, Nat.le_of_not_lt hk]
    omega

theorem digs_set {out : List Nat} (h : Digs B out) (k z : Nat) (hz : z < B) : Digs B (out.set k z) := by
  intro y hy
  rcases List.mem_or_eq_of_mem_set hy with h1 | h1
  · exact h y h1
  · omega

theorem digs_replicate (hB : 0 < B) (n : Nat) : Digs B (List.replicate n 0) := by
  intro z hz
  have := List.eq_of_mem_replicate hz
  omega

theorem digs_limbs {zs : List Nat} (h : Digs 4294967296 zs) : Limbs zs := fun z hz => by have := h z hz; omega

theorem vb_tail_zero (hB : 0 < B) {a : List Nat} (h : tr a = a) (hv : vb B a = 0) : a = [] := by
  induction a with
  | nil => rfl
  | cons z r ih =>
    exfalso
    simp only [vb] at hv
    have hz : z = 0 := by omega
    have hr : vb B r = 0 := by
      rcases Nat.mul_eq_zero.1 (show B * vb B r = 0 by omega) with h | h
      · omega
      · exact h
    have := ih (tr_tail h) hr
    subst this hz
    simp [tr] at h

/-- One step of a sum in base B. -/
theorem vb_add_step (X S out : List Nat) (k cy : Nat) (hk : k < out.length) (h : vb B (out.take k) + cy * B ^ k = vb B (X.take k) + vb B (S.take k)) :
    vb B ((out.set k ((X.getD k 0 + S.getD k 0 + cy) % B)).take (k + 1)) + (X.getD k 0 + S.getD k 0 + cy) / B * B ^ (k + 1) = vb B (X.take (k + 1)) + vb B (S.take (k + 1)) := by
  rw [vb_set_succ _ _ _ hk, vb_take_next X, vb_take_next S]
  generalize X.getD k 0 = x
  generalize S.getD k 0 = y
  have hd := Nat.div_add_mod (x + y + cy) B
  generalize (x + y + cy) % B = m at *
  generalize (x + y + cy) / B = d at *
  rw [Nat.pow_succ]
  generalize B ^ k = p at *
  have e1 : p * m + d * (p * B) = p * (B * d + m) := by
    rw [Nat.mul_add, Nat.add_comm]; congr 1; rw [← Nat.mul_assoc, ← Nat.mul_assoc, Nat.mul_comm d p, Nat.mul_assoc, Nat.mul_assoc, Nat.mul_comm d]
  have e2 : p * (x + y + cy) = p * x + p * y + cy * p := by rw [Nat.mul_add, Nat.mul_add, Nat.mul_comm cy]
  rw [hd, e2] at e1
  omega

/-- Limbs as digits of 32 bits. -/
def halves : List Nat → List Nat
  | [] => []
  | z :: r => z % 4294967296 :: z / 4294967296 :: halves r

theorem halves_append (a b : List Nat) : halves (a ++ b) = halves a ++ halves b := by
  induction a with
  | nil => rfl
  | cons z r ih => simp [halves, ih]

theorem halves_length (a : List Nat) : (halves a).length = 2 * a.length := by
  induction a with
  | nil => rfl
  | cons z r ih => simp [halves, ih]; omega

theorem halves_val (a : List Nat) : vb 4294967296 (halves a) = val a := by
  induction a with
  | nil => rfl
  | cons z r ih => simp only [halves, vb, val, ih]; omega

theorem halves_digs {a : List Nat} (h : Limbs a) : Digs 4294967296 (halves a) := by
  induction a with
  | nil => intro z hz; cases hz
  | cons x r ih =>
    intro z hz
    have hx := h x (by simp)
    simp only [halves, List.mem_cons] at hz
    rcases hz with rfl | rfl | hz
    · exact Nat.mod_lt _ (by omega)
    · omega
    · exact ih (fun y hy => h y (by simp [hy])) z hz

theorem halves_take (zs : List Nat) (k : Nat) (h : k < zs.length) : halves (zs.take (k + 1)) = halves (zs.take k) ++ [zs.getD k 0 % 4294967296, zs.getD k 0 / 4294967296] := by
  rw [take_snoc zs k h, halves_append]; rfl

end Lm
end Go.Proofs.YtppblbhkghjphaaGreatDoor

/- Plain facts: digits of 32 bits taken in pairs; bits of a number by its digits; the order by its digits. -/
namespace Go.Proofs.YtppblbhkghjphaaGreatDoor
namespace Lm

def pairsB (B : Nat) : List Nat → List Nat
  | [] => []
  | [a] => [a]
  | a :: b :: r => (a + b * B) :: pairsB B r

/-- Digits of 32 bits taken in pairs. -/
def pairs (ds : List Nat) : List Nat := pairsB 4294967296 ds

theorem pairsB_length (B : Nat) : ∀ ds : List Nat, (pairsB B ds).length = (ds.length + 1) / 2
  | [] => by simp [pairsB]
  | [_] => by simp [pairsB]
  | a :: b :: r => by simp only [pairsB, List.length_cons, pairsB_length B r]; omega

theorem pairsB_getD (B : Nat) : ∀ (ds : List Nat) (k : Nat), (pairsB B ds).getD k 0 = ds.getD (2 * k) 0 + ds.getD (2 * k + 1) 0 * B
  | [], k => by simp [pairsB, List.getD]
  | [a], 0 => by simp [pairsB, List.getD]
  | [a], k + 1 => by simp [pairsB, List.getD, Nat.mul_add]
  | a :: b :: r, 0 => by simp [pairsB, List.getD]
  | a :: b :: r, k + 1 => by
    have := pairsB_getD B r k
    rw [show 2 * (k + 1) = 2 * k + 1 + 1 by omega]
    simp only [pairsB, List.getD_cons_succ]
    exact this

theorem pairs_length (ds : List Nat) : (pairs ds).length = (ds.length + 1) / 2 := pairsB_length _ ds
theorem pairs_getD (ds : List Nat) (k : Nat) : (pairs ds).getD k 0 = ds.getD (2 * k) 0 + ds.getD (2 * k + 1) 0 * 4294967296 := pairsB_getD _ ds k

theorem pairs_val : ∀ ds : List Nat, val (pairs ds) = vb 4294967296 ds
  | [] => rfl
  | [a] => by simp [pairs, pairsB, val, vb]
  | a :: b :: r => by
    have ih := pairs_val r
    unfold pairs at ih ⊢
    simp only [pairsB, val, vb, ih]; omega

theorem pairs_limbs : ∀ ds : List Nat, Digs 4294967296 ds → Limbs (pairs ds)
  | [], _ => by intro z hz; cases hz
  | [a], h => by
    intro z hz
    have := h a (by simp)
    simp [pairs, pairsB] at hz
    omega
  | a :: b :: r, h => by
    intro z hz
    have ha := h a (by simp)
    have hb := h b (by simp)
    simp only [pairs, pairsB, List.mem_cons] at hz
    rcases hz with rfl | hz
    · omega
    · exact pairs_limbs r (fun y hy => h y (by simp [hy])) z hz

theorem pairs_nil : ∀ ds : List Nat, pairs ds = [] → ds = []
  | [], _ => rfl
  | [a], h => by simp [pairs, pairsB] at h
  | a :: b :: r, h => by simp [pairs, pairsB] at h

theorem pairs_tr : ∀ ds : List Nat, tr ds = ds → tr (pairs ds) = pairs ds
  | [], _ => rfl
  | [a], h => h
  | a :: b :: r, h => by
    have h1 := tr_tail h
    have h2 := tr_tail h1
    have ih := pairs_tr r h2
    unfold pairs at ih ⊢
    simp only [pairsB, tr, ih]
    split
    · rename_i hc
      exfalso
      have hr := pairs_nil r hc.2
      have hb : b = 0 := by omega
      subst hr hb
      simp [tr] at h1
    · rfl

theorem blen_half (v : Nat) (h : v ≠ 0) : blen v = blen (v / 2) + 1 := by
  unfold blen
  rw [if_neg h]
  by_cases h2 : v / 2 = 0
  · rw [if_pos h2]
    have : v = 1 := by omega
    subst this; rfl
  · rw [if_neg h2]
    have : v.log2 = (v / 2).log2 + 1 := by
      rw [Nat.log2_def]; rw [if_pos (by omega)]
    omega

theorem B_pow (n : Nat) : (4294967296 : Nat) ^ n = 2 ^ (32 * n) := by rw [Nat.pow_mul]

theorem blen_top (p k d : Nat) (hp : p < 2 ^ k) (hd : d ≠ 0) : blen (p + 2 ^ k * d) = k + blen d := by
  have h1 := Nat.log2_self_le hd
  have h2 := (Nat.log2_lt hd (k := d.log2 + 1)).1 (by omega)
  have e : blen d = d.log2 + 1 := by unfold blen; rw [if_neg hd]
  rw [e, ← Nat.add_assoc]
  refine blen_eq _ _ ?_ ?_
  · rw [Nat.pow_add]
    exact Nat.le_trans (Nat.mul_le_mul_left _ h1) (Nat.le_add_left _ _)
  · rw [Nat.add_assoc, Nat.pow_add]
    have := Nat.mul_le_mul_left (2 ^ k) (Nat.succ_le_of_lt h2)
    rw [Nat.succ_eq_add_one, Nat.mul_add] at this
    omega

theorem tr_last' (ds : List Nat) (n : Nat) (ht : tr ds = ds) (h : ds.length = n + 1) : ds.getD n 0 ≠ 0 := by
  have := tr_last ds n (by rw [ht]; exact h)
  rwa [ht] at this

theorem vb_split (ds : List Nat) (n : Nat) (h : ds.length = n + 1) : vb 4294967296 ds = vb 4294967296 (ds.take n) + 2 ^ (32 * n) * ds.getD n 0 := by
  have := vb_take_next (B := 4294967296) ds n
  rw [← h, List.take_length, B_pow] at this
  exact this

theorem vb_take_lt {ds : List Nat} (hd : Digs 4294967296 ds) (n : Nat) : vb 4294967296 (ds.take n) < 2 ^ (32 * n) := by
  have h1 := vb_lt (B := 4294967296) (zs := ds.take n) (fun z hz => hd z (List.mem_of_mem_take hz))
  have h2 : (ds.take n).length ≤ n := List.length_take_le _ _
  rw [← B_pow]
  exact Nat.lt_of_lt_of_le h1 (Nat.pow_le_pow_right (by omega) h2)

theorem blen_vb {ds : List Nat} (hd : Digs 4294967296 ds) (ht : tr ds = ds) (n : Nat) (h : ds.length = n + 1) : blen (vb 4294967296 ds) = 32 * n + blen (ds.getD n 0) := by
  rw [vb_split ds n h]
  exact blen_top _ _ _ (vb_take_lt hd n) (tr_last' ds n ht h)

theorem vb_shorter {a b : List Nat} (ha : Digs 4294967296 a) (hb : tr b = b) (h : a.length < b.length) : vb 4294967296 a < vb 4294967296 b := by
  obtain ⟨n, hn⟩ : ∃ n, b.length = n + 1 := ⟨b.length - 1, by omega⟩
  have h1 := vb_take_lt ha n
  rw [List.take_of_length_le (by omega)] at h1
  have h2 := tr_last' b n hb hn
  rw [vb_split b n hn]
  have := Nat.mul_le_mul_left (2 ^ (32 * n)) (Nat.one_le_iff_ne_zero.2 h2)
  omega

theorem vcmp_same {Z Y : List Nat} (j : Nat) (he : Z.getD j 0 = Y.getD j 0) : cmpN (vb 4294967296 (Z.take (j + 1))) (vb 4294967296 (Y.take (j + 1))) = cmpN (vb 4294967296 (Z.take j)) (vb 4294967296 (Y.take j)) := by
  rw [vb_take_next, vb_take_next, he, cmpN_add]

theorem vcmp_top {Z Y : List Nat} (hZ : Digs 4294967296 Z) (hY : Digs 4294967296 Y) (j : Nat) (hne : Z.getD j 0 ≠ Y.getD j 0) : cmpN (vb 4294967296 (Z.take (j + 1))) (vb 4294967296 (Y.take (j + 1))) = cmpN (Z.getD j 0) (Y.getD j 0) := by
  rw [vb_take_next, vb_take_next, B_pow]
  exact cmpN_top _ _ _ _ _ (vb_take_lt hZ j) (vb_take_lt hY j) hne

theorem vb_sub_step (X S out : List Nat) (k bw : Nat) (hk : k < out.length) (hx : X.getD k 0 < 4294967296) (hy : S.getD k 0 < 4294967296) (hb : bw ≤ 1)
    (h : vb 4294967296 (out.take k) + vb 4294967296 (S.take k) = vb 4294967296 (X.take k) + bw * 4294967296 ^ k) :
    vb 4294967296 ((out.set k ((X.getD k 0 + 4294967296 - S.getD k 0 - bw) % 4294967296)).take (k + 1)) + vb 4294967296 (S.take (k + 1)) = vb 4294967296 (X.take (k + 1)) + (1 - (X.getD k 0 + 4294967296 - S.getD k 0 - bw) / 4294967296) * 4294967296 ^ (k + 1) := by
  rw [vb_set_succ _ _ _ hk, vb_take_next X, vb_take_next S, Nat.pow_succ]
  generalize X.getD k 0 = x at *
  generalize S.getD k 0 = y at *
  have hm : (x + 4294967296 - y - bw) % 4294967296 + y + bw = x + (1 - (x + 4294967296 - y - bw) / 4294967296) * 4294967296 := by omega
  generalize (x + 4294967296 - y - bw) % 4294967296 = m at *
  generalize 1 - (x + 4294967296 - y - bw) / 4294967296 = d at *
  generalize (4294967296 : Nat) ^ k = p at *
  have e : p * (m + y + bw) = p * (x + d * 4294967296) := by rw [hm]
  rw [Nat.mul_add, Nat.mul_add, Nat.mul_add] at e
  have e2 : d * (p * 4294967296) = p * (d * 4294967296) := by rw [← Nat.mul_assoc, Nat.mul_comm d p, Nat.mul_assoc]
  have e3 : bw * p = p * bw := Nat.mul_comm _ _
  omega

end Lm
end Go.Proofs.YtppblbhkghjphaaGreatDoor

/- Plain facts: digits of 32 bits shifted. -/
namespace Go.Proofs.YtppblbhkghjphaaGreatDoor
open Lm

theorem two32 (s : Nat) (hs : s ≤ 32) : (4294967296 : Nat) = 2 ^ (32 - s) * 2 ^ s := by
  rw [← Nat.pow_add, Nat.sub_add_cancel hs]

theorem two_digits (q s : Nat) : 2 ^ (q * 32 + s) = 4294967296 ^ q * 2 ^ s := by
  rw [Nat.pow_add, Nat.mul_comm q 32, Nat.pow_mul]

theorem shl32_mod (x s o : Nat) (hs : s ≤ 32) (ho : o < 2 ^ s) : o + x * 2 ^ s % 4294967296 < 4294967296 := by
  have e : x * 2 ^ s % 4294967296 = x % 2 ^ (32 - s) * 2 ^ s := by
    conv => lhs; rw [two32 s hs, Nat.mul_mod_mul_right]
  have h1 : x % 2 ^ (32 - s) < 2 ^ (32 - s) := Nat.mod_lt _ (Nat.two_pow_pos _)
  have h2 : (x % 2 ^ (32 - s) + 1) * 2 ^ s ≤ 2 ^ (32 - s) * 2 ^ s := Nat.mul_le_mul_right _ h1
  rw [← two32 s hs, Nat.add_mul, Nat.one_mul] at h2
  omega

theorem shl32_div (x s : Nat) (hx : x < 4294967296) : x * 2 ^ s / 4294967296 < 2 ^ s := by
  rw [Nat.div_lt_iff_lt_mul (by omega), Nat.mul_comm (2 ^ s)]
  exact Nat.mul_lt_mul_of_pos_right hx (Nat.two_pow_pos _)

theorem shl32_fit (x s : Nat) (hx : x < 4294967296) (hs : s < 32) : x * 2 ^ s < 18446744073709551616 := by
  have h : 2 ^ s ≤ 2 ^ 32 := Nat.pow_le_pow_right (by omega) (by omega)
  have := Nat.mul_le_mul (Nat.le_sub_one_of_lt hx) h
  omega

theorem rshl_step (X out : List Nat) (q s k n : Nat) (hn : n = q * 32 + s) (hk : q + k + 1 < out.length) (h : vb 4294967296 (out.take (q + k + 1)) = vb 4294967296 (X.take k) * 2 ^ n) :
    vb 4294967296 (((out.set (q + k) (out.getD (q + k) 0 + X.getD k 0 * 2 ^ s % 4294967296)).set (q + k + 1) (X.getD k 0 * 2 ^ s / 4294967296)).take (q + k + 1 + 1)) = vb 4294967296 (X.take (k + 1)) * 2 ^ n := by
  rw [vb_set_succ _ _ _ (by simpa using hk), vb_set_succ _ _ _ (by omega), vb_take_next X k]
  rw [vb_take_next] at h
  have ht := Nat.mod_add_div (X.getD k 0 * 2 ^ s) 4294967296
  have e : 2 ^ n = 4294967296 ^ q * 2 ^ s := by rw [hn, two_digits]
  have e2 : 4294967296 ^ (q + k) = 4294967296 ^ q * 4294967296 ^ k := Nat.pow_add _ _ _
  have e3 : 4294967296 ^ (q + k + 1) = 4294967296 ^ (q + k) * 4294967296 := Nat.pow_succ ..
  rw [e3]
  rw [e2] at h ⊢
  rw [e] at h ⊢
  generalize X.getD k 0 * 2 ^ s % 4294967296 = r at *
  generalize X.getD k 0 * 2 ^ s / 4294967296 = d at *
  generalize X.getD k 0 = x at *
  generalize out.getD (q + k) 0 = o at *
  generalize vb 4294967296 (out.take (q + k)) = V at *
  generalize vb 4294967296 (X.take k) = U at *
  generalize 4294967296 ^ q = Q at *
  generalize 4294967296 ^ k = K at *
  generalize 2 ^ s = S at *
  generalize 4294967296 = B at *
  grind

/-- The digits of a number shifted down by less than a digit. -/
def shrL (s : Nat) : List Nat → List Nat
  | [] => []
  | y :: r => (y + r.getD 0 0 * 4294967296) / 2 ^ s % 4294967296 :: shrL s r

theorem shrL_length (s : Nat) : ∀ Y : List Nat, (shrL s Y).length = Y.length
  | [] => rfl
  | _ :: r => by simp [shrL, shrL_length s r]

theorem shrL_cons (s y : Nat) (r : List Nat) : shrL s (y :: r) = (y + r.getD 0 0 * 4294967296) / 2 ^ s % 4294967296 :: shrL s r := by rw [shrL]

theorem shrL_getD (s : Nat) (Y : List Nat) (k : Nat) (h : k < Y.length) : (shrL s Y).getD k 0 = (Y.getD k 0 + Y.getD (k + 1) 0 * 4294967296) / 2 ^ s % 4294967296 := by
  induction Y generalizing k with
  | nil => simp at h
  | cons y r ih =>
    rw [shrL_cons]
    cases k with
    | zero => rw [List.getD_cons_zero, List.getD_cons_zero, List.getD_cons_succ]
    | succ k => rw [List.getD_cons_succ, List.getD_cons_succ, List.getD_cons_succ, ih k (by simpa using h)]

theorem shrL_digs (s : Nat) : ∀ Y : List Nat, Digs 4294967296 (shrL s Y)
  | [] => fun z hz => by cases hz
  | y :: r => fun z hz => by
    rcases List.mem_cons.1 hz with rfl | h
    · exact Nat.mod_lt _ (by omega)
    · exact shrL_digs s r z h

theorem shr_digit (y R S t : Nat) (hy : y < 4294967296) (hS : 0 < S) (ht : 4294967296 = t * S) :
    (y + 4294967296 * R) / S = (y + R % 4294967296 * 4294967296) / S % 4294967296 + 4294967296 * (R / S) := by
  have e1 : y + 4294967296 * R = y + 4294967296 * (R % S) + (4294967296 * (R / S)) * S := by
    have := Nat.mod_add_div R S
    grind
  have e2 : R % S = R % 4294967296 % S := by rw [Nat.mod_mod_of_dvd]; exact ⟨t, by rw [Nat.mul_comm]; exact ht⟩
  have e3 : y + R % 4294967296 * 4294967296 = y + 4294967296 * (R % S) + (4294967296 * (R % 4294967296 / S)) * S := by
    have := Nat.mod_add_div (R % 4294967296) S
    grind
  rw [e1, e3, Nat.add_mul_div_right _ _ hS, Nat.add_mul_div_right _ _ hS, Nat.add_mul_mod_self_left]
  congr 1
  refine (Nat.mod_eq_of_lt ?_).symm
  rw [Nat.div_lt_iff_lt_mul hS]
  have h1 : R % S < S := Nat.mod_lt _ hS
  have h2 : 4294967296 * (R % S + 1) ≤ 4294967296 * S := Nat.mul_le_mul_left _ h1
  omega

theorem vb_head (r : List Nat) (h : Digs 4294967296 r) : vb 4294967296 r % 4294967296 = r.getD 0 0 := by
  cases r with
  | nil => rfl
  | cons a r =>
    show (a + 4294967296 * vb 4294967296 r) % 4294967296 = a
    rw [Nat.add_mul_mod_self_left]
    exact Nat.mod_eq_of_lt (h a (List.mem_cons_self ..))

theorem shrL_val (s : Nat) (hs : s < 32) : ∀ Y : List Nat, Digs 4294967296 Y → vb 4294967296 (shrL s Y) = vb 4294967296 Y / 2 ^ s
  | [], _ => by simp [shrL, vb]
  | y :: r, h => by
    have hr : Digs 4294967296 r := fun z hz => h z (List.mem_cons_of_mem _ hz)
    rw [shrL_cons, vb, vb, shrL_val s hs r hr, shr_digit y _ (2 ^ s) (2 ^ (32 - s)) (h y (List.mem_cons_self ..)) (Nat.two_pow_pos _) (two32 s (by omega)), vb_head r hr]

theorem take_set_list (out L : List Nat) (k : Nat) (hl : out.length = L.length) (hk : k < L.length) (h : out.take k = L.take k) : (out.set k (L.getD k 0)).take (k + 1) = L.take (k + 1) := by
  rw [List.take_add_one, List.take_add_one, List.take_set_of_le (Nat.le_refl _), h]
  simp [hl, hk, List.getD]

theorem vb_drop (X : List Nat) (q : Nat) (h : Digs 4294967296 X) (hq : q ≤ X.length) : vb 4294967296 (X.drop q) = vb 4294967296 X / 4294967296 ^ q := by
  have e : vb 4294967296 X = vb 4294967296 (X.take q) + 4294967296 ^ q * vb 4294967296 (X.drop q) := by
    conv => lhs; rw [← List.take_append_drop q X, vb_append]
    rw [List.length_take, Nat.min_eq_left hq]
  have hlt := vb_take_lt h q
  rw [B_pow] at e ⊢
  rw [e, Nat.add_mul_div_left _ _ (Nat.two_pow_pos _), Nat.div_eq_of_lt hlt, Nat.zero_add]

theorem rshr_val (X : List Nat) (q s : Nat) (h : Digs 4294967296 X) (hq : q ≤ X.length) (hs : s < 32) : vb 4294967296 (shrL s (X.drop q)) = vb 4294967296 X / 2 ^ (q * 32 + s) := by
  rw [shrL_val s hs _ (fun z hz => h z (List.mem_of_mem_drop hz)), vb_drop X q h hq, Nat.div_div_eq_div_mul, two_digits]

theorem rshr_none (X : List Nat) (n : Nat) (h : Digs 4294967296 X) (hq : X.length ≤ n / 32) : vb 4294967296 X / 2 ^ n = 0 := by
  apply Nat.div_eq_of_lt
  have h1 := vb_lt h
  have h2 : 4294967296 ^ X.length ≤ 2 ^ n := by
    rw [show (4294967296 : Nat) = 2 ^ 32 from rfl, ← Nat.pow_mul]
    exact Nat.pow_le_pow_right (by omega) (by omega)
  omega

end Go.Proofs.YtppblbhkghjphaaGreatDoor

/- Plain facts: Knuth's step of a division, two half limbs at a time. -/
namespace Go.Proofs.YtppblbhkghjphaaGreatDoor
namespace Lm

/-- What holds at the loop's head: q is not too small, r goes with it. -/
structure Knuth (U Y y1 u1 q r : Nat) : Prop where
  sum : q * y1 + r = U
  ge : (U * 4294967296 + u1) / Y ≤ q
  few : q ≤ 4294967297
  small : r < 4294967296

variable {U Y y1 y0 u1 q r : Nat}

theorem knuth_start (hY : Y = y1 * 4294967296 + y0) (hy1 : 2147483648 ≤ y1) (hy2 : y1 < 4294967296) (hy0 : y0 < 4294967296) (hu1 : u1 < 4294967296) (hU : U < Y) : Knuth U Y y1 u1 (U / y1) (U % y1) := by
  have hd := Nat.div_add_mod U y1
  have hm : U % y1 < y1 := Nat.mod_lt _ (by omega)
  have hs : U / y1 * y1 + U % y1 = U := by rw [Nat.mul_comm]; exact hd
  clear hd
  generalize U / y1 = q at *
  generalize U % y1 = r at *
  refine ⟨hs, ?_, ?_, by omega⟩
  · have h1 : (U * 4294967296 + u1) / Y < q + 1 := by
      rw [Nat.div_lt_iff_lt_mul (by omega), hY, Nat.add_mul, Nat.mul_add, Nat.one_mul, ← Nat.mul_assoc]
      omega
    omega
  · refine Nat.le_of_not_lt fun h => ?_
    have h2 := Nat.mul_le_mul_right y1 (show 4294967298 ≤ q by omega)
    omega

/-- q times the divisor, by halves. -/
theorem knuth_mul (hY : Y = y1 * 4294967296 + y0) (h : q * y1 + r = U) : q * Y + r * 4294967296 = U * 4294967296 + q * y0 := by
  rw [hY, Nat.mul_add, ← h, Nat.add_mul, ← Nat.mul_assoc]; omega

theorem knuth_lt (hu1 : u1 < 4294967296) (hU : U < Y) : (U * 4294967296 + u1) / Y < 4294967296 := by
  rw [Nat.div_lt_iff_lt_mul (by omega)]
  omega

theorem knuth_down (hY : Y = y1 * 4294967296 + y0) (hu1 : u1 < 4294967296) (hU : U < Y) (k : Knuth U Y y1 u1 q r)
    (hc : 4294967296 ≤ q ∨ r * 4294967296 + u1 < q * y0) : 1 ≤ q ∧ (U * 4294967296 + u1) / Y ≤ q - 1 ∧ (q - 1) * y1 + (r + y1) = U := by
  have hlt : (U * 4294967296 + u1) / Y < q := by
    rcases hc with hc | hc
    · have h9 := knuth_lt hu1 hU
      revert h9 hc
      generalize (U * 4294967296 + u1) / Y = z
      clear k hY hU hu1
      intro hc h9
      omega
    · rw [Nat.div_lt_iff_lt_mul (by omega)]
      have := knuth_mul hY k.sum
      refine Nat.lt_of_add_lt_add_right (n := r * 4294967296) ?_
      rw [this, Nat.add_assoc, Nat.add_comm u1]
      exact Nat.add_lt_add_left hc _
  have hge : 1 ≤ q := Nat.lt_of_le_of_lt (Nat.zero_le _) hlt
  refine ⟨hge, Nat.le_sub_one_of_lt hlt, ?_⟩
  have hq : q - 1 + 1 = q := by omega
  have := k.sum
  rw [← hq, Nat.add_mul, Nat.one_mul] at this
  omega

theorem knuth_stop (hY : Y = y1 * 4294967296 + y0) (k : Knuth U Y y1 u1 q r) (hy : 0 < Y) (h : q * y0 ≤ r * 4294967296 + u1) : q = (U * 4294967296 + u1) / Y := by
  have := knuth_mul hY k.sum
  have h2 : q ≤ (U * 4294967296 + u1) / Y := by
    rw [Nat.le_div_iff_mul_le hy]; omega
  exact Nat.le_antisymm h2 k.ge

theorem knuth_break (hY : Y = y1 * 4294967296 + y0) (hy : 0 < Y) (hy0 : y0 < 4294967296) (hs : q * y1 + r = U) (hge : (U * 4294967296 + u1) / Y ≤ q) (hq : q ≤ 4294967296) (hr : 4294967296 ≤ r) :
    q = (U * 4294967296 + u1) / Y := by
  have := knuth_mul hY hs
  have h1 : q * y0 ≤ 4294967296 * 4294967296 := Nat.mul_le_mul hq (by omega)
  have h2 : q ≤ (U * 4294967296 + u1) / Y := by
    rw [Nat.le_div_iff_mul_le hy]; omega
  exact Nat.le_antisymm h2 hge

theorem knuth_key (V t Y N u0 q1 q0 r1 r0 : Nat) (hV : V * t = N * 4294967296 + u0) (d1 : Y * q1 + r1 = N) (d0 : Y * q0 + r0 = r1 * 4294967296 + u0) :
    V * t = Y * (q1 * 4294967296 + q0) + r0 := by
  rw [hV, ← d1, Nat.mul_add Y, ← Nat.mul_assoc]
  omega

/-- The two steps make the quotient and the rest. -/
theorem knuth_whole (V y s N u0 q1 q0 : Nat) (hy : 0 < y) (hV : V * 2 ^ s = N * 4294967296 + u0)
    (h1 : q1 = N / (y * 2 ^ s)) (h0 : q0 = (N % (y * 2 ^ s) * 4294967296 + u0) / (y * 2 ^ s)) :
    q1 * 4294967296 + q0 = V / y ∧ (N % (y * 2 ^ s) * 4294967296 + u0) % (y * 2 ^ s) / 2 ^ s = V % y := by
  have hp := Nat.two_pow_pos s
  have hY : 0 < y * 2 ^ s := Nat.mul_pos hy hp
  have d1 := Nat.div_add_mod N (y * 2 ^ s)
  have d0 := Nat.div_add_mod (N % (y * 2 ^ s) * 4294967296 + u0) (y * 2 ^ s)
  have l0 := Nat.mod_lt (N % (y * 2 ^ s) * 4294967296 + u0) hY
  rw [← h1] at d1
  rw [← h0] at d0
  have key := knuth_key V (2 ^ s) (y * 2 ^ s) N u0 q1 q0 _ _ hV d1 d0
  have hq : V * 2 ^ s / (y * 2 ^ s) = q1 * 4294967296 + q0 := by
    rw [key, Nat.mul_add_div hY, Nat.div_eq_of_lt l0, Nat.add_zero]
  have hr : V * 2 ^ s % (y * 2 ^ s) = (N % (y * 2 ^ s) * 4294967296 + u0) % (y * 2 ^ s) := by
    rw [key, Nat.mul_add_mod, Nat.mod_mod]
  rw [Nat.mul_div_mul_right _ _ hp] at hq
  rw [Nat.mul_mod_mul_right] at hr
  exact ⟨hq.symm, by rw [← hr, Nat.mul_div_cancel _ hp]⟩

theorem rest_wrap1 (a b p r : Nat) (hd : p + r = a * 4294967296 + b) (hr : r < 18446744073709551616) :
    ((a * 4294967296 % 18446744073709551616 + b) % 18446744073709551616 + 18446744073709551616 - p % 18446744073709551616) % 18446744073709551616 = r := by
  omega

theorem shift_whole (hi lo s : Nat) (hs : s ≤ 64) :
    (hi * 18446744073709551616 + lo) * 2 ^ s = ((hi * 2 ^ s + lo / 2 ^ (64 - s)) * 4294967296 + lo * 2 ^ s % 18446744073709551616 / 4294967296) * 4294967296 + lo * 2 ^ s % 18446744073709551616 % 4294967296 := by
  rw [shr_mul lo s hs, Nat.add_mul, Nat.mul_right_comm]
  generalize hi * 2 ^ s = a
  generalize lo * 2 ^ s = b
  omega

theorem norm_y (y : Nat) (h0 : 0 < y) (hy : y < 18446744073709551616) : 1 ≤ Lib.bitLen y ∧ Lib.bitLen y ≤ 64 ∧ 9223372036854775808 ≤ y * 2 ^ (64 - Lib.bitLen y) ∧ y * 2 ^ (64 - Lib.bitLen y) < 18446744073709551616 := by
  obtain ⟨h1, h2, h3⟩ := Lib.bitLenAux_bounds 64 y hy (by omega)
  have h4 := Lib.bitLen_le y 64 (by omega) hy
  have h1' : 1 ≤ Lib.bitLen y := h1
  have h2' : 2 ^ (Lib.bitLen y - 1) ≤ y := h2
  have h3' : y < 2 ^ Lib.bitLen y := h3
  generalize Lib.bitLen y = k at *
  refine ⟨h1', h4, ?_, ?_⟩
  · have := Nat.mul_le_mul_right (2 ^ (64 - k)) h2'
    rw [← Nat.pow_add, show k - 1 + (64 - k) = 63 by omega] at this
    exact this
  · have := (Nat.mul_lt_mul_right (Nat.two_pow_pos (64 - k))).2 h3'
    rw [← Nat.pow_add, show k + (64 - k) = 64 by omega] at this
    exact this

end Lm
end Go.Proofs.YtppblbhkghjphaaGreatDoor

/- Plain facts: a piece of a list of limbs, written over in place. -/
namespace Go.Proofs.YtppblbhkghjphaaGreatDoor
open Lm

/-- The limbs from o on, n of them. -/
def seg (Z : List Nat) (o n : Nat) : List Nat := (Z.drop o).take n

/-- Their value. -/
def sv (Z : List Nat) (o n : Nat) : Nat := val (seg Z o n)

/-- Nothing outside lo .. hi has turned. -/
structure Out (Z Z' : List Nat) (lo hi : Nat) : Prop where
  len : Z'.length = Z.length
  same : ∀ k, k < lo ∨ hi ≤ k → Z'.getD k 0 = Z.getD k 0

theorem Out.refl (Z : List Nat) (lo hi : Nat) : Out Z Z lo hi := ⟨rfl, fun _ _ => rfl⟩

theorem Out.trans {Z Z' Z'' : List Nat} {lo hi : Nat} (h : Out Z Z' lo hi) (k : Out Z' Z'' lo hi) : Out Z Z'' lo hi :=
  ⟨k.len.trans h.len, fun j hj => (k.same j hj).trans (h.same j hj)⟩

theorem Out.wider {Z Z' : List Nat} {lo hi lo' hi' : Nat} (h : Out Z Z' lo hi) (h1 : lo' ≤ lo) (h2 : hi ≤ hi') : Out Z Z' lo' hi' :=
  ⟨h.len, fun k hk => h.same k (by omega)⟩

theorem getD_set (Z : List Nat) (j k z : Nat) : (Z.set j z).getD k 0 = if j = k ∧ k < Z.length then z else Z.getD k 0 := by
  by_cases h : j = k
  · subst h
    by_cases hl : j < Z.length
    · simp [List.getD, hl]
    · simp [List.getD, hl]
  · simp [List.getD, h]

theorem Out.set {Z Z' : List Nat} {lo hi : Nat} (h : Out Z Z' lo hi) (j z : Nat) (h1 : lo ≤ j) (h2 : j < hi) : Out Z (Z'.set j z) lo hi :=
  ⟨by simp [h.len], fun k hk => by rw [getD_set, if_neg (by omega)]; exact h.same k hk⟩

theorem seg_length (Z : List Nat) (o n : Nat) (h : o + n ≤ Z.length) : (seg Z o n).length = n := by
  simp [seg]; omega

theorem seg_getD (Z : List Nat) (o n k : Nat) (h : k < n) : (seg Z o n).getD k 0 = Z.getD (o + k) 0 := by
  simp [seg, List.getD, h]

theorem list_ext0 {a b : List Nat} (hl : a.length = b.length) (h : ∀ k, k < a.length → a.getD k 0 = b.getD k 0) : a = b := by
  refine List.ext_getElem hl fun k h1 h2 => ?_
  have := h k h1
  simpa [List.getD, h1, h2] using this

theorem Out.seg {Z Z' : List Nat} {lo hi : Nat} (h : Out Z Z' lo hi) (o n : Nat) (hd : o + n ≤ lo ∨ hi ≤ o) : seg Z' o n = seg Z o n := by
  have hl : (Go.Proofs.YtppblbhkghjphaaGreatDoor.seg Z' o n).length = (Go.Proofs.YtppblbhkghjphaaGreatDoor.seg Z o n).length := by simp [Go.Proofs.YtppblbhkghjphaaGreatDoor.seg, h.len]
  refine list_ext0 hl fun k hk => ?_
  have hk' : k < n := by simp [Go.Proofs.YtppblbhkghjphaaGreatDoor.seg] at hk; omega
  rw [seg_getD _ _ _ _ hk', seg_getD _ _ _ _ hk', h.same _ (by omega)]

theorem Out.sv {Z Z' : List Nat} {lo hi : Nat} (h : Out Z Z' lo hi) (o n : Nat) (hd : o + n ≤ lo ∨ hi ≤ o) : sv Z' o n = sv Z o n := by
  unfold Go.Proofs.YtppblbhkghjphaaGreatDoor.sv; rw [h.seg o n hd]

theorem sv_zero (Z : List Nat) (o : Nat) : sv Z o 0 = 0 := by simp [sv, seg, val]

theorem sv_split (Z : List Nat) (o m n : Nat) (h : o + m ≤ Z.length) : sv Z o (m + n) = sv Z o m + 18446744073709551616 ^ m * sv Z (o + m) n := by
  unfold sv
  have e : seg Z o (m + n) = seg Z o m ++ seg Z (o + m) n := by
    unfold seg
    rw [List.take_add, List.drop_drop]
  rw [e, val_append, seg_length Z o m h]

theorem sv_one (Z : List Nat) (o : Nat) (h : o < Z.length) : sv Z o 1 = Z.getD o 0 := by
  unfold sv seg
  rw [List.drop_eq_getElem_cons h, List.take_succ_cons, List.take_zero, val, val]
  simp [List.getD, h]

theorem sv_succ (Z : List Nat) (o i : Nat) (h : o + i < Z.length) : sv Z o (i + 1) = sv Z o i + 18446744073709551616 ^ i * Z.getD (o + i) 0 := by
  rw [sv_split Z o i 1 (by omega), sv_one _ _ h]

theorem limbs_seg {Z : List Nat} (h : Limbs Z) (o n : Nat) : Limbs (seg Z o n) := fun z hz => h z (List.mem_of_mem_drop (List.mem_of_mem_take hz))

theorem sv_lt {Z : List Nat} (h : Limbs Z) (o n : Nat) : sv Z o n < 18446744073709551616 ^ n := by
  have h1 := val_lt (limbs_seg h o n)
  refine Nat.lt_of_lt_of_le h1 (Nat.pow_le_pow_right (by omega) ?_)
  simp [seg]; omega

/-- One limb of the piece is set, the first ones being done. -/
theorem sv_set_succ (Z : List Nat) (o i z : Nat) (h : o + i < Z.length) : sv (Z.set (o + i) z) o (i + 1) = sv Z o i + 18446744073709551616 ^ i * z := by
  rw [sv_succ _ _ _ (by simpa using h), getD_set, if_pos ⟨rfl, h⟩]
  have e : Out Z (Z.set (o + i) z) (o + i) (o + i + 1) := (Out.refl _ _ _).set _ _ (by omega) (by omega)
  rw [e.sv o i (by omega)]

theorem sv_all (Z : List Nat) : sv Z 0 Z.length = val Z := by simp [sv, seg]

/-- One limb of a times m is added. -/
theorem addTimes_step (Z Z' X : List Nat) (o i m cy hi lo : Nat) (hz : o + i < Z'.length) (h0 : Z'.getD (o + i) 0 = Z.getD (o + i) 0) (hZ : Z'.length = Z.length)
    (h : sv Z' o i + cy * 18446744073709551616 ^ i = sv Z o i + val (X.take i) * m)
    (hs : lo + hi * 18446744073709551616 = X.getD i 0 * m + Z.getD (o + i) 0 + cy) :
    sv (Z'.set (o + i) lo) o (i + 1) + hi * 18446744073709551616 ^ (i + 1) = sv Z o (i + 1) + val (X.take (i + 1)) * m := by
  have := h0
  rw [sv_set_succ _ _ _ _ hz, sv_succ Z o i (by omega), val_take_next X i, show (18446744073709551616 : Nat) ^ (i + 1) = 18446744073709551616 ^ i * 18446744073709551616 from Nat.pow_succ ..]
  generalize sv Z' o i = V' at *
  generalize sv Z o i = V at *
  generalize val (X.take i) = U at *
  generalize Z.getD (o + i) 0 = z at *
  generalize X.getD i 0 = x at *
  generalize (18446744073709551616 : Nat) ^ i = P at *
  generalize (18446744073709551616 : Nat) = W at *
  grind

theorem addTimes_fit (x m z cy : Nat) (hx : x < 18446744073709551616) (hm : m < 18446744073709551616) (hz : z < 18446744073709551616) (hc : cy < 18446744073709551616) :
    x * m + z + cy < 18446744073709551616 * 18446744073709551616 := by
  have h := Nat.mul_le_mul (Nat.le_sub_one_of_lt hx) (Nat.le_sub_one_of_lt hm)
  omega

end Go.Proofs.YtppblbhkghjphaaGreatDoor

/- Plain facts: Toom's five values. -/
namespace Go.Proofs.YtppblbhkghjphaaGreatDoor
open Lm

theorem toom_one (x0 x1 x2 y0 y1 y2 : Nat) : (x0 + x1 + x2) * (y0 + y1 + y2) = (x0 * y0 + (x0 * y2 + x1 * y1 + x2 * y0) + x2 * y2) + ((x0 * y1 + x1 * y0) + (x1 * y2 + x2 * y1)) := by grind

theorem toom_two (x0 x1 x2 y0 y1 y2 : Nat) : (x0 + x1 * 2 + x2 * 4) * (y0 + y1 * 2 + y2 * 4) = x0 * y0 + 2 * (x0 * y1 + x1 * y0) + 4 * (x0 * y2 + x1 * y1 + x2 * y0) + 8 * (x1 * y2 + x2 * y1) + 16 * (x2 * y2) := by grind

theorem toom_less (x0 x1 x2 y0 y1 y2 dx dy : Nat) (hx : dx = if x0 + x2 < x1 then x1 - (x0 + x2) else x0 + x2 - x1) (hy : dy = if y0 + y2 < y1 then y1 - (y0 + y2) else y0 + y2 - y1) :
    dx * dy + (x0 + x1 + x2) * (y0 + y1 + y2) = 2 * (if decide (x0 + x2 < x1) = decide (y0 + y2 < y1) then (x0 * y0 + (x0 * y2 + x1 * y1 + x2 * y0) + x2 * y2) else ((x0 * y1 + x1 * y0) + (x1 * y2 + x2 * y1))) := by
  subst hx; subst hy
  by_cases h1 : x0 + x2 < x1 <;> by_cases h2 : y0 + y2 < y1
  · obtain ⟨p, rfl⟩ : ∃ p, x1 = x0 + x2 + p := ⟨x1 - (x0 + x2), by omega⟩
    obtain ⟨q, rfl⟩ : ∃ q, y1 = y0 + y2 + q := ⟨y1 - (y0 + y2), by omega⟩
    simp only [h1, h2, decide_true, if_true, Nat.add_sub_cancel_left]
    grind
  · obtain ⟨p, rfl⟩ : ∃ p, x1 = x0 + x2 + p := ⟨x1 - (x0 + x2), by omega⟩
    obtain ⟨q, hq⟩ : ∃ q, y0 + y2 = y1 + q := ⟨y0 + y2 - y1, by omega⟩
    have e : y0 + y2 - y1 = q := by omega
    simp only [h1, h2, decide_true, decide_false, if_true, if_false, Nat.add_sub_cancel_left, Bool.true_eq_false, e]
    grind
  · obtain ⟨p, hp⟩ : ∃ p, x0 + x2 = x1 + p := ⟨x0 + x2 - x1, by omega⟩
    obtain ⟨q, rfl⟩ : ∃ q, y1 = y0 + y2 + q := ⟨y1 - (y0 + y2), by omega⟩
    have e : x0 + x2 - x1 = p := by omega
    simp only [h1, h2, decide_true, decide_false, if_true, if_false, Nat.add_sub_cancel_left, Bool.false_eq_true, e]
    grind
  · obtain ⟨p, hp⟩ : ∃ p, x0 + x2 = x1 + p := ⟨x0 + x2 - x1, by omega⟩
    obtain ⟨q, hq⟩ : ∃ q, y0 + y2 = y1 + q := ⟨y0 + y2 - y1, by omega⟩
    have e : x0 + x2 - x1 = p := by omega
    have e2 : y0 + y2 - y1 = q := by omega
    simp only [h1, h2, decide_false, if_true, if_false, e, e2]
    grind

theorem toom_total (x0 x1 x2 y0 y1 y2 P : Nat) : (x0 + P * x1 + P * P * x2) * (y0 + P * y1 + P * P * y2) =
    x0 * y0 + P * P * (P * P) * (x2 * y2) + P * (x0 * y1 + x1 * y0) + P * P * (x0 * y2 + x1 * y1 + x2 * y0) + P * P * P * (x1 * y2 + x2 * y1) := by grind

end Go.Proofs.YtppblbhkghjphaaGreatDoor

/- Plain facts of package dyadic: a limb's bits from anywhere on. -/
namespace Go.Proofs.YtppblbhkghjphaaGreatDoor
open Go.RowKit
namespace Lm

/-- x times 2^n, rounded down. -/
def fl (x : Nat) (n : Int) : Nat := if 0 ≤ n then x * 2 ^ n.toNat else x / 2 ^ (-n).toNat

/-- A limb as if noughts without end stood at both ends. -/
def lm (zs : List Nat) (i : Int) : Nat := if i < 0 then 0 else zs.getD i.toNat 0

theorem fl_up (x n : Nat) : fl x (n : Int) = x * 2 ^ n := by
  unfold fl; rw [if_pos (by omega)]; rfl

theorem fl_down (x n : Nat) : fl x (-(n : Int)) = x / 2 ^ n := by
  unfold fl
  by_cases h : n = 0
  · subst h; simp
  · rw [if_neg (by omega), show (-(-(n : Int))).toNat = n by omega]

theorem fl_zero (x : Nat) : fl x 0 = x := by simp [fl]

/-- Both as one quotient. -/
theorem fl_quo (x : Nat) (n : Int) (p : Nat) (h : 0 ≤ (p : Int) - n) : fl x n = x * 2 ^ p / 2 ^ ((p : Int) - n).toNat := by
  unfold fl
  by_cases h0 : 0 ≤ n
  · rw [if_pos h0]
    have e : p = n.toNat + ((p : Int) - n).toNat := by omega
    conv => rhs; rw [e]
    rw [Nat.pow_add, ← Nat.mul_assoc]
    have e2 : ((n.toNat + ((p : Int) - n).toNat : Nat) : Int) - n = ((p : Int) - n) := by omega
    rw [e2, Nat.mul_div_cancel _ (Nat.two_pow_pos _)]
  · rw [if_neg h0]
    have e : ((p : Int) - n).toNat = (-n).toNat + p := by omega
    rw [e, Nat.pow_add, Nat.mul_div_mul_right _ _ (Nat.two_pow_pos _)]

theorem getD_limb {X : List Nat} (h : Limbs X) (q : Nat) : X.getD q 0 = val X / 2 ^ (64 * q) % 18446744073709551616 := by
  by_cases hq : q < X.length
  · have h1 := val_drop h q (by omega)
    have h2 := val_drop_next X q hq
    have h3 := limb_lt h q
    rw [Nat.mul_comm 64 q, ← h1, h2]
    omega
  · have e : X.getD q 0 = 0 := by simp [List.getD, Nat.le_of_not_lt hq]
    have h1 := val_lt h
    rw [W_pow] at h1
    have h2 : (2 : Nat) ^ (X.length * 64) ≤ 2 ^ (64 * q) := Nat.pow_le_pow_right (by omega) (by omega)
    rw [e, Nat.div_eq_of_lt (by omega)]

theorem shr_bits (V r : Nat) (hr : r < 64) : shr (V % 18446744073709551616) (V / 18446744073709551616 % 18446744073709551616) r = V / 2 ^ r % 18446744073709551616 := by
  unfold shr
  have hW := two64 r (by omega)
  have hp := Nat.two_pow_pos r
  have hp2 := Nat.two_pow_pos (64 - r)
  have e1 : V / 18446744073709551616 % 18446744073709551616 % 2 ^ r = V / 18446744073709551616 % 2 ^ r := by
    refine Nat.mod_mod_of_dvd _ ?_
    rw [hW]; exact Nat.dvd_mul_left _ _
  rw [e1]
  have e2 : V % 18446744073709551616 / 2 ^ r = V / 2 ^ r % 2 ^ (64 - r) := by
    rw [hW, Nat.mul_comm, Nat.mod_mul_right_div_self]
  have e3 : V / 18446744073709551616 = V / 2 ^ r / 2 ^ (64 - r) := by
    rw [hW, Nat.mul_comm, Nat.div_div_eq_div_mul]
  have e4 : V / 2 ^ r % 18446744073709551616 = V / 2 ^ r % 2 ^ (64 - r) + 2 ^ (64 - r) * (V / 2 ^ r / 2 ^ (64 - r) % 2 ^ r) := by
    rw [hW, Nat.mod_mul]
  rw [e2, e3, e4, Nat.mul_comm (2 ^ (64 - r))]

theorem lm_pad (zs : List Nat) (i : Int) (p : Nat) (h : 0 ≤ i + p) : lm zs i = (List.replicate p 0 ++ zs).getD (i + p).toNat 0 := by
  unfold lm
  by_cases h0 : i < 0
  · rw [if_pos h0]
    simp [List.getD, List.getElem?_append, show (i + (p : Int)).toNat < p by omega]
  · rw [if_neg h0]
    simp only [List.getD, List.getElem?_append, List.length_replicate]
    rw [if_neg (by omega)]
    congr 2
    omega

theorem limbs_pad {zs : List Nat} (h : Limbs zs) (p : Nat) : Limbs (List.replicate p 0 ++ zs) := by
  intro z hz
  rcases List.mem_append.1 hz with h1 | h1
  · exact limbs_replicate _ z h1
  · exact h z h1

theorem val_pad (zs : List Nat) (p : Nat) : val (List.replicate p 0 ++ zs) = val zs * 2 ^ (64 * p) := by
  rw [val_append, val_replicate, List.length_replicate, W_pow, Nat.zero_add, Nat.mul_comm, Nat.mul_comm p]

/-- What bitsFrom answers. -/
theorem bits_from {zs : List Nat} (h : Limbs zs) (i : Int) (q : Int) (r : Nat) (hr : r < 64) (hi : i = 64 * q + r) : shr (lm zs q) (lm zs (q + 1)) r = fl (val zs) (-i) % 18446744073709551616 := by
  obtain ⟨p, hp⟩ : ∃ p : Nat, 0 ≤ q + p := ⟨(-q).toNat, by omega⟩
  obtain ⟨k, hk⟩ : ∃ k : Nat, (k : Int) = q + p := ⟨(q + p).toNat, by omega⟩
  have hl := limbs_pad h p
  rw [lm_pad zs q p hp, lm_pad zs (q + 1) p (by omega), show (q + (p : Int)).toNat = k by omega, show (q + 1 + (p : Int)).toNat = k + 1 by omega]
  rw [getD_limb hl k, getD_limb hl (k + 1)]
  have e : val (List.replicate p 0 ++ zs) / 2 ^ (64 * (k + 1)) = val (List.replicate p 0 ++ zs) / 2 ^ (64 * k) / 18446744073709551616 := by
    rw [Nat.div_div_eq_div_mul, Nat.mul_add, Nat.pow_add]
  rw [e, shr_bits _ r hr, Nat.div_div_eq_div_mul, ← Nat.pow_add, val_pad]
  rw [fl_quo (val zs) (-i) (64 * p) (by omega)]
  congr 3
  omega

/-- The limbs of what is shifted. -/
theorem fl_limb (x : Nat) (n : Int) (k : Nat) : fl x (-(64 * (k : Int) - n)) % 18446744073709551616 = fl x n / 2 ^ (64 * k) % 18446744073709551616 := by
  congr 1
  obtain ⟨p, hp⟩ : ∃ p : Nat, 0 ≤ (p : Int) - n := ⟨n.toNat, by omega⟩
  rw [fl_quo x n p hp, fl_quo x (-(64 * (k : Int) - n)) p (by omega), Nat.div_div_eq_div_mul, ← Nat.pow_add]
  congr 2
  omega

theorem fl_blen (x : Nat) (n : Int) (h : x ≠ 0) : ((blen (fl x n) : Nat) : Int) = max ((blen x : Int) + n) 0 := by
  unfold fl
  by_cases h0 : 0 ≤ n
  · rw [if_pos h0, blen_shl _ _ h]; omega
  · rw [if_neg h0]
    obtain ⟨m, hm⟩ : ∃ m : Nat, (-n).toNat = m := ⟨_, rfl⟩
    rw [hm]
    by_cases hl : blen x ≤ m
    · rw [Nat.div_eq_of_lt ((blen_le_iff _ _).1 hl)]
      have : blen 0 = 0 := rfl
      omega
    · have e : blen (x / 2 ^ m) = blen x - m := by
        have h1 := (blen_le_iff x (blen x)).1 (Nat.le_refl _)
        have h2 : ¬ x < 2 ^ (blen x - 1) := fun hh => by have := (blen_le_iff x (blen x - 1)).2 hh; omega
        have hp := Nat.two_pow_pos m
        have := blen_eq (x / 2 ^ m) (blen x - m - 1) (by
          rw [Nat.le_div_iff_mul_le hp, ← Nat.pow_add, show blen x - m - 1 + m = blen x - 1 by omega]; omega) (by
          rw [Nat.div_lt_iff_lt_mul hp, ← Nat.pow_add, show blen x - m - 1 + 1 + m = blen x by omega]; exact h1)
        omega
      omega

theorem fl_nil (n : Int) : fl 0 n = 0 := by unfold fl; split <;> simp

theorem i64_and63 (n : Int) : bits .and .i64 n 63 = n % 64 := by
  have h63 : (BitVec.ofInt 64 63).toNat = 2 ^ 6 - 1 := by decide
  have key : (BitVec.ofInt 64 n &&& BitVec.ofInt 64 63).toNat = (n % ((2 ^ 64 : Nat) : Int)).toNat % 2 ^ 6 := by
    rw [BitVec.toNat_and, BitVec.toNat_ofInt, h63, Nat.and_two_pow_sub_one_eq_mod]
  show IntKind.i64.wrap ((BitVec.ofInt 64 n &&& BitVec.ofInt 64 63).toNat : Nat) = n % 64
  rw [key, IntKind.wrap_i64]
  omega

/-- One limb more of a number that is known. -/
theorem shifted_step (Y : Nat) (out : List Nat) (k z : Nat) (hk : k < out.length) (h : val (out.take k) = Y % 18446744073709551616 ^ k) (hz : z = Y / 2 ^ (64 * k) % 18446744073709551616) :
    val ((out.set k z).take (k + 1)) = Y % 18446744073709551616 ^ (k + 1) := by
  rw [take_set_succ _ _ _ hk, h, Nat.pow_succ, Nat.mod_mul, hz, W_pow, Nat.mul_comm k 64]

end Lm
end Go.Proofs.YtppblbhkghjphaaGreatDoor
