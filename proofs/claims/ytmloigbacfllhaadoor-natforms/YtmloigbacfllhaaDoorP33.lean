/- Plain facts: digits of 32 bits taken in pairs; bits of a number by its digits; the order by its digits. -/
import Derived.Test.YtmloigbacfllhaaDoorP32
namespace Go.Proofs.YtmloigbacfllhaaDoor
namespace Lm

def pairsB (B : Nat) : List Nat → List Nat
  | [] => []
  | [a] => [a]
  | a :: b :: r => (a + b * B) :: pairsB B r

/-- Digits of 32 bits taken in pairs. -/
def pairs (ds : List Nat) : List Nat := pairsB 4294967296 ds

theorem pairsB_length (B : Nat) : ∀ ds : List Nat, (pairsB B ds).length = (ds.length + 1) / 2
  | [] => by simp [pairsB]
  | [_] => by simp [pairsB]
  | a :: b :: r => by simp only [pairsB, List.length_cons, pairsB_length B r]; omega

theorem pairsB_getD (B : Nat) : ∀ (ds : List Nat) (k : Nat), (pairsB B ds).getD k 0 = ds.getD (2 * k) 0 + ds.getD (2 * k + 1) 0 * B
  | [], k => by simp [pairsB, List.getD]
  | [a], 0 => by simp [pairsB, List.getD]
  | [a], k + 1 => by simp [pairsB, List.getD, Nat.mul_add]
  | a :: b :: r, 0 => by simp [pairsB, List.getD]
  | a :: b :: r, k + 1 => by
    have := pairsB_getD B r k
    rw [show 2 * (k + 1) = 2 * k + 1 + 1 by omega]
    simp only [pairsB, List.getD_cons_succ]
    exact this

theorem pairs_length (ds : List Nat) : (pairs ds).length = (ds.length + 1) / 2 := pairsB_length _ ds
theorem pairs_getD (ds : List Nat) (k : Nat) : (pairs ds).getD k 0 = ds.getD (2 * k) 0 + ds.getD (2 * k + 1) 0 * 4294967296 := pairsB_getD _ ds k

theorem pairs_val : ∀ ds : List Nat, val (pairs ds) = vb 4294967296 ds
  | [] => rfl
  | [a] => by simp [pairs, pairsB, val, vb]
  | a :: b :: r => by
    have ih := pairs_val r
    unfold pairs at ih ⊢
    simp only [pairsB, val, vb, ih]; omega

theorem pairs_limbs : ∀ ds : List Nat, Digs 4294967296 ds → Limbs (pairs ds)
  | [], _ => by intro z hz; cases hz
  | [a], h => by
    intro z hz
    have := h a (by simp)
    simp [pairs, pairsB] at hz
    omega
  | a :: b :: r, h => by
    intro z hz
    have ha := h a (by simp)
    have hb := h b (by simp)
    simp only [pairs, pairsB, List.mem_cons] at hz
    rcases hz with rfl | hz
    · omega
    · exact pairs_limbs r (fun y hy => h y (by simp [hy])) z hz

theorem pairs_nil : ∀ ds : List Nat, pairs ds = [] → ds = []
  | [], _ => rfl
  | [a], h => by simp [pairs, pairsB] at h
  | a :: b :: r, h => by simp [pairs, pairsB] at h

theorem pairs_tr : ∀ ds : List Nat, tr ds = ds → tr (pairs ds) = pairs ds
  | [], _ => rfl
  | [a], h => h
  | a :: b :: r, h => by
    have h1 := tr_tail h
    have h2 := tr_tail h1
    have ih := pairs_tr r h2
    unfold pairs at ih ⊢
    simp only [pairsB, tr, ih]
    split
    · rename_i hc
      exfalso
      have hr := pairs_nil r hc.2
      have hb : b = 0 := by omega
      subst hr hb
      simp [tr] at h1
    · rfl

theorem blen_half (v : Nat) (h : v ≠ 0) : blen v = blen (v / 2) + 1 := by
  unfold blen
  rw [if_neg h]
  by_cases h2 : v / 2 = 0
  · rw [if_pos h2]
    have : v = 1 := by omega
    subst this; rfl
  · rw [if_neg h2]
    have : v.log2 = (v / 2).log2 + 1 := by
      rw [Nat.log2_def]; rw [if_pos (by omega)]
    omega

theorem B_pow (n : Nat) : (4294967296 : Nat) ^ n = 2 ^ (32 * n) := by rw [Nat.pow_mul]

theorem blen_top (p k d : Nat) (hp : p < 2 ^ k) (hd : d ≠ 0) : blen (p + 2 ^ k * d) = k + blen d := by
  have h1 := Nat.log2_self_le hd
  have h2 := (Nat.log2_lt hd (k := d.log2 + 1)).1 (by omega)
  have e : blen d = d.log2 + 1 := by unfold blen; rw [if_neg hd]
  rw [e, ← Nat.add_assoc]
  refine blen_eq _ _ ?_ ?_
  · rw [Nat.pow_add]
    exact Nat.le_trans (Nat.mul_le_mul_left _ h1) (Nat.le_add_left _ _)
  · rw [Nat.add_assoc, Nat.pow_add]
    have := Nat.mul_le_mul_left (2 ^ k) (Nat.succ_le_of_lt h2)
    rw [Nat.succ_eq_add_one, Nat.mul_add] at this
    omega

theorem tr_last' (ds : List Nat) (n : Nat) (ht : tr ds = ds) (h : ds.length = n + 1) : ds.getD n 0 ≠ 0 := by
  have := tr_last ds n (by rw [ht]; exact h)
  rwa [ht] at this

theorem vb_split (ds : List Nat) (n : Nat) (h : ds.length = n + 1) : vb 4294967296 ds = vb 4294967296 (ds.take n) + 2 ^ (32 * n) * ds.getD n 0 := by
  have := vb_take_next (B := 4294967296) ds n
  rw [← h, List.take_length, B_pow] at this
  exact this

theorem vb_take_lt {ds : List Nat} (hd : Digs 4294967296 ds) (n : Nat) : vb 4294967296 (ds.take n) < 2 ^ (32 * n) := by
  have h1 := vb_lt (B := 4294967296) (zs := ds.take n) (fun z hz => hd z (List.mem_of_mem_take hz))
  have h2 : (ds.take n).length ≤ n := List.length_take_le _ _
  rw [← B_pow]
  exact Nat.lt_of_lt_of_le h1 (Nat.pow_le_pow_right (by omega) h2)

theorem blen_vb {ds : List Nat} (hd : Digs 4294967296 ds) (ht : tr ds = ds) (n : Nat) (h : ds.length = n + 1) : blen (vb 4294967296 ds) = 32 * n + blen (ds.getD n 0) := by
  rw [vb_split ds n h]
  exact blen_top _ _ _ (vb_take_lt hd n) (tr_last' ds n ht h)

theorem vb_shorter {a b : List Nat} (ha : Digs 4294967296 a) (hb : tr b = b) (h : a.length < b.length) : vb 4294967296 a < vb 4294967296 b := by
  obtain ⟨n, hn⟩ : ∃ n, b.length = n + 1 := ⟨b.length - 1, by omega⟩
  have h1 := vb_take_lt ha n
  rw [List.take_of_length_le (by omega)] at h1
  have h2 := tr_last' b n hb hn
  rw [vb_split b n hn]
  have := Nat.mul_le_mul_left (2 ^ (32 * n)) (Nat.one_le_iff_ne_zero.2 h2)
  omega

theorem vcmp_same {Z Y : List Nat} (j : Nat) (he : Z.getD j 0 = Y.getD j 0) : cmpN (vb 4294967296 (Z.take (j + 1))) (vb 4294967296 (Y.take (j + 1))) = cmpN (vb 4294967296 (Z.take j)) (vb 4294967296 (Y.take j)) := by
  rw [vb_take_next, vb_take_next, he, cmpN_add]

theorem vcmp_top {Z Y : List Nat} (hZ : Digs 4294967296 Z) (hY : Digs 4294967296 Y) (j : Nat) (hne : Z.getD j 0 ≠ Y.getD j 0) : cmpN (vb 4294967296 (Z.take (j + 1))) (vb 4294967296 (Y.take (j + 1))) = cmpN (Z.getD j 0) (Y.getD j 0) := by
  rw [vb_take_next, vb_take_next, B_pow]
  exact cmpN_top _ _ _ _ _ (vb_take_lt hZ j) (vb_take_lt hY j) hne

theorem vb_sub_step (X S out : List Nat) (k bw : Nat) (hk : k < out.length) (hx : X.getD k 0 < 4294967296) (hy : S.getD k 0 < 4294967296) (hb : bw ≤ 1)
    (h : vb 4294967296 (out.take k) + vb 4294967296 (S.take k) = vb 4294967296 (X.take k) + bw * 4294967296 ^ k) :
    vb 4294967296 ((out.set k ((X.getD k 0 + 4294967296 - S.getD k 0 - bw) % 4294967296)).take (k + 1)) + vb 4294967296 (S.take (k + 1)) = vb 4294967296 (X.take (k + 1)) + (1 - (X.getD k 0 + 4294967296 - S.getD k 0 - bw) / 4294967296) * 4294967296 ^ (k + 1) := by
  rw [vb_set_succ _ _ _ hk, vb_take_next X, vb_take_next S, Nat.pow_succ]
  generalize X.getD k 0 = x at *
  generalize S.getD k 0 = y at *
  have hm : (x + 4294967296 - y - bw) % 4294967296 + y + bw = x + (1 - (x + 4294967296 - y - bw) / 4294967296) * 4294967296 := by omega
  generalize (x + 4294967296 - y - bw) % 4294967296 = m at *
  generalize 1 - (x + 4294967296 - y - bw) / 4294967296 = d at *
  generalize (4294967296 : Nat) ^ k = p at *
  have e : p * (m + y + bw) = p * (x + d * 4294967296) := by rw [hm]
  rw [Nat.mul_add, Nat.mul_add, Nat.mul_add] at e
  have e2 : d * (p * 4294967296) = p * (d * 4294967296) := by rw [← Nat.mul_assoc, Nat.mul_comm d p, Nat.mul_assoc]
  have e3 : bw * p = p * bw := Nat.mul_comm _ _
  omega

end Lm
end Go.Proofs.YtmloigbacfllhaaDoor
