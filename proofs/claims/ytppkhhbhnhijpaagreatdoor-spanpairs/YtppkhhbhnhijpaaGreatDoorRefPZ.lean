/- The reference's Tail and Count. -/
import Derived.Test.YtppkhhbhnhijpaaGreatDoorQJ
import Derived.Test.YtppkhhbhnhijpaaGreatDoorQH
namespace Go.Proofs.YtppkhhbhnhijpaaGreatDoor
open Go.RowKit
open Lm
attribute [local go_sem ↓] Go.wp_at_zero Go.wp_at_succ

theorem tail_low {x t n : Nat} (h : IsTail x t) (hn : n < t) : x / 2 ^ n % 2 = 0 := by
  have e := isTail_of h
  generalize x / 2 ^ t / 2 = m at e
  obtain ⟨d, rfl⟩ : ∃ d, t = n + (d + 1) := ⟨t - n - 1, by omega⟩
  have e2 : x = 2 ^ n * (2 * (2 ^ d * (2 * m + 1))) := by
    rw [e, Nat.pow_add, Nat.pow_succ]
    generalize 2 ^ n = a
    generalize 2 ^ d = b
    grind
  rw [e2, Nat.mul_div_cancel_left _ (Nat.two_pow_pos n)]
  omega

set_option maxRecDepth 20000 in
set_option maxHeartbeats 800000 in
theorem rtail_any (v : Value) (x t : Nat) (w : World) (hn : Num w v x) (h : (x = 0 ∧ t = 0) ∨ IsTail x t) :
    Calls Tryz.prog 86 #[v] w fun e w' => e = .returned (.int .i64 (t : Int)) ∧ w' = w := by
  have hn0 := hn
  obtain ⟨ds, hd1, hd2, hd3, hd4, hd5⟩ := hn
  obtain ⟨ao, cap, rfl, hcap, hmax, L1⟩ := hd1.form
  clear hd1 L1
  by_cases h0 : ds.length = 0
  · have hz : ds = [] := List.length_eq_zero_iff.1 h0
    subst hz
    have hx : x = 0 := hd4.symm
    have ht : t = 0 := by
      rcases h with h | h
      · exact h.2
      · have := h.2; rw [hx] at this; simp at this
    subst ht
    clear hd2 hd3 hd4 hd5 h0 hn0 h hx
    go_enter Tryz.func86, Tryz.ntmps86
    go_wp2
    go_ret
    exact ⟨rfl, rfl⟩
  · obtain ⟨n, hn⟩ : ∃ n, ds.length = n + 1 := ⟨ds.length - 1, by omega⟩
    have hx : x ≠ 0 := by
      intro e
      have h1 := tr_last' ds n hd3 hn
      have h2 := vb_split ds n hn
      rw [hd4, e] at h2
      have h3 : 2 ^ (32 * n) * ds.getD n 0 = 0 := by omega
      rcases Nat.mul_eq_zero.1 h3 with h6 | h6
      · exact absurd h6 (Nat.pos_iff_ne_zero.1 (Nat.two_pow_pos _))
      · exact h1 h6
    have hT : IsTail x t := by
      rcases h with h | h
      · exact absurd h.1 hx
      · exact h
    have hlt : x < 2 ^ (32 * ds.length) := by
      have := vb_lt hd2
      rw [hd4] at this
      rw [Nat.pow_mul]; exact this
    have htl := isTail_lt hT hlt
    have HT := hide hT
    have i0 : ((ds.length : Int) == 0) = false := by rw [beq_eq_false_iff_ne]; omega
    clear hT h hx hlt hd2 hd3 hd4 hn
    go_enter Tryz.func86, Tryz.ntmps86
    go_wp2
    go_loopw [3] (fun i wr => ∃ k : Nat, k ≤ t ∧ i = .int .i64 k ∧ wr = w) (fun i _ => t - (intOf i).toNat)
    case atStart => exact ⟨0, Nat.zero_le _, rfl, rfl⟩
    case round =>
      obtain ⟨k, hk, rfl, rfl⟩ := hrel
      have B := rbit_any _ _ k _ hn0 (by omega)
      by_cases hkl : k < t
      · rw [tail_low HT.out hkl] at B
        clear hn0
        go_wp2_with fail
        refine B.mono ?_
        rintro e wn ⟨rfl, hw⟩; subst hw
        clear B
        go_wp2
        go_roundw
        case rel => exact ⟨k + 1, by omega, by go_num, trivial⟩
        case measure => simp [intOf]; omega
      · have ek : k = t := by omega
        subst ek
        rw [HT.out.2] at B
        clear hn0
        go_wp2_with fail
        refine B.mono ?_
        rintro e wn ⟨rfl, hw⟩; subst hw
        clear B
        go_wp2
        go_ret
        exact ⟨rfl, rfl⟩

theorem pcb_top (k x : Nat) : pcb (k + 1) x = pcb k x + x / 2 ^ k % 2 := by
  induction k generalizing x with
  | zero => simp [pcb]
  | succ k ih =>
    rw [pcb, ih, pcb, Nat.pow_succ', ← Nat.div_div_eq_div_mul]
    omega

theorem pcb_bound (k x : Nat) : pcb k x ≤ k := by
  induction k generalizing x with
  | zero => simp [pcb]
  | succ k ih =>
    rw [pcb]
    have := ih (x / 2)
    omega

theorem pcb_zero (k : Nat) : pcb k 0 = 0 := by
  induction k with
  | zero => rfl
  | succ k ih => rw [pcb]; simpa using ih

theorem pcb_more (n d x : Nat) (h : x < 2 ^ n) : pcb (n + d) x = pcb n x := by
  induction n generalizing x with
  | zero =>
    have : x = 0 := by simpa using h
    subst this
    rw [pcb_zero, pcb_zero]
  | succ n ih =>
    have e : n + 1 + d = n + d + 1 := by omega
    rw [e, pcb, pcb, ih (x / 2) (by rw [Nat.pow_succ] at h; omega)]

theorem pcb_parts (n m z r : Nat) (h : z < 2 ^ n) : pcb (n + m) (z + 2 ^ n * r) = pcb n z + pcb m r := by
  induction n generalizing z with
  | zero =>
    have : z = 0 := by simpa using h
    subst this
    simp [pcb]
  | succ n ih =>
    have e : n + 1 + m = n + m + 1 := by omega
    rw [e, pcb, pcb]
    have h2 : 2 ^ (n + 1) * r = 2 * (2 ^ n * r) := by rw [Nat.pow_succ, Nat.mul_comm (2 ^ n) 2, Nat.mul_assoc]
    have e1 : (z + 2 ^ (n + 1) * r) % 2 = z % 2 := by rw [h2]; omega
    have e2 : (z + 2 ^ (n + 1) * r) / 2 = z / 2 + 2 ^ n * r := by rw [h2]; omega
    rw [e1, e2, ih (z / 2) (by rw [Nat.pow_succ] at h; omega)]
    omega

theorem pcs_pcb (X : List Nat) (h : Limbs X) : pcs X = pcb (64 * X.length) (val X) := by
  induction X with
  | nil => rfl
  | cons z r ih =>
    have hz : z < 2 ^ 64 := h z (List.mem_cons_self ..)
    have hr : Limbs r := fun y hy => h y (List.mem_cons_of_mem _ hy)
    have e : 64 * (z :: r).length = 64 + 64 * r.length := by rw [List.length_cons]; omega
    rw [e, val, pcs, show (18446744073709551616 : Nat) = 2 ^ 64 from rfl, pcb_parts 64 _ z _ hz, ih hr]

theorem pcs_blen (X : List Nat) (h : Limbs X) : pcs X = pcb (blen (val X)) (val X) := by
  rw [pcs_pcb X h]
  have h1 := blen_val_le X h
  have h2 := (blen_le_iff (val X) (blen (val X))).1 (Nat.le_refl _)
  have := pcb_more (blen (val X)) (64 * X.length - blen (val X)) (val X) h2
  rw [← this]
  congr 1
  omega

end Go.Proofs.YtppkhhbhnhijpaaGreatDoor
