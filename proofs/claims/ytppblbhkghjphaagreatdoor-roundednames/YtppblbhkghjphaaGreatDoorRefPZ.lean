/- The reference's Tail and Count. -/
import Derived.Test.YtppblbhkghjphaaGreatDoorQJ
import Derived.Test.YtppblbhkghjphaaGreatDoorQH
namespace Go.Proofs.YtppblbhkghjphaaGreatDoor
open Go.RowKit
open Lm
attribute [local go_sem ↓] Go.wp_at_zero Go.wp_at_succ

theorem tail_low {x t n : Nat} (h : IsTail x t) (hn : n < t) : x / 2 ^ n % 2 = 0 := by
  have e := isTail_of h
  generalize x / 2 ^ t / 2 = m at e
  obtain ⟨d, rfl⟩ : ∃ d, t = n + (d + 1) := ⟨t - n - 1, by omega⟩
  have e2 : x = 2 ^ n * (2 * (2 ^ d * (2 * m + 1))) := by
    rw [e, Nat.pow_add, Nat.pow_succ]
    generalize 2 ^ n = a
    generalize 2 ^ d = b
    grind
  rw [e2, Nat.mul_div_cancel_left _ (Nat.two_pow_pos n)]
  omega

theorem pcb_top (k x : Nat) : pcb (k + 1) x = pcb k x + x / 2 ^ k % 2 := by
  induction k generalizing x with
  | zero => simp [pcb]
  | succ k ih =>
    rw [pcb, ih, pcb, Nat.pow_succ', ← Nat.div_div_eq_div_mul]
    omega

theorem pcb_bound (k x : Nat) : pcb k x ≤ k := by
  induction k generalizing x with
  | zero => simp [pcb]
  | succ k ih =>
    rw [pcb]
    have := ih (x / 2)
    omega

theorem pcb_zero (k : Nat) : pcb k 0 = 0 := by
  induction k with
  | zero => rfl
  | succ k ih => rw [pcb]; simpa using ih

theorem pcb_more (n d x : Nat) (h : x < 2 ^ n) : pcb (n + d) x = pcb n x := by
  induction n generalizing x with
  | zero =>
    have : x = 0 := by simpa using h
    subst this
    rw [pcb_zero, pcb_zero]
  | succ n ih =>
    have e : n + 1 + d = n + d + 1 := by omega
    rw [e, pcb, pcb, ih (x / 2) (by rw [Nat.pow_succ] at h; omega)]

theorem pcb_parts (n m z r : Nat) (h : z < 2 ^ n) : pcb (n + m) (z + 2 ^ n * r) = pcb n z + pcb m r := by
  induction n generalizing z with
  | zero =>
    have : z = 0 := by simpa using h
    subst this
    simp [pcb]
  | succ n ih =>
    have e : n + 1 + m = n + m + 1 := by omega
    rw [e, pcb, pcb]
    have h2 : 2 ^ (n + 1) * r = 2 * (2 ^ n * r) := by rw [Nat.pow_succ, Nat.mul_comm (2 ^ n) 2, Nat.mul_assoc]
    have e1 : (z + 2 ^ (n + 1) * r) % 2 = z % 2 := by rw [h2]; omega
    have e2 : (z + 2 ^ (n + 1) * r) / 2 = z / 2 + 2 ^ n * r := by rw [h2]; omega
    rw [e1, e2, ih (z / 2) (by rw [Nat.pow_succ] at h; omega)]
    omega

theorem pcs_pcb (X : List Nat) (h : Limbs X) : pcs X = pcb (64 * X.length) (val X) := by
  induction X with
  | nil => rfl
  | cons z r ih =>
    have hz : z < 2 ^ 64 := h z (List.mem_cons_self ..)
    have hr : Limbs r := fun y hy => h y (List.mem_cons_of_mem _ hy)
    have e : 64 * (z :: r).length = 64 + 64 * r.length := by rw [List.length_cons]; omega
    rw [e, val, pcs, show (18446744073709551616 : Nat) = 2 ^ 64 from rfl, pcb_parts 64 _ z _ hz, ih hr]

theorem pcs_blen (X : List Nat) (h : Limbs X) : pcs X = pcb (blen (val X)) (val X) := by
  rw [pcs_pcb X h]
  have h1 := blen_val_le X h
  have h2 := (blen_le_iff (val X) (blen (val X))).1 (Nat.le_refl _)
  have := pcb_more (blen (val X)) (64 * X.length - blen (val X)) (val X) h2
  rw [← this]
  congr 1
  omega

end Go.Proofs.YtppblbhkghjphaaGreatDoor
