/- Plain facts: digits to a base B, the least first; limbs of 64 bits as digits of 32. -/
import Derived.Test.YtmloigbacfllhaaDoorShift
namespace Go.Proofs.YtmloigbacfllhaaDoor
namespace Lm

/-- The value of digits to base B. -/
def vb (B : Nat) : List Nat → Nat
  | [] => 0
  | z :: r => z + B * vb B r

/-- All digits are below B. -/
def Digs (B : Nat) (zs : List Nat) : Prop := ∀ z ∈ zs, z < B

variable {B : Nat}

theorem vb_tr (zs : List Nat) : vb B (tr zs) = vb B zs := by
  induction zs with
  | nil => rfl
  | cons z r ih =>
    unfold tr
    split
    · rename_i h
      rw [h.2] at ih
      simp only [vb] at ih ⊢
      rw [← ih, h.1]; simp
    · simp only [vb]; rw [ih]

theorem vb_append (a b : List Nat) : vb B (a ++ b) = vb B a + B ^ a.length * vb B b := by
  induction a with
  | nil => simp [vb]
  | cons z r ih =>
    simp only [List.cons_append, vb, ih, List.length_cons, Nat.pow_succ, Nat.mul_add]
    rw [← Nat.mul_assoc, Nat.mul_comm (B ^ r.length) B]; omega

theorem vb_lt {zs : List Nat} (h : Digs B zs) : vb B zs < B ^ zs.length := by
  induction zs with
  | nil => simp [vb]
  | cons z r ih =>
    have hz : z < B := h z (by simp)
    have hr := ih (fun x hx => h x (by simp [hx]))
    simp only [vb, List.length_cons, Nat.pow_succ]
    have := Nat.mul_le_mul_left B (Nat.succ_le_of_lt hr)
    rw [Nat.succ_eq_add_one, Nat.mul_add] at this
    rw [Nat.mul_comm (B ^ r.length)]
    omega

theorem vb_take_next (zs : List Nat) (k : Nat) : vb B (zs.take (k + 1)) = vb B (zs.take k) + B ^ k * zs.getD k 0 := by
  by_cases h : k < zs.length
  · rw [take_snoc zs k h, vb_append]
    have e : (zs.take k).length = k := by simp; omega
    rw [e]; simp [vb]
  · have e : zs.getD k 0 = 0 := by simp [List.getD, Nat.le_of_not_lt h]
    rw [e, List.take_of_length_le (by omega), List.take_of_length_le (by omega)]; simp

theorem vb_set_succ (out : List Nat) (k z : Nat) (h : k < out.length) : vb B ((out.set k z).take (k + 1)) = vb B (out.take k) + B ^ k * z := by
  rw [vb_take_next, List.take_set_of_le (Nat.le_refl k)]
  congr 2
  simp [List.getD, h]

theorem digs_tr {zs : List Nat} (h : Digs B zs) : Digs B (tr zs) := by
  intro z hz
  rw [tr_take] at hz
  exact h z (List.mem_of_mem_take hz)

theorem dig_lt (hB : 0 < B) {zs : List Nat} (h : Digs B zs) (k : Nat) : zs.getD k 0 < B := by
  by_cases hk : k < zs.length
  · have e : zs.getD k 0 = zs[k] := by simp [List.getD, hk]
    rw [e]; exact h _ (List.getElem_mem hk)
  · have e : zs.getD k 0 = 0 := by simp [List.getD, Nat.le_of_not_lt hk]
    omega

theorem digs_set {out : List Nat} (h : Digs B out) (k z : Nat) (hz : z < B) : Digs B (out.set k z) := by
  intro y hy
  rcases List.mem_or_eq_of_mem_set hy with h1 | h1
  · exact h y h1
  · omega

theorem digs_replicate (hB : 0 < B) (n : Nat) : Digs B (List.replicate n 0) := by
  intro z hz
  have := List.eq_of_mem_replicate hz
  omega

theorem digs_limbs {zs : List Nat} (h : Digs 4294967296 zs) : Limbs zs := fun z hz => by have := h z hz; omega

theorem vb_tail_zero (hB : 0 < B) {a : List Nat} (h : tr a = a) (hv : vb B a = 0) : a = [] := by
  induction a with
  | nil => rfl
  | cons z r ih =>
    exfalso
    simp only [vb] at hv
    have hz : z = 0 := by omega
    have hr : vb B r = 0 := by
      rcases Nat.mul_eq_zero.1 (show B * vb B r = 0 by omega) with h | h
      · omega
      · exact h
    have := ih (tr_tail h) hr
    subst this hz
    simp [tr] at h

/-- One step of a sum in base B. -/
theorem vb_add_step (X S out : List Nat) (k cy : Nat) (hk : k < out.length) (h : vb B (out.take k) + cy * B ^ k = vb B (X.take k) + vb B (S.take k)) :
    vb B ((out.set k ((X.getD k 0 + S.getD k 0 + cy) % B)).take (k + 1)) + (X.getD k 0 + S.getD k 0 + cy) / B * B ^ (k + 1) = vb B (X.take (k + 1)) + vb B (S.take (k + 1)) := by
  rw [vb_set_succ _ _ _ hk, vb_take_next X, vb_take_next S]
  generalize X.getD k 0 = x
  generalize S.getD k 0 = y
  have hd := Nat.div_add_mod (x + y + cy) B
  generalize (x + y + cy) % B = m at *
  generalize (x + y + cy) / B = d at *
  rw [Nat.pow_succ]
  generalize B ^ k = p at *
  have e1 : p * m + d * (p * B) = p * (B * d + m) := by
    rw [Nat.mul_add, Nat.add_comm]; congr 1; rw [← Nat.mul_assoc, ← Nat.mul_assoc, Nat.mul_comm d p, Nat.mul_assoc, Nat.mul_assoc, Nat.mul_comm d]
  have e2 : p * (x + y + cy) = p * x + p * y + cy * p := by rw [Nat.mul_add, Nat.mul_add, Nat.mul_comm cy]
  rw [hd, e2] at e1
  omega

/-- Limbs as digits of 32 bits. -/
def halves : List Nat → List Nat
  | [] => []
  | z :: r => z % 4294967296 :: z / 4294967296 :: halves r

theorem halves_append (a b : List Nat) : halves (a ++ b) = halves a ++ halves b := by
  induction a with
  | nil => rfl
  | cons z r ih => simp [halves, ih]

theorem halves_length (a : List Nat) : (halves a).length = 2 * a.length := by
  induction a with
  | nil => rfl
  | cons z r ih => simp [halves, ih]; omega

theorem halves_val (a : List Nat) : vb 4294967296 (halves a) = val a := by
  induction a with
  | nil => rfl
  | cons z r ih => simp only [halves, vb, val, ih]; omega

theorem halves_digs {a : List Nat} (h : Limbs a) : Digs 4294967296 (halves a) := by
  induction a with
  | nil => intro z hz; cases hz
  | cons x r ih =>
    intro z hz
    have hx := h x (by simp)
    simp only [halves, List.mem_cons] at hz
    rcases hz with rfl | rfl | hz
    · exact Nat.mod_lt _ (by omega)
    · omega
    · exact ih (fun y hy => h y (by simp [hy])) z hz

theorem halves_take (zs : List Nat) (k : Nat) (h : k < zs.length) : halves (zs.take (k + 1)) = halves (zs.take k) ++ [zs.getD k 0 % 4294967296, zs.getD k 0 / 4294967296] := by
  rw [take_snoc zs k h, halves_append]; rfl

end Lm
end Go.Proofs.YtmloigbacfllhaaDoor
