/- Plain facts on lists of limbs (no Go text): the value of a list, the list without noughts at its top. -/
namespace Go.Proofs.YtmloigbacfllhaaDoor
namespace Lm

/-- The value of limbs of 64 bits, the least first. -/
def val : List Nat → Nat
  | [] => 0
  | z :: r => z + 18446744073709551616 * val r

/-- Without noughts at the top. -/
def tr : List Nat → List Nat
  | [] => []
  | z :: r => if z = 0 ∧ tr r = [] then [] else z :: tr r

/-- All limbs are limbs. -/
def Limbs (zs : List Nat) : Prop := ∀ z ∈ zs, z < 18446744073709551616

theorem tr_snoc_zero (l : List Nat) : tr (l ++ [0]) = tr l := by
  induction l with
  | nil => simp [tr]
  | cons z r ih => simp [tr, ih]

theorem tr_snoc (l : List Nat) (z : Nat) (h : z ≠ 0) : tr (l ++ [z]) = l ++ [z] := by
  induction l with
  | nil => simp [tr, h]
  | cons y r ih => simp [tr, ih]

theorem take_snoc (zs : List Nat) (k : Nat) (h : k < zs.length) : zs.take (k + 1) = zs.take k ++ [zs.getD k 0] := by
  rw [List.take_succ_eq_append_getElem h]; simp [List.getD, h]

theorem tr_step (zs : List Nat) (k : Nat) (h : k < zs.length) (hz : zs.getD k 0 = 0) : tr (zs.take (k + 1)) = tr (zs.take k) := by
  rw [take_snoc zs k h, hz, tr_snoc_zero]

theorem tr_stop (zs : List Nat) (k : Nat) (h : k < zs.length) (hz : zs.getD k 0 ≠ 0) : tr (zs.take (k + 1)) = zs.take (k + 1) := by
  rw [take_snoc zs k h, tr_snoc _ _ hz]

theorem tr_length_le (zs : List Nat) : (tr zs).length ≤ zs.length := by
  induction zs with
  | nil => simp [tr]
  | cons z r ih => unfold tr; split <;> simp <;> omega

/-- What is left is the head of the list. -/
theorem tr_take (zs : List Nat) : tr zs = zs.take (tr zs).length := by
  induction zs with
  | nil => simp [tr]
  | cons z r ih =>
    unfold tr
    split
    · simp
    · simp only [List.length_cons, List.take_succ_cons]; rw [← ih]

theorem tr_getD (zs : List Nat) (k : Nat) (h : k < (tr zs).length) : (tr zs).getD k 0 = zs.getD k 0 := by
  have e := tr_take zs
  have hl := tr_length_le zs
  rw [e]; simp [List.getD, h]

theorem val_tr (zs : List Nat) : val (tr zs) = val zs := by
  induction zs with
  | nil => rfl
  | cons z r ih =>
    unfold tr
    split
    · rename_i h
      rw [h.2] at ih
      simp only [val] at ih ⊢
      rw [← ih, h.1]
    · simp only [val]; rw [ih]

theorem limbs_tr {zs : List Nat} (h : Limbs zs) : Limbs (tr zs) := by
  intro z hz
  rw [tr_take] at hz
  exact h z (List.mem_of_mem_take hz)

theorem limb_lt {zs : List Nat} (h : Limbs zs) (k : Nat) : zs.getD k 0 < 18446744073709551616 := by
  by_cases hk : k < zs.length
  · have e : zs.getD k 0 = zs[k] := by simp [List.getD, hk]
    rw [e]; exact h _ (List.getElem_mem hk)
  · have e : zs.getD k 0 = 0 := by simp [List.getD, Nat.le_of_not_lt hk]
    omega

theorem val_append (a b : List Nat) : val (a ++ b) = val a + 18446744073709551616 ^ a.length * val b := by
  induction a with
  | nil => simp [val]
  | cons z r ih =>
    simp only [List.cons_append, val, ih, List.length_cons, Nat.pow_succ, Nat.mul_add]
    rw [← Nat.mul_assoc, Nat.mul_comm (18446744073709551616 ^ r.length) 18446744073709551616]; omega

theorem val_lt {zs : List Nat} (h : Limbs zs) : val zs < 18446744073709551616 ^ zs.length := by
  induction zs with
  | nil => simp [val]
  | cons z r ih =>
    have hz : z < 18446744073709551616 := h z (by simp)
    have hr := ih (fun x hx => h x (by simp [hx]))
    simp only [val, List.length_cons, Nat.pow_succ]
    have := Nat.mul_le_mul_left 18446744073709551616 (Nat.succ_le_of_lt hr)
    rw [Nat.mul_comm] at this ⊢
    omega

theorem val_take_succ (zs : List Nat) (k : Nat) (h : k < zs.length) : val (zs.take (k + 1)) = val (zs.take k) + 18446744073709551616 ^ k * zs.getD k 0 := by
  rw [take_snoc zs k h, val_append]
  have e : (zs.take k).length = k := by simp; omega
  rw [e]; simp [val]

end Lm
end Go.Proofs.YtmloigbacfllhaaDoor
