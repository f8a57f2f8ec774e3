/- The reference's lent memory: Lend, Kept. -/
import Derived.Test.YtmloigbacfllhaaRefB
namespace Go.Proofs.Ytmloigbacfllhaa
open Go.RowKit
open Lm

/-- A list in the middle of greater memory. -/
def lent (zs : List Nat) : List Nat := 10855845 :: 10855845 :: (zs ++ [10855845, 10855845])

theorem lent_length (zs : List Nat) : (lent zs).length = zs.length + 4 := by simp [lent]

theorem lent_mid (zs : List Nat) (k : Nat) (h : k < zs.length) : (lent zs).getD (k + 2) 0 = zs.getD k 0 := by
  simp [lent, List.getD, h, List.getElem?_append_left h]

theorem lent_low (zs : List Nat) (k : Nat) (h : k < 2) : (lent zs).getD k 0 = 10855845 := by
  match k, h with
  | 0, _ => rfl
  | 1, _ => rfl

theorem lent_high (zs : List Nat) (k : Nat) (h1 : zs.length + 2 ≤ k) (h2 : k < zs.length + 4) : (lent zs).getD k 0 = 10855845 := by
  obtain ⟨j, rfl⟩ : ∃ j, k = zs.length + j + 2 := ⟨k - 2 - zs.length, by omega⟩
  match j, show j < 2 by omega with
  | 0, _ => simp [lent, List.getD]
  | 1, _ => simp [lent, List.getD]

theorem lent_limbs {zs : List Nat} (h : Limbs zs) : Limbs (lent zs) := by
  intro z hz
  simp only [lent, List.mem_cons, List.mem_append, List.not_mem_nil, or_false] at hz
  rcases hz with rfl | rfl | hz | rfl | rfl
  · omega
  · omega
  · exact h z hz
  · omega
  · omega

theorem set_mid (a b : List Nat) (x y : Nat) : (a ++ x :: b).set a.length y = (a ++ [y]) ++ b := by
  simp

/-- While the memory is filled. -/
def fillTo (m k : Nat) : List Nat := List.replicate k 10855845 ++ List.replicate (m - k) 0

theorem fillTo_set (m k : Nat) (h : k < m) : (fillTo m k).set k 10855845 = fillTo m (k + 1) := by
  unfold fillTo
  have e : m - k = (m - (k + 1)) + 1 := by omega
  rw [e, List.replicate_succ]
  have := set_mid (List.replicate k 10855845) (List.replicate (m - (k + 1)) 0) 0 10855845
  rw [List.length_replicate] at this
  rw [this, ← List.replicate_succ']

theorem fillTo_length (m k : Nat) (h : k ≤ m) : (fillTo m k).length = m := by
  simp [fillTo]; omega

/-- While the list is laid into it. -/
def lentTo (zs : List Nat) (k : Nat) : List Nat := 10855845 :: 10855845 :: (zs.take k ++ List.replicate (zs.length - k + 2) 10855845)

theorem lentTo_set (zs : List Nat) (k : Nat) (h : k < zs.length) : (lentTo zs k).set (k + 2) (zs.getD k 0) = lentTo zs (k + 1) := by
  unfold lentTo
  have e : zs.length - k + 2 = (zs.length - (k + 1) + 2) + 1 := by omega
  rw [e, List.replicate_succ]
  have := set_mid (zs.take k) (List.replicate (zs.length - (k + 1) + 2) 10855845) 10855845 (zs.getD k 0)
  have el : (zs.take k).length = k := by simp; omega
  rw [el] at this
  simp only [List.set_cons_succ]
  rw [this, take_snoc zs k h]

theorem lentTo_length (zs : List Nat) (k : Nat) (h : k ≤ zs.length) : (lentTo zs k).length = zs.length + 4 := by
  simp [lentTo]; omega

theorem lentTo_start (zs : List Nat) : lentTo zs 0 = fillTo (zs.length + 4) (zs.length + 4) := by
  simp [lentTo, fillTo, List.replicate_succ]

theorem lentTo_end (zs : List Nat) : lentTo zs zs.length = lent zs := by
  simp [lentTo, lent, List.replicate_succ]

theorem part_arg {w : World} {g : Nat} {zs : List Nat} (h : Blk w g (lent zs)) (hl : Limbs zs) (hf : zs.length ≤ 1125899906842000) : Arg w (.slice (some ⟨g, 2, none⟩) zs.length (zs.length + 2)) zs := by
  refine ⟨⟨_, _, rfl, by omega, by omega, .inr ⟨g, 2, rfl, fun k hk => ?_⟩⟩, hl, by omega, fun n c e => by cases e⟩
  rw [Nat.add_comm 2 k, h.cell (k + 2) (by rw [lent_length]; omega), lent_mid zs k hk]

theorem whole_arg {w : World} {g : Nat} {zs : List Nat} (h : Blk w g (lent zs)) (hl : Limbs zs) (hf : zs.length ≤ 1125899906842000) : Arg w (.slice (some ⟨g, 0, none⟩) (zs.length + 4) (zs.length + 4)) (lent zs) := by
  refine ⟨⟨_, _, by rw [lent_length], by rw [lent_length]; omega, by omega, .inr ⟨g, 0, rfl, fun k hk => ?_⟩⟩, lent_limbs hl, by rw [lent_length]; omega, fun n c e => by cases e⟩
  rw [Nat.zero_add, h.cell k hk]

end Go.Proofs.Ytmloigbacfllhaa
