/- A list that is written over; what lies elsewhere stays. -/
import Derived.Test.YtegbjdjpeblkoabGreatDoorQH
import Derived.Test.YtegbjdjpeblkoabGreatDoorCopyAZ
import Derived.Test.YtegbjdjpeblkoabGreatDoorQD
import Derived.Laws.Bits64
namespace Go.Proofs.YtegbjdjpeblkoabGreatDoor
open Go.RowKit
open Lm

theorem Ans.fr {w w' : World} {base g : Nat} {v : Value} {zs : List Nat} (h : Ans w base v zs) (hf : Fr g w w') (hg : g < base) : Ans w' base v zs := by
  refine ⟨?_, h.limbs⟩
  obtain ⟨h1, h2⟩ := h.own
  refine ⟨h1, ?_⟩
  rcases h2 with h2 | ⟨g', cap, cur, hv, hg', hh, r⟩
  · exact .inl h2
  · exact .inr ⟨g', cap, cur, hv, hg', by rw [hf.block g' (lt_of_block hh) (by omega)]; exact hh, r⟩

theorem block_fr {w w' : World} {g b : Nat} {x : Obj} (h : w.heap[b]? = some x) (hf : Fr g w w') (hne : b ≠ g) : w'.heap[b]? = some x := by
  rw [hf.block b (lt_of_block h) hne]; exact h

theorem Aparts.fr {w w' : World} {base g : Nat} {vs : List Value} {rss : List (List Nat)} (h : Aparts w base vs rss) (hf : Fr g w w') (hg : g < base) : Aparts w' base vs rss :=
  ⟨h.len, fun i hi => (h.row i hi).fr hf hg, h.apart⟩

theorem Aparts.snoc {w w' : World} {base : Nat} {vs : List Value} {rss : List (List Nat)} {v1 : Value} {r1 : List Nat} (h : Aparts w base vs rss) (hb : Below w.heap.size w w') (hbase : base ≤ w.heap.size) (h1 : Ans w' w.heap.size v1 r1) : Aparts w' base (vs ++ [v1]) (rss ++ [r1]) := by
  have e0 : ∀ i, i < vs.length → (vs ++ [v1]).getD i nilV = vs.getD i nilV := fun i hi => by simp [List.getD, List.getElem?_append_left hi]
  have e1 : (vs ++ [v1]).getD vs.length nilV = v1 := by simp [List.getD]
  have f0 : ∀ i, i < rss.length → (rss ++ [r1]).getD i [] = rss.getD i [] := fun i hi => by simp [List.getD, List.getElem?_append_left hi]
  have f1 : (rss ++ [r1]).getD rss.length [] = r1 := by simp [List.getD]
  have hl := h.len
  have n1 : ∀ g, v1.ownBlock = some g → w.heap.size ≤ g := fun g hg => (h1.own.lt g hg).1
  refine ⟨by simp [hl], fun i hi => ?_, fun i j hi hj hij => ?_⟩
  · simp only [List.length_append, List.length_cons, List.length_nil] at hi
    rcases Nat.lt_or_ge i vs.length with h3 | h3
    · rw [e0 i h3, f0 i (by omega)]
      exact (h.row i h3).below hb
    · obtain rfl : i = vs.length := by omega
      rw [e1, hl, f1]
      exact h1.base hbase
  · simp only [List.length_append, List.length_cons, List.length_nil] at hi hj
    rcases Nat.lt_or_ge i vs.length with h3 | h3 <;> rcases Nat.lt_or_ge j vs.length with h4 | h4
    · rw [e0 i h3, e0 j h4]; exact h.apart i j h3 h4 hij
    · obtain rfl : j = vs.length := by omega
      rw [e0 i h3, e1]
      rcases ho : (vs.getD i nilV).ownBlock with _ | g
      · exact .inl rfl
      · have k1 := (h.row i h3).top g ho
        refine .inr fun e => ?_
        have k2 := n1 g e.symm
        omega
    · obtain rfl : i = vs.length := by omega
      rw [e0 j h4, e1]
      rcases ho : v1.ownBlock with _ | g
      · exact .inl rfl
      · have k2 := n1 g ho
        refine .inr fun e => ?_
        have k1 := (h.row j h4).top g e.symm
        omega
    · omega

theorem Aparts.none (w : World) (base : Nat) : Aparts w base [] [] := ⟨rfl, fun i hi => absurd hi (by simp), fun i j hi => absurd hi (by simp)⟩

/-- The first k are written over. -/
def xorTo (zs : List Nat) (k : Nat) : List Nat := (zs.take k).map (· ^^^ 9) ++ zs.drop k

theorem xorTo_length (zs : List Nat) (k : Nat) : (xorTo zs k).length = zs.length := by
  simp [xorTo]; omega

theorem xorTo_zero (zs : List Nat) : xorTo zs 0 = zs := by simp [xorTo]

theorem xorTo_at (zs : List Nat) (k : Nat) (h : k < zs.length) : (xorTo zs k).getD k 0 = zs.getD k 0 := by
  have e : min k zs.length = k := by omega
  simp [xorTo, List.getD, List.getElem?_append, e]

theorem xorTo_set (zs : List Nat) (k : Nat) (h : k < zs.length) : (xorTo zs k).set k (zs.getD k 0 ^^^ 9) = xorTo zs (k + 1) := by
  apply List.ext_getElem?
  intro i
  have hl := xorTo_length zs k
  rw [List.getElem?_set]
  have e1 : min k zs.length = k := by omega
  have e2 : min (k + 1) zs.length = k + 1 := by omega
  by_cases hik : k = i
  · subst hik
    rw [if_pos rfl, hl, if_pos h]
    have hk : k < k + 1 := by omega
    simp [xorTo, List.getElem?_append, List.getD, h, e2]
  · rw [if_neg hik]
    simp only [xorTo, List.getElem?_append, List.length_map, List.length_take, List.getElem?_map, List.getElem?_take, List.getElem?_drop, e1, e2]
    by_cases h1 : i < k
    · rw [if_pos h1, if_pos h1, if_pos (by omega : i < k + 1), if_pos (by omega : i < k + 1)]
    · rw [if_neg h1, if_neg (by omega : ¬ i < k + 1)]
      congr 1
      omega

theorem xorTo_limbs (zs : List Nat) (k : Nat) (h : Limbs zs) : Limbs (xorTo zs k) := by
  intro z hz
  simp only [xorTo, List.mem_append, List.mem_map] at hz
  rcases hz with ⟨y, hy, rfl⟩ | hz
  · have := h y (List.mem_of_mem_take hy)
    exact Nat.xor_lt_two_pow (n := 64) this (by decide)
  · exact h z (List.mem_of_mem_drop hz)

theorem Blk.arg9 {w : World} {g : Nat} {xs : List Nat} (h : Blk w g xs) (hl : Limbs xs) (hf : xs.length ≤ 1125899906842624) : Arg w (.slice (some ⟨g, 0, none⟩) xs.length xs.length) xs := by
  have h2 := h.take_arg hl xs.length xs.length (Nat.le_refl _) (Nat.le_refl _) hf
  rw [List.take_length] at h2
  exact h2

end Go.Proofs.YtegbjdjpeblkoabGreatDoor
