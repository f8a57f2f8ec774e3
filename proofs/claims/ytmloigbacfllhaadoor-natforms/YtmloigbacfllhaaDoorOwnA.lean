/- The reference's test of new memory: the state of its lists. -/
import Derived.Test.YtmloigbacfllhaaDoorRefC
import Derived.Maps.AppendAt
namespace Go.Proofs.YtmloigbacfllhaaDoor
open Go.RowKit
open Lm

abbrev nilV : Value := .slice none 0 0

/-- One row turned. -/
def upd (rows : Nat → List Nat) (i : Nat) (r : List Nat) : Nat → List Nat := fun m => if m = i then r else rows m

theorem upd_same (rows : Nat → List Nat) (i : Nat) (r : List Nat) : upd rows i r i = r := by simp [upd]
theorem upd_other (rows : Nat → List Nat) (i m : Nat) (r : List Nat) (h : m ≠ i) : upd rows i r m = rows m := by simp [upd, h]

/-- Lists that lie apart from each other, and the list of them. -/
structure St (w : World) (base L : Nat) (vs : List Value) (rows : Nat → List Nat) : Prop where
  list : w.heap[L]? = some (.cells vs.toArray 22 (0, 0))
  row : ∀ i, i < vs.length → Ans w base (vs.getD i nilV) (rows i)
  apart : ∀ i j, i < vs.length → j < vs.length → i ≠ j → (vs.getD i nilV).ownBlock = none ∨ (vs.getD i nilV).ownBlock ≠ (vs.getD j nilV).ownBlock

theorem St.cell {w : World} {base L : Nat} {vs : List Value} {rows : Nat → List Nat} (h : St w base L vs rows) (i : Nat) (hi : i < vs.length) : w.cell? ⟨L, i, none⟩ = some (vs.getD i nilV) := by
  simp [World.cell?, h.list, hi, List.getD]

theorem St.free {w : World} {base L : Nat} {vs : List Value} {rows : Nat → List Nat} (h : St w base L vs rows) (i : Nat) : w.frozen? ⟨L, i, none⟩ = false := by
  simp [World.frozen?, h.list]

theorem Ans.ne {w : World} {base L : Nat} {v : Value} {zs : List Nat} {vs : Array Value} (h : Ans w base v zs) (hl : w.heap[L]? = some (.cells vs 22 (0, 0))) : v.ownBlock ≠ some L := by
  obtain ⟨_, h2⟩ := h.own
  rcases h2 with ⟨rfl, _⟩ | ⟨g, cap, cur, rfl, _, hh, _⟩
  · simp [Value.ownBlock]
  · intro e
    simp [Value.ownBlock] at e
    subst e
    rw [hl] at hh
    simp at hh

theorem Ans.stored {w : World} {base g cap : Nat} {zs : List Nat} (h : Ans w base (.slice (some ⟨g, 0, none⟩) zs.length cap) zs) (j z : Nat) (hz : z < 18446744073709551616) : Ans (w.setCell ⟨g, j, none⟩ (.int .u64 (z : Int))) base (.slice (some ⟨g, 0, none⟩) (zs.set j z).length cap) (zs.set j z) := by
  refine ⟨?_, limbs_set h.limbs _ _ hz⟩
  have := (h.own.stored j (.int .u64 (z : Int))).1
  rw [List.length_set, List.map_set]
  exact this

theorem St.store {w : World} {base L : Nat} {vs : List Value} {rows : Nat → List Nat} (h : St w base L vs rows) (i g cap : Nat) (hi : i < vs.length) (hv : vs.getD i nilV = .slice (some ⟨g, 0, none⟩) (rows i).length cap) (j z : Nat) (hz : z < 18446744073709551616) :
    St (w.setCell ⟨g, j, none⟩ (.int .u64 (z : Int))) base L vs (upd rows i ((rows i).set j z)) := by
  have hri := h.row i hi
  have hne := hri.ne h.list
  rw [hv] at hne
  have hgL : L ≠ g := fun e => hne (by simp [Value.ownBlock, e])
  refine ⟨?_, fun m hm => ?_, h.apart⟩
  · rw [Below.heap_setCell _ _ _ _ hgL]; exact h.list
  · by_cases e : m = i
    · subst e
      rw [upd_same, hv]
      rw [hv] at hri
      have := hri.stored j z hz
      rw [List.length_set] at this
      exact this
    · rw [upd_other _ _ _ _ e]
      refine ⟨ownsRow_setCell_other (h.row m hm).own ?_ _, (h.row m hm).limbs⟩
      have := h.apart m i hm hi e
      rw [hv] at this
      rcases this with h1 | h1
      · rw [h1]; simp
      · simpa [Value.ownBlock] using h1

theorem fill_set (r : List Nat) (j c : Nat) (h : j < r.length) : (List.replicate j c ++ r.drop j).set j c = List.replicate (j + 1) c ++ r.drop (j + 1) := by
  rw [List.drop_eq_getElem_cons h]
  have := set_mid (List.replicate j c) (r.drop (j + 1)) r[j] c
  rw [List.length_replicate] at this
  rw [this, ← List.replicate_succ']

theorem fill_length (r : List Nat) (j c : Nat) (h : j ≤ r.length) : (List.replicate j c ++ r.drop j).length = r.length := by
  simp; omega

end Go.Proofs.YtmloigbacfllhaaDoor
