/- The reference's numbers: norm, at, Of. -/
import Derived.Test.YtelfjadonlgkiabDoorQB
import Derived.Test.YtelfjadonlgkiabDoorQA
namespace Go.Proofs.YtelfjadonlgkiabDoor
open Go.RowKit
open Lm

/-- A number of the reference: digits of 32 bits, no nought at the top. -/
def Num (w : World) (v : Value) (x : Nat) : Prop := ∃ ds, Arg w v ds ∧ Digs 4294967296 ds ∧ tr ds = ds ∧ vb 4294967296 ds = x ∧ ds.length ≤ 35184372088900

theorem Num.below {w w' : World} {v : Value} {x : Nat} (h : Num w v x) (hb : Below w.heap.size w w') : Num w' v x := by
  obtain ⟨ds, h1, h2⟩ := h
  exact ⟨ds, h1.below hb, h2⟩

theorem Num.nil (w : World) : Num w (.slice none 0 0) 0 :=
  ⟨[], ⟨⟨none, 0, rfl, by simp, by simp, .inl rfl⟩, (by intro z hz; cases hz), by simp, fun n c e => by cases e; rfl⟩, (by intro z hz; cases hz), rfl, rfl, by simp⟩

/-- Whatever limbs the value has lie from block B on. -/
def New (B : Nat) (v : Value) : Prop := ∀ b off n c, v = .slice (some ⟨b, off, none⟩) n c → B ≤ b

theorem New.nil (B n c : Nat) : New B (.slice none n c) := fun _ _ _ _ e => by cases e

theorem New.at (B b off n c : Nat) (h : B ≤ b) : New B (.slice (some ⟨b, off, none⟩) n c) := fun _ _ _ _ e => by cases e; exact h

theorem New.mono {B B' : Nat} {v : Value} (h : New B v) (hb : B' ≤ B) : New B' v := fun b off n c e => Nat.le_trans hb (h b off n c e)

/-- A store elsewhere leaves a number as it is. -/
theorem Num.store {w : World} {v : Value} {x g j : Nat} {u : Value} (h : Num w v x) (hn : New (g + 1) v) : Num (w.setCell ⟨g, j, none⟩ u) v x := by
  obtain ⟨ds, hA, hr⟩ := h
  refine ⟨ds, ?_, hr⟩
  obtain ⟨ao, cap, h1, h2, h3, h4⟩ := hA.form
  refine ⟨⟨ao, cap, h1, h2, h3, ?_⟩, hA.limbs, hA.few, hA.nz⟩
  rcases h4 with h4 | ⟨b, off, rfl, hc⟩
  · exact .inl h4
  · have hb := hn b off _ _ h1
    refine .inr ⟨b, off, rfl, fun k hk => ?_⟩
    rw [World.cell?_of_block (w := w) (Below.heap_setCell w ⟨g, j, none⟩ u b (by show b ≠ g; omega))]
    exact hc k hk

end Go.Proofs.YtelfjadonlgkiabDoor

/- The reference's numbers: Of. -/
namespace Go.Proofs.YtelfjadonlgkiabDoor
open Go.RowKit
open Lm

theorem news_cells {w : World} (l : List Nat) (j : Nat) (u : Value) (hj : (l.map lv)[j]? = some u) : (w.alloc (.cells (l.map lv).toArray 33)).cell? ((⟨w.heap.size, 0, none⟩ : Addr).add j) = some u := by
  have e : (⟨w.heap.size, 0, none⟩ : Addr).add j = ⟨w.heap.size, j, none⟩ := by
    unfold Addr.add; split <;> simp_all
  rw [e]
  simp only [World.cell?, heap_alloc_new]
  simpa using hj

theorem lv_oneCell (zs : List Nat) : ∀ u ∈ zs.map lv, u.oneCell' = true := by
  intro u hu
  obtain ⟨z, _, rfl⟩ := List.mem_map.1 hu
  rfl

end Go.Proofs.YtelfjadonlgkiabDoor

/- The reference's numbers: Limbs, Is, Len. -/
namespace Go.Proofs.YtelfjadonlgkiabDoor
open Go.RowKit
open Lm

theorem ret_int {k : IntKind} {a b : Int} (h : a = b) : Ending.returned (.int k a) = .returned (.int k b) := by rw [h]

end Go.Proofs.YtelfjadonlgkiabDoor
