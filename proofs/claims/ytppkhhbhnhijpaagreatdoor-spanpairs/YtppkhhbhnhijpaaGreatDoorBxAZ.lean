/- Many boxes at once. -/
import Derived.Test.YtppkhhbhnhijpaaGreatDoorQH
import Derived.Test.YtppkhhbhnhijpaaGreatDoorQ9
namespace Go.Proofs.YtppkhhbhnhijpaaGreatDoor
open Go.RowKit
open Lm

/-- A list of blocks with what they hold. -/
def Bx (w : World) (l : List (Nat × Obj)) : Prop := ∀ (i g : Nat) (o : Obj), l[i]? = some (g, o) → w.heap[g]? = some o

theorem Bx.nil (w : World) : Bx w [] := by intro i g o h; simp at h

theorem Bx.cons {w : World} {g : Nat} {o : Obj} {l : List (Nat × Obj)} (hx : w.heap[g]? = some o) (h : Bx w l) : Bx w ((g, o) :: l) := by
  intro i g' o' e
  cases i with
  | zero => simp at e; obtain ⟨rfl, rfl⟩ := e; exact hx
  | succ i => rw [List.getElem?_cons_succ] at e; exact h i g' o' e

theorem Bx.below {w w' : World} {l : List (Nat × Obj)} (h : Bx w l) (hb : Below w.heap.size w w') : Bx w' l := fun i g o e => block_upW hb (h i g o e)

theorem Bx.alloc {w : World} {l : List (Nat × Obj)} (h : Bx w l) (o : Obj) : Bx (w.alloc o) l := h.below (below_one6 _ _)

theorem Bx.drew {w : World} {l : List (Nat × Obj)} (h : Bx w l) : Bx w.drew l := h

/-- A block that holds neither limbs nor lists. -/
def plainBox : Obj → Bool
  | .cells _ t (0, 0) => t != 108 && t != 22
  | _ => false

theorem Bx.bk {w w' : World} {base : Nat} {l : List (Nat × Obj)} (h : Bx w l) (hk : BK base w w') (hp : (l.all fun p => plainBox p.2) = true) : Bx w' l := by
  intro i g o e
  have hm : (g, o) ∈ l := List.mem_of_getElem? e
  have := List.all_eq_true.1 hp _ hm
  have h0 := h i g o e
  cases o with
  | cells cs t fr =>
    obtain ⟨f1, f2⟩ := fr
    cases f1 with
    | succ n => simp [plainBox] at this
    | zero =>
      cases f2 with
      | succ n => simp [plainBox] at this
      | zero =>
        simp only [plainBox, Bool.and_eq_true, bne_iff_ne] at this
        exact hk.box g cs t this.1 this.2 h0
  | _ => simp [plainBox] at this

end Go.Proofs.YtppkhhbhnhijpaaGreatDoor
