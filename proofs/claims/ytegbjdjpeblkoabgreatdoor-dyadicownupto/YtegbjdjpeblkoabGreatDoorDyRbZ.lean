/- The document's Add of two dyadics that are not 0. -/
import Derived.Test.YtegbjdjpeblkoabGreatDoorDyRaZ
namespace Go.Proofs.YtegbjdjpeblkoabGreatDoor
open Go.RowKit
open Lm
attribute [local go_sem ↓] Go.wp_at_zero Go.wp_at_succ

theorem tri8_else {w : World} {g h : Nat} {u0 u1 u2 : Value} {x : Obj} (e : w.heap[h]? = some x) (hne : h ≠ g) : (((w.setCell ⟨g, 0, none⟩ u0).setCell ⟨g, 1, none⟩ u1).setCell ⟨g, 2, none⟩ u2).heap[h]? = some x := by
  rw [Below.heap_setCell _ _ _ _ hne, Below.heap_setCell _ _ _ _ hne, Below.heap_setCell _ _ _ _ hne]; exact e

end Go.Proofs.YtegbjdjpeblkoabGreatDoor
