/- The laws' all, of surdlaw08. -/
import Derived.Test.YtppkhhbhnhijpaaGreatDoorQ9
namespace Go.Proofs.YtppkhhbhnhijpaaGreatDoor
open Go.RowKit
open Lm
attribute [local go_sem ↓] Go.wp_at_zero Go.wp_at_succ

/-- The codes as the list holds them. -/
def codes8 (cs : List Int) : Array Value := (cs.map (Value.int .i64)).toArray

theorem codes_cell8 {w : World} {L : Nat} {cs : List Int} {t : TypeId} (h : w.heap[L]? = some (.cells (codes8 cs) t)) (k : Nat) (hk : k < cs.length) : w.cell? ⟨L, k, none⟩ = some (.int .i64 (cs.getD k 0)) := by
  simp [World.cell?, h, codes8, List.getD, hk]

theorem all_step8 {cs : List Int} {k : Nat} (hk : k < cs.length) (h : (cs.take k).all (· == 0) = true) (h0 : cs.getD k 0 = 0) : (cs.take (k + 1)).all (· == 0) = true := by
  have e : cs.getD k 0 = cs[k] := by simp [List.getD, hk]
  rw [List.take_succ_eq_append_getElem hk, List.all_append, h]
  simp only [Bool.true_and, List.all_cons, List.all_nil, Bool.and_true, beq_iff_eq]
  rw [← e]; exact h0

end Go.Proofs.YtppkhhbhnhijpaaGreatDoor
