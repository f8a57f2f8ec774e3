/- What the laws of package mul use besides: all, same, sum. -/
import Derived.Test.YtelfjadonlgkiaaDoorQK
import Derived.Test.YtelfjadonlgkiaaDoorQG
import Derived.Test.YtelfjadonlgkiaaDoorQH
import Derived.Test.YtelfjadonlgkiaaDoorQC
namespace Go.Proofs.YtelfjadonlgkiaaDoor
open Go.RowKit
open Lm
attribute [local go_sem ↓] Go.wp_at_zero Go.wp_at_succ

/-- Are all codes 0? -/
def all0 (cs : List Int) : Bool := cs.all (· == 0)

theorem all0_take (cs : List Int) (k : Nat) (hk : k < cs.length) (h : all0 (cs.take k) = true) : all0 (cs.take (k + 1)) = (cs.getD k 0 == 0) := by
  unfold all0 at *
  rw [List.take_succ_eq_append_getElem hk, List.all_append, h]
  simp [List.getD, hk]

theorem all0_not (cs : List Int) (k : Nat) (hk : k < cs.length) (h : (cs.getD k 0 == 0) = false) : all0 cs = false := by
  unfold all0
  rw [List.all_eq_false]
  refine ⟨cs[k], List.getElem_mem _, ?_⟩
  simpa [List.getD, hk] using h

theorem cmpN_zero (x y : Nat) : (cmpN x y == 0) = decide (x = y) := by
  unfold cmpN
  by_cases h : x < y
  · rw [if_pos h]; simp; omega
  · rw [if_neg h]
    by_cases h2 : x = y
    · subst h2; simp
    · have h3 : ¬ (x = y) := h2
      have h4 : y < x := by omega
      simp [h3, h4]

/-- Some lists that can be read. -/
def Args (w : World) (L : List (Value × List Nat)) : Prop := ∀ p, p ∈ L → Arg w p.1 p.2

theorem Args.below {w w' : World} {L : List (Value × List Nat)} (h : Args w L) (hb : Below w.heap.size w w') : Args w' L := fun p hp => (h p hp).below hb

theorem Args.add {w : World} {L : List (Value × List Nat)} (h : Args w L) {v : Value} {X : List Nat} (hA : Arg w v X) : Args w ((v, X) :: L) := fun p hp => by
  rcases List.mem_cons.1 hp with h1 | h1
  · subst h1; exact hA
  · exact h p h1

theorem Args.none (w : World) : Args w [] := fun p hp => by cases hp

end Go.Proofs.YtelfjadonlgkiaaDoor
