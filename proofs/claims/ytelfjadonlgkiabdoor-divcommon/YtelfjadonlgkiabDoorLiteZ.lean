/- Lists handed on, and few limbs: for seats without the laws on memory. -/
import Derived.Test.YtelfjadonlgkiabDoorQC
import Derived.Test.YtelfjadonlgkiabDoorQA
namespace Go.Proofs.YtelfjadonlgkiabDoor
open Go.RowKit
open Lm

theorem hid_below {w a b : World} (h : Hid (Below w.heap.size w a)) (hb : Below a.heap.size a b) : Hid (Below w.heap.size w b) := h.out.trans (hb.mono h.out.size)

theorem Res.few {w : World} {base : Nat} {v : Value} {c : Int} {rs : List Nat} {s : Nat} (_ : Ans w base v rs) (h : (c = 0 ∧ val rs = s ∧ tr rs = rs ∧ blen s ≤ 67108864) ∨ (c = 3 ∧ rs = [] ∧ 67108864 < blen s)) : rs.length ≤ 1048576 := by
  rcases h with ⟨_, hv, ht, hs⟩ | ⟨_, rfl, _⟩
  · have := few_limbs rs 1048576 (by rw [hv]; omega)
    rwa [ht] at this
  · simp

/-- Some lists that can be read. -/
def Args (w : World) (L : List (Value × List Nat)) : Prop := ∀ p, p ∈ L → Arg w p.1 p.2

theorem Args.below {w w' : World} {L : List (Value × List Nat)} (h : Args w L) (hb : Below w.heap.size w w') : Args w' L := fun p hp => (h p hp).below hb

theorem Args.add {w : World} {L : List (Value × List Nat)} (h : Args w L) {v : Value} {X : List Nat} (hA : Arg w v X) : Args w ((v, X) :: L) := fun p hp => by
  rcases List.mem_cons.1 hp with h1 | h1
  · subst h1; exact hA
  · exact h p h1

theorem Args.none (w : World) : Args w [] := fun p hp => by cases hp

end Go.Proofs.YtelfjadonlgkiabDoor
