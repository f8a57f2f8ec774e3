/- Package nat: From, Times. -/
import Derived.Test.YtmloigbacfllhaaDoorNatD
import Derived.Test.YtmloigbacfllhaaDoorPure5
namespace Go.Proofs.YtmloigbacfllhaaDoor
open Go.RowKit
open Lm

/-- A number of one limb, or nought. -/
theorem from_any (x : Nat) (w : World) (hx : x < 18446744073709551616) :
    Calls Tryd.prog 25 #[.int .u64 x] w fun e w' => (∃ v, e = .returned v ∧ Ans w' w.heap.size v (tr [x])) ∧ Below w.heap.size w w' := by
  by_cases h : x = 0
  · subst h
    have hz : (((0 : Nat) : Int) == 0) = true := rfl
    go_enter Tryd.func25, Tryd.ntmps25
    go_wp2
    go_ret
    exact ⟨⟨_, rfl, Ans.nil _ _⟩, Below.refl _ _⟩
  · have hz : ((x : Int) == 0) = false := by rw [beq_eq_false_iff_ne]; omega
    have e : tr [x] = [x] := by simp [tr, h]
    rw [e]
    clear e h
    have hb : Blk (w.alloc (.cells #[.int .u64 (x : Int)] 38)) w.heap.size [x] := by
      unfold Blk; rw [heap_alloc_new]; rfl
    have HA := hide (Ans.of_blk (base := w.heap.size) (zs := [x]) (Nat.le_refl _) hb rfl (Nat.le_refl _) (by simp) (by intro y hy; simp at hy; omega))
    clear hb
    go_enter Tryd.func25, Tryd.ntmps25
    go_wp2
    go_ret
    exact ⟨⟨_, rfl, HA.out⟩, (Below.refl _ _).alloc (Nat.le_refl _) _⟩

end Go.Proofs.YtmloigbacfllhaaDoor
