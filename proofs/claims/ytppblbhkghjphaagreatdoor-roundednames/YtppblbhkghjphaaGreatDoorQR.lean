/- The document's number of an int. -/
import Derived.Test.YtppblbhkghjphaaGreatDoorQG
import Derived.Test.YtppblbhkghjphaaGreatDoorQB
namespace Go.Proofs.YtppblbhkghjphaaGreatDoor
open Go.RowKit
open Lm
attribute [local go_sem ↓] Go.wp_at_zero Go.wp_at_succ

theorem rint_all (c : Nat) (w : World) (hc : c < 9223372036854775808) : Calls Tryz.prog 8 #[.int .i64 c] w fun e w' => (∃ v, e = .returned v ∧ Num w' v c) ∧ Below w.heap.size w w' := by
  have hA := Arg.lits w [c] #[.int .u64 (c : Int)] 1 rfl rfl (by intro z hz; simp at hz; omega) (by simp)
  have hb : Below w.heap.size w (w.alloc (.cells #[.int .u64 (c : Int)] 32)) := (Below.refl _ _).alloc (Nat.le_refl _) _
  have HO := of_any _ [c] _ hA (by simp)
  rw [show val [c] = c by simp [val]] at HO
  have HB := hide hb
  clear hA hb
  go_enter Tryz.func8, Tryz.ntmps8
  go_wp2_with fail
  refine HO.mono ?_
  rintro e w2 ⟨⟨v, rfl, N⟩, hb2⟩
  have HX := hide (And.intro N (HB.out.trans (hb2.mono HB.out.size)))
  clear N hb2 HO
  go_wp2
  go_ret
  exact ⟨⟨v, rfl, HX.out.1⟩, HX.out.2⟩

end Go.Proofs.YtppblbhkghjphaaGreatDoor
