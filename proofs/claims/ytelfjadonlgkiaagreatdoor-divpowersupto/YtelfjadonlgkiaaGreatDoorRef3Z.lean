/- The document's division, and what the laws of package div ask of an answer. -/
import Derived.Test.YtelfjadonlgkiaaGreatDoorQG
import Derived.Test.YtelfjadonlgkiaaGreatDoorQH
import Derived.Handy
namespace Go.Proofs.YtelfjadonlgkiaaGreatDoor
open Go.RowKit
open Lm

theorem same3_err (vn : Value) (c : Int) (ao : Option Addr) (cap : Nat) (w : World) (hc : c ≠ 0) :
    Calls Tryz.prog 7 #[.slice ao 0 cap, .int .i64 c, vn, .int .i64 c] w fun e w' => e = .returned (.bool true) ∧ w' = w := by
  have hd : (c == 0) = false := by rw [beq_eq_false_iff_ne]; exact hc
  have hd2 : (c != 0) = true := by rw [bne_iff_ne]; exact hc
  clear hc
  go_enter Tryz.func7, Tryz.ntmps7
  go_wp2
  go_ret
  exact ⟨rfl, rfl⟩

set_option maxHeartbeats 400000 in
theorem same3_ok (va vn : Value) (c : Int) (rs : List Nat) (s base : Nat) (w : World) (hA : Ans w base va rs) (hl : rs.length ≤ 1048576) (h : (c = 0 ∧ val rs = s ∧ tr rs = rs ∧ blen s ≤ 67108864) ∨ (c = 3 ∧ rs = [] ∧ 67108864 < blen s)) (hn : Num w vn s) :
    Calls Tryz.prog 7 #[va, .int .i64 c, vn, .int .i64 0] w fun e w' => e = .returned (.bool true) ∧ Below w.heap.size w w' := by
  have HL := len_any vn s w hn
  rcases h with ⟨rfl, hv, ht, hs⟩ | ⟨rfl, rfl, hs⟩
  · have HI := is_true vn va s rs w hn (hA.arg (by omega)) ht hv (by omega)
    have hd : decide ((67108864 : Int) < (blen s : Int)) = false := decide_eq_false (by omega)
    generalize blen s = y at *
    clear hA hl hv ht hn
    go_enter Tryz.func7, Tryz.ntmps7
    go_wp2_with fail
    refine HL.mono ?_
    rintro e wn ⟨rfl, hw⟩; subst hw
    clear HL
    go_wp2_with fail
    refine HI.mono ?_
    rintro e w3 ⟨rfl, hb⟩
    have HB := hide hb
    clear hb HI
    go_wp2
    go_ret
    exact ⟨rfl, HB.out⟩
  · have hd : (67108864 : Int) < (blen s : Int) := by omega
    obtain ⟨ao, cap, rfl, _⟩ := (hA.arg (by simp)).form
    generalize blen s = y at *
    clear hA hl hn
    go_enter Tryz.func7, Tryz.ntmps7
    go_wp2_with fail
    refine HL.mono ?_
    rintro e wn ⟨rfl, hw⟩; subst hw
    clear HL
    go_wp2
    go_ret
    exact ⟨rfl, Below.refl _ _⟩

end Go.Proofs.YtelfjadonlgkiaaGreatDoor
