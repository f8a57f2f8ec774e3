/- The walk of the law RootSteps. -/
import Derived.Test.YteecnckfkcmefaaGreatDoorQS
import Derived.Test.YteecnckfkcmefaaGreatDoorQG
import Derived.Test.YteecnckfkcmefaaGreatDoorRootBZ
import Derived.Test.YteecnckfkcmefaaGreatDoorQH
namespace Go.Proofs.YteecnckfkcmefaaGreatDoor
open Go.RowKit
open Lm
attribute [local go_sem ↓] Go.wp_at_zero Go.wp_at_succ

theorem alike4_err (ao : Option Addr) (cap : Nat) (vn : Value) (c : Int) (w : World) (hc : c ≠ 0) :
    Calls Tryz.prog 16 #[.slice ao 0 cap, .int .i64 c, vn, .int .i64 c] w fun e w' => e = .returned (.bool true) ∧ w' = w := by
  have hd : (c == 0) = false := by rw [beq_eq_false_iff_ne]; exact hc
  have HN := num4_any c w
  clear hc
  go_enter Tryz.func16, Tryz.ntmps16
  go_wp2_with fail
  refine HN.mono ?_
  rintro e w2 ⟨rfl, hw⟩; subst hw
  clear HN
  go_wp2
  go_ret
  exact ⟨rfl, rfl⟩

theorem alike4_val (va vn : Value) (rs : List Nat) (s : Nat) (w : World) (hA : Arg w va rs) (hn : Num w vn s) (hv : val rs = s) (ht : tr rs = rs) (hs : blen s ≤ 1125899906842624) :
    Calls Tryz.prog 16 #[va, .int .i64 0, vn, .int .i64 0] w fun e w' => e = .returned (.bool true) ∧ Below w.heap.size w w' := by
  have HI := is_true vn va s rs w hn hA ht hv hs
  have HN := num4_any 0 w
  clear hA hn hv ht hs
  go_enter Tryz.func16, Tryz.ntmps16
  go_wp2_with fail
  refine HN.mono ?_
  rintro e w2 ⟨rfl, hw⟩; subst hw
  clear HN
  go_wp2_with fail
  refine HI.mono ?_
  rintro e w3 ⟨rfl, hb⟩
  have HB := hide hb
  clear hb HI
  go_wp2
  go_ret
  exact ⟨rfl, HB.out⟩

theorem alike4_ok (va vn : Value) (c f : Int) (rs : List Nat) (s base : Nat) (w : World) (hA : Ans w base va rs) (hl : rs.length ≤ 1048576) (h : (c = 0 ∧ val rs = s ∧ tr rs = rs ∧ blen s ≤ 67108864) ∨ (c = 3 ∧ rs = [] ∧ 67108864 < blen s)) (hn : (f = 0 ∧ Num w vn s ∧ blen s ≤ 67108864) ∨ (f = 3 ∧ vn = .slice none 0 0 ∧ 67108864 < blen s)) :
    Calls Tryz.prog 16 #[va, .int .i64 c, vn, .int .i64 f] w fun e w' => e = .returned (.bool true) ∧ Below w.heap.size w w' := by
  rcases h with ⟨rfl, hv, ht, hs⟩ | ⟨rfl, rfl, hs⟩
  · rcases hn with ⟨rfl, hn, _⟩ | ⟨_, _, h⟩
    · exact alike4_val va vn rs s w (hA.arg (by omega)) hn hv ht (by omega)
    · omega
  · rcases hn with ⟨_, _, h⟩ | ⟨rfl, _, _⟩
    · omega
    · obtain ⟨ao, cap, rfl, _⟩ := (hA.arg (by simp)).form
      refine (alike4_err ao cap vn 3 w (by omega)).mono ?_
      rintro e w2 ⟨rfl, hw⟩; subst hw
      exact ⟨rfl, Below.refl _ _⟩

/-- The document's answer, or its error. -/
def TellN (w : World) (vn : Value) (f : Int) (s : Nat) : Prop := (f = 0 ∧ Num w vn s ∧ blen s ≤ 67108864) ∨ (f = 3 ∧ vn = .slice none 0 0 ∧ 67108864 < blen s)

theorem told4_any (v : Value) (x : Nat) (w : World) (h : Num w v x) : Calls Tryz.prog 36 #[v, .slice none 0 0] w fun e w' => w' = w ∧ ∃ vn v2 f, e = .returned (.tuple #[vn, v2, .int .i64 f]) ∧ TellN w vn f x := by
  have H := len_any v x w h
  have H0 := len_any _ 0 w (Num.nil w)
  rw [show blen 0 = 0 from (blen_zero_iff 0).2 rfl] at H0
  have HN := hide h
  unfold TellN
  clear h
  generalize blen x = y at *
  by_cases hy : y ≤ 67108864
  · have hd : decide ((67108864 : Int) < (y : Int)) = false := decide_eq_false (by omega)
    go_enter Tryz.func36, Tryz.ntmps36
    go_wp2_with fail
    refine H.mono ?_
    rintro e w1 ⟨rfl, hw⟩; rw [hw]; clear hw
    go_wp2_with fail
    refine H0.mono ?_
    rintro e w1 ⟨rfl, hw⟩; rw [hw]; clear hw
    clear H H0
    go_wp2
    go_returns
    exact ⟨rfl, _, _, _, rfl, .inl ⟨rfl, HN.out, hy⟩⟩
  · have hd : (67108864 : Int) < (y : Int) := by omega
    go_enter Tryz.func36, Tryz.ntmps36
    go_wp2_with fail
    refine H.mono ?_
    rintro e w1 ⟨rfl, hw⟩; rw [hw]; clear hw
    clear H H0
    go_wp2
    go_returns
    exact ⟨rfl, _, _, _, rfl, .inr ⟨rfl, rfl, by omega⟩⟩

end Go.Proofs.YteecnckfkcmefaaGreatDoor
