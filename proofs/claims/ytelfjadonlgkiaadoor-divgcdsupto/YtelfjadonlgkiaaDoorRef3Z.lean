/- The document's division, and what the laws of package div ask of an answer. -/
import Derived.Test.YtelfjadonlgkiaaDoorQG
import Derived.Test.YtelfjadonlgkiaaDoorQH
import Derived.Handy
namespace Go.Proofs.YtelfjadonlgkiaaDoor
open Go.RowKit
open Lm

theorem rboth_zero (v1 v2 : Value) (w : World) (h2 : Num w v2 0) :
    Calls Tryd.prog 11 #[v1, v2] w fun e w' => e = .returned (.tuple #[.slice none 0 0, .slice none 0 0, .int .i64 30]) ∧ w' = w := by
  have HZ := zero_any v2 0 w h2
  rw [show ((0 : Nat) == 0) = true from rfl] at HZ
  clear h2
  go_enter Tryd.func11, Tryd.ntmps11
  go_wp2_with fail
  refine HZ.mono ?_
  rintro e wn ⟨rfl, hw⟩; subst hw
  clear HZ
  go_wp2
  go_returns
  exact ⟨rfl, rfl⟩

theorem rboth_any (v1 v2 : Value) (x y : Nat) (w : World) (h1 : Num w v1 x) (h2 : Num w v2 y) (hy : y ≠ 0) (f1 : blen x ≤ 1125899906809856) (f2 : blen y ≤ 1125899906809856) :
    Calls Tryd.prog 11 #[v1, v2] w fun e w' => (∃ vq vr, e = .returned (.tuple #[vq, vr, .int .i64 0]) ∧ Num w' vq (x / y) ∧ Num w' vr (x % y)) ∧ Below w.heap.size w w' := by
  have HZ := zero_any v2 y w h2
  rw [show (y == 0) = false by rw [beq_eq_false_iff_ne]; exact hy] at HZ
  have HD := rdiv_any v1 v2 x y w h1 h2 hy (by omega) f2
  clear h1 h2 hy f1 f2
  go_enter Tryd.func11, Tryd.ntmps11
  go_wp2_with fail
  refine HZ.mono ?_
  rintro e wn ⟨rfl, hw⟩; subst hw
  clear HZ
  go_wp2_with fail
  refine HD.mono ?_
  rintro e w2 ⟨⟨vq, vr, rfl, n1, n2⟩, hb⟩
  have HX := hide (And.intro n1 (And.intro n2 hb))
  clear HD n1 n2 hb
  go_wp2
  go_returns
  exact ⟨⟨vq, vr, rfl, HX.out.1, HX.out.2.1⟩, HX.out.2.2⟩

theorem rdivides_any (v1 v2 : Value) (x y : Nat) (w : World) (h1 : Num w v1 x) (h2 : Num w v2 y) (f1 : blen x ≤ 1125899906809856) (f2 : blen y ≤ 1125899906809856) :
    Calls Tryd.prog 18 #[v1, v2] w fun e w' => e = .returned (.bool (decide (x % y = 0))) ∧ Below w.heap.size w w' := by
  have HZ := zero_any v2 y w h2
  have HX := zero_any v1 x w h1
  by_cases hy : y = 0
  · rw [show (y == 0) = true by simpa using hy] at HZ
    have e0 : (x == 0) = decide (x % y = 0) := by rw [hy, Nat.mod_zero]; rfl
    rw [e0] at HX
    generalize decide (x % y = 0) = d at *
    clear h1 h2 hy e0
    go_enter Tryd.func18, Tryd.ntmps18
    go_wp2_with fail
    refine HZ.mono ?_
    rintro e wn ⟨rfl, hw⟩; subst hw
    clear HZ
    go_wp2_with fail
    refine HX.mono ?_
    rintro e wm ⟨rfl, hw⟩; subst hw
    clear HX
    go_wp2
    go_ret
    exact ⟨rfl, Below.refl _ _⟩
  · rw [show (y == 0) = false by rw [beq_eq_false_iff_ne]; exact hy] at HZ
    have HD := rdiv_any v1 v2 x y w h1 h2 hy (by omega) f2
    generalize hdd : decide (x % y = 0) = d
    have HDD := hide hdd
    clear h1 h2 hy f1 f2 HX hdd
    go_enter Tryd.func18, Tryd.ntmps18
    go_wp2_with fail
    refine HZ.mono ?_
    rintro e wn ⟨rfl, hw⟩; subst hw
    clear HZ
    go_wp2_with fail
    refine HD.mono ?_
    rintro e w2 ⟨⟨vq, vr, rfl, n1, n2⟩, hb⟩
    have HX := zero_any vr _ w2 n2
    rw [show (x % y == 0) = d from HDD.out] at HX
    have HB := hide hb
    clear HD n1 n2 hb
    go_wp2_with fail
    refine HX.mono ?_
    rintro e wm ⟨rfl, hw⟩; subst hw
    clear HX
    go_wp2
    go_ret
    exact ⟨rfl, HB.out⟩

theorem same3_err (vn : Value) (c : Int) (ao : Option Addr) (cap : Nat) (w : World) (hc : c ≠ 0) :
    Calls Tryd.prog 14 #[.slice ao 0 cap, .int .i64 c, vn, .int .i64 c] w fun e w' => e = .returned (.bool true) ∧ w' = w := by
  have hd : (c == 0) = false := by rw [beq_eq_false_iff_ne]; exact hc
  have hd2 : (c != 0) = true := by rw [bne_iff_ne]; exact hc
  clear hc
  go_enter Tryd.func14, Tryd.ntmps14
  go_wp2
  go_ret
  exact ⟨rfl, rfl⟩

set_option maxHeartbeats 400000 in
theorem same3_ok (va vn : Value) (c : Int) (rs : List Nat) (s base : Nat) (w : World) (hA : Ans w base va rs) (hl : rs.length ≤ 1048576) (h : (c = 0 ∧ val rs = s ∧ tr rs = rs ∧ blen s ≤ 67108864) ∨ (c = 3 ∧ rs = [] ∧ 67108864 < blen s)) (hn : Num w vn s) :
    Calls Tryd.prog 14 #[va, .int .i64 c, vn, .int .i64 0] w fun e w' => e = .returned (.bool true) ∧ Below w.heap.size w w' := by
  have HL := len_any vn s w hn
  rcases h with ⟨rfl, hv, ht, hs⟩ | ⟨rfl, rfl, hs⟩
  · have HI := is_true vn va s rs w hn (hA.arg (by omega)) ht hv (by omega)
    have hd : decide ((67108864 : Int) < (blen s : Int)) = false := decide_eq_false (by omega)
    generalize blen s = y at *
    clear hA hl hv ht hn
    go_enter Tryd.func14, Tryd.ntmps14
    go_wp2_with fail
    refine HL.mono ?_
    rintro e wn ⟨rfl, hw⟩; subst hw
    clear HL
    go_wp2_with fail
    refine HI.mono ?_
    rintro e w3 ⟨rfl, hb⟩
    have HB := hide hb
    clear hb HI
    go_wp2
    go_ret
    exact ⟨rfl, HB.out⟩
  · have hd : (67108864 : Int) < (blen s : Int) := by omega
    obtain ⟨ao, cap, rfl, _⟩ := (hA.arg (by simp)).form
    generalize blen s = y at *
    clear hA hl hn
    go_enter Tryd.func14, Tryd.ntmps14
    go_wp2_with fail
    refine HL.mono ?_
    rintro e wn ⟨rfl, hw⟩; subst hw
    clear HL
    go_wp2
    go_ret
    exact ⟨rfl, Below.refl _ _⟩

end Go.Proofs.YtelfjadonlgkiaaDoor
