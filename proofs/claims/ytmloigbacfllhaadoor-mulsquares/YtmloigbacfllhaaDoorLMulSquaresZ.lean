/- The walk of the law MulSquares. -/
import Derived.Test.YtmloigbacfllhaaDoorRefKZ
import Derived.Test.YtmloigbacfllhaaDoorQF
import Derived.Test.YtmloigbacfllhaaDoorQH
namespace Go.Proofs.YtmloigbacfllhaaDoor
open Go.RowKit
open Lm

theorem resN_below {w w' : World} {v : Value} {f : Int} {s : Nat} (h : (f = 0 ∧ Num w v s ∧ blen s ≤ 67108864) ∨ (f = 3 ∧ v = .slice none 0 0 ∧ 67108864 < blen s)) (hb : Below w.heap.size w w') : (f = 0 ∧ Num w' v s ∧ blen s ≤ 67108864) ∨ (f = 3 ∧ v = .slice none 0 0 ∧ 67108864 < blen s) := by
  rcases h with ⟨h1, h2, h3⟩ | h
  · exact .inl ⟨h1, h2.below hb, h3⟩
  · exact .inr h

set_option maxRecDepth 100000 in
set_option maxHeartbeats 1000000 in
theorem mulSquares_walk (v0 : Value) (z0 : List Nat) (w : World) (hT : Tab w) (A0 : Arg w v0 z0) (s0 : z0.length ≤ 17592186043904) :
    Calls Tryd.prog 5 #[v0] w fun e w' => e = .returned (.bool true) ∧ Below w.heap.size w w' := by
  have HB : Hid (Below w.heap.size w w) := Below.refl _ _
  have bx := A0.bits s0
  have HT := hide hT
  clear hT
  go_enter Tryd.func5, Tryd.ntmps5
  go_wp2_with fail
  refine (lend_ok _ _ _ A0 (by omega)).mono ?_
  rintro e wn ⟨⟨vw, vp, rfl, Lw, Ap⟩, hb⟩
  replace HB := hid_below HB hb; replace A0 := A0.below hb; clear hb
  go_wp2_with fail
  refine (of_any _ _ _ A0 (by omega)).mono ?_
  rintro e w1 ⟨⟨vx, rfl, Nx⟩, hb⟩
  replace HB := hid_below HB hb; replace A0 := A0.below hb; replace Lw := Lw.below hb; replace Ap := Ap.below hb; clear hb
  go_wp2_with fail
  refine (rmul2_any _ _ _ _ _ Nx Nx bx bx).mono ?_
  rintro e w2 ⟨hb, vn, f, rfl, hn⟩
  replace HB := hid_below HB hb; replace A0 := A0.below hb; replace Lw := Lw.below hb; replace Ap := Ap.below hb; clear hb Nx
  have HS := square_any vp z0 w2 Ap (HT.out.below HB.out) (by omega)
  go_wp2_with fail
  refine HS.mono ?_
  rintro e w3 ⟨hb, vr, c, rs, rfl, hans, hres⟩
  replace hn := resN_below hn hb
  replace HB := hid_below HB hb; replace A0 := A0.below hb; replace Lw := Lw.below hb; clear hb Ap HS
  have HAL := alike_ok vr vn c f rs _ _ w3 hans (Res.few hans hres) hres hn
  clear hans hres hn
  go_wp2_with fail
  refine HAL.mono ?_
  rintro e w4 ⟨rfl, hb⟩
  replace HB := hid_below HB hb; replace A0 := A0.below hb; replace Lw := Lw.below hb; clear hb HAL
  go_wp2_with fail
  refine (kept_ok _ _ _ _ Lw A0 (by omega)).mono ?_
  rintro e wn ⟨rfl, hw⟩; subst hw
  have HA := awake_any wn (HT.out.below HB.out)
  clear A0 Lw
  go_wp2_with fail
  refine HA.mono ?_
  rintro e w5 ⟨rfl, hb⟩
  replace HB := hid_below HB hb; clear hb HA
  go_wp2
  go_ret
  exact ⟨rfl, HB.out⟩

end Go.Proofs.YtmloigbacfllhaaDoor
