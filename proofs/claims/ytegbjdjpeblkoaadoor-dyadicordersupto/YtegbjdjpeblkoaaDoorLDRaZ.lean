/- The walk of the law DyadicOrders. -/
import Derived.Test.YtegbjdjpeblkoaaDoorDyOrZ
import Derived.Deep.CutBlock
import Derived.Deep.DeepCutAuto
namespace Go.Proofs.YtegbjdjpeblkoaaDoor
open Go.RowKit
open Lm
attribute [local go_sem ↓] Go.wp_at_zero Go.wp_at_succ

set_option maxRecDepth 20000 in
set_option maxHeartbeats 16000000 in
theorem orders8_ff (b0 : Bool) (v0 : Value) (z0 : List Nat) (p0 : Int) (b1 : Bool) (v1 : Value) (z1 : List Nat) (p1 : Int) (w : World) (hT : Tab w) (A0 : Arg w v0 z0) (s0 : z0.length ≤ 1048576) (_ : -9223372036854775808 ≤ p0) (_ : p0 ≤ 9223372036854775807) (A1 : Arg w v1 z1) (s1 : z1.length ≤ 1048576) (_ : -9223372036854775808 ≤ p1) (_ : p1 ≤ 9223372036854775807) (hE0 : fitE p0 = false) (hE1 : fitE p1 = false) :
    Calls Tryd.prog 3 #[.agg #[.bool b0, v0, .int .i64 p0], .agg #[.bool b1, v1, .int .i64 p1]] w fun e w' => e = .returned (.bool true) ∧ Below w.heap.size w w' := by
  obtain ⟨a0, n0, rfl, _, _, _⟩ := A0.form
  obtain ⟨a1, n1, rfl, _, _, _⟩ := A1.form
  obtain ⟨w0, hw0, hb0, h0, h1⟩ := enter2 w (.cells #[.bool b0, .slice a0 z0.length n0, .int .i64 p0] 24) (.cells #[.bool b1, .slice a1 z1.length n1, .int .i64 p1] 24)
  have HA := hide h0
  have HB := hide h1
  have HA0 := hide (A0.below hb0)
  have HA1 := hide (A1.below hb0)
  have HT := hide (hT.below hb0)
  have HW := hide hb0
  clear hT hb0 h0 h1
  clear A0 A1
  go_enter Tryd.func3, Tryd.ntmps3
  obtain ⟨ca0, cb0, cc0⟩ := tri8 HA.out
  have C := lent8_any b0 a0 n0 z0 p0 w0 HA0.out (by omega)
  go_wp2_with fail
  refine C.mono ?_
  rintro e Q1 ⟨⟨aw, mw, nw, ax, cx, rfl, _, hP⟩, hb⟩
  clear C ca0 cb0 cc0 hw0
  obtain ⟨P2, hP2, hbP, hx⟩ := enter1 Q1 (.cells #[.bool b0, .slice ax z0.length cx, .int .i64 p0] 29)
  have stp := bl_trans8 hb hbP
  replace HA := hide (block_upW stp HA.out)
  replace HB := hide (block_upW stp HB.out)
  replace HA0 := hide (HA0.out.below stp)
  replace HA1 := hide (HA1.out.below stp)
  replace HT := hide (HT.out.below stp)
  replace HW := hid_below HW stp
  have HPx := hide (hP.below hbP)
  have HX := hide hx
  clear hP hb hbP hx stp
  obtain ⟨ca0, cb0, cc0⟩ := tri8 HB.out
  have C := lent8_any b1 a1 n1 z1 p1 P2 HA1.out (by omega)
  go_wp2_with fail
  refine C.mono ?_
  rintro e Q3 ⟨⟨bw, mv, nv, ay, cy, rfl, _, hP⟩, hb⟩
  clear C ca0 cb0 cc0 hP2
  obtain ⟨P4, hP4, hbP, hx⟩ := enter1 Q3 (.cells #[.bool b1, .slice ay z1.length cy, .int .i64 p1] 29)
  have stp := bl_trans8 hb hbP
  replace HA := hide (block_upW stp HA.out)
  replace HB := hide (block_upW stp HB.out)
  replace HX := hide (block_upW stp HX.out)
  replace HA0 := hide (HA0.out.below stp)
  replace HA1 := hide (HA1.out.below stp)
  replace HT := hide (HT.out.below stp)
  replace HPx := hide (HPx.out.below stp)
  replace HW := hid_below HW stp
  have HPy := hide (hP.below hbP)
  have HY := hide hx
  clear hP hb hbP hx stp
  obtain ⟨ca0, cb0, cc0⟩ := tri8 HA.out
  have C := of8_no b0 a0 z0.length n0 p0 P4 hE0
  go_wp2_with fail
  refine C.mono ?_
  rintro e Q5 ⟨he, hb⟩
  clear C ca0 cb0 cc0 hP4
  obtain ⟨bm, am, lm, km, em, rfl, hq⟩ : ∃ b a n k ex, e = .returned (.tuple #[.agg #[.bool b, .slice a n k, .int .i64 ex], .bool false]) ∧ (b = false ∧ a = none ∧ n = 0 ∧ k = 0 ∧ ex = 0) := ⟨_, _, _, _, _, he, rfl, rfl, rfl, rfl, rfl⟩
  clear he hq
  obtain ⟨P6, hP6, hbP, hx⟩ := enter1 Q5 (.cells #[.bool bm, .slice am lm km, .int .i64 em] 36)
  have stp := bl_trans8 hb hbP
  replace HA := hide (block_upW stp HA.out)
  replace HB := hide (block_upW stp HB.out)
  replace HX := hide (block_upW stp HX.out)
  replace HY := hide (block_upW stp HY.out)
  replace HA0 := hide (HA0.out.below stp)
  replace HA1 := hide (HA1.out.below stp)
  replace HT := hide (HT.out.below stp)
  replace HPx := hide (HPx.out.below stp)
  replace HPy := hide (HPy.out.below stp)
  replace HW := hid_below HW stp
  have Hm := hide hx
  clear hb hbP hx stp
  obtain ⟨ca0, cb0, cc0⟩ := tri8 HB.out
  have C := of8_no b1 a1 z1.length n1 p1 P6 hE1
  go_wp2_with fail
  refine C.mono ?_
  rintro e Q7 ⟨he, hb⟩
  clear C ca0 cb0 cc0 hP6
  obtain ⟨bn, an, ln, kn, en, rfl, hq⟩ : ∃ b a n k ex, e = .returned (.tuple #[.agg #[.bool b, .slice a n k, .int .i64 ex], .bool false]) ∧ (b = false ∧ a = none ∧ n = 0 ∧ k = 0 ∧ ex = 0) := ⟨_, _, _, _, _, he, rfl, rfl, rfl, rfl, rfl⟩
  clear he hq
  obtain ⟨P8, hP8, hbP, hx⟩ := enter1 Q7 (.cells #[.bool bn, .slice an ln kn, .int .i64 en] 36)
  have stp := bl_trans8 hb hbP
  replace HA := hide (block_upW stp HA.out)
  replace HB := hide (block_upW stp HB.out)
  replace HX := hide (block_upW stp HX.out)
  replace HY := hide (block_upW stp HY.out)
  replace Hm := hide (block_upW stp Hm.out)
  replace HA0 := hide (HA0.out.below stp)
  replace HA1 := hide (HA1.out.below stp)
  replace HT := hide (HT.out.below stp)
  replace HPx := hide (HPx.out.below stp)
  replace HPy := hide (HPy.out.below stp)
  replace HW := hid_below HW stp
  have Hn := hide hx
  clear hb hbP hx stp
  obtain ⟨ca0, cb0, cc0⟩ := tri8 HX.out
  obtain ⟨ca1, cb1, cc1⟩ := tri8 HY.out
  have C := yCompare_no1 b0 ax z0.length cx p0 b1 ay z1.length cy p1 P8 hE0
  go_wp2_with fail
  refine C.mono ?_
  rintro e Q9 ⟨rfl, hb⟩
  clear C ca0 cb0 cc0 ca1 cb1 cc1 hP8
  replace HA := hide (block_upW hb HA.out)
  replace HB := hide (block_upW hb HB.out)
  replace HX := hide (block_upW hb HX.out)
  replace HY := hide (block_upW hb HY.out)
  replace Hm := hide (block_upW hb Hm.out)
  replace Hn := hide (block_upW hb Hn.out)
  replace HA0 := hide (HA0.out.below hb)
  replace HA1 := hide (HA1.out.below hb)
  replace HT := hide (HT.out.below hb)
  replace HPx := hide (HPx.out.below hb)
  replace HPy := hide (HPy.out.below hb)
  replace HW := hid_below HW hb
  clear hb
  obtain ⟨ca0, cb0, cc0⟩ := tri8 HX.out
  obtain ⟨ca1, cb1, cc1⟩ := tri8 HY.out
  have C := ymin_no b0 ax z0.length cx p0 b1 ay z1.length cy p1 Q9 (fun W _ => yjl_no1 b0 ax z0.length cx p0 b1 ay z1.length cy p1 W hE0)
  go_wp2_with fail
  refine C.mono ?_
  rintro e Q10 ⟨he, hb⟩
  clear C ca0 cb0 cc0 ca1 cb1 cc1
  obtain ⟨bp, ap, lp, kp, ep, cp, rfl, hq⟩ : ∃ b a n k ex c, e = .returned (.tuple #[.agg #[.bool b, .slice a n k, .int .i64 ex], .int .i64 c]) ∧ (b = false ∧ a = none ∧ n = 0 ∧ k = 0 ∧ ex = 0 ∧ c = 80) := ⟨_, _, _, _, _, _, he, rfl, rfl, rfl, rfl, rfl, rfl⟩
  have HQp := hide hq
  obtain ⟨P11, hP11, hbP, hx⟩ := enter1 Q10 (.cells #[.bool bp, .slice ap lp kp, .int .i64 ep] 29)
  have stp := bl_trans8 hb hbP
  replace HA := hide (block_upW stp HA.out)
  replace HB := hide (block_upW stp HB.out)
  replace HX := hide (block_upW stp HX.out)
  replace HY := hide (block_upW stp HY.out)
  replace Hm := hide (block_upW stp Hm.out)
  replace Hn := hide (block_upW stp Hn.out)
  replace HA0 := hide (HA0.out.below stp)
  replace HA1 := hide (HA1.out.below stp)
  replace HT := hide (HT.out.below stp)
  replace HPx := hide (HPx.out.below stp)
  replace HPy := hide (HPy.out.below stp)
  replace HW := hid_below HW stp
  have Hp := hide hx
  clear he hq hb hbP hx stp
  obtain ⟨ca0, cb0, cc0⟩ := tri8 HX.out
  obtain ⟨ca1, cb1, cc1⟩ := tri8 HY.out
  have C := ymax_no b0 ax z0.length cx p0 b1 ay z1.length cy p1 P11 (fun W _ => yjg_no1 b0 ax z0.length cx p0 b1 ay z1.length cy p1 W hE0)
  go_wp2_with fail
  refine C.mono ?_
  rintro e Q12 ⟨he, hb⟩
  clear C ca0 cb0 cc0 ca1 cb1 cc1 hP11
  obtain ⟨bq, aq, lq, kq, eq, cq, rfl, hq⟩ : ∃ b a n k ex c, e = .returned (.tuple #[.agg #[.bool b, .slice a n k, .int .i64 ex], .int .i64 c]) ∧ (b = false ∧ a = none ∧ n = 0 ∧ k = 0 ∧ ex = 0 ∧ c = 80) := ⟨_, _, _, _, _, _, he, rfl, rfl, rfl, rfl, rfl, rfl⟩
  have HQq := hide hq
  obtain ⟨P13, hP13, hbP, hx⟩ := enter1 Q12 (.cells #[.bool bq, .slice aq lq kq, .int .i64 eq] 29)
  have stp := bl_trans8 hb hbP
  replace HA := hide (block_upW stp HA.out)
  replace HB := hide (block_upW stp HB.out)
  replace HX := hide (block_upW stp HX.out)
  replace HY := hide (block_upW stp HY.out)
  replace Hm := hide (block_upW stp Hm.out)
  replace Hn := hide (block_upW stp Hn.out)
  replace Hp := hide (block_upW stp Hp.out)
  replace HA0 := hide (HA0.out.below stp)
  replace HA1 := hide (HA1.out.below stp)
  replace HT := hide (HT.out.below stp)
  replace HPx := hide (HPx.out.below stp)
  replace HPy := hide (HPy.out.below stp)
  replace HW := hid_below HW stp
  have Hq := hide hx
  clear he hq hb hbP hx stp
  obtain ⟨ca0, cb0, cc0⟩ := tri8 HX.out
  obtain ⟨ca1, cb1, cc1⟩ := tri8 HY.out
  have C := ymid_no b0 ax z0.length cx p0 b1 ay z1.length cy p1 P13 (fun W _ => yji_no1 b0 ax z0.length cx p0 b1 ay z1.length cy p1 W hE0)
  go_wp2_with fail
  refine C.mono ?_
  rintro e Q14 ⟨he, hb⟩
  clear C ca0 cb0 cc0 ca1 cb1 cc1 hP13
  obtain ⟨br, ar, lr, kr, er, cr, rfl, hq⟩ : ∃ b a n k ex c, e = .returned (.tuple #[.agg #[.bool b, .slice a n k, .int .i64 ex], .int .i64 c]) ∧ (b = false ∧ a = none ∧ n = 0 ∧ k = 0 ∧ ex = 0 ∧ c = 80) := ⟨_, _, _, _, _, _, he, rfl, rfl, rfl, rfl, rfl, rfl⟩
  have HQr := hide hq
  obtain ⟨P15, hP15, hbP, hx⟩ := enter1 Q14 (.cells #[.bool br, .slice ar lr kr, .int .i64 er] 29)
  have stp := bl_trans8 hb hbP
  replace HA := hide (block_upW stp HA.out)
  replace HB := hide (block_upW stp HB.out)
  replace HX := hide (block_upW stp HX.out)
  replace HY := hide (block_upW stp HY.out)
  replace Hm := hide (block_upW stp Hm.out)
  replace Hn := hide (block_upW stp Hn.out)
  replace Hp := hide (block_upW stp Hp.out)
  replace Hq := hide (block_upW stp Hq.out)
  replace HA0 := hide (HA0.out.below stp)
  replace HA1 := hide (HA1.out.below stp)
  replace HT := hide (HT.out.below stp)
  replace HPx := hide (HPx.out.below stp)
  replace HPy := hide (HPy.out.below stp)
  replace HW := hid_below HW stp
  have Hr := hide hx
  clear he hq hb hbP hx stp
  have HN := num8_any 80 P15
  go_wp2_with fail
  refine HN.mono ?_
  rintro e wn ⟨rfl, hw⟩; rw [hw]; clear hw wn HN
  obtain ⟨ca0, cb0, cc0⟩ := tri8 Hp.out
  obtain ⟨ca1, cb1, cc1⟩ := tri8 Hm.out
  have C := alike8_q bp ap lp kp ep cp bm am lm km em P15 HQp.out
  go_wp2_with fail
  refine C.mono ?_
  rintro e Q16 ⟨rfl, hb⟩
  clear C ca0 cb0 cc0 ca1 cb1 cc1 hP15
  replace HA := hide (block_upW hb HA.out)
  replace HB := hide (block_upW hb HB.out)
  replace HX := hide (block_upW hb HX.out)
  replace HY := hide (block_upW hb HY.out)
  replace Hm := hide (block_upW hb Hm.out)
  replace Hn := hide (block_upW hb Hn.out)
  replace Hp := hide (block_upW hb Hp.out)
  replace Hq := hide (block_upW hb Hq.out)
  replace Hr := hide (block_upW hb Hr.out)
  replace HA0 := hide (HA0.out.below hb)
  replace HA1 := hide (HA1.out.below hb)
  replace HT := hide (HT.out.below hb)
  replace HPx := hide (HPx.out.below hb)
  replace HPy := hide (HPy.out.below hb)
  replace HW := hid_below HW hb
  clear hb
  obtain ⟨ca0, cb0, cc0⟩ := tri8 Hq.out
  obtain ⟨ca1, cb1, cc1⟩ := tri8 Hm.out
  have C := alike8_q bq aq lq kq eq cq bm am lm km em Q16 HQq.out
  go_wp2_with fail
  refine C.mono ?_
  rintro e Q17 ⟨rfl, hb⟩
  clear C ca0 cb0 cc0 ca1 cb1 cc1
  replace HA := hide (block_upW hb HA.out)
  replace HB := hide (block_upW hb HB.out)
  replace HX := hide (block_upW hb HX.out)
  replace HY := hide (block_upW hb HY.out)
  replace Hm := hide (block_upW hb Hm.out)
  replace Hn := hide (block_upW hb Hn.out)
  replace Hp := hide (block_upW hb Hp.out)
  replace Hq := hide (block_upW hb Hq.out)
  replace Hr := hide (block_upW hb Hr.out)
  replace HA0 := hide (HA0.out.below hb)
  replace HA1 := hide (HA1.out.below hb)
  replace HT := hide (HT.out.below hb)
  replace HPx := hide (HPx.out.below hb)
  replace HPy := hide (HPy.out.below hb)
  replace HW := hid_below HW hb
  clear hb
  obtain ⟨ca0, cb0, cc0⟩ := tri8 Hr.out
  obtain ⟨ca1, cb1, cc1⟩ := tri8 Hm.out
  have C := alike8_q br ar lr kr er cr bm am lm km em Q17 HQr.out
  go_wp2_with fail
  refine C.mono ?_
  rintro e Q18 ⟨rfl, hb⟩
  clear C ca0 cb0 cc0 ca1 cb1 cc1
  replace HA := hide (block_upW hb HA.out)
  replace HB := hide (block_upW hb HB.out)
  replace HX := hide (block_upW hb HX.out)
  replace HY := hide (block_upW hb HY.out)
  replace Hm := hide (block_upW hb Hm.out)
  replace Hn := hide (block_upW hb Hn.out)
  replace Hp := hide (block_upW hb Hp.out)
  replace Hq := hide (block_upW hb Hq.out)
  replace Hr := hide (block_upW hb Hr.out)
  replace HA0 := hide (HA0.out.below hb)
  replace HA1 := hide (HA1.out.below hb)
  replace HT := hide (HT.out.below hb)
  replace HPx := hide (HPx.out.below hb)
  replace HPy := hide (HPy.out.below hb)
  replace HW := hid_below HW hb
  clear hb
  have AW := awake8_any Q18 HT.out
  go_wp2_with fail
  refine AW.mono ?_
  rintro e t9 ⟨rfl, hb9⟩
  have HFIN := hide (bl_trans8 HW.out hb9)
  clear AW hb9
  go_wp2
  go_ret
  exact ⟨rfl, HFIN.out⟩

set_option maxRecDepth 20000 in
set_option maxHeartbeats 16000000 in
theorem orders8_ft (b0 : Bool) (v0 : Value) (z0 : List Nat) (p0 : Int) (b1 : Bool) (v1 : Value) (z1 : List Nat) (p1 : Int) (w : World) (hT : Tab w) (A0 : Arg w v0 z0) (s0 : z0.length ≤ 1048576) (_ : -9223372036854775808 ≤ p0) (_ : p0 ≤ 9223372036854775807) (A1 : Arg w v1 z1) (s1 : z1.length ≤ 1048576) (_ : -9223372036854775808 ≤ p1) (_ : p1 ≤ 9223372036854775807) (hE0 : fitE p0 = false) (hE1 : fitE p1 = true) :
    Calls Tryd.prog 3 #[.agg #[.bool b0, v0, .int .i64 p0], .agg #[.bool b1, v1, .int .i64 p1]] w fun e w' => e = .returned (.bool true) ∧ Below w.heap.size w w' := by
  obtain ⟨a0, n0, rfl, _, _, _⟩ := A0.form
  obtain ⟨a1, n1, rfl, _, _, _⟩ := A1.form
  obtain ⟨w0, hw0, hb0, h0, h1⟩ := enter2 w (.cells #[.bool b0, .slice a0 z0.length n0, .int .i64 p0] 24) (.cells #[.bool b1, .slice a1 z1.length n1, .int .i64 p1] 24)
  have HA := hide h0
  have HB := hide h1
  have HA0 := hide (A0.below hb0)
  have HA1 := hide (A1.below hb0)
  have HT := hide (hT.below hb0)
  have HW := hide hb0
  clear hT hb0 h0 h1
  clear A0 A1
  go_enter Tryd.func3, Tryd.ntmps3
  obtain ⟨ca0, cb0, cc0⟩ := tri8 HA.out
  have C := lent8_any b0 a0 n0 z0 p0 w0 HA0.out (by omega)
  go_wp2_with fail
  refine C.mono ?_
  rintro e Q1 ⟨⟨aw, mw, nw, ax, cx, rfl, _, hP⟩, hb⟩
  clear C ca0 cb0 cc0 hw0
  obtain ⟨P2, hP2, hbP, hx⟩ := enter1 Q1 (.cells #[.bool b0, .slice ax z0.length cx, .int .i64 p0] 29)
  have stp := bl_trans8 hb hbP
  replace HA := hide (block_upW stp HA.out)
  replace HB := hide (block_upW stp HB.out)
  replace HA0 := hide (HA0.out.below stp)
  replace HA1 := hide (HA1.out.below stp)
  replace HT := hide (HT.out.below stp)
  replace HW := hid_below HW stp
  have HPx := hide (hP.below hbP)
  have HX := hide hx
  clear hP hb hbP hx stp
  obtain ⟨ca0, cb0, cc0⟩ := tri8 HB.out
  have C := lent8_any b1 a1 n1 z1 p1 P2 HA1.out (by omega)
  go_wp2_with fail
  refine C.mono ?_
  rintro e Q3 ⟨⟨bw, mv, nv, ay, cy, rfl, _, hP⟩, hb⟩
  clear C ca0 cb0 cc0 hP2
  obtain ⟨P4, hP4, hbP, hx⟩ := enter1 Q3 (.cells #[.bool b1, .slice ay z1.length cy, .int .i64 p1] 29)
  have stp := bl_trans8 hb hbP
  replace HA := hide (block_upW stp HA.out)
  replace HB := hide (block_upW stp HB.out)
  replace HX := hide (block_upW stp HX.out)
  replace HA0 := hide (HA0.out.below stp)
  replace HA1 := hide (HA1.out.below stp)
  replace HT := hide (HT.out.below stp)
  replace HPx := hide (HPx.out.below stp)
  replace HW := hid_below HW stp
  have HPy := hide (hP.below hbP)
  have HY := hide hx
  clear hP hb hbP hx stp
  obtain ⟨ca0, cb0, cc0⟩ := tri8 HA.out
  have C := of8_no b0 a0 z0.length n0 p0 P4 hE0
  go_wp2_with fail
  refine C.mono ?_
  rintro e Q5 ⟨he, hb⟩
  clear C ca0 cb0 cc0 hP4
  obtain ⟨bm, am, lm, km, em, rfl, hq⟩ : ∃ b a n k ex, e = .returned (.tuple #[.agg #[.bool b, .slice a n k, .int .i64 ex], .bool false]) ∧ (b = false ∧ a = none ∧ n = 0 ∧ k = 0 ∧ ex = 0) := ⟨_, _, _, _, _, he, rfl, rfl, rfl, rfl, rfl⟩
  clear he hq
  obtain ⟨P6, hP6, hbP, hx⟩ := enter1 Q5 (.cells #[.bool bm, .slice am lm km, .int .i64 em] 36)
  have stp := bl_trans8 hb hbP
  replace HA := hide (block_upW stp HA.out)
  replace HB := hide (block_upW stp HB.out)
  replace HX := hide (block_upW stp HX.out)
  replace HY := hide (block_upW stp HY.out)
  replace HA0 := hide (HA0.out.below stp)
  replace HA1 := hide (HA1.out.below stp)
  replace HT := hide (HT.out.below stp)
  replace HPx := hide (HPx.out.below stp)
  replace HPy := hide (HPy.out.below stp)
  replace HW := hid_below HW stp
  have Hm := hide hx
  clear hb hbP hx stp
  obtain ⟨ca0, cb0, cc0⟩ := tri8 HB.out
  have C := of8_ok b1 a1 n1 z1 p1 P6 HA1.out (by omega) hE1
  go_wp2_with fail
  refine C.mono ?_
  rintro e Q7 ⟨⟨bn, an, ln, kn, rfl, hd⟩, hb⟩
  clear C ca0 cb0 cc0 hP6
  clear hd
  obtain ⟨P8, hP8, hbP, hx⟩ := enter1 Q7 (.cells #[.bool bn, .slice an ln kn, .int .i64 (oe (zz b1 (val z1)) p1)] 36)
  have stp := bl_trans8 hb hbP
  replace HA := hide (block_upW stp HA.out)
  replace HB := hide (block_upW stp HB.out)
  replace HX := hide (block_upW stp HX.out)
  replace HY := hide (block_upW stp HY.out)
  replace Hm := hide (block_upW stp Hm.out)
  replace HA0 := hide (HA0.out.below stp)
  replace HA1 := hide (HA1.out.below stp)
  replace HT := hide (HT.out.below stp)
  replace HPx := hide (HPx.out.below stp)
  replace HPy := hide (HPy.out.below stp)
  replace HW := hid_below HW stp
  have Hn := hide hx
  clear hb hbP hx stp
  obtain ⟨ca0, cb0, cc0⟩ := tri8 HX.out
  obtain ⟨ca1, cb1, cc1⟩ := tri8 HY.out
  have C := yCompare_no1 b0 ax z0.length cx p0 b1 ay z1.length cy p1 P8 hE0
  go_wp2_with fail
  refine C.mono ?_
  rintro e Q9 ⟨rfl, hb⟩
  clear C ca0 cb0 cc0 ca1 cb1 cc1 hP8
  replace HA := hide (block_upW hb HA.out)
  replace HB := hide (block_upW hb HB.out)
  replace HX := hide (block_upW hb HX.out)
  replace HY := hide (block_upW hb HY.out)
  replace Hm := hide (block_upW hb Hm.out)
  replace Hn := hide (block_upW hb Hn.out)
  replace HA0 := hide (HA0.out.below hb)
  replace HA1 := hide (HA1.out.below hb)
  replace HT := hide (HT.out.below hb)
  replace HPx := hide (HPx.out.below hb)
  replace HPy := hide (HPy.out.below hb)
  replace HW := hid_below HW hb
  clear hb
  obtain ⟨ca0, cb0, cc0⟩ := tri8 HX.out
  obtain ⟨ca1, cb1, cc1⟩ := tri8 HY.out
  have C := ymin_no b0 ax z0.length cx p0 b1 ay z1.length cy p1 Q9 (fun W _ => yjl_no1 b0 ax z0.length cx p0 b1 ay z1.length cy p1 W hE0)
  go_wp2_with fail
  refine C.mono ?_
  rintro e Q10 ⟨he, hb⟩
  clear C ca0 cb0 cc0 ca1 cb1 cc1
  obtain ⟨bp, ap, lp, kp, ep, cp, rfl, hq⟩ : ∃ b a n k ex c, e = .returned (.tuple #[.agg #[.bool b, .slice a n k, .int .i64 ex], .int .i64 c]) ∧ (b = false ∧ a = none ∧ n = 0 ∧ k = 0 ∧ ex = 0 ∧ c = 80) := ⟨_, _, _, _, _, _, he, rfl, rfl, rfl, rfl, rfl, rfl⟩
  have HQp := hide hq
  obtain ⟨P11, hP11, hbP, hx⟩ := enter1 Q10 (.cells #[.bool bp, .slice ap lp kp, .int .i64 ep] 29)
  have stp := bl_trans8 hb hbP
  replace HA := hide (block_upW stp HA.out)
  replace HB := hide (block_upW stp HB.out)
  replace HX := hide (block_upW stp HX.out)
  replace HY := hide (block_upW stp HY.out)
  replace Hm := hide (block_upW stp Hm.out)
  replace Hn := hide (block_upW stp Hn.out)
  replace HA0 := hide (HA0.out.below stp)
  replace HA1 := hide (HA1.out.below stp)
  replace HT := hide (HT.out.below stp)
  replace HPx := hide (HPx.out.below stp)
  replace HPy := hide (HPy.out.below stp)
  replace HW := hid_below HW stp
  have Hp := hide hx
  clear he hq hb hbP hx stp
  obtain ⟨ca0, cb0, cc0⟩ := tri8 HX.out
  obtain ⟨ca1, cb1, cc1⟩ := tri8 HY.out
  have C := ymax_no b0 ax z0.length cx p0 b1 ay z1.length cy p1 P11 (fun W _ => yjg_no1 b0 ax z0.length cx p0 b1 ay z1.length cy p1 W hE0)
  go_wp2_with fail
  refine C.mono ?_
  rintro e Q12 ⟨he, hb⟩
  clear C ca0 cb0 cc0 ca1 cb1 cc1 hP11
  obtain ⟨bq, aq, lq, kq, eq, cq, rfl, hq⟩ : ∃ b a n k ex c, e = .returned (.tuple #[.agg #[.bool b, .slice a n k, .int .i64 ex], .int .i64 c]) ∧ (b = false ∧ a = none ∧ n = 0 ∧ k = 0 ∧ ex = 0 ∧ c = 80) := ⟨_, _, _, _, _, _, he, rfl, rfl, rfl, rfl, rfl, rfl⟩
  have HQq := hide hq
  obtain ⟨P13, hP13, hbP, hx⟩ := enter1 Q12 (.cells #[.bool bq, .slice aq lq kq, .int .i64 eq] 29)
  have stp := bl_trans8 hb hbP
  replace HA := hide (block_upW stp HA.out)
  replace HB := hide (block_upW stp HB.out)
  replace HX := hide (block_upW stp HX.out)
  replace HY := hide (block_upW stp HY.out)
  replace Hm := hide (block_upW stp Hm.out)
  replace Hn := hide (block_upW stp Hn.out)
  replace Hp := hide (block_upW stp Hp.out)
  replace HA0 := hide (HA0.out.below stp)
  replace HA1 := hide (HA1.out.below stp)
  replace HT := hide (HT.out.below stp)
  replace HPx := hide (HPx.out.below stp)
  replace HPy := hide (HPy.out.below stp)
  replace HW := hid_below HW stp
  have Hq := hide hx
  clear he hq hb hbP hx stp
  obtain ⟨ca0, cb0, cc0⟩ := tri8 HX.out
  obtain ⟨ca1, cb1, cc1⟩ := tri8 HY.out
  have C := ymid_no b0 ax z0.length cx p0 b1 ay z1.length cy p1 P13 (fun W _ => yji_no1 b0 ax z0.length cx p0 b1 ay z1.length cy p1 W hE0)
  go_wp2_with fail
  refine C.mono ?_
  rintro e Q14 ⟨he, hb⟩
  clear C ca0 cb0 cc0 ca1 cb1 cc1 hP13
  obtain ⟨br, ar, lr, kr, er, cr, rfl, hq⟩ : ∃ b a n k ex c, e = .returned (.tuple #[.agg #[.bool b, .slice a n k, .int .i64 ex], .int .i64 c]) ∧ (b = false ∧ a = none ∧ n = 0 ∧ k = 0 ∧ ex = 0 ∧ c = 80) := ⟨_, _, _, _, _, _, he, rfl, rfl, rfl, rfl, rfl, rfl⟩
  have HQr := hide hq
  obtain ⟨P15, hP15, hbP, hx⟩ := enter1 Q14 (.cells #[.bool br, .slice ar lr kr, .int .i64 er] 29)
  have stp := bl_trans8 hb hbP
  replace HA := hide (block_upW stp HA.out)
  replace HB := hide (block_upW stp HB.out)
  replace HX := hide (block_upW stp HX.out)
  replace HY := hide (block_upW stp HY.out)
  replace Hm := hide (block_upW stp Hm.out)
  replace Hn := hide (block_upW stp Hn.out)
  replace Hp := hide (block_upW stp Hp.out)
  replace Hq := hide (block_upW stp Hq.out)
  replace HA0 := hide (HA0.out.below stp)
  replace HA1 := hide (HA1.out.below stp)
  replace HT := hide (HT.out.below stp)
  replace HPx := hide (HPx.out.below stp)
  replace HPy := hide (HPy.out.below stp)
  replace HW := hid_below HW stp
  have Hr := hide hx
  clear he hq hb hbP hx stp
  have HN := num8_any 80 P15
  go_wp2_with fail
  refine HN.mono ?_
  rintro e wn ⟨rfl, hw⟩; rw [hw]; clear hw wn HN
  obtain ⟨ca0, cb0, cc0⟩ := tri8 Hp.out
  obtain ⟨ca1, cb1, cc1⟩ := tri8 Hm.out
  have C := alike8_q bp ap lp kp ep cp bm am lm km em P15 HQp.out
  go_wp2_with fail
  refine C.mono ?_
  rintro e Q16 ⟨rfl, hb⟩
  clear C ca0 cb0 cc0 ca1 cb1 cc1 hP15
  replace HA := hide (block_upW hb HA.out)
  replace HB := hide (block_upW hb HB.out)
  replace HX := hide (block_upW hb HX.out)
  replace HY := hide (block_upW hb HY.out)
  replace Hm := hide (block_upW hb Hm.out)
  replace Hn := hide (block_upW hb Hn.out)
  replace Hp := hide (block_upW hb Hp.out)
  replace Hq := hide (block_upW hb Hq.out)
  replace Hr := hide (block_upW hb Hr.out)
  replace HA0 := hide (HA0.out.below hb)
  replace HA1 := hide (HA1.out.below hb)
  replace HT := hide (HT.out.below hb)
  replace HPx := hide (HPx.out.below hb)
  replace HPy := hide (HPy.out.below hb)
  replace HW := hid_below HW hb
  clear hb
  obtain ⟨ca0, cb0, cc0⟩ := tri8 Hq.out
  obtain ⟨ca1, cb1, cc1⟩ := tri8 Hm.out
  have C := alike8_q bq aq lq kq eq cq bm am lm km em Q16 HQq.out
  go_wp2_with fail
  refine C.mono ?_
  rintro e Q17 ⟨rfl, hb⟩
  clear C ca0 cb0 cc0 ca1 cb1 cc1
  replace HA := hide (block_upW hb HA.out)
  replace HB := hide (block_upW hb HB.out)
  replace HX := hide (block_upW hb HX.out)
  replace HY := hide (block_upW hb HY.out)
  replace Hm := hide (block_upW hb Hm.out)
  replace Hn := hide (block_upW hb Hn.out)
  replace Hp := hide (block_upW hb Hp.out)
  replace Hq := hide (block_upW hb Hq.out)
  replace Hr := hide (block_upW hb Hr.out)
  replace HA0 := hide (HA0.out.below hb)
  replace HA1 := hide (HA1.out.below hb)
  replace HT := hide (HT.out.below hb)
  replace HPx := hide (HPx.out.below hb)
  replace HPy := hide (HPy.out.below hb)
  replace HW := hid_below HW hb
  clear hb
  obtain ⟨ca0, cb0, cc0⟩ := tri8 Hr.out
  obtain ⟨ca1, cb1, cc1⟩ := tri8 Hm.out
  have C := alike8_q br ar lr kr er cr bm am lm km em Q17 HQr.out
  go_wp2_with fail
  refine C.mono ?_
  rintro e Q18 ⟨rfl, hb⟩
  clear C ca0 cb0 cc0 ca1 cb1 cc1
  replace HA := hide (block_upW hb HA.out)
  replace HB := hide (block_upW hb HB.out)
  replace HX := hide (block_upW hb HX.out)
  replace HY := hide (block_upW hb HY.out)
  replace Hm := hide (block_upW hb Hm.out)
  replace Hn := hide (block_upW hb Hn.out)
  replace Hp := hide (block_upW hb Hp.out)
  replace Hq := hide (block_upW hb Hq.out)
  replace Hr := hide (block_upW hb Hr.out)
  replace HA0 := hide (HA0.out.below hb)
  replace HA1 := hide (HA1.out.below hb)
  replace HT := hide (HT.out.below hb)
  replace HPx := hide (HPx.out.below hb)
  replace HPy := hide (HPy.out.below hb)
  replace HW := hid_below HW hb
  clear hb
  have AW := awake8_any Q18 HT.out
  go_wp2_with fail
  refine AW.mono ?_
  rintro e t9 ⟨rfl, hb9⟩
  have HFIN := hide (bl_trans8 HW.out hb9)
  clear AW hb9
  go_wp2
  go_ret
  exact ⟨rfl, HFIN.out⟩

set_option maxRecDepth 20000 in
set_option maxHeartbeats 16000000 in
theorem orders8_tf (b0 : Bool) (v0 : Value) (z0 : List Nat) (p0 : Int) (b1 : Bool) (v1 : Value) (z1 : List Nat) (p1 : Int) (w : World) (hT : Tab w) (A0 : Arg w v0 z0) (s0 : z0.length ≤ 1048576) (_ : -9223372036854775808 ≤ p0) (_ : p0 ≤ 9223372036854775807) (A1 : Arg w v1 z1) (s1 : z1.length ≤ 1048576) (_ : -9223372036854775808 ≤ p1) (_ : p1 ≤ 9223372036854775807) (hE0 : fitE p0 = true) (hE1 : fitE p1 = false) :
    Calls Tryd.prog 3 #[.agg #[.bool b0, v0, .int .i64 p0], .agg #[.bool b1, v1, .int .i64 p1]] w fun e w' => e = .returned (.bool true) ∧ Below w.heap.size w w' := by
  obtain ⟨a0, n0, rfl, _, _, _⟩ := A0.form
  obtain ⟨a1, n1, rfl, _, _, _⟩ := A1.form
  obtain ⟨w0, hw0, hb0, h0, h1⟩ := enter2 w (.cells #[.bool b0, .slice a0 z0.length n0, .int .i64 p0] 24) (.cells #[.bool b1, .slice a1 z1.length n1, .int .i64 p1] 24)
  have HA := hide h0
  have HB := hide h1
  have HA0 := hide (A0.below hb0)
  have HA1 := hide (A1.below hb0)
  have HT := hide (hT.below hb0)
  have HW := hide hb0
  clear hT hb0 h0 h1
  clear A0 A1
  go_enter Tryd.func3, Tryd.ntmps3
  obtain ⟨ca0, cb0, cc0⟩ := tri8 HA.out
  have C := lent8_any b0 a0 n0 z0 p0 w0 HA0.out (by omega)
  go_wp2_with fail
  refine C.mono ?_
  rintro e Q1 ⟨⟨aw, mw, nw, ax, cx, rfl, _, hP⟩, hb⟩
  clear C ca0 cb0 cc0 hw0
  obtain ⟨P2, hP2, hbP, hx⟩ := enter1 Q1 (.cells #[.bool b0, .slice ax z0.length cx, .int .i64 p0] 29)
  have stp := bl_trans8 hb hbP
  replace HA := hide (block_upW stp HA.out)
  replace HB := hide (block_upW stp HB.out)
  replace HA0 := hide (HA0.out.below stp)
  replace HA1 := hide (HA1.out.below stp)
  replace HT := hide (HT.out.below stp)
  replace HW := hid_below HW stp
  have HPx := hide (hP.below hbP)
  have HX := hide hx
  clear hP hb hbP hx stp
  obtain ⟨ca0, cb0, cc0⟩ := tri8 HB.out
  have C := lent8_any b1 a1 n1 z1 p1 P2 HA1.out (by omega)
  go_wp2_with fail
  refine C.mono ?_
  rintro e Q3 ⟨⟨bw, mv, nv, ay, cy, rfl, _, hP⟩, hb⟩
  clear C ca0 cb0 cc0 hP2
  obtain ⟨P4, hP4, hbP, hx⟩ := enter1 Q3 (.cells #[.bool b1, .slice ay z1.length cy, .int .i64 p1] 29)
  have stp := bl_trans8 hb hbP
  replace HA := hide (block_upW stp HA.out)
  replace HB := hide (block_upW stp HB.out)
  replace HX := hide (block_upW stp HX.out)
  replace HA0 := hide (HA0.out.below stp)
  replace HA1 := hide (HA1.out.below stp)
  replace HT := hide (HT.out.below stp)
  replace HPx := hide (HPx.out.below stp)
  replace HW := hid_below HW stp
  have HPy := hide (hP.below hbP)
  have HY := hide hx
  clear hP hb hbP hx stp
  obtain ⟨ca0, cb0, cc0⟩ := tri8 HA.out
  have C := of8_ok b0 a0 n0 z0 p0 P4 HA0.out (by omega) hE0
  go_wp2_with fail
  refine C.mono ?_
  rintro e Q5 ⟨⟨bm, am, lm, km, rfl, hd⟩, hb⟩
  clear C ca0 cb0 cc0 hP4
  clear hd
  obtain ⟨P6, hP6, hbP, hx⟩ := enter1 Q5 (.cells #[.bool bm, .slice am lm km, .int .i64 (oe (zz b0 (val z0)) p0)] 36)
  have stp := bl_trans8 hb hbP
  replace HA := hide (block_upW stp HA.out)
  replace HB := hide (block_upW stp HB.out)
  replace HX := hide (block_upW stp HX.out)
  replace HY := hide (block_upW stp HY.out)
  replace HA0 := hide (HA0.out.below stp)
  replace HA1 := hide (HA1.out.below stp)
  replace HT := hide (HT.out.below stp)
  replace HPx := hide (HPx.out.below stp)
  replace HPy := hide (HPy.out.below stp)
  replace HW := hid_below HW stp
  have Hm := hide hx
  clear hb hbP hx stp
  obtain ⟨ca0, cb0, cc0⟩ := tri8 HB.out
  have C := of8_no b1 a1 z1.length n1 p1 P6 hE1
  go_wp2_with fail
  refine C.mono ?_
  rintro e Q7 ⟨he, hb⟩
  clear C ca0 cb0 cc0 hP6
  obtain ⟨bn, an, ln, kn, en, rfl, hq⟩ : ∃ b a n k ex, e = .returned (.tuple #[.agg #[.bool b, .slice a n k, .int .i64 ex], .bool false]) ∧ (b = false ∧ a = none ∧ n = 0 ∧ k = 0 ∧ ex = 0) := ⟨_, _, _, _, _, he, rfl, rfl, rfl, rfl, rfl⟩
  clear he hq
  obtain ⟨P8, hP8, hbP, hx⟩ := enter1 Q7 (.cells #[.bool bn, .slice an ln kn, .int .i64 en] 36)
  have stp := bl_trans8 hb hbP
  replace HA := hide (block_upW stp HA.out)
  replace HB := hide (block_upW stp HB.out)
  replace HX := hide (block_upW stp HX.out)
  replace HY := hide (block_upW stp HY.out)
  replace Hm := hide (block_upW stp Hm.out)
  replace HA0 := hide (HA0.out.below stp)
  replace HA1 := hide (HA1.out.below stp)
  replace HT := hide (HT.out.below stp)
  replace HPx := hide (HPx.out.below stp)
  replace HPy := hide (HPy.out.below stp)
  replace HW := hid_below HW stp
  have Hn := hide hx
  clear hb hbP hx stp
  obtain ⟨ca0, cb0, cc0⟩ := tri8 HX.out
  obtain ⟨ca1, cb1, cc1⟩ := tri8 HY.out
  have C := yCompare_no2 b0 ax cx z0 p0 b1 ay z1.length cy p1 P8 HPx.out hE0 hE1
  go_wp2_with fail
  refine C.mono ?_
  rintro e Q9 ⟨rfl, hb⟩
  clear C ca0 cb0 cc0 ca1 cb1 cc1 hP8
  replace HA := hide (block_upW hb HA.out)
  replace HB := hide (block_upW hb HB.out)
  replace HX := hide (block_upW hb HX.out)
  replace HY := hide (block_upW hb HY.out)
  replace Hm := hide (block_upW hb Hm.out)
  replace Hn := hide (block_upW hb Hn.out)
  replace HA0 := hide (HA0.out.below hb)
  replace HA1 := hide (HA1.out.below hb)
  replace HT := hide (HT.out.below hb)
  replace HPx := hide (HPx.out.below hb)
  replace HPy := hide (HPy.out.below hb)
  replace HW := hid_below HW hb
  clear hb
  obtain ⟨ca0, cb0, cc0⟩ := tri8 HX.out
  obtain ⟨ca1, cb1, cc1⟩ := tri8 HY.out
  have C := ymin_no b0 ax z0.length cx p0 b1 ay z1.length cy p1 Q9 (fun W hg => yjl_no2 b0 ax cx z0 p0 b1 ay z1.length cy p1 W (HT.out.below hg) (HPx.out.below hg) (by omega) hE0 hE1)
  go_wp2_with fail
  refine C.mono ?_
  rintro e Q10 ⟨he, hb⟩
  clear C ca0 cb0 cc0 ca1 cb1 cc1
  obtain ⟨bp, ap, lp, kp, ep, cp, rfl, hq⟩ : ∃ b a n k ex c, e = .returned (.tuple #[.agg #[.bool b, .slice a n k, .int .i64 ex], .int .i64 c]) ∧ (b = false ∧ a = none ∧ n = 0 ∧ k = 0 ∧ ex = 0 ∧ c = 80) := ⟨_, _, _, _, _, _, he, rfl, rfl, rfl, rfl, rfl, rfl⟩
  have HQp := hide hq
  obtain ⟨P11, hP11, hbP, hx⟩ := enter1 Q10 (.cells #[.bool bp, .slice ap lp kp, .int .i64 ep] 29)
  have stp := bl_trans8 hb hbP
  replace HA := hide (block_upW stp HA.out)
  replace HB := hide (block_upW stp HB.out)
  replace HX := hide (block_upW stp HX.out)
  replace HY := hide (block_upW stp HY.out)
  replace Hm := hide (block_upW stp Hm.out)
  replace Hn := hide (block_upW stp Hn.out)
  replace HA0 := hide (HA0.out.below stp)
  replace HA1 := hide (HA1.out.below stp)
  replace HT := hide (HT.out.below stp)
  replace HPx := hide (HPx.out.below stp)
  replace HPy := hide (HPy.out.below stp)
  replace HW := hid_below HW stp
  have Hp := hide hx
  clear he hq hb hbP hx stp
  obtain ⟨ca0, cb0, cc0⟩ := tri8 HX.out
  obtain ⟨ca1, cb1, cc1⟩ := tri8 HY.out
  have C := ymax_no b0 ax z0.length cx p0 b1 ay z1.length cy p1 P11 (fun W hg => yjg_no2 b0 ax cx z0 p0 b1 ay z1.length cy p1 W (HT.out.below hg) (HPx.out.below hg) (by omega) hE0 hE1)
  go_wp2_with fail
  refine C.mono ?_
  rintro e Q12 ⟨he, hb⟩
  clear C ca0 cb0 cc0 ca1 cb1 cc1 hP11
  obtain ⟨bq, aq, lq, kq, eq, cq, rfl, hq⟩ : ∃ b a n k ex c, e = .returned (.tuple #[.agg #[.bool b, .slice a n k, .int .i64 ex], .int .i64 c]) ∧ (b = false ∧ a = none ∧ n = 0 ∧ k = 0 ∧ ex = 0 ∧ c = 80) := ⟨_, _, _, _, _, _, he, rfl, rfl, rfl, rfl, rfl, rfl⟩
  have HQq := hide hq
  obtain ⟨P13, hP13, hbP, hx⟩ := enter1 Q12 (.cells #[.bool bq, .slice aq lq kq, .int .i64 eq] 29)
  have stp := bl_trans8 hb hbP
  replace HA := hide (block_upW stp HA.out)
  replace HB := hide (block_upW stp HB.out)
  replace HX := hide (block_upW stp HX.out)
  replace HY := hide (block_upW stp HY.out)
  replace Hm := hide (block_upW stp Hm.out)
  replace Hn := hide (block_upW stp Hn.out)
  replace Hp := hide (block_upW stp Hp.out)
  replace HA0 := hide (HA0.out.below stp)
  replace HA1 := hide (HA1.out.below stp)
  replace HT := hide (HT.out.below stp)
  replace HPx := hide (HPx.out.below stp)
  replace HPy := hide (HPy.out.below stp)
  replace HW := hid_below HW stp
  have Hq := hide hx
  clear he hq hb hbP hx stp
  obtain ⟨ca0, cb0, cc0⟩ := tri8 HX.out
  obtain ⟨ca1, cb1, cc1⟩ := tri8 HY.out
  have C := ymid_no b0 ax z0.length cx p0 b1 ay z1.length cy p1 P13 (fun W hg => yji_no2 b0 ax cx z0 p0 b1 ay z1.length cy p1 W (HT.out.below hg) (HPx.out.below hg) (by omega) hE0 hE1)
  go_wp2_with fail
  refine C.mono ?_
  rintro e Q14 ⟨he, hb⟩
  clear C ca0 cb0 cc0 ca1 cb1 cc1 hP13
  obtain ⟨br, ar, lr, kr, er, cr, rfl, hq⟩ : ∃ b a n k ex c, e = .returned (.tuple #[.agg #[.bool b, .slice a n k, .int .i64 ex], .int .i64 c]) ∧ (b = false ∧ a = none ∧ n = 0 ∧ k = 0 ∧ ex = 0 ∧ c = 80) := ⟨_, _, _, _, _, _, he, rfl, rfl, rfl, rfl, rfl, rfl⟩
  have HQr := hide hq
  obtain ⟨P15, hP15, hbP, hx⟩ := enter1 Q14 (.cells #[.bool br, .slice ar lr kr, .int .i64 er] 29)
  have stp := bl_trans8 hb hbP
  replace HA := hide (block_upW stp HA.out)
  replace HB := hide (block_upW stp HB.out)
  replace HX := hide (block_upW stp HX.out)
  replace HY := hide (block_upW stp HY.out)
  replace Hm := hide (block_upW stp Hm.out)
  replace Hn := hide (block_upW stp Hn.out)
  replace Hp := hide (block_upW stp Hp.out)
  replace Hq := hide (block_upW stp Hq.out)
  replace HA0 := hide (HA0.out.below stp)
  replace HA1 := hide (HA1.out.below stp)
  replace HT := hide (HT.out.below stp)
  replace HPx := hide (HPx.out.below stp)
  replace HPy := hide (HPy.out.below stp)
  replace HW := hid_below HW stp
  have Hr := hide hx
  clear he hq hb hbP hx stp
  have HN := num8_any 80 P15
  go_wp2_with fail
  refine HN.mono ?_
  rintro e wn ⟨rfl, hw⟩; rw [hw]; clear hw wn HN
  obtain ⟨ca0, cb0, cc0⟩ := tri8 Hp.out
  obtain ⟨ca1, cb1, cc1⟩ := tri8 Hm.out
  have C := alike8_q bp ap lp kp ep cp bm am lm km (oe (zz b0 (val z0)) p0) P15 HQp.out
  go_wp2_with fail
  refine C.mono ?_
  rintro e Q16 ⟨rfl, hb⟩
  clear C ca0 cb0 cc0 ca1 cb1 cc1 hP15
  replace HA := hide (block_upW hb HA.out)
  replace HB := hide (block_upW hb HB.out)
  replace HX := hide (block_upW hb HX.out)
  replace HY := hide (block_upW hb HY.out)
  replace Hm := hide (block_upW hb Hm.out)
  replace Hn := hide (block_upW hb Hn.out)
  replace Hp := hide (block_upW hb Hp.out)
  replace Hq := hide (block_upW hb Hq.out)
  replace Hr := hide (block_upW hb Hr.out)
  replace HA0 := hide (HA0.out.below hb)
  replace HA1 := hide (HA1.out.below hb)
  replace HT := hide (HT.out.below hb)
  replace HPx := hide (HPx.out.below hb)
  replace HPy := hide (HPy.out.below hb)
  replace HW := hid_below HW hb
  clear hb
  obtain ⟨ca0, cb0, cc0⟩ := tri8 Hq.out
  obtain ⟨ca1, cb1, cc1⟩ := tri8 Hm.out
  have C := alike8_q bq aq lq kq eq cq bm am lm km (oe (zz b0 (val z0)) p0) Q16 HQq.out
  go_wp2_with fail
  refine C.mono ?_
  rintro e Q17 ⟨rfl, hb⟩
  clear C ca0 cb0 cc0 ca1 cb1 cc1
  replace HA := hide (block_upW hb HA.out)
  replace HB := hide (block_upW hb HB.out)
  replace HX := hide (block_upW hb HX.out)
  replace HY := hide (block_upW hb HY.out)
  replace Hm := hide (block_upW hb Hm.out)
  replace Hn := hide (block_upW hb Hn.out)
  replace Hp := hide (block_upW hb Hp.out)
  replace Hq := hide (block_upW hb Hq.out)
  replace Hr := hide (block_upW hb Hr.out)
  replace HA0 := hide (HA0.out.below hb)
  replace HA1 := hide (HA1.out.below hb)
  replace HT := hide (HT.out.below hb)
  replace HPx := hide (HPx.out.below hb)
  replace HPy := hide (HPy.out.below hb)
  replace HW := hid_below HW hb
  clear hb
  obtain ⟨ca0, cb0, cc0⟩ := tri8 Hr.out
  obtain ⟨ca1, cb1, cc1⟩ := tri8 Hm.out
  have C := alike8_q br ar lr kr er cr bm am lm km (oe (zz b0 (val z0)) p0) Q17 HQr.out
  go_wp2_with fail
  refine C.mono ?_
  rintro e Q18 ⟨rfl, hb⟩
  clear C ca0 cb0 cc0 ca1 cb1 cc1
  replace HA := hide (block_upW hb HA.out)
  replace HB := hide (block_upW hb HB.out)
  replace HX := hide (block_upW hb HX.out)
  replace HY := hide (block_upW hb HY.out)
  replace Hm := hide (block_upW hb Hm.out)
  replace Hn := hide (block_upW hb Hn.out)
  replace Hp := hide (block_upW hb Hp.out)
  replace Hq := hide (block_upW hb Hq.out)
  replace Hr := hide (block_upW hb Hr.out)
  replace HA0 := hide (HA0.out.below hb)
  replace HA1 := hide (HA1.out.below hb)
  replace HT := hide (HT.out.below hb)
  replace HPx := hide (HPx.out.below hb)
  replace HPy := hide (HPy.out.below hb)
  replace HW := hid_below HW hb
  clear hb
  have AW := awake8_any Q18 HT.out
  go_wp2_with fail
  refine AW.mono ?_
  rintro e t9 ⟨rfl, hb9⟩
  have HFIN := hide (bl_trans8 HW.out hb9)
  clear AW hb9
  go_wp2
  go_ret
  exact ⟨rfl, HFIN.out⟩

end Go.Proofs.YtegbjdjpeblkoaaDoor
