/- The walk of the law DyadicSums, where a number means nothing. -/
import Derived.Test.YtegbjdjpeblkoaaGreatDoorDySmZ
import Derived.Test.YtegbjdjpeblkoaaGreatDoorDyRnZ
import Derived.Test.YtegbjdjpeblkoaaGreatDoorQ9
namespace Go.Proofs.YtegbjdjpeblkoaaGreatDoor
open Go.RowKit
open Lm
attribute [local go_sem ↓] Go.wp_at_zero Go.wp_at_succ

theorem alike8_q (b : Bool) (a : Option Addr) (n k : Nat) (ex c : Int) (b2 : Bool) (a2 : Option Addr) (n2 c2 : Nat) (E : Int) (w : World) (hq : b = false ∧ a = none ∧ n = 0 ∧ k = 0 ∧ ex = 0 ∧ c = 80) :
    Calls Tryz.prog 11 #[.agg #[.bool b, .slice a n k, .int .i64 ex], .int .i64 c, .agg #[.bool b2, .slice a2 n2 c2, .int .i64 E], .int .i64 80] w fun e w' => e = .returned (.bool true) ∧ Below w.heap.size w w' := by
  obtain ⟨rfl, rfl, rfl, rfl, rfl, rfl⟩ := hq
  exact alike8_bad 80 b2 a2 n2 c2 E w (by decide)

theorem ne_types {w : World} {g h : Nat} {cs cs' : Array Value} {t t' : TypeId} (h1 : w.heap[g]? = some (.cells cs t)) (h2 : w.heap[h]? = some (.cells cs' t')) (ht : t ≠ t') : g ≠ h := by
  rintro rfl
  rw [h1] at h2
  simp only [Option.some.injEq, Obj.cells.injEq] at h2
  exact ht h2.2.1

theorem tri9_other {w : World} {g h : Nat} {x : Obj} (u0 u1 u2 : Value) (e : w.heap[h]? = some x) (hne : h ≠ g) : (((w.setCell ⟨g, 0, none⟩ u0).setCell ⟨g, 1, none⟩ u1).setCell ⟨g, 2, none⟩ u2).heap[h]? = some x := by
  rw [Below.heap_setCell _ _ _ _ hne, Below.heap_setCell _ _ _ _ hne, Below.heap_setCell _ _ _ _ hne]; exact e

set_option maxRecDepth 20000 in
set_option maxHeartbeats 16000000 in
theorem sums8_ff (b0 : Bool) (v0 : Value) (z0 : List Nat) (p0 : Int) (b1 : Bool) (v1 : Value) (z1 : List Nat) (p1 : Int) (w : World) (hT : Tab w) (A0 : Arg w v0 z0) (s0 : z0.length ≤ 1048576) (_ : -9223372036854775808 ≤ p0) (_ : p0 ≤ 9223372036854775807) (A1 : Arg w v1 z1) (s1 : z1.length ≤ 1048576) (_ : -9223372036854775808 ≤ p1) (_ : p1 ≤ 9223372036854775807) (hE0 : fitE p0 = false) (hE1 : fitE p1 = false) :
    Calls Tryz.prog 3 #[.agg #[.bool b0, v0, .int .i64 p0], .agg #[.bool b1, v1, .int .i64 p1]] w fun e w' => e = .returned (.bool true) ∧ Below w.heap.size w w' := by
  obtain ⟨a0, n0, rfl, _, _, _⟩ := A0.form
  obtain ⟨a1, n1, rfl, _, _, _⟩ := A1.form
  obtain ⟨w0, hw0, hb0, h0, h1⟩ := enter2 w (.cells #[.bool b0, .slice a0 z0.length n0, .int .i64 p0] 24) (.cells #[.bool b1, .slice a1 z1.length n1, .int .i64 p1] 24)
  have HA := hide h0
  have HB := hide h1
  have HA0 := hide (A0.below hb0)
  have HA1 := hide (A1.below hb0)
  have HT := hide (hT.below hb0)
  have HW := hide hb0
  clear hT hb0 h0 h1
  clear A0 A1
  go_enter Tryz.func3, Tryz.ntmps3
  obtain ⟨ca0, cb0, cc0⟩ := tri8 HA.out
  have C := lent8_any b0 a0 n0 z0 p0 w0 HA0.out (by omega)
  go_wp2_with fail
  refine C.mono ?_
  rintro e Q1 ⟨⟨aw, mw, nw, ax, cx, rfl, _, hP⟩, hb⟩
  clear C ca0 cb0 cc0 hw0
  obtain ⟨P2, hP2, hbP, hx⟩ := enter1 Q1 (.cells #[.bool b0, .slice ax z0.length cx, .int .i64 p0] 29)
  have stp := bl_trans8 hb hbP
  replace HA := hide (block_upW stp HA.out)
  replace HB := hide (block_upW stp HB.out)
  replace HA0 := hide (HA0.out.below stp)
  replace HA1 := hide (HA1.out.below stp)
  replace HT := hide (HT.out.below stp)
  replace HW := hid_below HW stp
  have HPx := hide (hP.below hbP)
  have HX := hide hx
  clear hP hb hbP hx stp
  obtain ⟨ca0, cb0, cc0⟩ := tri8 HB.out
  have C := lent8_any b1 a1 n1 z1 p1 P2 HA1.out (by omega)
  go_wp2_with fail
  refine C.mono ?_
  rintro e Q3 ⟨⟨bw, mv, nv, ay, cy, rfl, _, hP⟩, hb⟩
  clear C ca0 cb0 cc0 hP2
  obtain ⟨P4, hP4, hbP, hx⟩ := enter1 Q3 (.cells #[.bool b1, .slice ay z1.length cy, .int .i64 p1] 29)
  have stp := bl_trans8 hb hbP
  replace HA := hide (block_upW stp HA.out)
  replace HB := hide (block_upW stp HB.out)
  replace HX := hide (block_upW stp HX.out)
  replace HA0 := hide (HA0.out.below stp)
  replace HA1 := hide (HA1.out.below stp)
  replace HT := hide (HT.out.below stp)
  replace HPx := hide (HPx.out.below stp)
  replace HW := hid_below HW stp
  have HPy := hide (hP.below hbP)
  have HY := hide hx
  clear hP hb hbP hx stp
  obtain ⟨ca0, cb0, cc0⟩ := tri8 HA.out
  have C := of8_no b0 a0 z0.length n0 p0 P4 hE0
  go_wp2_with fail
  refine C.mono ?_
  rintro e Q5 ⟨he, hb⟩
  clear C ca0 cb0 cc0 hP4
  obtain ⟨bm, am, lm, km, em, rfl, hq⟩ : ∃ b a n k ex, e = .returned (.tuple #[.agg #[.bool b, .slice a n k, .int .i64 ex], .bool false]) ∧ (b = false ∧ a = none ∧ n = 0 ∧ k = 0 ∧ ex = 0) := ⟨_, _, _, _, _, he, rfl, rfl, rfl, rfl, rfl⟩
  clear hq he
  have HTm := hide (HT.out.below hb)
  have HA0m := hide (HA0.out.below hb)
  have HWm := hid_below HW hb
  obtain ⟨P6, hP6, hbP, hx⟩ := enter1 Q5 (.cells #[.bool bm, .slice am lm km, .int .i64 em] 36)
  have stp := bl_trans8 hb hbP
  replace HA := hide (block_upW stp HA.out)
  replace HB := hide (block_upW stp HB.out)
  replace HX := hide (block_upW stp HX.out)
  replace HY := hide (block_upW stp HY.out)
  replace HA0 := hide (HA0.out.below stp)
  replace HA1 := hide (HA1.out.below stp)
  replace HT := hide (HT.out.below stp)
  replace HPx := hide (HPx.out.below stp)
  replace HPy := hide (HPy.out.below stp)
  replace HW := hid_below HW stp
  have Hm := hide hx
  clear hb hbP hx stp
  have HBm : Hid (Below Q5.heap.size Q5 P6) := hide (by rw [← hP6]; exact below_one6 _ _)
  obtain ⟨ca0, cb0, cc0⟩ := tri8 HB.out
  have C := of8_no b1 a1 z1.length n1 p1 P6 hE1
  go_wp2_with fail
  refine C.mono ?_
  rintro e Q7 ⟨he, hb⟩
  clear C ca0 cb0 cc0 hP6
  obtain ⟨bn, an, ln, kn, en, rfl, hq⟩ : ∃ b a n k ex, e = .returned (.tuple #[.agg #[.bool b, .slice a n k, .int .i64 ex], .bool false]) ∧ (b = false ∧ a = none ∧ n = 0 ∧ k = 0 ∧ ex = 0) := ⟨_, _, _, _, _, he, rfl, rfl, rfl, rfl, rfl⟩
  clear hq he
  have hmn : Q5.heap.size < Q7.heap.size := lt_of_block (block_upW hb Hm.out)
  obtain ⟨P8, hP8, hbP, hx⟩ := enter1 Q7 (.cells #[.bool bn, .slice an ln kn, .int .i64 en] 36)
  have stp := bl_trans8 hb hbP
  replace HA := hide (block_upW stp HA.out)
  replace HB := hide (block_upW stp HB.out)
  replace HX := hide (block_upW stp HX.out)
  replace HY := hide (block_upW stp HY.out)
  replace Hm := hide (block_upW stp Hm.out)
  replace HA0 := hide (HA0.out.below stp)
  replace HA1 := hide (HA1.out.below stp)
  replace HT := hide (HT.out.below stp)
  replace HPx := hide (HPx.out.below stp)
  replace HPy := hide (HPy.out.below stp)
  replace HW := hid_below HW stp
  replace HBm := hid_below HBm stp
  have Hn := hide hx
  clear hb hbP hx stp
  obtain ⟨ca0, cb0, cc0⟩ := tri8 HX.out
  have C := yneg_no b0 ax z0.length cx p0 P8 hE0
  go_wp2_with fail
  refine C.mono ?_
  rintro e Q9 ⟨he, hb⟩
  clear C ca0 cb0 cc0 hP8
  obtain ⟨bu, au, lu, ku, eu, cu, rfl, hq⟩ : ∃ b a n k ex c, e = .returned (.tuple #[.agg #[.bool b, .slice a n k, .int .i64 ex], .int .i64 c]) ∧ (b = false ∧ a = none ∧ n = 0 ∧ k = 0 ∧ ex = 0 ∧ c = 80) := ⟨_, _, _, _, _, _, he, rfl, rfl, rfl, rfl, rfl, rfl⟩
  have HQu := hide hq
  obtain ⟨P10, hP10, hbP, hx⟩ := enter1 Q9 (.cells #[.bool bu, .slice au lu ku, .int .i64 eu] 29)
  have stp := bl_trans8 hb hbP
  replace HA := hide (block_upW stp HA.out)
  replace HB := hide (block_upW stp HB.out)
  replace HX := hide (block_upW stp HX.out)
  replace HY := hide (block_upW stp HY.out)
  replace Hm := hide (block_upW stp Hm.out)
  replace Hn := hide (block_upW stp Hn.out)
  replace HA0 := hide (HA0.out.below stp)
  replace HA1 := hide (HA1.out.below stp)
  replace HT := hide (HT.out.below stp)
  replace HPx := hide (HPx.out.below stp)
  replace HPy := hide (HPy.out.below stp)
  replace HW := hid_below HW stp
  replace HBm := hid_below HBm stp
  have Hu := hide hx
  clear he hq hb hbP hx stp
  obtain ⟨ca0, cb0, cc0⟩ := tri8 HX.out
  have C := yabs_no b0 ax z0.length cx p0 P10 hE0
  go_wp2_with fail
  refine C.mono ?_
  rintro e Q11 ⟨he, hb⟩
  clear C ca0 cb0 cc0 hP10
  obtain ⟨bv, av, lv, kv, ev, cv, rfl, hq⟩ : ∃ b a n k ex c, e = .returned (.tuple #[.agg #[.bool b, .slice a n k, .int .i64 ex], .int .i64 c]) ∧ (b = false ∧ a = none ∧ n = 0 ∧ k = 0 ∧ ex = 0 ∧ c = 80) := ⟨_, _, _, _, _, _, he, rfl, rfl, rfl, rfl, rfl, rfl⟩
  have HQv := hide hq
  obtain ⟨P12, hP12, hbP, hx⟩ := enter1 Q11 (.cells #[.bool bv, .slice av lv kv, .int .i64 ev] 29)
  have stp := bl_trans8 hb hbP
  replace HA := hide (block_upW stp HA.out)
  replace HB := hide (block_upW stp HB.out)
  replace HX := hide (block_upW stp HX.out)
  replace HY := hide (block_upW stp HY.out)
  replace Hm := hide (block_upW stp Hm.out)
  replace Hn := hide (block_upW stp Hn.out)
  replace Hu := hide (block_upW stp Hu.out)
  replace HA0 := hide (HA0.out.below stp)
  replace HA1 := hide (HA1.out.below stp)
  replace HT := hide (HT.out.below stp)
  replace HPx := hide (HPx.out.below stp)
  replace HPy := hide (HPy.out.below stp)
  replace HW := hid_below HW stp
  replace HBm := hid_below HBm stp
  have Hv := hide hx
  clear he hq hb hbP hx stp
  obtain ⟨ca0, cb0, cc0⟩ := tri8 HX.out
  obtain ⟨ca1, cb1, cc1⟩ := tri8 HY.out
  have C := yadd_no b0 ax z0.length cx p0 b1 ay z1.length cy p1 P12 (fun W _ => yjp_no1 b0 ax z0.length cx p0 b1 ay z1.length cy p1 W hE0)
  go_wp2_with fail
  refine C.mono ?_
  rintro e Q13 ⟨he, hb⟩
  clear C ca0 cb0 cc0 ca1 cb1 cc1 hP12
  obtain ⟨bp, ap, lp, kp, ep, cp, rfl, hq⟩ : ∃ b a n k ex c, e = .returned (.tuple #[.agg #[.bool b, .slice a n k, .int .i64 ex], .int .i64 c]) ∧ (b = false ∧ a = none ∧ n = 0 ∧ k = 0 ∧ ex = 0 ∧ c = 80) := ⟨_, _, _, _, _, _, he, rfl, rfl, rfl, rfl, rfl, rfl⟩
  have HQp := hide hq
  obtain ⟨P14, hP14, hbP, hx⟩ := enter1 Q13 (.cells #[.bool bp, .slice ap lp kp, .int .i64 ep] 29)
  have stp := bl_trans8 hb hbP
  replace HA := hide (block_upW stp HA.out)
  replace HB := hide (block_upW stp HB.out)
  replace HX := hide (block_upW stp HX.out)
  replace HY := hide (block_upW stp HY.out)
  replace Hm := hide (block_upW stp Hm.out)
  replace Hn := hide (block_upW stp Hn.out)
  replace Hu := hide (block_upW stp Hu.out)
  replace Hv := hide (block_upW stp Hv.out)
  replace HA0 := hide (HA0.out.below stp)
  replace HA1 := hide (HA1.out.below stp)
  replace HT := hide (HT.out.below stp)
  replace HPx := hide (HPx.out.below stp)
  replace HPy := hide (HPy.out.below stp)
  replace HW := hid_below HW stp
  replace HBm := hid_below HBm stp
  have Hp := hide hx
  clear he hq hb hbP hx stp
  obtain ⟨ca0, cb0, cc0⟩ := tri8 HX.out
  obtain ⟨ca1, cb1, cc1⟩ := tri8 HY.out
  have C := ysub_no b0 ax z0.length cx p0 b1 ay z1.length cy p1 P14 (fun W _ => yjm_no1 b0 ax z0.length cx p0 b1 ay z1.length cy p1 W hE0)
  go_wp2_with fail
  refine C.mono ?_
  rintro e Q15 ⟨he, hb⟩
  clear C ca0 cb0 cc0 ca1 cb1 cc1 hP14
  obtain ⟨bq, aq, lq, kq, eq, cq, rfl, hq⟩ : ∃ b a n k ex c, e = .returned (.tuple #[.agg #[.bool b, .slice a n k, .int .i64 ex], .int .i64 c]) ∧ (b = false ∧ a = none ∧ n = 0 ∧ k = 0 ∧ ex = 0 ∧ c = 80) := ⟨_, _, _, _, _, _, he, rfl, rfl, rfl, rfl, rfl, rfl⟩
  have HQq := hide hq
  obtain ⟨P16, hP16, hbP, hx⟩ := enter1 Q15 (.cells #[.bool bq, .slice aq lq kq, .int .i64 eq] 29)
  have stp := bl_trans8 hb hbP
  replace HA := hide (block_upW stp HA.out)
  replace HB := hide (block_upW stp HB.out)
  replace HX := hide (block_upW stp HX.out)
  replace HY := hide (block_upW stp HY.out)
  replace Hm := hide (block_upW stp Hm.out)
  replace Hn := hide (block_upW stp Hn.out)
  replace Hu := hide (block_upW stp Hu.out)
  replace Hv := hide (block_upW stp Hv.out)
  replace Hp := hide (block_upW stp Hp.out)
  replace HA0 := hide (HA0.out.below stp)
  replace HA1 := hide (HA1.out.below stp)
  replace HT := hide (HT.out.below stp)
  replace HPx := hide (HPx.out.below stp)
  replace HPy := hide (HPy.out.below stp)
  replace HW := hid_below HW stp
  replace HBm := hid_below HBm stp
  have Hq := hide hx
  clear he hq hb hbP hx stp
  obtain ⟨ca0, cb0, cc0⟩ := tri8 HX.out
  obtain ⟨ca1, cb1, cc1⟩ := tri8 HY.out
  have C := ymul_no b0 ax z0.length cx p0 b1 ay z1.length cy p1 P16 (fun W _ => yjt_no1 b0 ax z0.length cx p0 b1 ay z1.length cy p1 W hE0)
  go_wp2_with fail
  refine C.mono ?_
  rintro e Q17 ⟨he, hb⟩
  clear C ca0 cb0 cc0 ca1 cb1 cc1 hP16
  obtain ⟨br, ar, lr, kr, er, cr, rfl, hq⟩ : ∃ b a n k ex c, e = .returned (.tuple #[.agg #[.bool b, .slice a n k, .int .i64 ex], .int .i64 c]) ∧ (b = false ∧ a = none ∧ n = 0 ∧ k = 0 ∧ ex = 0 ∧ c = 80) := ⟨_, _, _, _, _, _, he, rfl, rfl, rfl, rfl, rfl, rfl⟩
  have HQr := hide hq
  obtain ⟨P18, hP18, hbP, hx⟩ := enter1 Q17 (.cells #[.bool br, .slice ar lr kr, .int .i64 er] 29)
  have stp := bl_trans8 hb hbP
  replace HA := hide (block_upW stp HA.out)
  replace HB := hide (block_upW stp HB.out)
  replace HX := hide (block_upW stp HX.out)
  replace HY := hide (block_upW stp HY.out)
  replace Hm := hide (block_upW stp Hm.out)
  replace Hn := hide (block_upW stp Hn.out)
  replace Hu := hide (block_upW stp Hu.out)
  replace Hv := hide (block_upW stp Hv.out)
  replace Hp := hide (block_upW stp Hp.out)
  replace Hq := hide (block_upW stp Hq.out)
  replace HA0 := hide (HA0.out.below stp)
  replace HA1 := hide (HA1.out.below stp)
  replace HT := hide (HT.out.below stp)
  replace HPx := hide (HPx.out.below stp)
  replace HPy := hide (HPy.out.below stp)
  replace HW := hid_below HW stp
  replace HBm := hid_below HBm stp
  have Hr := hide hx
  clear he hq hb hbP hx stp
  obtain ⟨m0, m1, m2⟩ := tri8 Hm.out
  have mf := tri8f Hm.out
  obtain ⟨wz, hwz⟩ : ∃ wz9, ((P18.setCell ⟨Q5.heap.size, 0, none⟩ (.bool false)).setCell ⟨Q5.heap.size, 1, none⟩ (.slice none 0 0)).setCell ⟨Q5.heap.size, 2, none⟩ (.int .i64 0) = wz9 := ⟨_, rfl⟩
  replace HA := hide (hwz ▸ tri9_other (.bool false) (.slice none 0 0) (.int .i64 0) HA.out (ne_types HA.out Hm.out (by decide)))
  replace Hu := hide (hwz ▸ tri9_other (.bool false) (.slice none 0 0) (.int .i64 0) Hu.out (ne_types Hu.out Hm.out (by decide)))
  replace Hv := hide (hwz ▸ tri9_other (.bool false) (.slice none 0 0) (.int .i64 0) Hv.out (ne_types Hv.out Hm.out (by decide)))
  replace Hp := hide (hwz ▸ tri9_other (.bool false) (.slice none 0 0) (.int .i64 0) Hp.out (ne_types Hp.out Hm.out (by decide)))
  replace Hq := hide (hwz ▸ tri9_other (.bool false) (.slice none 0 0) (.int .i64 0) Hq.out (ne_types Hq.out Hm.out (by decide)))
  replace Hr := hide (hwz ▸ tri9_other (.bool false) (.slice none 0 0) (.int .i64 0) Hr.out (ne_types Hr.out Hm.out (by decide)))
  replace Hn := hide (hwz ▸ tri9_other (.bool false) (.slice none 0 0) (.int .i64 0) Hn.out (Nat.ne_of_gt hmn))
  replace Hm := hide (hwz ▸ tri8_all Hm.out (.bool false) (.slice none 0 0) (.int .i64 0))
  replace HBm := hide (hwz ▸ below_tri8 HBm.out (Nat.le_refl _) (.bool false) (.slice none 0 0) (.int .i64 0))
  obtain ⟨y0, y1, y2⟩ := tri8 Hn.out
  have yf := tri8f Hn.out
  obtain ⟨wy, hwy⟩ : ∃ wz9, ((wz.setCell ⟨Q7.heap.size, 0, none⟩ (.bool false)).setCell ⟨Q7.heap.size, 1, none⟩ (.slice none 0 0)).setCell ⟨Q7.heap.size, 2, none⟩ (.int .i64 0) = wz9 := ⟨_, rfl⟩
  replace HA := hide (hwy ▸ tri9_other (.bool false) (.slice none 0 0) (.int .i64 0) HA.out (ne_types HA.out Hn.out (by decide)))
  replace Hu := hide (hwy ▸ tri9_other (.bool false) (.slice none 0 0) (.int .i64 0) Hu.out (ne_types Hu.out Hn.out (by decide)))
  replace Hv := hide (hwy ▸ tri9_other (.bool false) (.slice none 0 0) (.int .i64 0) Hv.out (ne_types Hv.out Hn.out (by decide)))
  replace Hp := hide (hwy ▸ tri9_other (.bool false) (.slice none 0 0) (.int .i64 0) Hp.out (ne_types Hp.out Hn.out (by decide)))
  replace Hq := hide (hwy ▸ tri9_other (.bool false) (.slice none 0 0) (.int .i64 0) Hq.out (ne_types Hq.out Hn.out (by decide)))
  replace Hr := hide (hwy ▸ tri9_other (.bool false) (.slice none 0 0) (.int .i64 0) Hr.out (ne_types Hr.out Hn.out (by decide)))
  replace Hm := hide (hwy ▸ tri9_other (.bool false) (.slice none 0 0) (.int .i64 0) Hm.out (Nat.ne_of_lt hmn))
  replace Hn := hide (hwy ▸ tri8_all Hn.out (.bool false) (.slice none 0 0) (.int .i64 0))
  replace HBm := hide (hwy ▸ below_tri8 HBm.out (Nat.le_of_lt hmn) (.bool false) (.slice none 0 0) (.int .i64 0))
  have stp : Below wy.heap.size wy wy.drew := (Below.refl _ _).drew
  replace Hu := hide (block_upW stp Hu.out)
  replace Hv := hide (block_upW stp Hv.out)
  replace Hp := hide (block_upW stp Hp.out)
  replace Hq := hide (block_upW stp Hq.out)
  replace Hr := hide (block_upW stp Hr.out)
  replace Hm := hide (block_upW stp Hm.out)
  replace Hn := hide (block_upW stp Hn.out)
  replace HBm := hid_below HBm stp
  clear stp
  obtain ⟨LS, hLS⟩ : ∃ LS : List (Nat × Obj), LS = [(Q9.heap.size, .cells #[.bool bu, .slice au lu ku, .int .i64 eu] 29), (Q11.heap.size, .cells #[.bool bv, .slice av lv kv, .int .i64 ev] 29), (Q13.heap.size, .cells #[.bool bp, .slice ap lp kp, .int .i64 ep] 29), (Q15.heap.size, .cells #[.bool bq, .slice aq lq kq, .int .i64 eq] 29), (Q17.heap.size, .cells #[.bool br, .slice ar lr kr, .int .i64 er] 29), (Q5.heap.size, .cells #[.bool false, .slice none 0 0, .int .i64 0] 36), (Q7.heap.size, .cells #[.bool false, .slice none 0 0, .int .i64 0] 36)] := ⟨_, rfl⟩
  have s0 : Bx wy.drew LS := by rw [hLS]; exact Bx.cons Hu.out (Bx.cons Hv.out (Bx.cons Hp.out (Bx.cons Hq.out (Bx.cons Hr.out (Bx.cons Hm.out (Bx.cons Hn.out (Bx.nil _)))))))
  have KS := hide (fun (W : World) (h : Bx W LS) => show W.cell? ⟨Q9.heap.size, 0, none⟩ = some (.bool bu) ∧ W.cell? ⟨Q9.heap.size, 1, none⟩ = some (.slice au lu ku) ∧ W.cell? ⟨Q9.heap.size, 2, none⟩ = some (.int .i64 eu) ∧ W.cell? ⟨Q11.heap.size, 0, none⟩ = some (.bool bv) ∧ W.cell? ⟨Q11.heap.size, 1, none⟩ = some (.slice av lv kv) ∧ W.cell? ⟨Q11.heap.size, 2, none⟩ = some (.int .i64 ev) ∧ W.cell? ⟨Q13.heap.size, 0, none⟩ = some (.bool bp) ∧ W.cell? ⟨Q13.heap.size, 1, none⟩ = some (.slice ap lp kp) ∧ W.cell? ⟨Q13.heap.size, 2, none⟩ = some (.int .i64 ep) ∧ W.cell? ⟨Q15.heap.size, 0, none⟩ = some (.bool bq) ∧ W.cell? ⟨Q15.heap.size, 1, none⟩ = some (.slice aq lq kq) ∧ W.cell? ⟨Q15.heap.size, 2, none⟩ = some (.int .i64 eq) ∧ W.cell? ⟨Q17.heap.size, 0, none⟩ = some (.bool br) ∧ W.cell? ⟨Q17.heap.size, 1, none⟩ = some (.slice ar lr kr) ∧ W.cell? ⟨Q17.heap.size, 2, none⟩ = some (.int .i64 er) ∧ W.cell? ⟨Q5.heap.size, 0, none⟩ = some (.bool false) ∧ W.cell? ⟨Q5.heap.size, 1, none⟩ = some (.slice none 0 0) ∧ W.cell? ⟨Q5.heap.size, 2, none⟩ = some (.int .i64 0) ∧ W.cell? ⟨Q7.heap.size, 0, none⟩ = some (.bool false) ∧ W.cell? ⟨Q7.heap.size, 1, none⟩ = some (.slice none 0 0) ∧ W.cell? ⟨Q7.heap.size, 2, none⟩ = some (.int .i64 0) by rw [hLS] at h; exact ⟨(tri8 (h 0 _ _ rfl)).1, (tri8 (h 0 _ _ rfl)).2.1, (tri8 (h 0 _ _ rfl)).2.2, (tri8 (h 1 _ _ rfl)).1, (tri8 (h 1 _ _ rfl)).2.1, (tri8 (h 1 _ _ rfl)).2.2, (tri8 (h 2 _ _ rfl)).1, (tri8 (h 2 _ _ rfl)).2.1, (tri8 (h 2 _ _ rfl)).2.2, (tri8 (h 3 _ _ rfl)).1, (tri8 (h 3 _ _ rfl)).2.1, (tri8 (h 3 _ _ rfl)).2.2, (tri8 (h 4 _ _ rfl)).1, (tri8 (h 4 _ _ rfl)).2.1, (tri8 (h 4 _ _ rfl)).2.2, (tri8 (h 5 _ _ rfl)).1, (tri8 (h 5 _ _ rfl)).2.1, (tri8 (h 5 _ _ rfl)).2.2, (tri8 (h 6 _ _ rfl)).1, (tri8 (h 6 _ _ rfl)).2.1, (tri8 (h 6 _ _ rfl)).2.2⟩)
  have g0 : Below wy.drew.heap.size wy.drew wy.drew := Below.refl _ _
  have K1 := hide (fun (W : World) (_ : Below wy.drew.heap.size wy.drew W) => rdNeg_any false none 0 0 0 0 W (dn_zero W))
  have K3 := hide (fun (W : World) (_ : Below wy.drew.heap.size wy.drew W) => rdAbs_any false none 0 0 0 0 W (dn_zero W))
  have HAW := hide (fun (W : World) (hg : Below wy.drew.heap.size wy.drew W) => awake8_any W (HTm.out.below (HBm.out.trans (hg.mono HBm.out.size))))
  clear hLS Hu Hv Hp Hq Hr Hm Hn
  go_wp2_with fail
  clear m0 m1 m2 mf y0 y1 y2 yf hwz hwy
  go_region_held3 (fun w' => w'.cell? ⟨Q9.heap.size, 0, none⟩ = some (.bool bu) ∧ w'.cell? ⟨Q9.heap.size, 1, none⟩ = some (.slice au lu ku) ∧ w'.cell? ⟨Q9.heap.size, 2, none⟩ = some (.int .i64 eu) ∧ w'.cell? ⟨Q11.heap.size, 0, none⟩ = some (.bool bv) ∧ w'.cell? ⟨Q11.heap.size, 1, none⟩ = some (.slice av lv kv) ∧ w'.cell? ⟨Q11.heap.size, 2, none⟩ = some (.int .i64 ev) ∧ w'.cell? ⟨Q13.heap.size, 0, none⟩ = some (.bool bp) ∧ w'.cell? ⟨Q13.heap.size, 1, none⟩ = some (.slice ap lp kp) ∧ w'.cell? ⟨Q13.heap.size, 2, none⟩ = some (.int .i64 ep) ∧ w'.cell? ⟨Q15.heap.size, 0, none⟩ = some (.bool bq) ∧ w'.cell? ⟨Q15.heap.size, 1, none⟩ = some (.slice aq lq kq) ∧ w'.cell? ⟨Q15.heap.size, 2, none⟩ = some (.int .i64 eq) ∧ w'.cell? ⟨Q17.heap.size, 0, none⟩ = some (.bool br) ∧ w'.cell? ⟨Q17.heap.size, 1, none⟩ = some (.slice ar lr kr) ∧ w'.cell? ⟨Q17.heap.size, 2, none⟩ = some (.int .i64 er) ∧ w'.cell? ⟨Q5.heap.size, 0, none⟩ = some (.bool false) ∧ w'.cell? ⟨Q5.heap.size, 1, none⟩ = some (.slice none 0 0) ∧ w'.cell? ⟨Q5.heap.size, 2, none⟩ = some (.int .i64 0) ∧ w'.cell? ⟨Q7.heap.size, 0, none⟩ = some (.bool false) ∧ w'.cell? ⟨Q7.heap.size, 1, none⟩ = some (.slice none 0 0) ∧ w'.cell? ⟨Q7.heap.size, 2, none⟩ = some (.int .i64 0)) (first | with_reducible exact KS.out _ s8 | with_reducible exact KS.out _ s7 | with_reducible exact KS.out _ s6 | with_reducible exact KS.out _ s5 | with_reducible exact KS.out _ s4 | with_reducible exact KS.out _ s3 | with_reducible exact KS.out _ s2 | with_reducible exact KS.out _ s1 | with_reducible exact KS.out _ s0) (first
    | (go_at_call 14; refine (HAW.out _ g7).mono ?_; rintro e' t28 ⟨rfl, hb8⟩; have g8 := bl_trans8 g7 hb8; have s8 := s7.below hb8; clear s7)
    | (go_at_call_of 11 ar; refine (alike8_q br ar lr kr er cr false none 0 0 0 t26 HQr.out).mono ?_; rintro e' t27 ⟨rfl, hb7⟩; have g7 := bl_trans8 g6 hb7; have s7 := s6.below hb7; clear s6)
    | (go_at_call_of 11 aq; refine (alike8_q bq aq lq kq eq cq false none 0 0 0 t25 HQq.out).mono ?_; rintro e' t26 ⟨rfl, hb6⟩; have g6 := bl_trans8 g5 hb6; have s6 := s5.below hb6; clear s5)
    | (go_at_call_of 11 ap; refine (alike8_q bp ap lp kp ep cp false none 0 0 0 t24 HQp.out).mono ?_; rintro e' t25 ⟨rfl, hb5⟩; have g5 := bl_trans8 g4 hb5; have s5 := s4.below hb5; clear s4)
    | (go_at_call_of 11 av; refine (alike8_q bv av lv kv ev cv b23 a23 n23 k23 0 t23 HQv.out).mono ?_; rintro e' t24 ⟨rfl, hb4⟩; have g4 := bl_trans8 g3 hb4; have s4 := s3.below hb4; clear s3)
    | (go_at_call 13; refine (K3.out _ g2).mono ?_; rintro e' t23 ⟨⟨b23, a23, n23, k23, rfl, _⟩, hb3⟩; have g3 := bl_trans8 g2 hb3; have s3 := s2.below hb3; clear s2)
    | (go_at_call_of 11 au; refine (alike8_q bu au lu ku eu cu b21 a21 n21 k21 0 t21 HQu.out).mono ?_; rintro e' t22 ⟨rfl, hb2⟩; have g2 := bl_trans8 g1 hb2; have s2 := s1.below hb2; clear s1)
    | (go_at_call 12; refine (K1.out _ g0).mono ?_; rintro e' t21 ⟨⟨b21, a21, n21, k21, rfl, _⟩, hb1⟩; have g1 := bl_trans8 g0 hb1; have s1 := s0.below hb1; clear s0))
  have HFIN := hide (HWm.out.trans ((HBm.out.trans (g8.mono HBm.out.size)).mono HWm.out.size))
  clear hb1 hb2 hb3 hb4 hb5 hb6 hb7 hb8 g0 g1 g2 g3 g4 g5 g6 g7 g8
  go_wp2
  go_ret
  exact ⟨rfl, HFIN.out⟩

set_option maxRecDepth 20000 in
set_option maxHeartbeats 16000000 in
theorem sums8_ft (b0 : Bool) (v0 : Value) (z0 : List Nat) (p0 : Int) (b1 : Bool) (v1 : Value) (z1 : List Nat) (p1 : Int) (w : World) (hT : Tab w) (A0 : Arg w v0 z0) (s0 : z0.length ≤ 1048576) (_ : -9223372036854775808 ≤ p0) (_ : p0 ≤ 9223372036854775807) (A1 : Arg w v1 z1) (s1 : z1.length ≤ 1048576) (_ : -9223372036854775808 ≤ p1) (_ : p1 ≤ 9223372036854775807) (hE0 : fitE p0 = false) (hE1 : fitE p1 = true) :
    Calls Tryz.prog 3 #[.agg #[.bool b0, v0, .int .i64 p0], .agg #[.bool b1, v1, .int .i64 p1]] w fun e w' => e = .returned (.bool true) ∧ Below w.heap.size w w' := by
  obtain ⟨a0, n0, rfl, _, _, _⟩ := A0.form
  obtain ⟨a1, n1, rfl, _, _, _⟩ := A1.form
  obtain ⟨w0, hw0, hb0, h0, h1⟩ := enter2 w (.cells #[.bool b0, .slice a0 z0.length n0, .int .i64 p0] 24) (.cells #[.bool b1, .slice a1 z1.length n1, .int .i64 p1] 24)
  have HA := hide h0
  have HB := hide h1
  have HA0 := hide (A0.below hb0)
  have HA1 := hide (A1.below hb0)
  have HT := hide (hT.below hb0)
  have HW := hide hb0
  clear hT hb0 h0 h1
  have F1 := read_facts (b := b1) (ex := p1) A1 (by omega) hE1
  have hl1 : blen (omz (zz b1 (val z1))).natAbs ≤ 67108864 := by
    have h5 := blen_mono (od_le (zz b1 (val z1)).natAbs)
    have h6 := blen_len8 A1.limbs
    rw [zz_abs] at h5
    rw [omz_abs, zz_abs]; omega
  obtain ⟨M1, hM1⟩ : ∃ M1, omz (zz b1 (val z1)) = M1 := ⟨_, rfl⟩
  obtain ⟨E1, hE1v⟩ : ∃ E1, oe (zz b1 (val z1)) p1 = E1 := ⟨_, rfl⟩
  rw [hM1, hE1v] at F1
  rw [hM1] at hl1
  have HM1 := hide hM1
  have HV1 := hide hE1v
  have HN1 := hide F1.2.2.2
  have e11 := F1.2.1
  have e12 := F1.2.2.1
  clear F1 hM1 hE1v
  clear A0 A1
  go_enter Tryz.func3, Tryz.ntmps3
  obtain ⟨ca0, cb0, cc0⟩ := tri8 HA.out
  have C := lent8_any b0 a0 n0 z0 p0 w0 HA0.out (by omega)
  go_wp2_with fail
  refine C.mono ?_
  rintro e Q1 ⟨⟨aw, mw, nw, ax, cx, rfl, _, hP⟩, hb⟩
  clear C ca0 cb0 cc0 hw0
  obtain ⟨P2, hP2, hbP, hx⟩ := enter1 Q1 (.cells #[.bool b0, .slice ax z0.length cx, .int .i64 p0] 29)
  have stp := bl_trans8 hb hbP
  replace HA := hide (block_upW stp HA.out)
  replace HB := hide (block_upW stp HB.out)
  replace HA0 := hide (HA0.out.below stp)
  replace HA1 := hide (HA1.out.below stp)
  replace HT := hide (HT.out.below stp)
  replace HW := hid_below HW stp
  have HPx := hide (hP.below hbP)
  have HX := hide hx
  clear hP hb hbP hx stp
  obtain ⟨ca0, cb0, cc0⟩ := tri8 HB.out
  have C := lent8_any b1 a1 n1 z1 p1 P2 HA1.out (by omega)
  go_wp2_with fail
  refine C.mono ?_
  rintro e Q3 ⟨⟨bw, mv, nv, ay, cy, rfl, _, hP⟩, hb⟩
  clear C ca0 cb0 cc0 hP2
  obtain ⟨P4, hP4, hbP, hx⟩ := enter1 Q3 (.cells #[.bool b1, .slice ay z1.length cy, .int .i64 p1] 29)
  have stp := bl_trans8 hb hbP
  replace HA := hide (block_upW stp HA.out)
  replace HB := hide (block_upW stp HB.out)
  replace HX := hide (block_upW stp HX.out)
  replace HA0 := hide (HA0.out.below stp)
  replace HA1 := hide (HA1.out.below stp)
  replace HT := hide (HT.out.below stp)
  replace HPx := hide (HPx.out.below stp)
  replace HW := hid_below HW stp
  have HPy := hide (hP.below hbP)
  have HY := hide hx
  clear hP hb hbP hx stp
  obtain ⟨ca0, cb0, cc0⟩ := tri8 HA.out
  have C := of8_no b0 a0 z0.length n0 p0 P4 hE0
  go_wp2_with fail
  refine C.mono ?_
  rintro e Q5 ⟨he, hb⟩
  clear C ca0 cb0 cc0 hP4
  obtain ⟨bm, am, lm, km, em, rfl, hq⟩ : ∃ b a n k ex, e = .returned (.tuple #[.agg #[.bool b, .slice a n k, .int .i64 ex], .bool false]) ∧ (b = false ∧ a = none ∧ n = 0 ∧ k = 0 ∧ ex = 0) := ⟨_, _, _, _, _, he, rfl, rfl, rfl, rfl, rfl⟩
  clear hq he
  have HTm := hide (HT.out.below hb)
  have HA0m := hide (HA0.out.below hb)
  have HWm := hid_below HW hb
  obtain ⟨P6, hP6, hbP, hx⟩ := enter1 Q5 (.cells #[.bool bm, .slice am lm km, .int .i64 em] 36)
  have stp := bl_trans8 hb hbP
  replace HA := hide (block_upW stp HA.out)
  replace HB := hide (block_upW stp HB.out)
  replace HX := hide (block_upW stp HX.out)
  replace HY := hide (block_upW stp HY.out)
  replace HA0 := hide (HA0.out.below stp)
  replace HA1 := hide (HA1.out.below stp)
  replace HT := hide (HT.out.below stp)
  replace HPx := hide (HPx.out.below stp)
  replace HPy := hide (HPy.out.below stp)
  replace HW := hid_below HW stp
  have Hm := hide hx
  clear hb hbP hx stp
  have HBm : Hid (Below Q5.heap.size Q5 P6) := hide (by rw [← hP6]; exact below_one6 _ _)
  obtain ⟨ca0, cb0, cc0⟩ := tri8 HB.out
  have C := of8_ok b1 a1 n1 z1 p1 P6 HA1.out (by omega) hE1
  rw [HM1.out, HV1.out] at C
  go_wp2_with fail
  refine C.mono ?_
  rintro e Q7 ⟨⟨bn, an, ln, kn, rfl, hd⟩, hb⟩
  clear C ca0 cb0 cc0 hP6
  clear hd
  have hmn : Q5.heap.size < Q7.heap.size := lt_of_block (block_upW hb Hm.out)
  obtain ⟨P8, hP8, hbP, hx⟩ := enter1 Q7 (.cells #[.bool bn, .slice an ln kn, .int .i64 E1] 36)
  have stp := bl_trans8 hb hbP
  replace HA := hide (block_upW stp HA.out)
  replace HB := hide (block_upW stp HB.out)
  replace HX := hide (block_upW stp HX.out)
  replace HY := hide (block_upW stp HY.out)
  replace Hm := hide (block_upW stp Hm.out)
  replace HA0 := hide (HA0.out.below stp)
  replace HA1 := hide (HA1.out.below stp)
  replace HT := hide (HT.out.below stp)
  replace HPx := hide (HPx.out.below stp)
  replace HPy := hide (HPy.out.below stp)
  replace HW := hid_below HW stp
  replace HBm := hid_below HBm stp
  have Hn := hide hx
  clear hb hbP hx stp
  obtain ⟨ca0, cb0, cc0⟩ := tri8 HX.out
  have C := yneg_no b0 ax z0.length cx p0 P8 hE0
  go_wp2_with fail
  refine C.mono ?_
  rintro e Q9 ⟨he, hb⟩
  clear C ca0 cb0 cc0 hP8
  obtain ⟨bu, au, lu, ku, eu, cu, rfl, hq⟩ : ∃ b a n k ex c, e = .returned (.tuple #[.agg #[.bool b, .slice a n k, .int .i64 ex], .int .i64 c]) ∧ (b = false ∧ a = none ∧ n = 0 ∧ k = 0 ∧ ex = 0 ∧ c = 80) := ⟨_, _, _, _, _, _, he, rfl, rfl, rfl, rfl, rfl, rfl⟩
  have HQu := hide hq
  obtain ⟨P10, hP10, hbP, hx⟩ := enter1 Q9 (.cells #[.bool bu, .slice au lu ku, .int .i64 eu] 29)
  have stp := bl_trans8 hb hbP
  replace HA := hide (block_upW stp HA.out)
  replace HB := hide (block_upW stp HB.out)
  replace HX := hide (block_upW stp HX.out)
  replace HY := hide (block_upW stp HY.out)
  replace Hm := hide (block_upW stp Hm.out)
  replace Hn := hide (block_upW stp Hn.out)
  replace HA0 := hide (HA0.out.below stp)
  replace HA1 := hide (HA1.out.below stp)
  replace HT := hide (HT.out.below stp)
  replace HPx := hide (HPx.out.below stp)
  replace HPy := hide (HPy.out.below stp)
  replace HW := hid_below HW stp
  replace HBm := hid_below HBm stp
  have Hu := hide hx
  clear he hq hb hbP hx stp
  obtain ⟨ca0, cb0, cc0⟩ := tri8 HX.out
  have C := yabs_no b0 ax z0.length cx p0 P10 hE0
  go_wp2_with fail
  refine C.mono ?_
  rintro e Q11 ⟨he, hb⟩
  clear C ca0 cb0 cc0 hP10
  obtain ⟨bv, av, lv, kv, ev, cv, rfl, hq⟩ : ∃ b a n k ex c, e = .returned (.tuple #[.agg #[.bool b, .slice a n k, .int .i64 ex], .int .i64 c]) ∧ (b = false ∧ a = none ∧ n = 0 ∧ k = 0 ∧ ex = 0 ∧ c = 80) := ⟨_, _, _, _, _, _, he, rfl, rfl, rfl, rfl, rfl, rfl⟩
  have HQv := hide hq
  obtain ⟨P12, hP12, hbP, hx⟩ := enter1 Q11 (.cells #[.bool bv, .slice av lv kv, .int .i64 ev] 29)
  have stp := bl_trans8 hb hbP
  replace HA := hide (block_upW stp HA.out)
  replace HB := hide (block_upW stp HB.out)
  replace HX := hide (block_upW stp HX.out)
  replace HY := hide (block_upW stp HY.out)
  replace Hm := hide (block_upW stp Hm.out)
  replace Hn := hide (block_upW stp Hn.out)
  replace Hu := hide (block_upW stp Hu.out)
  replace HA0 := hide (HA0.out.below stp)
  replace HA1 := hide (HA1.out.below stp)
  replace HT := hide (HT.out.below stp)
  replace HPx := hide (HPx.out.below stp)
  replace HPy := hide (HPy.out.below stp)
  replace HW := hid_below HW stp
  replace HBm := hid_below HBm stp
  have Hv := hide hx
  clear he hq hb hbP hx stp
  obtain ⟨ca0, cb0, cc0⟩ := tri8 HX.out
  obtain ⟨ca1, cb1, cc1⟩ := tri8 HY.out
  have C := yadd_no b0 ax z0.length cx p0 b1 ay z1.length cy p1 P12 (fun W _ => yjp_no1 b0 ax z0.length cx p0 b1 ay z1.length cy p1 W hE0)
  go_wp2_with fail
  refine C.mono ?_
  rintro e Q13 ⟨he, hb⟩
  clear C ca0 cb0 cc0 ca1 cb1 cc1 hP12
  obtain ⟨bp, ap, lp, kp, ep, cp, rfl, hq⟩ : ∃ b a n k ex c, e = .returned (.tuple #[.agg #[.bool b, .slice a n k, .int .i64 ex], .int .i64 c]) ∧ (b = false ∧ a = none ∧ n = 0 ∧ k = 0 ∧ ex = 0 ∧ c = 80) := ⟨_, _, _, _, _, _, he, rfl, rfl, rfl, rfl, rfl, rfl⟩
  have HQp := hide hq
  obtain ⟨P14, hP14, hbP, hx⟩ := enter1 Q13 (.cells #[.bool bp, .slice ap lp kp, .int .i64 ep] 29)
  have stp := bl_trans8 hb hbP
  replace HA := hide (block_upW stp HA.out)
  replace HB := hide (block_upW stp HB.out)
  replace HX := hide (block_upW stp HX.out)
  replace HY := hide (block_upW stp HY.out)
  replace Hm := hide (block_upW stp Hm.out)
  replace Hn := hide (block_upW stp Hn.out)
  replace Hu := hide (block_upW stp Hu.out)
  replace Hv := hide (block_upW stp Hv.out)
  replace HA0 := hide (HA0.out.below stp)
  replace HA1 := hide (HA1.out.below stp)
  replace HT := hide (HT.out.below stp)
  replace HPx := hide (HPx.out.below stp)
  replace HPy := hide (HPy.out.below stp)
  replace HW := hid_below HW stp
  replace HBm := hid_below HBm stp
  have Hp := hide hx
  clear he hq hb hbP hx stp
  obtain ⟨ca0, cb0, cc0⟩ := tri8 HX.out
  obtain ⟨ca1, cb1, cc1⟩ := tri8 HY.out
  have C := ysub_no b0 ax z0.length cx p0 b1 ay z1.length cy p1 P14 (fun W _ => yjm_no1 b0 ax z0.length cx p0 b1 ay z1.length cy p1 W hE0)
  go_wp2_with fail
  refine C.mono ?_
  rintro e Q15 ⟨he, hb⟩
  clear C ca0 cb0 cc0 ca1 cb1 cc1 hP14
  obtain ⟨bq, aq, lq, kq, eq, cq, rfl, hq⟩ : ∃ b a n k ex c, e = .returned (.tuple #[.agg #[.bool b, .slice a n k, .int .i64 ex], .int .i64 c]) ∧ (b = false ∧ a = none ∧ n = 0 ∧ k = 0 ∧ ex = 0 ∧ c = 80) := ⟨_, _, _, _, _, _, he, rfl, rfl, rfl, rfl, rfl, rfl⟩
  have HQq := hide hq
  obtain ⟨P16, hP16, hbP, hx⟩ := enter1 Q15 (.cells #[.bool bq, .slice aq lq kq, .int .i64 eq] 29)
  have stp := bl_trans8 hb hbP
  replace HA := hide (block_upW stp HA.out)
  replace HB := hide (block_upW stp HB.out)
  replace HX := hide (block_upW stp HX.out)
  replace HY := hide (block_upW stp HY.out)
  replace Hm := hide (block_upW stp Hm.out)
  replace Hn := hide (block_upW stp Hn.out)
  replace Hu := hide (block_upW stp Hu.out)
  replace Hv := hide (block_upW stp Hv.out)
  replace Hp := hide (block_upW stp Hp.out)
  replace HA0 := hide (HA0.out.below stp)
  replace HA1 := hide (HA1.out.below stp)
  replace HT := hide (HT.out.below stp)
  replace HPx := hide (HPx.out.below stp)
  replace HPy := hide (HPy.out.below stp)
  replace HW := hid_below HW stp
  replace HBm := hid_below HBm stp
  have Hq := hide hx
  clear he hq hb hbP hx stp
  obtain ⟨ca0, cb0, cc0⟩ := tri8 HX.out
  obtain ⟨ca1, cb1, cc1⟩ := tri8 HY.out
  have C := ymul_no b0 ax z0.length cx p0 b1 ay z1.length cy p1 P16 (fun W _ => yjt_no1 b0 ax z0.length cx p0 b1 ay z1.length cy p1 W hE0)
  go_wp2_with fail
  refine C.mono ?_
  rintro e Q17 ⟨he, hb⟩
  clear C ca0 cb0 cc0 ca1 cb1 cc1 hP16
  obtain ⟨br, ar, lr, kr, er, cr, rfl, hq⟩ : ∃ b a n k ex c, e = .returned (.tuple #[.agg #[.bool b, .slice a n k, .int .i64 ex], .int .i64 c]) ∧ (b = false ∧ a = none ∧ n = 0 ∧ k = 0 ∧ ex = 0 ∧ c = 80) := ⟨_, _, _, _, _, _, he, rfl, rfl, rfl, rfl, rfl, rfl⟩
  have HQr := hide hq
  obtain ⟨P18, hP18, hbP, hx⟩ := enter1 Q17 (.cells #[.bool br, .slice ar lr kr, .int .i64 er] 29)
  have stp := bl_trans8 hb hbP
  replace HA := hide (block_upW stp HA.out)
  replace HB := hide (block_upW stp HB.out)
  replace HX := hide (block_upW stp HX.out)
  replace HY := hide (block_upW stp HY.out)
  replace Hm := hide (block_upW stp Hm.out)
  replace Hn := hide (block_upW stp Hn.out)
  replace Hu := hide (block_upW stp Hu.out)
  replace Hv := hide (block_upW stp Hv.out)
  replace Hp := hide (block_upW stp Hp.out)
  replace Hq := hide (block_upW stp Hq.out)
  replace HA0 := hide (HA0.out.below stp)
  replace HA1 := hide (HA1.out.below stp)
  replace HT := hide (HT.out.below stp)
  replace HPx := hide (HPx.out.below stp)
  replace HPy := hide (HPy.out.below stp)
  replace HW := hid_below HW stp
  replace HBm := hid_below HBm stp
  have Hr := hide hx
  clear he hq hb hbP hx stp
  obtain ⟨m0, m1, m2⟩ := tri8 Hm.out
  have mf := tri8f Hm.out
  obtain ⟨wz, hwz⟩ : ∃ wz9, ((P18.setCell ⟨Q5.heap.size, 0, none⟩ (.bool false)).setCell ⟨Q5.heap.size, 1, none⟩ (.slice none 0 0)).setCell ⟨Q5.heap.size, 2, none⟩ (.int .i64 0) = wz9 := ⟨_, rfl⟩
  replace HA := hide (hwz ▸ tri9_other (.bool false) (.slice none 0 0) (.int .i64 0) HA.out (ne_types HA.out Hm.out (by decide)))
  replace Hu := hide (hwz ▸ tri9_other (.bool false) (.slice none 0 0) (.int .i64 0) Hu.out (ne_types Hu.out Hm.out (by decide)))
  replace Hv := hide (hwz ▸ tri9_other (.bool false) (.slice none 0 0) (.int .i64 0) Hv.out (ne_types Hv.out Hm.out (by decide)))
  replace Hp := hide (hwz ▸ tri9_other (.bool false) (.slice none 0 0) (.int .i64 0) Hp.out (ne_types Hp.out Hm.out (by decide)))
  replace Hq := hide (hwz ▸ tri9_other (.bool false) (.slice none 0 0) (.int .i64 0) Hq.out (ne_types Hq.out Hm.out (by decide)))
  replace Hr := hide (hwz ▸ tri9_other (.bool false) (.slice none 0 0) (.int .i64 0) Hr.out (ne_types Hr.out Hm.out (by decide)))
  replace Hn := hide (hwz ▸ tri9_other (.bool false) (.slice none 0 0) (.int .i64 0) Hn.out (Nat.ne_of_gt hmn))
  replace Hm := hide (hwz ▸ tri8_all Hm.out (.bool false) (.slice none 0 0) (.int .i64 0))
  replace HBm := hide (hwz ▸ below_tri8 HBm.out (Nat.le_refl _) (.bool false) (.slice none 0 0) (.int .i64 0))
  obtain ⟨y0, y1, y2⟩ := tri8 Hn.out
  have yf := tri8f Hn.out
  obtain ⟨wy, hwy⟩ : ∃ wz9, ((wz.setCell ⟨Q7.heap.size, 0, none⟩ (.bool false)).setCell ⟨Q7.heap.size, 1, none⟩ (.slice none 0 0)).setCell ⟨Q7.heap.size, 2, none⟩ (.int .i64 0) = wz9 := ⟨_, rfl⟩
  replace HA := hide (hwy ▸ tri9_other (.bool false) (.slice none 0 0) (.int .i64 0) HA.out (ne_types HA.out Hn.out (by decide)))
  replace Hu := hide (hwy ▸ tri9_other (.bool false) (.slice none 0 0) (.int .i64 0) Hu.out (ne_types Hu.out Hn.out (by decide)))
  replace Hv := hide (hwy ▸ tri9_other (.bool false) (.slice none 0 0) (.int .i64 0) Hv.out (ne_types Hv.out Hn.out (by decide)))
  replace Hp := hide (hwy ▸ tri9_other (.bool false) (.slice none 0 0) (.int .i64 0) Hp.out (ne_types Hp.out Hn.out (by decide)))
  replace Hq := hide (hwy ▸ tri9_other (.bool false) (.slice none 0 0) (.int .i64 0) Hq.out (ne_types Hq.out Hn.out (by decide)))
  replace Hr := hide (hwy ▸ tri9_other (.bool false) (.slice none 0 0) (.int .i64 0) Hr.out (ne_types Hr.out Hn.out (by decide)))
  replace Hm := hide (hwy ▸ tri9_other (.bool false) (.slice none 0 0) (.int .i64 0) Hm.out (Nat.ne_of_lt hmn))
  replace Hn := hide (hwy ▸ tri8_all Hn.out (.bool false) (.slice none 0 0) (.int .i64 0))
  replace HBm := hide (hwy ▸ below_tri8 HBm.out (Nat.le_of_lt hmn) (.bool false) (.slice none 0 0) (.int .i64 0))
  have stp : Below wy.heap.size wy wy.drew := (Below.refl _ _).drew
  replace Hu := hide (block_upW stp Hu.out)
  replace Hv := hide (block_upW stp Hv.out)
  replace Hp := hide (block_upW stp Hp.out)
  replace Hq := hide (block_upW stp Hq.out)
  replace Hr := hide (block_upW stp Hr.out)
  replace Hm := hide (block_upW stp Hm.out)
  replace Hn := hide (block_upW stp Hn.out)
  replace HBm := hid_below HBm stp
  clear stp
  obtain ⟨LS, hLS⟩ : ∃ LS : List (Nat × Obj), LS = [(Q9.heap.size, .cells #[.bool bu, .slice au lu ku, .int .i64 eu] 29), (Q11.heap.size, .cells #[.bool bv, .slice av lv kv, .int .i64 ev] 29), (Q13.heap.size, .cells #[.bool bp, .slice ap lp kp, .int .i64 ep] 29), (Q15.heap.size, .cells #[.bool bq, .slice aq lq kq, .int .i64 eq] 29), (Q17.heap.size, .cells #[.bool br, .slice ar lr kr, .int .i64 er] 29), (Q5.heap.size, .cells #[.bool false, .slice none 0 0, .int .i64 0] 36), (Q7.heap.size, .cells #[.bool false, .slice none 0 0, .int .i64 0] 36)] := ⟨_, rfl⟩
  have s0 : Bx wy.drew LS := by rw [hLS]; exact Bx.cons Hu.out (Bx.cons Hv.out (Bx.cons Hp.out (Bx.cons Hq.out (Bx.cons Hr.out (Bx.cons Hm.out (Bx.cons Hn.out (Bx.nil _)))))))
  have KS := hide (fun (W : World) (h : Bx W LS) => show W.cell? ⟨Q9.heap.size, 0, none⟩ = some (.bool bu) ∧ W.cell? ⟨Q9.heap.size, 1, none⟩ = some (.slice au lu ku) ∧ W.cell? ⟨Q9.heap.size, 2, none⟩ = some (.int .i64 eu) ∧ W.cell? ⟨Q11.heap.size, 0, none⟩ = some (.bool bv) ∧ W.cell? ⟨Q11.heap.size, 1, none⟩ = some (.slice av lv kv) ∧ W.cell? ⟨Q11.heap.size, 2, none⟩ = some (.int .i64 ev) ∧ W.cell? ⟨Q13.heap.size, 0, none⟩ = some (.bool bp) ∧ W.cell? ⟨Q13.heap.size, 1, none⟩ = some (.slice ap lp kp) ∧ W.cell? ⟨Q13.heap.size, 2, none⟩ = some (.int .i64 ep) ∧ W.cell? ⟨Q15.heap.size, 0, none⟩ = some (.bool bq) ∧ W.cell? ⟨Q15.heap.size, 1, none⟩ = some (.slice aq lq kq) ∧ W.cell? ⟨Q15.heap.size, 2, none⟩ = some (.int .i64 eq) ∧ W.cell? ⟨Q17.heap.size, 0, none⟩ = some (.bool br) ∧ W.cell? ⟨Q17.heap.size, 1, none⟩ = some (.slice ar lr kr) ∧ W.cell? ⟨Q17.heap.size, 2, none⟩ = some (.int .i64 er) ∧ W.cell? ⟨Q5.heap.size, 0, none⟩ = some (.bool false) ∧ W.cell? ⟨Q5.heap.size, 1, none⟩ = some (.slice none 0 0) ∧ W.cell? ⟨Q5.heap.size, 2, none⟩ = some (.int .i64 0) ∧ W.cell? ⟨Q7.heap.size, 0, none⟩ = some (.bool false) ∧ W.cell? ⟨Q7.heap.size, 1, none⟩ = some (.slice none 0 0) ∧ W.cell? ⟨Q7.heap.size, 2, none⟩ = some (.int .i64 0) by rw [hLS] at h; exact ⟨(tri8 (h 0 _ _ rfl)).1, (tri8 (h 0 _ _ rfl)).2.1, (tri8 (h 0 _ _ rfl)).2.2, (tri8 (h 1 _ _ rfl)).1, (tri8 (h 1 _ _ rfl)).2.1, (tri8 (h 1 _ _ rfl)).2.2, (tri8 (h 2 _ _ rfl)).1, (tri8 (h 2 _ _ rfl)).2.1, (tri8 (h 2 _ _ rfl)).2.2, (tri8 (h 3 _ _ rfl)).1, (tri8 (h 3 _ _ rfl)).2.1, (tri8 (h 3 _ _ rfl)).2.2, (tri8 (h 4 _ _ rfl)).1, (tri8 (h 4 _ _ rfl)).2.1, (tri8 (h 4 _ _ rfl)).2.2, (tri8 (h 5 _ _ rfl)).1, (tri8 (h 5 _ _ rfl)).2.1, (tri8 (h 5 _ _ rfl)).2.2, (tri8 (h 6 _ _ rfl)).1, (tri8 (h 6 _ _ rfl)).2.1, (tri8 (h 6 _ _ rfl)).2.2⟩)
  have g0 : Below wy.drew.heap.size wy.drew wy.drew := Below.refl _ _
  have K1 := hide (fun (W : World) (_ : Below wy.drew.heap.size wy.drew W) => rdNeg_any false none 0 0 0 0 W (dn_zero W))
  have K3 := hide (fun (W : World) (_ : Below wy.drew.heap.size wy.drew W) => rdAbs_any false none 0 0 0 0 W (dn_zero W))
  have HAW := hide (fun (W : World) (hg : Below wy.drew.heap.size wy.drew W) => awake8_any W (HTm.out.below (HBm.out.trans (hg.mono HBm.out.size))))
  clear hLS Hu Hv Hp Hq Hr Hm Hn
  go_wp2_with fail
  clear m0 m1 m2 mf y0 y1 y2 yf hwz hwy
  go_region_held3 (fun w' => w'.cell? ⟨Q9.heap.size, 0, none⟩ = some (.bool bu) ∧ w'.cell? ⟨Q9.heap.size, 1, none⟩ = some (.slice au lu ku) ∧ w'.cell? ⟨Q9.heap.size, 2, none⟩ = some (.int .i64 eu) ∧ w'.cell? ⟨Q11.heap.size, 0, none⟩ = some (.bool bv) ∧ w'.cell? ⟨Q11.heap.size, 1, none⟩ = some (.slice av lv kv) ∧ w'.cell? ⟨Q11.heap.size, 2, none⟩ = some (.int .i64 ev) ∧ w'.cell? ⟨Q13.heap.size, 0, none⟩ = some (.bool bp) ∧ w'.cell? ⟨Q13.heap.size, 1, none⟩ = some (.slice ap lp kp) ∧ w'.cell? ⟨Q13.heap.size, 2, none⟩ = some (.int .i64 ep) ∧ w'.cell? ⟨Q15.heap.size, 0, none⟩ = some (.bool bq) ∧ w'.cell? ⟨Q15.heap.size, 1, none⟩ = some (.slice aq lq kq) ∧ w'.cell? ⟨Q15.heap.size, 2, none⟩ = some (.int .i64 eq) ∧ w'.cell? ⟨Q17.heap.size, 0, none⟩ = some (.bool br) ∧ w'.cell? ⟨Q17.heap.size, 1, none⟩ = some (.slice ar lr kr) ∧ w'.cell? ⟨Q17.heap.size, 2, none⟩ = some (.int .i64 er) ∧ w'.cell? ⟨Q5.heap.size, 0, none⟩ = some (.bool false) ∧ w'.cell? ⟨Q5.heap.size, 1, none⟩ = some (.slice none 0 0) ∧ w'.cell? ⟨Q5.heap.size, 2, none⟩ = some (.int .i64 0) ∧ w'.cell? ⟨Q7.heap.size, 0, none⟩ = some (.bool false) ∧ w'.cell? ⟨Q7.heap.size, 1, none⟩ = some (.slice none 0 0) ∧ w'.cell? ⟨Q7.heap.size, 2, none⟩ = some (.int .i64 0)) (first | with_reducible exact KS.out _ s8 | with_reducible exact KS.out _ s7 | with_reducible exact KS.out _ s6 | with_reducible exact KS.out _ s5 | with_reducible exact KS.out _ s4 | with_reducible exact KS.out _ s3 | with_reducible exact KS.out _ s2 | with_reducible exact KS.out _ s1 | with_reducible exact KS.out _ s0) (first
    | (go_at_call 14; refine (HAW.out _ g7).mono ?_; rintro e' t28 ⟨rfl, hb8⟩; have g8 := bl_trans8 g7 hb8; have s8 := s7.below hb8; clear s7)
    | (go_at_call_of 11 ar; refine (alike8_q br ar lr kr er cr false none 0 0 0 t26 HQr.out).mono ?_; rintro e' t27 ⟨rfl, hb7⟩; have g7 := bl_trans8 g6 hb7; have s7 := s6.below hb7; clear s6)
    | (go_at_call_of 11 aq; refine (alike8_q bq aq lq kq eq cq false none 0 0 0 t25 HQq.out).mono ?_; rintro e' t26 ⟨rfl, hb6⟩; have g6 := bl_trans8 g5 hb6; have s6 := s5.below hb6; clear s5)
    | (go_at_call_of 11 ap; refine (alike8_q bp ap lp kp ep cp false none 0 0 0 t24 HQp.out).mono ?_; rintro e' t25 ⟨rfl, hb5⟩; have g5 := bl_trans8 g4 hb5; have s5 := s4.below hb5; clear s4)
    | (go_at_call_of 11 av; refine (alike8_q bv av lv kv ev cv b23 a23 n23 k23 0 t23 HQv.out).mono ?_; rintro e' t24 ⟨rfl, hb4⟩; have g4 := bl_trans8 g3 hb4; have s4 := s3.below hb4; clear s3)
    | (go_at_call 13; refine (K3.out _ g2).mono ?_; rintro e' t23 ⟨⟨b23, a23, n23, k23, rfl, _⟩, hb3⟩; have g3 := bl_trans8 g2 hb3; have s3 := s2.below hb3; clear s2)
    | (go_at_call_of 11 au; refine (alike8_q bu au lu ku eu cu b21 a21 n21 k21 0 t21 HQu.out).mono ?_; rintro e' t22 ⟨rfl, hb2⟩; have g2 := bl_trans8 g1 hb2; have s2 := s1.below hb2; clear s1)
    | (go_at_call 12; refine (K1.out _ g0).mono ?_; rintro e' t21 ⟨⟨b21, a21, n21, k21, rfl, _⟩, hb1⟩; have g1 := bl_trans8 g0 hb1; have s1 := s0.below hb1; clear s0))
  have HFIN := hide (HWm.out.trans ((HBm.out.trans (g8.mono HBm.out.size)).mono HWm.out.size))
  clear hb1 hb2 hb3 hb4 hb5 hb6 hb7 hb8 g0 g1 g2 g3 g4 g5 g6 g7 g8
  go_wp2
  go_ret
  exact ⟨rfl, HFIN.out⟩

set_option maxRecDepth 20000 in
set_option maxHeartbeats 16000000 in
theorem sums8_tf (b0 : Bool) (v0 : Value) (z0 : List Nat) (p0 : Int) (b1 : Bool) (v1 : Value) (z1 : List Nat) (p1 : Int) (w : World) (hT : Tab w) (A0 : Arg w v0 z0) (s0 : z0.length ≤ 1048576) (_ : -9223372036854775808 ≤ p0) (_ : p0 ≤ 9223372036854775807) (A1 : Arg w v1 z1) (s1 : z1.length ≤ 1048576) (_ : -9223372036854775808 ≤ p1) (_ : p1 ≤ 9223372036854775807) (hE0 : fitE p0 = true) (hE1 : fitE p1 = false) :
    Calls Tryz.prog 3 #[.agg #[.bool b0, v0, .int .i64 p0], .agg #[.bool b1, v1, .int .i64 p1]] w fun e w' => e = .returned (.bool true) ∧ Below w.heap.size w w' := by
  obtain ⟨a0, n0, rfl, _, _, _⟩ := A0.form
  obtain ⟨a1, n1, rfl, _, _, _⟩ := A1.form
  obtain ⟨w0, hw0, hb0, h0, h1⟩ := enter2 w (.cells #[.bool b0, .slice a0 z0.length n0, .int .i64 p0] 24) (.cells #[.bool b1, .slice a1 z1.length n1, .int .i64 p1] 24)
  have HA := hide h0
  have HB := hide h1
  have HA0 := hide (A0.below hb0)
  have HA1 := hide (A1.below hb0)
  have HT := hide (hT.below hb0)
  have HW := hide hb0
  clear hT hb0 h0 h1
  have F0 := read_facts (b := b0) (ex := p0) A0 (by omega) hE0
  have hl0 : blen (omz (zz b0 (val z0))).natAbs ≤ 67108864 := by
    have h5 := blen_mono (od_le (zz b0 (val z0)).natAbs)
    have h6 := blen_len8 A0.limbs
    rw [zz_abs] at h5
    rw [omz_abs, zz_abs]; omega
  obtain ⟨M0, hM0⟩ : ∃ M0, omz (zz b0 (val z0)) = M0 := ⟨_, rfl⟩
  obtain ⟨E0, hE0v⟩ : ∃ E0, oe (zz b0 (val z0)) p0 = E0 := ⟨_, rfl⟩
  rw [hM0, hE0v] at F0
  rw [hM0] at hl0
  have HM0 := hide hM0
  have HV0 := hide hE0v
  have HN0 := hide F0.2.2.2
  have e01 := F0.2.1
  have e02 := F0.2.2.1
  clear F0 hM0 hE0v
  clear A0 A1
  go_enter Tryz.func3, Tryz.ntmps3
  obtain ⟨ca0, cb0, cc0⟩ := tri8 HA.out
  have C := lent8_any b0 a0 n0 z0 p0 w0 HA0.out (by omega)
  go_wp2_with fail
  refine C.mono ?_
  rintro e Q1 ⟨⟨aw, mw, nw, ax, cx, rfl, _, hP⟩, hb⟩
  clear C ca0 cb0 cc0 hw0
  obtain ⟨P2, hP2, hbP, hx⟩ := enter1 Q1 (.cells #[.bool b0, .slice ax z0.length cx, .int .i64 p0] 29)
  have stp := bl_trans8 hb hbP
  replace HA := hide (block_upW stp HA.out)
  replace HB := hide (block_upW stp HB.out)
  replace HA0 := hide (HA0.out.below stp)
  replace HA1 := hide (HA1.out.below stp)
  replace HT := hide (HT.out.below stp)
  replace HW := hid_below HW stp
  have HPx := hide (hP.below hbP)
  have HX := hide hx
  clear hP hb hbP hx stp
  obtain ⟨ca0, cb0, cc0⟩ := tri8 HB.out
  have C := lent8_any b1 a1 n1 z1 p1 P2 HA1.out (by omega)
  go_wp2_with fail
  refine C.mono ?_
  rintro e Q3 ⟨⟨bw, mv, nv, ay, cy, rfl, _, hP⟩, hb⟩
  clear C ca0 cb0 cc0 hP2
  obtain ⟨P4, hP4, hbP, hx⟩ := enter1 Q3 (.cells #[.bool b1, .slice ay z1.length cy, .int .i64 p1] 29)
  have stp := bl_trans8 hb hbP
  replace HA := hide (block_upW stp HA.out)
  replace HB := hide (block_upW stp HB.out)
  replace HX := hide (block_upW stp HX.out)
  replace HA0 := hide (HA0.out.below stp)
  replace HA1 := hide (HA1.out.below stp)
  replace HT := hide (HT.out.below stp)
  replace HPx := hide (HPx.out.below stp)
  replace HW := hid_below HW stp
  have HPy := hide (hP.below hbP)
  have HY := hide hx
  clear hP hb hbP hx stp
  obtain ⟨ca0, cb0, cc0⟩ := tri8 HA.out
  have C := of8_ok b0 a0 n0 z0 p0 P4 HA0.out (by omega) hE0
  rw [HM0.out, HV0.out] at C
  go_wp2_with fail
  refine C.mono ?_
  rintro e Q5 ⟨⟨bm, am, lm, km, rfl, hd⟩, hb⟩
  clear C ca0 cb0 cc0 hP4
  clear hd
  have HTm := hide (HT.out.below hb)
  have HA0m := hide (HA0.out.below hb)
  have HWm := hid_below HW hb
  obtain ⟨P6, hP6, hbP, hx⟩ := enter1 Q5 (.cells #[.bool bm, .slice am lm km, .int .i64 E0] 36)
  have stp := bl_trans8 hb hbP
  replace HA := hide (block_upW stp HA.out)
  replace HB := hide (block_upW stp HB.out)
  replace HX := hide (block_upW stp HX.out)
  replace HY := hide (block_upW stp HY.out)
  replace HA0 := hide (HA0.out.below stp)
  replace HA1 := hide (HA1.out.below stp)
  replace HT := hide (HT.out.below stp)
  replace HPx := hide (HPx.out.below stp)
  replace HPy := hide (HPy.out.below stp)
  replace HW := hid_below HW stp
  have Hm := hide hx
  clear hb hbP hx stp
  have HBm : Hid (Below Q5.heap.size Q5 P6) := hide (by rw [← hP6]; exact below_one6 _ _)
  obtain ⟨ca0, cb0, cc0⟩ := tri8 HB.out
  have C := of8_no b1 a1 z1.length n1 p1 P6 hE1
  go_wp2_with fail
  refine C.mono ?_
  rintro e Q7 ⟨he, hb⟩
  clear C ca0 cb0 cc0 hP6
  obtain ⟨bn, an, ln, kn, en, rfl, hq⟩ : ∃ b a n k ex, e = .returned (.tuple #[.agg #[.bool b, .slice a n k, .int .i64 ex], .bool false]) ∧ (b = false ∧ a = none ∧ n = 0 ∧ k = 0 ∧ ex = 0) := ⟨_, _, _, _, _, he, rfl, rfl, rfl, rfl, rfl⟩
  clear hq he
  have hmn : Q5.heap.size < Q7.heap.size := lt_of_block (block_upW hb Hm.out)
  obtain ⟨P8, hP8, hbP, hx⟩ := enter1 Q7 (.cells #[.bool bn, .slice an ln kn, .int .i64 en] 36)
  have stp := bl_trans8 hb hbP
  replace HA := hide (block_upW stp HA.out)
  replace HB := hide (block_upW stp HB.out)
  replace HX := hide (block_upW stp HX.out)
  replace HY := hide (block_upW stp HY.out)
  replace Hm := hide (block_upW stp Hm.out)
  replace HA0 := hide (HA0.out.below stp)
  replace HA1 := hide (HA1.out.below stp)
  replace HT := hide (HT.out.below stp)
  replace HPx := hide (HPx.out.below stp)
  replace HPy := hide (HPy.out.below stp)
  replace HW := hid_below HW stp
  replace HBm := hid_below HBm stp
  have Hn := hide hx
  clear hb hbP hx stp
  obtain ⟨ca0, cb0, cc0⟩ := tri8 HX.out
  have C := yneg_ok b0 ax cx z0 p0 P8 HPx.out HT.out (by omega) hE0
  rw [HM0.out, HV0.out] at C
  go_wp2_with fail
  refine C.mono ?_
  rintro e Q9 ⟨⟨bu, au, lu, ku, eu, cu, rfl, hd⟩, hb⟩
  clear C ca0 cb0 cc0 hP8
  obtain ⟨P10, hP10, hbP, hx⟩ := enter1 Q9 (.cells #[.bool bu, .slice au lu ku, .int .i64 eu] 29)
  have stp := bl_trans8 hb hbP
  replace HA := hide (block_upW stp HA.out)
  replace HB := hide (block_upW stp HB.out)
  replace HX := hide (block_upW stp HX.out)
  replace HY := hide (block_upW stp HY.out)
  replace Hm := hide (block_upW stp Hm.out)
  replace Hn := hide (block_upW stp Hn.out)
  replace HA0 := hide (HA0.out.below stp)
  replace HA1 := hide (HA1.out.below stp)
  replace HT := hide (HT.out.below stp)
  replace HPx := hide (HPx.out.below stp)
  replace HPy := hide (HPy.out.below stp)
  replace HW := hid_below HW stp
  replace HBm := hid_below HBm stp
  have HDu := hide (hd.below hbP)
  have Hu := hide hx
  clear hd hb hbP hx stp
  obtain ⟨ca0, cb0, cc0⟩ := tri8 HX.out
  have C := yabs_ok b0 ax cx z0 p0 P10 HPx.out HT.out (by omega) hE0
  rw [HM0.out, HV0.out] at C
  go_wp2_with fail
  refine C.mono ?_
  rintro e Q11 ⟨⟨bv, av, lv, kv, ev, cv, rfl, hd⟩, hb⟩
  clear C ca0 cb0 cc0 hP10
  obtain ⟨P12, hP12, hbP, hx⟩ := enter1 Q11 (.cells #[.bool bv, .slice av lv kv, .int .i64 ev] 29)
  have stp := bl_trans8 hb hbP
  replace HA := hide (block_upW stp HA.out)
  replace HB := hide (block_upW stp HB.out)
  replace HX := hide (block_upW stp HX.out)
  replace HY := hide (block_upW stp HY.out)
  replace Hm := hide (block_upW stp Hm.out)
  replace Hn := hide (block_upW stp Hn.out)
  replace Hu := hide (block_upW stp Hu.out)
  replace HA0 := hide (HA0.out.below stp)
  replace HA1 := hide (HA1.out.below stp)
  replace HT := hide (HT.out.below stp)
  replace HPx := hide (HPx.out.below stp)
  replace HPy := hide (HPy.out.below stp)
  replace HDu := hide (HDu.out.below stp)
  replace HW := hid_below HW stp
  replace HBm := hid_below HBm stp
  have HDv := hide (hd.below hbP)
  have Hv := hide hx
  clear hd hb hbP hx stp
  obtain ⟨ca0, cb0, cc0⟩ := tri8 HX.out
  obtain ⟨ca1, cb1, cc1⟩ := tri8 HY.out
  have C := yadd_no b0 ax z0.length cx p0 b1 ay z1.length cy p1 P12 (fun W hg => yjp_no2 b0 ax cx z0 p0 b1 ay z1.length cy p1 W (HT.out.below hg) (HPx.out.below hg) (by omega) hE0 hE1)
  go_wp2_with fail
  refine C.mono ?_
  rintro e Q13 ⟨he, hb⟩
  clear C ca0 cb0 cc0 ca1 cb1 cc1 hP12
  obtain ⟨bp, ap, lp, kp, ep, cp, rfl, hq⟩ : ∃ b a n k ex c, e = .returned (.tuple #[.agg #[.bool b, .slice a n k, .int .i64 ex], .int .i64 c]) ∧ (b = false ∧ a = none ∧ n = 0 ∧ k = 0 ∧ ex = 0 ∧ c = 80) := ⟨_, _, _, _, _, _, he, rfl, rfl, rfl, rfl, rfl, rfl⟩
  have HQp := hide hq
  obtain ⟨P14, hP14, hbP, hx⟩ := enter1 Q13 (.cells #[.bool bp, .slice ap lp kp, .int .i64 ep] 29)
  have stp := bl_trans8 hb hbP
  replace HA := hide (block_upW stp HA.out)
  replace HB := hide (block_upW stp HB.out)
  replace HX := hide (block_upW stp HX.out)
  replace HY := hide (block_upW stp HY.out)
  replace Hm := hide (block_upW stp Hm.out)
  replace Hn := hide (block_upW stp Hn.out)
  replace Hu := hide (block_upW stp Hu.out)
  replace Hv := hide (block_upW stp Hv.out)
  replace HA0 := hide (HA0.out.below stp)
  replace HA1 := hide (HA1.out.below stp)
  replace HT := hide (HT.out.below stp)
  replace HPx := hide (HPx.out.below stp)
  replace HPy := hide (HPy.out.below stp)
  replace HDu := hide (HDu.out.below stp)
  replace HDv := hide (HDv.out.below stp)
  replace HW := hid_below HW stp
  replace HBm := hid_below HBm stp
  have Hp := hide hx
  clear he hq hb hbP hx stp
  obtain ⟨ca0, cb0, cc0⟩ := tri8 HX.out
  obtain ⟨ca1, cb1, cc1⟩ := tri8 HY.out
  have C := ysub_no b0 ax z0.length cx p0 b1 ay z1.length cy p1 P14 (fun W hg => yjm_no2 b0 ax cx z0 p0 b1 ay z1.length cy p1 W (HT.out.below hg) (HPx.out.below hg) (by omega) hE0 hE1)
  go_wp2_with fail
  refine C.mono ?_
  rintro e Q15 ⟨he, hb⟩
  clear C ca0 cb0 cc0 ca1 cb1 cc1 hP14
  obtain ⟨bq, aq, lq, kq, eq, cq, rfl, hq⟩ : ∃ b a n k ex c, e = .returned (.tuple #[.agg #[.bool b, .slice a n k, .int .i64 ex], .int .i64 c]) ∧ (b = false ∧ a = none ∧ n = 0 ∧ k = 0 ∧ ex = 0 ∧ c = 80) := ⟨_, _, _, _, _, _, he, rfl, rfl, rfl, rfl, rfl, rfl⟩
  have HQq := hide hq
  obtain ⟨P16, hP16, hbP, hx⟩ := enter1 Q15 (.cells #[.bool bq, .slice aq lq kq, .int .i64 eq] 29)
  have stp := bl_trans8 hb hbP
  replace HA := hide (block_upW stp HA.out)
  replace HB := hide (block_upW stp HB.out)
  replace HX := hide (block_upW stp HX.out)
  replace HY := hide (block_upW stp HY.out)
  replace Hm := hide (block_upW stp Hm.out)
  replace Hn := hide (block_upW stp Hn.out)
  replace Hu := hide (block_upW stp Hu.out)
  replace Hv := hide (block_upW stp Hv.out)
  replace Hp := hide (block_upW stp Hp.out)
  replace HA0 := hide (HA0.out.below stp)
  replace HA1 := hide (HA1.out.below stp)
  replace HT := hide (HT.out.below stp)
  replace HPx := hide (HPx.out.below stp)
  replace HPy := hide (HPy.out.below stp)
  replace HDu := hide (HDu.out.below stp)
  replace HDv := hide (HDv.out.below stp)
  replace HW := hid_below HW stp
  replace HBm := hid_below HBm stp
  have Hq := hide hx
  clear he hq hb hbP hx stp
  obtain ⟨ca0, cb0, cc0⟩ := tri8 HX.out
  obtain ⟨ca1, cb1, cc1⟩ := tri8 HY.out
  have C := ymul_no b0 ax z0.length cx p0 b1 ay z1.length cy p1 P16 (fun W hg => yjt_no2 b0 ax cx z0 p0 b1 ay z1.length cy p1 W (HT.out.below hg) (HPx.out.below hg) (by omega) hE0 hE1)
  go_wp2_with fail
  refine C.mono ?_
  rintro e Q17 ⟨he, hb⟩
  clear C ca0 cb0 cc0 ca1 cb1 cc1 hP16
  obtain ⟨br, ar, lr, kr, er, cr, rfl, hq⟩ : ∃ b a n k ex c, e = .returned (.tuple #[.agg #[.bool b, .slice a n k, .int .i64 ex], .int .i64 c]) ∧ (b = false ∧ a = none ∧ n = 0 ∧ k = 0 ∧ ex = 0 ∧ c = 80) := ⟨_, _, _, _, _, _, he, rfl, rfl, rfl, rfl, rfl, rfl⟩
  have HQr := hide hq
  obtain ⟨P18, hP18, hbP, hx⟩ := enter1 Q17 (.cells #[.bool br, .slice ar lr kr, .int .i64 er] 29)
  have stp := bl_trans8 hb hbP
  replace HA := hide (block_upW stp HA.out)
  replace HB := hide (block_upW stp HB.out)
  replace HX := hide (block_upW stp HX.out)
  replace HY := hide (block_upW stp HY.out)
  replace Hm := hide (block_upW stp Hm.out)
  replace Hn := hide (block_upW stp Hn.out)
  replace Hu := hide (block_upW stp Hu.out)
  replace Hv := hide (block_upW stp Hv.out)
  replace Hp := hide (block_upW stp Hp.out)
  replace Hq := hide (block_upW stp Hq.out)
  replace HA0 := hide (HA0.out.below stp)
  replace HA1 := hide (HA1.out.below stp)
  replace HT := hide (HT.out.below stp)
  replace HPx := hide (HPx.out.below stp)
  replace HPy := hide (HPy.out.below stp)
  replace HDu := hide (HDu.out.below stp)
  replace HDv := hide (HDv.out.below stp)
  replace HW := hid_below HW stp
  replace HBm := hid_below HBm stp
  have Hr := hide hx
  clear he hq hb hbP hx stp
  obtain ⟨m0, m1, m2⟩ := tri8 Hm.out
  have mf := tri8f Hm.out
  obtain ⟨wz, hwz⟩ : ∃ wz9, ((P18.setCell ⟨Q5.heap.size, 0, none⟩ (.bool false)).setCell ⟨Q5.heap.size, 1, none⟩ (.slice none 0 0)).setCell ⟨Q5.heap.size, 2, none⟩ (.int .i64 0) = wz9 := ⟨_, rfl⟩
  replace HA := hide (hwz ▸ tri9_other (.bool false) (.slice none 0 0) (.int .i64 0) HA.out (ne_types HA.out Hm.out (by decide)))
  replace Hu := hide (hwz ▸ tri9_other (.bool false) (.slice none 0 0) (.int .i64 0) Hu.out (ne_types Hu.out Hm.out (by decide)))
  replace Hv := hide (hwz ▸ tri9_other (.bool false) (.slice none 0 0) (.int .i64 0) Hv.out (ne_types Hv.out Hm.out (by decide)))
  replace Hp := hide (hwz ▸ tri9_other (.bool false) (.slice none 0 0) (.int .i64 0) Hp.out (ne_types Hp.out Hm.out (by decide)))
  replace Hq := hide (hwz ▸ tri9_other (.bool false) (.slice none 0 0) (.int .i64 0) Hq.out (ne_types Hq.out Hm.out (by decide)))
  replace Hr := hide (hwz ▸ tri9_other (.bool false) (.slice none 0 0) (.int .i64 0) Hr.out (ne_types Hr.out Hm.out (by decide)))
  replace Hn := hide (hwz ▸ tri9_other (.bool false) (.slice none 0 0) (.int .i64 0) Hn.out (Nat.ne_of_gt hmn))
  replace HDu := hide (hwz ▸ HDu.out.tri8 Hm.out (by decide) (.bool false) (.slice none 0 0) (.int .i64 0))
  replace HDv := hide (hwz ▸ HDv.out.tri8 Hm.out (by decide) (.bool false) (.slice none 0 0) (.int .i64 0))
  replace Hm := hide (hwz ▸ tri8_all Hm.out (.bool false) (.slice none 0 0) (.int .i64 0))
  replace HBm := hide (hwz ▸ below_tri8 HBm.out (Nat.le_refl _) (.bool false) (.slice none 0 0) (.int .i64 0))
  obtain ⟨y0, y1, y2⟩ := tri8 Hn.out
  have yf := tri8f Hn.out
  obtain ⟨wy, hwy⟩ : ∃ wz9, ((wz.setCell ⟨Q7.heap.size, 0, none⟩ (.bool false)).setCell ⟨Q7.heap.size, 1, none⟩ (.slice none 0 0)).setCell ⟨Q7.heap.size, 2, none⟩ (.int .i64 0) = wz9 := ⟨_, rfl⟩
  replace HA := hide (hwy ▸ tri9_other (.bool false) (.slice none 0 0) (.int .i64 0) HA.out (ne_types HA.out Hn.out (by decide)))
  replace Hu := hide (hwy ▸ tri9_other (.bool false) (.slice none 0 0) (.int .i64 0) Hu.out (ne_types Hu.out Hn.out (by decide)))
  replace Hv := hide (hwy ▸ tri9_other (.bool false) (.slice none 0 0) (.int .i64 0) Hv.out (ne_types Hv.out Hn.out (by decide)))
  replace Hp := hide (hwy ▸ tri9_other (.bool false) (.slice none 0 0) (.int .i64 0) Hp.out (ne_types Hp.out Hn.out (by decide)))
  replace Hq := hide (hwy ▸ tri9_other (.bool false) (.slice none 0 0) (.int .i64 0) Hq.out (ne_types Hq.out Hn.out (by decide)))
  replace Hr := hide (hwy ▸ tri9_other (.bool false) (.slice none 0 0) (.int .i64 0) Hr.out (ne_types Hr.out Hn.out (by decide)))
  replace Hm := hide (hwy ▸ tri9_other (.bool false) (.slice none 0 0) (.int .i64 0) Hm.out (Nat.ne_of_lt hmn))
  replace HDu := hide (hwy ▸ HDu.out.tri8 Hn.out (by decide) (.bool false) (.slice none 0 0) (.int .i64 0))
  replace HDv := hide (hwy ▸ HDv.out.tri8 Hn.out (by decide) (.bool false) (.slice none 0 0) (.int .i64 0))
  replace Hn := hide (hwy ▸ tri8_all Hn.out (.bool false) (.slice none 0 0) (.int .i64 0))
  replace HBm := hide (hwy ▸ below_tri8 HBm.out (Nat.le_of_lt hmn) (.bool false) (.slice none 0 0) (.int .i64 0))
  obtain ⟨ca0, cb0, cc0⟩ := tri8 HA.out
  have OC := of8_ok b0 a0 n0 z0 p0 wy (HA0m.out.below HBm.out) (by omega) hE0
  rw [HM0.out, HV0.out] at OC
  go_wp2_with fail
  refine OC.mono ?_
  rintro e t9 ⟨⟨b9, a9, l9, k9, rfl, hd⟩, hb⟩
  clear OC ca0 cb0 cc0 m0 m1 m2 mf y0 y1 y2 yf hwz hwy hP18
  replace HA := hide (block_upW hb HA.out)
  replace Hu := hide (block_upW hb Hu.out)
  replace Hv := hide (block_upW hb Hv.out)
  replace Hp := hide (block_upW hb Hp.out)
  replace Hq := hide (block_upW hb Hq.out)
  replace Hr := hide (block_upW hb Hr.out)
  replace Hm := hide (block_upW hb Hm.out)
  replace Hn := hide (block_upW hb Hn.out)
  replace HDu := hide (HDu.out.below hb)
  replace HDv := hide (HDv.out.below hb)
  replace HBm := hid_below HBm hb
  obtain ⟨m0, m1, m2⟩ := tri8 Hm.out
  have mf := tri8f Hm.out
  have HD9 := hide (hd.tri8 Hm.out b9 a9 l9 k9 (.int .i64 E0))
  obtain ⟨wx, hwx⟩ : ∃ wz9, ((t9.setCell ⟨Q5.heap.size, 0, none⟩ (.bool b9)).setCell ⟨Q5.heap.size, 1, none⟩ (.slice a9 l9 k9)).setCell ⟨Q5.heap.size, 2, none⟩ (.int .i64 E0) = wz9 := ⟨_, rfl⟩
  replace HA := hide (hwx ▸ tri9_other (.bool b9) (.slice a9 l9 k9) (.int .i64 E0) HA.out (ne_types HA.out Hm.out (by decide)))
  replace Hu := hide (hwx ▸ tri9_other (.bool b9) (.slice a9 l9 k9) (.int .i64 E0) Hu.out (ne_types Hu.out Hm.out (by decide)))
  replace Hv := hide (hwx ▸ tri9_other (.bool b9) (.slice a9 l9 k9) (.int .i64 E0) Hv.out (ne_types Hv.out Hm.out (by decide)))
  replace Hp := hide (hwx ▸ tri9_other (.bool b9) (.slice a9 l9 k9) (.int .i64 E0) Hp.out (ne_types Hp.out Hm.out (by decide)))
  replace Hq := hide (hwx ▸ tri9_other (.bool b9) (.slice a9 l9 k9) (.int .i64 E0) Hq.out (ne_types Hq.out Hm.out (by decide)))
  replace Hr := hide (hwx ▸ tri9_other (.bool b9) (.slice a9 l9 k9) (.int .i64 E0) Hr.out (ne_types Hr.out Hm.out (by decide)))
  replace Hn := hide (hwx ▸ tri9_other (.bool b9) (.slice a9 l9 k9) (.int .i64 E0) Hn.out (Nat.ne_of_gt hmn))
  replace HDu := hide (hwx ▸ HDu.out.tri8 Hm.out (by decide) (.bool b9) (.slice a9 l9 k9) (.int .i64 E0))
  replace HDv := hide (hwx ▸ HDv.out.tri8 Hm.out (by decide) (.bool b9) (.slice a9 l9 k9) (.int .i64 E0))
  replace Hm := hide (hwx ▸ tri8_all Hm.out (.bool b9) (.slice a9 l9 k9) (.int .i64 E0))
  replace HBm := hide (hwx ▸ below_tri8 HBm.out (Nat.le_refl _) (.bool b9) (.slice a9 l9 k9) (.int .i64 E0))
  rw [hwx] at HD9
  clear hd hb
  have stp : Below wx.heap.size wx wx.drew := (Below.refl _ _).drew
  replace Hu := hide (block_upW stp Hu.out)
  replace Hv := hide (block_upW stp Hv.out)
  replace Hp := hide (block_upW stp Hp.out)
  replace Hq := hide (block_upW stp Hq.out)
  replace Hr := hide (block_upW stp Hr.out)
  replace Hm := hide (block_upW stp Hm.out)
  replace Hn := hide (block_upW stp Hn.out)
  replace HDu := hide (HDu.out.below stp)
  replace HDv := hide (HDv.out.below stp)
  replace HD9 := hide (HD9.out.below stp)
  replace HBm := hid_below HBm stp
  clear stp
  obtain ⟨LS, hLS⟩ : ∃ LS : List (Nat × Obj), LS = [(Q9.heap.size, .cells #[.bool bu, .slice au lu ku, .int .i64 eu] 29), (Q11.heap.size, .cells #[.bool bv, .slice av lv kv, .int .i64 ev] 29), (Q13.heap.size, .cells #[.bool bp, .slice ap lp kp, .int .i64 ep] 29), (Q15.heap.size, .cells #[.bool bq, .slice aq lq kq, .int .i64 eq] 29), (Q17.heap.size, .cells #[.bool br, .slice ar lr kr, .int .i64 er] 29), (Q5.heap.size, .cells #[.bool b9, .slice a9 l9 k9, .int .i64 E0] 36), (Q7.heap.size, .cells #[.bool false, .slice none 0 0, .int .i64 0] 36)] := ⟨_, rfl⟩
  have s0 : Bx wx.drew LS := by rw [hLS]; exact Bx.cons Hu.out (Bx.cons Hv.out (Bx.cons Hp.out (Bx.cons Hq.out (Bx.cons Hr.out (Bx.cons Hm.out (Bx.cons Hn.out (Bx.nil _)))))))
  have KS := hide (fun (W : World) (h : Bx W LS) => show W.cell? ⟨Q9.heap.size, 0, none⟩ = some (.bool bu) ∧ W.cell? ⟨Q9.heap.size, 1, none⟩ = some (.slice au lu ku) ∧ W.cell? ⟨Q9.heap.size, 2, none⟩ = some (.int .i64 eu) ∧ W.cell? ⟨Q11.heap.size, 0, none⟩ = some (.bool bv) ∧ W.cell? ⟨Q11.heap.size, 1, none⟩ = some (.slice av lv kv) ∧ W.cell? ⟨Q11.heap.size, 2, none⟩ = some (.int .i64 ev) ∧ W.cell? ⟨Q13.heap.size, 0, none⟩ = some (.bool bp) ∧ W.cell? ⟨Q13.heap.size, 1, none⟩ = some (.slice ap lp kp) ∧ W.cell? ⟨Q13.heap.size, 2, none⟩ = some (.int .i64 ep) ∧ W.cell? ⟨Q15.heap.size, 0, none⟩ = some (.bool bq) ∧ W.cell? ⟨Q15.heap.size, 1, none⟩ = some (.slice aq lq kq) ∧ W.cell? ⟨Q15.heap.size, 2, none⟩ = some (.int .i64 eq) ∧ W.cell? ⟨Q17.heap.size, 0, none⟩ = some (.bool br) ∧ W.cell? ⟨Q17.heap.size, 1, none⟩ = some (.slice ar lr kr) ∧ W.cell? ⟨Q17.heap.size, 2, none⟩ = some (.int .i64 er) ∧ W.cell? ⟨Q5.heap.size, 0, none⟩ = some (.bool b9) ∧ W.cell? ⟨Q5.heap.size, 1, none⟩ = some (.slice a9 l9 k9) ∧ W.cell? ⟨Q5.heap.size, 2, none⟩ = some (.int .i64 E0) ∧ W.cell? ⟨Q7.heap.size, 0, none⟩ = some (.bool false) ∧ W.cell? ⟨Q7.heap.size, 1, none⟩ = some (.slice none 0 0) ∧ W.cell? ⟨Q7.heap.size, 2, none⟩ = some (.int .i64 0) by rw [hLS] at h; exact ⟨(tri8 (h 0 _ _ rfl)).1, (tri8 (h 0 _ _ rfl)).2.1, (tri8 (h 0 _ _ rfl)).2.2, (tri8 (h 1 _ _ rfl)).1, (tri8 (h 1 _ _ rfl)).2.1, (tri8 (h 1 _ _ rfl)).2.2, (tri8 (h 2 _ _ rfl)).1, (tri8 (h 2 _ _ rfl)).2.1, (tri8 (h 2 _ _ rfl)).2.2, (tri8 (h 3 _ _ rfl)).1, (tri8 (h 3 _ _ rfl)).2.1, (tri8 (h 3 _ _ rfl)).2.2, (tri8 (h 4 _ _ rfl)).1, (tri8 (h 4 _ _ rfl)).2.1, (tri8 (h 4 _ _ rfl)).2.2, (tri8 (h 5 _ _ rfl)).1, (tri8 (h 5 _ _ rfl)).2.1, (tri8 (h 5 _ _ rfl)).2.2, (tri8 (h 6 _ _ rfl)).1, (tri8 (h 6 _ _ rfl)).2.1, (tri8 (h 6 _ _ rfl)).2.2⟩)
  have g0 : Below wx.drew.heap.size wx.drew wx.drew := Below.refl _ _
  have K1 := hide (fun (W : World) (hg : Below wx.drew.heap.size wx.drew W) => rdNeg_any b9 a9 l9 k9 M0 E0 W (HD9.out.below hg))
  have K3 := hide (fun (W : World) (hg : Below wx.drew.heap.size wx.drew W) => rdAbs_any b9 a9 l9 k9 M0 E0 W (HD9.out.below hg))
  have HAW := hide (fun (W : World) (hg : Below wx.drew.heap.size wx.drew W) => awake8_any W (HTm.out.below (HBm.out.trans (hg.mono HBm.out.size))))
  clear hLS Hu Hv Hp Hq Hr Hm Hn
  go_wp2_with fail
  clear m0 m1 m2 mf hwx
  go_region_held3 (fun w' => w'.cell? ⟨Q9.heap.size, 0, none⟩ = some (.bool bu) ∧ w'.cell? ⟨Q9.heap.size, 1, none⟩ = some (.slice au lu ku) ∧ w'.cell? ⟨Q9.heap.size, 2, none⟩ = some (.int .i64 eu) ∧ w'.cell? ⟨Q11.heap.size, 0, none⟩ = some (.bool bv) ∧ w'.cell? ⟨Q11.heap.size, 1, none⟩ = some (.slice av lv kv) ∧ w'.cell? ⟨Q11.heap.size, 2, none⟩ = some (.int .i64 ev) ∧ w'.cell? ⟨Q13.heap.size, 0, none⟩ = some (.bool bp) ∧ w'.cell? ⟨Q13.heap.size, 1, none⟩ = some (.slice ap lp kp) ∧ w'.cell? ⟨Q13.heap.size, 2, none⟩ = some (.int .i64 ep) ∧ w'.cell? ⟨Q15.heap.size, 0, none⟩ = some (.bool bq) ∧ w'.cell? ⟨Q15.heap.size, 1, none⟩ = some (.slice aq lq kq) ∧ w'.cell? ⟨Q15.heap.size, 2, none⟩ = some (.int .i64 eq) ∧ w'.cell? ⟨Q17.heap.size, 0, none⟩ = some (.bool br) ∧ w'.cell? ⟨Q17.heap.size, 1, none⟩ = some (.slice ar lr kr) ∧ w'.cell? ⟨Q17.heap.size, 2, none⟩ = some (.int .i64 er) ∧ w'.cell? ⟨Q5.heap.size, 0, none⟩ = some (.bool b9) ∧ w'.cell? ⟨Q5.heap.size, 1, none⟩ = some (.slice a9 l9 k9) ∧ w'.cell? ⟨Q5.heap.size, 2, none⟩ = some (.int .i64 E0) ∧ w'.cell? ⟨Q7.heap.size, 0, none⟩ = some (.bool false) ∧ w'.cell? ⟨Q7.heap.size, 1, none⟩ = some (.slice none 0 0) ∧ w'.cell? ⟨Q7.heap.size, 2, none⟩ = some (.int .i64 0)) (first | with_reducible exact KS.out _ s8 | with_reducible exact KS.out _ s7 | with_reducible exact KS.out _ s6 | with_reducible exact KS.out _ s5 | with_reducible exact KS.out _ s4 | with_reducible exact KS.out _ s3 | with_reducible exact KS.out _ s2 | with_reducible exact KS.out _ s1 | with_reducible exact KS.out _ s0) (first
    | (go_at_call 14; refine (HAW.out _ g7).mono ?_; rintro e' t28 ⟨rfl, hb8⟩; have g8 := bl_trans8 g7 hb8; have s8 := s7.below hb8; clear s7)
    | (go_at_call_of 11 ar; refine (alike8_q br ar lr kr er cr false none 0 0 0 t26 HQr.out).mono ?_; rintro e' t27 ⟨rfl, hb7⟩; have g7 := bl_trans8 g6 hb7; have s7 := s6.below hb7; clear s6)
    | (go_at_call_of 11 aq; refine (alike8_q bq aq lq kq eq cq false none 0 0 0 t25 HQq.out).mono ?_; rintro e' t26 ⟨rfl, hb6⟩; have g6 := bl_trans8 g5 hb6; have s6 := s5.below hb6; clear s5)
    | (go_at_call_of 11 ap; refine (alike8_q bp ap lp kp ep cp false none 0 0 0 t24 HQp.out).mono ?_; rintro e' t25 ⟨rfl, hb5⟩; have g5 := bl_trans8 g4 hb5; have s5 := s4.below hb5; clear s4)
    | (go_at_call_of 11 av; refine (alike8_ok bv av lv kv ev cv b23 a23 n23 k23 _ E0 _ t23 (HDv.out.below g3) y3).mono ?_; rintro e' t24 ⟨rfl, hb4⟩; have g4 := bl_trans8 g3 hb4; have s4 := s3.below hb4; clear s3)
    | (go_at_call 13; refine (K3.out _ g2).mono ?_; rintro e' t23 ⟨⟨b23, a23, n23, k23, rfl, y3⟩, hb3⟩; have g3 := bl_trans8 g2 hb3; have s3 := s2.below hb3; clear s2)
    | (go_at_call_of 11 au; refine (alike8_ok bu au lu ku eu cu b21 a21 n21 k21 (-M0) E0 _ t21 (HDu.out.below g1) y1).mono ?_; rintro e' t22 ⟨rfl, hb2⟩; have g2 := bl_trans8 g1 hb2; have s2 := s1.below hb2; clear s1)
    | (go_at_call 12; refine (K1.out _ g0).mono ?_; rintro e' t21 ⟨⟨b21, a21, n21, k21, rfl, y1⟩, hb1⟩; have g1 := bl_trans8 g0 hb1; have s1 := s0.below hb1; clear s0))
  have HFIN := hide (HWm.out.trans ((HBm.out.trans (g8.mono HBm.out.size)).mono HWm.out.size))
  clear hb1 hb2 hb3 hb4 hb5 hb6 hb7 hb8 g0 g1 g2 g3 g4 g5 g6 g7 g8
  go_wp2
  go_ret
  exact ⟨rfl, HFIN.out⟩

end Go.Proofs.YtegbjdjpeblkoaaGreatDoor
