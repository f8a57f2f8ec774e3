/- The walk of the law SpanMakes. -/
import Derived.Test.YtppkhhbhnhijpaaGreatDoorSpPZ
namespace Go.Proofs.YtppkhhbhnhijpaaGreatDoor
open Go.RowKit
open Lm
attribute [local go_sem ↓] Go.wp_at_zero Go.wp_at_succ

set_option maxRecDepth 20000 in
set_option maxHeartbeats 16000000 in
theorem spanMakes_walk (b0 : Bool) (u0 : Value) (z0 : List Nat) (e0 : Int) (b1 : Bool) (u1 : Value) (z1 : List Nat) (e1 : Int) (w : World) (hT : Tab w) (A0 : Arg w u0 z0) (s0 : z0.length ≤ 17592186043904) (_ : -9223372036854775808 ≤ e0) (_ : e0 ≤ 9223372036854775807) (A1 : Arg w u1 z1) (s1 : z1.length ≤ 17592186043904) (_ : -9223372036854775808 ≤ e1) (_ : e1 ≤ 9223372036854775807) :
    Calls Tryz.prog 3 #[.agg #[.bool b0, u0, .int .i64 e0, .bool b1, u1, .int .i64 e1]] w fun e w' => e = .returned (.bool true) ∧ Below w.heap.size w w' := by
  obtain ⟨a0, k0, rfl, _, _, _⟩ := A0.form
  obtain ⟨a1, k1, rfl, _, _, _⟩ := A1.form
  obtain ⟨L, hL⟩ : ∃ L : Nat, 4611686018427387904 ≤ L := ⟨4611686018427387904, Nat.le_refl _⟩
  obtain ⟨w0, hw0, hb0, q0⟩ := enter1 w (.cells #[.bool b0, .slice a0 z0.length k0, .int .i64 e0, .bool b1, .slice a1 z1.length k1, .int .i64 e1] 26)
  have HA0 := hide (A0.below hb0)
  have HA1 := hide (A1.below hb0)
  have HT := hide (hT.below hb0)
  have HS := hide q0
  have HW := hide hb0
  have LL : Hid (4611686018427387904 ≤ L) := hide hL
  clear A0 A1 hT q0 hb0 hL
  obtain ⟨V0, hV0⟩ : ∃ V, vof b0 z0 e0 L = V := ⟨_, rfl⟩
  obtain ⟨V1, hV1⟩ : ∃ V, vof b1 z1 e1 L = V := ⟨_, rfl⟩
  obtain ⟨FL, hFL⟩ : ∃ F, flt e0 e1 V0 V1 = F := ⟨_, rfl⟩
  have EV0 := hide hV0
  have EV1 := hide hV1
  have EFL := hide hFL
  clear hV0 hV1 hFL
  go_enter Tryz.func3, Tryz.ntmps3
  obtain ⟨ca0, ca1, ca2, ca3, ca4, ca5⟩ := hexa HS.out
  have C := lend10_any b0 a0 k0 z0 e0 b1 a1 k1 z1 e1 w0 HA0.out HA1.out (by omega) (by omega)
  go_wp2_with fail
  refine C.mono ?_
  rintro e Q1 ⟨⟨au, mu, nu, av, mv, nv, ax, cx, ay, cy, rfl, l1, l2, l3, l4⟩, hb⟩
  clear C ca0 ca1 ca2 ca3 ca4 ca5 hw0
  obtain ⟨P2, hP2, hbP, hx⟩ := enter1 Q1 (.cells #[.slice au mu nu, .slice av mv nv, .bool b0, .slice ax z0.length cx, .int .i64 e0, .bool b1, .slice ay z1.length cy, .int .i64 e1] 35)
  have stp := bl_trans8 hb hbP
  replace HS := hide (block_upW stp HS.out)
  replace HA0 := hide (HA0.out.below stp)
  replace HA1 := hide (HA1.out.below stp)
  replace HT := hide (HT.out.below stp)
  replace HW := hid_below HW stp
  have HLa := hide (l1.below hbP)
  have HLb := hide (l2.below hbP)
  have HX := hide (l3.below hbP)
  have HY := hide (l4.below hbP)
  have HD := hide hx
  clear stp hbP hx hb l1 l2 l3 l4
  have HLaB := HLa
  have HLbB := HLb
  have HA0B := HA0
  have HA1B := HA1
  have HTB := HT
  have HSB := HS
  have HDB := HD
  have HWB := HW
  have HBB : Hid (Below P2.heap.size P2 P2) := hide (Below.refl _ _)
  obtain ⟨ca0, ca1, ca2, ca3, ca4, ca5, ca6, ca7⟩ := octa HD.out
  have C := smakeV b0 ax cx z0 e0 b1 ay cy z1 e1 L P2 HT.out HX.out HY.out s0 s1 LL.out
  rw [EV0.out, EV1.out, EFL.out] at C
  go_wp2_with fail
  refine C.mono ?_
  rintro e Q3 ⟨⟨p, pa, pn, pk, pe, q, qa, qn, qk, qe, pc, rfl, hs⟩, hb⟩
  clear C ca0 ca1 ca2 ca3 ca4 ca5 ca6 ca7 hP2
  obtain ⟨P4, hP4, hbP, hx⟩ := enter1 Q3 (.cells #[.bool p, .slice pa pn pk, .int .i64 pe, .bool q, .slice qa qn qk, .int .i64 qe] 33)
  have stp := bl_trans8 hb hbP
  replace HS := hide (block_upW stp HS.out)
  replace HD := hide (block_upW stp HD.out)
  replace HA0 := hide (HA0.out.below stp)
  replace HA1 := hide (HA1.out.below stp)
  replace HT := hide (HT.out.below stp)
  replace HLa := hide (HLa.out.below stp)
  replace HLb := hide (HLb.out.below stp)
  replace HX := hide (HX.out.below stp)
  replace HY := hide (HY.out.below stp)
  replace HW := hid_below HW stp
  replace HBB := hid_below HBB stp
  have HPv := hide (hs.below hbP)
  have HP := hide hx
  clear stp hbP hx hb hs
  have HB2 : Hid (Below P4.heap.size P4 P4) := hide (Below.refl _ _)
  have HPB := HPv
  have HBB2 := HBB
  obtain ⟨ca0, ca1, ca2, ca3, ca4, ca5, ca6, ca7⟩ := octa HD.out
  have C := spointV b0 ax cx z0 e0 L P4 HT.out HX.out s0 LL.out
  rw [EV0.out] at C
  go_wp2_with fail
  refine C.mono ?_
  rintro e Q5 ⟨⟨r, ra, rn, rk, re, s, sa, sn, sk, se, rc, rfl, hs⟩, hb⟩
  clear C ca0 ca1 ca2 ca3 ca4 ca5 ca6 ca7 hP4
  obtain ⟨P6, hP6, hbP, hx⟩ := enter1 Q5 (.cells #[.bool r, .slice ra rn rk, .int .i64 re, .bool s, .slice sa sn sk, .int .i64 se] 33)
  have stp := bl_trans8 hb hbP
  replace HS := hide (block_upW stp HS.out)
  replace HD := hide (block_upW stp HD.out)
  replace HP := hide (block_upW stp HP.out)
  replace HA0 := hide (HA0.out.below stp)
  replace HA1 := hide (HA1.out.below stp)
  replace HT := hide (HT.out.below stp)
  replace HLa := hide (HLa.out.below stp)
  replace HLb := hide (HLb.out.below stp)
  replace HX := hide (HX.out.below stp)
  replace HY := hide (HY.out.below stp)
  replace HPv := hide (HPv.out.below stp)
  replace HW := hid_below HW stp
  replace HBB := hid_below HBB stp
  replace HB2 := hid_below HB2 stp
  have HRv := hide (hs.below hbP)
  have HR := hide hx
  clear stp hbP hx hb hs
  obtain ⟨ca0, ca1, ca2, ca3, ca4, ca5⟩ := hexa HS.out
  have C := of10_any b0 a0 k0 z0 e0 b1 a1 k1 z1 e1 L P6 HA0.out HA1.out s0 s1 LL.out
  rw [EV0.out, EV1.out, EFL.out] at C
  go_wp2_with fail
  refine C.mono ?_
  rintro e Q7 ⟨⟨m, ma, mn, mk, me, n, na, nn, nk, ne, rfl, hv1, hv2⟩, hb⟩
  clear C ca0 ca1 ca2 ca3 ca4 ca5 hP6
  obtain ⟨P8, hP8, hbP, hx⟩ := enter1 Q7 (.cells #[.bool m, .slice ma mn mk, .int .i64 me, .bool n, .slice na nn nk, .int .i64 ne] 47)
  have stp := bl_trans8 hb hbP
  replace HS := hide (block_upW stp HS.out)
  replace HD := hide (block_upW stp HD.out)
  replace HP := hide (block_upW stp HP.out)
  replace HR := hide (block_upW stp HR.out)
  replace HA0 := hide (HA0.out.below stp)
  replace HA1 := hide (HA1.out.below stp)
  replace HT := hide (HT.out.below stp)
  replace HLa := hide (HLa.out.below stp)
  replace HLb := hide (HLb.out.below stp)
  replace HX := hide (HX.out.below stp)
  replace HY := hide (HY.out.below stp)
  replace HPv := hide (HPv.out.below stp)
  replace HRv := hide (HRv.out.below stp)
  replace HW := hid_below HW stp
  replace HBB := hid_below HBB stp
  replace HB2 := hid_below HB2 stp
  have HMv := hide (hv1.below hbP)
  have HNv := hide (hv2.below hbP)
  have HM := hide hx
  clear stp hbP hx hb hv1 hv2
  obtain ⟨PY, PZ, hPY, hPZ, hxY, hxZ, hbZ⟩ := zero_box6 P8 47
  have HZ := hide hxZ
  have HBZ := hide hbZ
  have zf := hexaf hxY
  obtain ⟨y0, y1, y2, y3, y4, y5⟩ := hexa hxY
  clear hbZ hxZ hxY
  obtain ⟨c0, c1, c2, c3, c4, c5⟩ := hexa (block_upW HBZ.out HS.out)
  have F := rfits_any e0 PZ
  cases hE : fitE e0
  · skip
    rw [hE] at F HRv
    go_wp2_with fail
    refine F.mono ?_
    rintro e wn ⟨rfl, hw⟩; rw [hw]; clear hw wn F c0 c1 c2 c3 c4 c5 hP8 hPY hPZ zf y0 y1 y2 y3 y4 y5
    have HR9 := hide (show SRV _ _ _ _ _ _ _ _ _ 80 L V0 V0 from HRv.out)
    clear HRv
    have HRv := HR9
    clear HR9
    have hb := HBZ.out
    replace HS := hide (block_upW hb HS.out)
    replace HD := hide (block_upW hb HD.out)
    replace HP := hide (block_upW hb HP.out)
    replace HR := hide (block_upW hb HR.out)
    replace HM := hide (block_upW hb HM.out)
    replace HA0 := hide (HA0.out.below hb)
    replace HA1 := hide (HA1.out.below hb)
    replace HT := hide (HT.out.below hb)
    replace HLa := hide (HLa.out.below hb)
    replace HLb := hide (HLb.out.below hb)
    replace HX := hide (HX.out.below hb)
    replace HY := hide (HY.out.below hb)
    replace HPv := hide (HPv.out.below hb)
    replace HRv := hide (HRv.out.below hb)
    replace HMv := hide (HMv.out.below hb)
    replace HNv := hide (HNv.out.below hb)
    replace HW := hid_below HW hb
    replace HBB := hid_below HBB hb
    replace HB2 := hid_below HB2 hb
    clear hb HBZ
    obtain ⟨ca0, ca1, ca2, ca3, ca4, ca5⟩ := hexa HP.out
    obtain ⟨cb0, cb1, cb2, cb3, cb4, cb5⟩ := hexa HM.out
    have C := alikeV p pa pn pk pe q qa qn qk qe pc FL m ma mn mk me n na nn nk ne L V0 V1 _ PZ HPv.out (fun h => by have g := HMv.out; rw [if_pos h] at g; exact g) (fun h => by have g := HNv.out; rw [if_pos h] at g; exact g)
    go_wp2_with fail
    refine C.mono ?_
    rintro e Q9 ⟨rfl, hb⟩
    clear C ca0 ca1 ca2 ca3 ca4 ca5 cb0 cb1 cb2 cb3 cb4 cb5
    replace HS := hide (block_upW hb HS.out)
    replace HD := hide (block_upW hb HD.out)
    replace HP := hide (block_upW hb HP.out)
    replace HR := hide (block_upW hb HR.out)
    replace HM := hide (block_upW hb HM.out)
    replace HZ := hide (block_upW hb HZ.out)
    replace HA0 := hide (HA0.out.below hb)
    replace HA1 := hide (HA1.out.below hb)
    replace HT := hide (HT.out.below hb)
    replace HLa := hide (HLa.out.below hb)
    replace HLb := hide (HLb.out.below hb)
    replace HX := hide (HX.out.below hb)
    replace HY := hide (HY.out.below hb)
    replace HPv := hide (HPv.out.below hb)
    replace HRv := hide (HRv.out.below hb)
    replace HMv := hide (HMv.out.below hb)
    replace HNv := hide (HNv.out.below hb)
    replace HW := hid_below HW hb
    replace HBB := hid_below HBB hb
    replace HB2 := hid_below HB2 hb
    clear hb
    obtain ⟨ca0, ca1, ca2, ca3, ca4, ca5⟩ := hexa HR.out
    obtain ⟨cb0, cb1, cb2, cb3, cb4, cb5⟩ := hexa HZ.out
    have C := alikeV r ra rn rk re s sa sn sk se rc 80 false none 0 0 0 false none 0 0 0 L V0 V0 _ Q9 HRv.out (fun h => absurd h (by decide)) (fun h => absurd h (by decide))
    go_wp2_with fail
    refine C.mono ?_
    rintro e Q10 ⟨rfl, hb⟩
    clear C ca0 ca1 ca2 ca3 ca4 ca5 cb0 cb1 cb2 cb3 cb4 cb5
    replace HS := hide (block_upW hb HS.out)
    replace HD := hide (block_upW hb HD.out)
    replace HP := hide (block_upW hb HP.out)
    replace HR := hide (block_upW hb HR.out)
    replace HM := hide (block_upW hb HM.out)
    replace HZ := hide (block_upW hb HZ.out)
    replace HA0 := hide (HA0.out.below hb)
    replace HA1 := hide (HA1.out.below hb)
    replace HT := hide (HT.out.below hb)
    replace HLa := hide (HLa.out.below hb)
    replace HLb := hide (HLb.out.below hb)
    replace HX := hide (HX.out.below hb)
    replace HY := hide (HY.out.below hb)
    replace HPv := hide (HPv.out.below hb)
    replace HRv := hide (HRv.out.below hb)
    replace HMv := hide (HMv.out.below hb)
    replace HNv := hide (HNv.out.below hb)
    replace HW := hid_below HW hb
    replace HBB := hid_below HBB hb
    replace HB2 := hid_below HB2 hb
    clear hb
    obtain ⟨d0, d1, d2, d3, d4, d5⟩ := hexa HP.out
    obtain ⟨f0, f1, f2, f3, f4, f5⟩ := hexa HR.out
    obtain ⟨PO, hPO, hbP, hx⟩ := enter1 Q10 (.cells #[.bool p, .slice pa pn pk, .int .i64 pe, .bool q, .slice qa qn qk, .int .i64 qe, .bool r, .slice ra rn rk, .int .i64 re, .bool s, .slice sa sn sk, .int .i64 se] 33)
    obtain ⟨r1, r2, i1, i2, j1, j2, iap⟩ := HPB.out.lists
    obtain ⟨r3, r4, i3, i4, j3, j4, jap⟩ := (HRv.out.below hbP).lists
    have hAp := ((((Aparts.none10 P2 P2.heap.size).two10 HBB2.out (Nat.le_refl _) i1 i2 iap).below (Below.refl _ _)).two10 (bl_trans8 HB2.out hbP) HBB2.out.size i3 i4 jap)
    have C := own10_2 Q10.heap.size p pa pn pk pe q qa qn qk qe r ra rn rk re s sa sn sk se P2.heap.size _ PO hx hAp (by intro rr hr; simp at hr; rcases hr with rfl | rfl | rfl | rfl <;> omega) (by have := (bl_trans8 HBB.out hbP).size; omega)
    have HBO := hide (bl_trans8 HBB.out hbP)
    clear hAp i1 i2 i3 i4 j1 j2 j3 j4 iap jap hbP hx
    go_wp2_with fail
    refine C.mono ?_
    rintro e TO ⟨rfl, hk⟩
    have hb : Below P2.heap.size P2 TO := HBO.out.trans hk.below
    clear C hk d0 d1 d2 d3 d4 d5 f0 f1 f2 f3 f4 f5 hPO
    have HLa2 := hide (HLaB.out.below hb)
    have HLb2 := hide (HLbB.out.below hb)
    have HA02 := hide (HA0B.out.below hb)
    have HA12 := hide (HA1B.out.below hb)
    have HT2 := hide (HTB.out.below hb)
    have HS2 := hide (block_upW hb HSB.out)
    have HD2 := hide (block_upW hb HDB.out)
    have HW2 := hide (bl_trans8 HWB.out hb)
    clear hb
    obtain ⟨ca0, ca1, ca2, ca3, ca4, ca5, ca6, ca7⟩ := octa HD2.out
    obtain ⟨cb0, cb1, cb2, cb3, cb4, cb5⟩ := hexa HS2.out
    have C := kept10_any au mu nu av mv nv b0 ax z0.length cx e0 b1 ay z1.length cy e1 b0 a0 k0 z0 e0 b1 a1 k1 z1 e1 TO HLa2.out HLb2.out HA02.out HA12.out (by omega) (by omega)
    go_wp2_with fail
    refine C.mono ?_
    rintro e Q11 ⟨rfl, hb⟩
    clear C ca0 ca1 ca2 ca3 ca4 ca5 ca6 ca7 cb0 cb1 cb2 cb3 cb4 cb5
    replace HS2 := hide (block_upW hb HS2.out)
    replace HD2 := hide (block_upW hb HD2.out)
    replace HLa2 := hide (HLa2.out.below hb)
    replace HLb2 := hide (HLb2.out.below hb)
    replace HA02 := hide (HA02.out.below hb)
    replace HA12 := hide (HA12.out.below hb)
    replace HT2 := hide (HT2.out.below hb)
    replace HW2 := hid_below HW2 hb
    clear hb
    have C := awake10_any Q11 HT2.out
    go_wp2_with fail
    refine C.mono ?_
    rintro e Q12 ⟨rfl, hb⟩
    clear C 
    replace HS2 := hide (block_upW hb HS2.out)
    replace HD2 := hide (block_upW hb HD2.out)
    replace HLa2 := hide (HLa2.out.below hb)
    replace HLb2 := hide (HLb2.out.below hb)
    replace HA02 := hide (HA02.out.below hb)
    replace HA12 := hide (HA12.out.below hb)
    replace HT2 := hide (HT2.out.below hb)
    replace HW2 := hid_below HW2 hb
    clear hb
    go_wp2
    go_ret
    exact ⟨rfl, HW2.out⟩
  · skip
    rw [hE] at F HRv
    go_wp2_with fail
    refine F.mono ?_
    rintro e wn ⟨rfl, hw⟩; rw [hw]; clear hw wn F c0 c1 c2 c3 c4 c5 hP8 hPY hPZ zf y0 y1 y2 y3 y4 y5
    have HR9 := hide (show SRV _ _ _ _ _ _ _ _ _ 0 L V0 V0 from HRv.out)
    clear HRv
    have HRv := HR9
    clear HR9
    have DY := hide (fun (W : World) (hg : Below P8.heap.size P8 W) => dyadV b0 a0 k0 z0 e0 L W (HA0.out.below hg) s0 hE LL.out)
    rw [EV0.out] at DY
    have KS := hide (fun (W : World) (hg : Below P8.heap.size P8 W) => show W.cell? ⟨w.heap.size, 0, none⟩ = some (.bool b0) ∧ W.cell? ⟨w.heap.size, 1, none⟩ = some (.slice a0 z0.length k0) ∧ W.cell? ⟨w.heap.size, 2, none⟩ = some (.int .i64 e0) ∧ W.cell? ⟨w.heap.size, 3, none⟩ = some (.bool b1) ∧ W.cell? ⟨w.heap.size, 4, none⟩ = some (.slice a1 z1.length k1) ∧ W.cell? ⟨w.heap.size, 5, none⟩ = some (.int .i64 e1) from hexa (block_upW hg HS.out))
    have g0 : Below P8.heap.size P8 PZ.drew := bl_drew10 HBZ.out
    have HZD := hide (show PZ.drew.heap[P8.heap.size]? = some (.cells #[.bool false, .slice none 0 0, .int .i64 0, .bool false, .slice none 0 0, .int .i64 0] 47) from HZ.out)
    go_upto_region 8 with fail
    go_region_held3 (fun w' => w'.cell? ⟨w.heap.size, 0, none⟩ = some (.bool b0) ∧ w'.cell? ⟨w.heap.size, 1, none⟩ = some (.slice a0 z0.length k0) ∧ w'.cell? ⟨w.heap.size, 2, none⟩ = some (.int .i64 e0) ∧ w'.cell? ⟨w.heap.size, 3, none⟩ = some (.bool b1) ∧ w'.cell? ⟨w.heap.size, 4, none⟩ = some (.slice a1 z1.length k1) ∧ w'.cell? ⟨w.heap.size, 5, none⟩ = some (.int .i64 e1)) (first | (refine KS.out _ ?_; first | with_reducible exact g2 | with_reducible exact g1 | with_reducible exact g0 | (with_reducible refine below_hexa g2 (Nat.le_refl _) _ _ _ _ _ _))) (first
      | (go_at_call 12; refine (DY.out _ g1).mono ?_; rintro e' t2 ⟨⟨y, ya, yn, yk, ye, rfl, v6⟩, hb2⟩; have g2 := bl_trans8 g1 hb2; have v5' := v5.below hb2; have hz := block_upW hb2 (block_upW hb1 HZD.out); have hf := hexaf hz; obtain ⟨m0, m1, m2, m3, m4, m5⟩ := hexa hz)
      | (go_at_call 12; refine (DY.out _ g0).mono ?_; rintro e' t1 ⟨⟨x, xa, xn, xk, xe, rfl, v5⟩, hb1⟩; have g1 := bl_trans8 g0 hb1))
    have T3 := hexa_all hz (.bool x) (.slice xa xn xk) (.int .i64 xe) (.bool y) (.slice ya yn yk) (.int .i64 ye)
    have hb := below_hexa g2 (Nat.le_refl _) (.bool x) (.slice xa xn xk) (.int .i64 xe) (.bool y) (.slice ya yn yk) (.int .i64 ye)
    have T5 := v5'.hexa hz x xa xn xk xe y ya yn yk ye
    have T6 := v6.hexa hz x xa xn xk xe y ya yn yk ye
    clear HZ HZD hz hf m0 m1 m2 m3 m4 m5 KS DY g0 g1 g2 hb1 hb2 v5 v6 v5' HBZ
    have HVX := hide T5
    have HVY := hide T6
    have HZ := hide T3
    clear T3 T5 T6
    generalize (((((t2.setCell ⟨P8.heap.size, 0, none⟩ (.bool x)).setCell ⟨P8.heap.size, 1, none⟩ (.slice xa xn xk)).setCell ⟨P8.heap.size, 2, none⟩ (.int .i64 xe)).setCell ⟨P8.heap.size, 3, none⟩ (.bool y)).setCell ⟨P8.heap.size, 4, none⟩ (.slice ya yn yk)).setCell ⟨P8.heap.size, 5, none⟩ (.int .i64 ye) = P6 at *
    replace HS := hide (block_upW hb HS.out)
    replace HD := hide (block_upW hb HD.out)
    replace HP := hide (block_upW hb HP.out)
    replace HR := hide (block_upW hb HR.out)
    replace HM := hide (block_upW hb HM.out)
    replace HA0 := hide (HA0.out.below hb)
    replace HA1 := hide (HA1.out.below hb)
    replace HT := hide (HT.out.below hb)
    replace HLa := hide (HLa.out.below hb)
    replace HLb := hide (HLb.out.below hb)
    replace HX := hide (HX.out.below hb)
    replace HY := hide (HY.out.below hb)
    replace HPv := hide (HPv.out.below hb)
    replace HRv := hide (HRv.out.below hb)
    replace HMv := hide (HMv.out.below hb)
    replace HNv := hide (HNv.out.below hb)
    replace HW := hid_below HW hb
    replace HBB := hid_below HBB hb
    replace HB2 := hid_below HB2 hb
    clear hb
    obtain ⟨ca0, ca1, ca2, ca3, ca4, ca5⟩ := hexa HP.out
    obtain ⟨cb0, cb1, cb2, cb3, cb4, cb5⟩ := hexa HM.out
    have C := alikeV p pa pn pk pe q qa qn qk qe pc FL m ma mn mk me n na nn nk ne L V0 V1 _ P6 HPv.out (fun h => by have g := HMv.out; rw [if_pos h] at g; exact g) (fun h => by have g := HNv.out; rw [if_pos h] at g; exact g)
    go_wp2_with fail
    refine C.mono ?_
    rintro e Q9 ⟨rfl, hb⟩
    clear C ca0 ca1 ca2 ca3 ca4 ca5 cb0 cb1 cb2 cb3 cb4 cb5
    replace HS := hide (block_upW hb HS.out)
    replace HD := hide (block_upW hb HD.out)
    replace HP := hide (block_upW hb HP.out)
    replace HR := hide (block_upW hb HR.out)
    replace HM := hide (block_upW hb HM.out)
    replace HZ := hide (block_upW hb HZ.out)
    replace HA0 := hide (HA0.out.below hb)
    replace HA1 := hide (HA1.out.below hb)
    replace HT := hide (HT.out.below hb)
    replace HLa := hide (HLa.out.below hb)
    replace HLb := hide (HLb.out.below hb)
    replace HX := hide (HX.out.below hb)
    replace HY := hide (HY.out.below hb)
    replace HPv := hide (HPv.out.below hb)
    replace HRv := hide (HRv.out.below hb)
    replace HMv := hide (HMv.out.below hb)
    replace HNv := hide (HNv.out.below hb)
    replace HVX := hide (HVX.out.below hb)
    replace HVY := hide (HVY.out.below hb)
    replace HW := hid_below HW hb
    replace HBB := hid_below HBB hb
    replace HB2 := hid_below HB2 hb
    clear hb
    obtain ⟨ca0, ca1, ca2, ca3, ca4, ca5⟩ := hexa HR.out
    obtain ⟨cb0, cb1, cb2, cb3, cb4, cb5⟩ := hexa HZ.out
    have C := alikeV r ra rn rk re s sa sn sk se rc 0 x xa xn xk xe y ya yn yk ye L V0 V0 _ Q9 HRv.out (fun _ => HVX.out) (fun _ => HVY.out)
    go_wp2_with fail
    refine C.mono ?_
    rintro e Q10 ⟨rfl, hb⟩
    clear C ca0 ca1 ca2 ca3 ca4 ca5 cb0 cb1 cb2 cb3 cb4 cb5
    replace HS := hide (block_upW hb HS.out)
    replace HD := hide (block_upW hb HD.out)
    replace HP := hide (block_upW hb HP.out)
    replace HR := hide (block_upW hb HR.out)
    replace HM := hide (block_upW hb HM.out)
    replace HZ := hide (block_upW hb HZ.out)
    replace HA0 := hide (HA0.out.below hb)
    replace HA1 := hide (HA1.out.below hb)
    replace HT := hide (HT.out.below hb)
    replace HLa := hide (HLa.out.below hb)
    replace HLb := hide (HLb.out.below hb)
    replace HX := hide (HX.out.below hb)
    replace HY := hide (HY.out.below hb)
    replace HPv := hide (HPv.out.below hb)
    replace HRv := hide (HRv.out.below hb)
    replace HMv := hide (HMv.out.below hb)
    replace HNv := hide (HNv.out.below hb)
    replace HVX := hide (HVX.out.below hb)
    replace HVY := hide (HVY.out.below hb)
    replace HW := hid_below HW hb
    replace HBB := hid_below HBB hb
    replace HB2 := hid_below HB2 hb
    clear hb
    obtain ⟨d0, d1, d2, d3, d4, d5⟩ := hexa HP.out
    obtain ⟨f0, f1, f2, f3, f4, f5⟩ := hexa HR.out
    obtain ⟨PO, hPO, hbP, hx⟩ := enter1 Q10 (.cells #[.bool p, .slice pa pn pk, .int .i64 pe, .bool q, .slice qa qn qk, .int .i64 qe, .bool r, .slice ra rn rk, .int .i64 re, .bool s, .slice sa sn sk, .int .i64 se] 33)
    obtain ⟨r1, r2, i1, i2, j1, j2, iap⟩ := HPB.out.lists
    obtain ⟨r3, r4, i3, i4, j3, j4, jap⟩ := (HRv.out.below hbP).lists
    have hAp := ((((Aparts.none10 P2 P2.heap.size).two10 HBB2.out (Nat.le_refl _) i1 i2 iap).below (Below.refl _ _)).two10 (bl_trans8 HB2.out hbP) HBB2.out.size i3 i4 jap)
    have C := own10_2 Q10.heap.size p pa pn pk pe q qa qn qk qe r ra rn rk re s sa sn sk se P2.heap.size _ PO hx hAp (by intro rr hr; simp at hr; rcases hr with rfl | rfl | rfl | rfl <;> omega) (by have := (bl_trans8 HBB.out hbP).size; omega)
    have HBO := hide (bl_trans8 HBB.out hbP)
    clear hAp i1 i2 i3 i4 j1 j2 j3 j4 iap jap hbP hx
    go_wp2_with fail
    refine C.mono ?_
    rintro e TO ⟨rfl, hk⟩
    have hb : Below P2.heap.size P2 TO := HBO.out.trans hk.below
    clear C hk d0 d1 d2 d3 d4 d5 f0 f1 f2 f3 f4 f5 hPO
    have HLa2 := hide (HLaB.out.below hb)
    have HLb2 := hide (HLbB.out.below hb)
    have HA02 := hide (HA0B.out.below hb)
    have HA12 := hide (HA1B.out.below hb)
    have HT2 := hide (HTB.out.below hb)
    have HS2 := hide (block_upW hb HSB.out)
    have HD2 := hide (block_upW hb HDB.out)
    have HW2 := hide (bl_trans8 HWB.out hb)
    clear hb
    obtain ⟨ca0, ca1, ca2, ca3, ca4, ca5, ca6, ca7⟩ := octa HD2.out
    obtain ⟨cb0, cb1, cb2, cb3, cb4, cb5⟩ := hexa HS2.out
    have C := kept10_any au mu nu av mv nv b0 ax z0.length cx e0 b1 ay z1.length cy e1 b0 a0 k0 z0 e0 b1 a1 k1 z1 e1 TO HLa2.out HLb2.out HA02.out HA12.out (by omega) (by omega)
    go_wp2_with fail
    refine C.mono ?_
    rintro e Q11 ⟨rfl, hb⟩
    clear C ca0 ca1 ca2 ca3 ca4 ca5 ca6 ca7 cb0 cb1 cb2 cb3 cb4 cb5
    replace HS2 := hide (block_upW hb HS2.out)
    replace HD2 := hide (block_upW hb HD2.out)
    replace HLa2 := hide (HLa2.out.below hb)
    replace HLb2 := hide (HLb2.out.below hb)
    replace HA02 := hide (HA02.out.below hb)
    replace HA12 := hide (HA12.out.below hb)
    replace HT2 := hide (HT2.out.below hb)
    replace HW2 := hid_below HW2 hb
    clear hb
    have C := awake10_any Q11 HT2.out
    go_wp2_with fail
    refine C.mono ?_
    rintro e Q12 ⟨rfl, hb⟩
    clear C 
    replace HS2 := hide (block_upW hb HS2.out)
    replace HD2 := hide (block_upW hb HD2.out)
    replace HLa2 := hide (HLa2.out.below hb)
    replace HLb2 := hide (HLb2.out.below hb)
    replace HA02 := hide (HA02.out.below hb)
    replace HA12 := hide (HA12.out.below hb)
    replace HT2 := hide (HT2.out.below hb)
    replace HW2 := hid_below HW2 hb
    clear hb
    go_wp2
    go_ret
    exact ⟨rfl, HW2.out⟩

end Go.Proofs.YtppkhhbhnhijpaaGreatDoor
