/- The law SpanWidths: a case of its walk. -/
import Derived.Test.YtolebfnkmjmfnaaGreatDoorB14
import Derived.Deep.CutBlock
import Derived.Deep.DeepCutAuto
namespace Go.Proofs.YtolebfnkmjmfnaaGreatDoor
open Go.RowKit
open Lm
attribute [local go_sem ↓] Go.wp_at_zero Go.wp_at_succ

set_option maxRecDepth 20000 in
set_option maxHeartbeats 16000000 in
theorem spanWidths_D (b0 : Bool) (a0 : Option Addr) (k0 : Nat) (z0 : List Nat) (e0 : Int) (b1 : Bool) (a1 : Option Addr) (k1 : Nat) (z1 : List Nat) (e1 pos : Int) (L : Nat) (V0 V1 : Int) (w : World) (hT : Tab w) (A0 : Arg w (.slice a0 z0.length k0) z0) (A1 : Arg w (.slice a1 z1.length k1) z1) (s0 : z0.length ≤ 1048576) (s1 : z1.length ≤ 1048576) (hL : 4611686018427387904 ≤ L) (hV0 : vof b0 z0 e0 L = V0) (hV1 : vof b1 z1 e1 L = V1) (WW cw : Int) (hFL : flt e0 e1 V0 V1 = 0) (hW : V0 + V1 = 2 * WW) (m0 : Sml L V0) (m1 : Sml L V1) (kw : Code L (V1 + -V0) cw) (VR VC d0 dc d1 MM : Int) (km : Code L WW 0) (hsw : Sml L WW) (hK : fitE pos = true) (hR : rv 0 WW (2 ^ (pos + L).toNat) = VR) (hC : max V0 VR = VC) (hlt : VR < V0) (c0 : Code L V0 d0) (cc : Code L VC dc) (c1 : Code L V1 d1) (hMM : refC (refC d0 dc) (refC dc d1) = MM) :
    Calls Tryz.prog 3 #[.agg #[.bool b0, .slice a0 z0.length k0, .int .i64 e0, .bool b1, .slice a1 z1.length k1, .int .i64 e1], .int .i64 pos] w fun e w' => e = .returned (.bool true) ∧ Below w.heap.size w w' := by
  obtain ⟨w0, hw0, hb0, q0⟩ := enter1 w (.cells #[.bool b0, .slice a0 z0.length k0, .int .i64 e0, .bool b1, .slice a1 z1.length k1, .int .i64 e1] 26)
  have HA0 := hide (A0.below hb0)
  have HA1 := hide (A1.below hb0)
  have HT := hide (hT.below hb0)
  have HS := hide q0
  have HW := hide hb0
  have LL : Hid (4611686018427387904 ≤ L) := hide hL
  have EV0 := hide hV0
  have EV1 := hide hV1
  clear A0 A1 hT q0 hb0 hL hV0 hV1
  have EFL := hide hFL
  have EW := hide hW
  have SM0 := hide m0
  have SM1 := hide m1
  have KW := hide kw
  clear hFL hW m0 m1 kw
  have KM := hide km
  have SMW := hide hsw
  have HK := hide hK
  have ER := hide hR
  have EC : Hid (max V0 (rv 0 WW (2 ^ (pos + L).toNat)) = VC) := hide (by rw [hR]; exact hC)
  have ECV : Hid (V0 = VC) := hide (by omega)
  have K0 := hide c0
  have KC := hide cc
  have K1 := hide c1
  have EMM := hide hMM
  obtain ⟨cz, hcz⟩ : ∃ cz, cmpZ VR V0 = cz := ⟨_, rfl⟩
  have i9 : decide (cz < 0) = true := by
    rw [← hcz]
    exact decide_eq_true (cmpZ_neg.2 hlt)
  have ECZ := hide hcz
  clear km hsw hK hR hC hlt c0 cc c1 hMM hcz
  go_enter Tryz.func3, Tryz.ntmps3
  obtain ⟨ca0, ca1, ca2, ca3, ca4, ca5⟩ := hexa HS.out
  have C := lend10_any b0 a0 k0 z0 e0 b1 a1 k1 z1 e1 w0 HA0.out HA1.out (by omega) (by omega)
  go_wp2_with fail
  refine C.mono ?_
  rintro e Q1 ⟨⟨au, mu, nu, av, mv, nv, ax, cx, ay, cy, rfl, l1, l2, l3, l4⟩, hb⟩
  clear C ca0 ca1 ca2 ca3 ca4 ca5 hw0
  obtain ⟨P2, hP2, hbP, hx⟩ := enter1 Q1 (.cells #[.slice au mu nu, .slice av mv nv, .bool b0, .slice ax z0.length cx, .int .i64 e0, .bool b1, .slice ay z1.length cy, .int .i64 e1] 35)
  have stp := bl_trans8 hb hbP
  replace HS := hide (block_upW stp HS.out)
  replace HA0 := hide (HA0.out.below stp)
  replace HA1 := hide (HA1.out.below stp)
  replace HT := hide (HT.out.below stp)
  replace HW := hid_below HW stp
  have HLa := hide (l1.below hbP)
  have HLb := hide (l2.below hbP)
  have HX := hide (l3.below hbP)
  have HY := hide (l4.below hbP)
  have HD := hide hx
  clear stp hbP hx hb l1 l2 l3 l4
  have HLaB := HLa
  have HLbB := HLb
  have HA0B := HA0
  have HA1B := HA1
  have HTB := HT
  have HSB := HS
  have HDB := HD
  have HWB := HW
  have HBB : Hid (Below P2.heap.size P2 P2) := hide (Below.refl _ _)
  obtain ⟨ca0, ca1, ca2, ca3, ca4, ca5⟩ := hexa HS.out
  have C := of10_any b0 a0 k0 z0 e0 b1 a1 k1 z1 e1 L P2 HA0.out HA1.out (by omega) (by omega) LL.out
  rw [EV0.out, EV1.out, EFL.out] at C
  go_wp2_with fail
  refine C.mono ?_
  rintro e Q3 ⟨⟨m, ma, mn, mk, me, n, na, nn, nk, ne, rfl, hv1, hv2⟩, hb⟩
  clear C ca0 ca1 ca2 ca3 ca4 ca5 hP2
  rw [if_pos rfl] at hv1 hv2
  obtain ⟨P4, hP4, hbP, hx⟩ := enter1 Q3 (.cells #[.bool m, .slice ma mn mk, .int .i64 me, .bool n, .slice na nn nk, .int .i64 ne] 43)
  have stp := bl_trans8 hb hbP
  replace HS := hide (block_upW stp HS.out)
  replace HD := hide (block_upW stp HD.out)
  replace HA0 := hide (HA0.out.below stp)
  replace HA1 := hide (HA1.out.below stp)
  replace HT := hide (HT.out.below stp)
  replace HLa := hide (HLa.out.below stp)
  replace HLb := hide (HLb.out.below stp)
  replace HX := hide (HX.out.below stp)
  replace HY := hide (HY.out.below stp)
  replace HW := hid_below HW stp
  replace HBB := hid_below HBB stp
  have HMv := hide (hv1.below hbP)
  have HNv := hide (hv2.below hbP)
  have HM := hide hx
  clear stp hbP hx hb hv1 hv2
  have HBBP := HBB
  obtain ⟨ca0, ca1, ca2, ca3, ca4, ca5, ca6, ca7⟩ := octa HD.out
  have C := swidthV b0 ax cx z0 e0 b1 ay cy z1 e1 L P4 HT.out HX.out HY.out (by omega) (by omega) LL.out
  rw [EV0.out, EV1.out, EFL.out] at C
  rw [Int.sub_eq_add_neg] at C
  go_wp2_with fail
  refine C.mono ?_
  rintro e Q5 ⟨⟨p, pa, pn, pk, pe, pc, rfl, hs⟩, hb⟩
  clear C ca0 ca1 ca2 ca3 ca4 ca5 ca6 ca7 hP4
  obtain ⟨P6, hP6, hbP, hx⟩ := enter1 Q5 (.cells #[.bool p, .slice pa pn pk, .int .i64 pe] 31)
  have stp := bl_trans8 hb hbP
  replace HS := hide (block_upW stp HS.out)
  replace HD := hide (block_upW stp HD.out)
  replace HM := hide (block_upW stp HM.out)
  replace HA0 := hide (HA0.out.below stp)
  replace HA1 := hide (HA1.out.below stp)
  replace HT := hide (HT.out.below stp)
  replace HLa := hide (HLa.out.below stp)
  replace HLb := hide (HLb.out.below stp)
  replace HX := hide (HX.out.below stp)
  replace HY := hide (HY.out.below stp)
  replace HMv := hide (HMv.out.below stp)
  replace HNv := hide (HNv.out.below stp)
  replace HW := hid_below HW stp
  replace HBB := hid_below HBB stp
  have HPv := hide (hs.below hbP)
  have HP := hide hx
  clear stp hbP hx hb hs
  have HPQ := HPv
  have HBQ : Hid (Below P6.heap.size P6 P6) := hide (Below.refl _ _)
  have HBBQ := HBB
  obtain ⟨ca0, ca1, ca2, ca3, ca4, ca5, ca6, ca7⟩ := octa HD.out
  have C := smidV b0 ax cx z0 e0 b1 ay cy z1 e1 L WW P6 HT.out HX.out HY.out (by omega) (by omega) LL.out (by rw [EV0.out, EV1.out]; exact EW.out)
  rw [EV0.out, EV1.out, EFL.out] at C
  go_wp2_with fail
  refine C.mono ?_
  rintro e Q7 ⟨⟨q, qa, qn, qk, qe, qc, rfl, hs⟩, hb⟩
  clear C ca0 ca1 ca2 ca3 ca4 ca5 ca6 ca7 hP6
  obtain ⟨P8, hP8, hbP, hx⟩ := enter1 Q7 (.cells #[.bool q, .slice qa qn qk, .int .i64 qe] 31)
  have stp := bl_trans8 hb hbP
  replace HS := hide (block_upW stp HS.out)
  replace HD := hide (block_upW stp HD.out)
  replace HM := hide (block_upW stp HM.out)
  replace HP := hide (block_upW stp HP.out)
  replace HA0 := hide (HA0.out.below stp)
  replace HA1 := hide (HA1.out.below stp)
  replace HT := hide (HT.out.below stp)
  replace HLa := hide (HLa.out.below stp)
  replace HLb := hide (HLb.out.below stp)
  replace HX := hide (HX.out.below stp)
  replace HY := hide (HY.out.below stp)
  replace HMv := hide (HMv.out.below stp)
  replace HNv := hide (HNv.out.below stp)
  replace HPv := hide (HPv.out.below stp)
  replace HW := hid_below HW stp
  replace HBB := hid_below HBB stp
  replace HBQ := hid_below HBQ stp
  have HQv := hide (hs.below hbP)
  have HQ := hide hx
  clear stp hbP hx hb hs
  have HQA := HQv
  have HPA := HPv
  have HBA : Hid (Below P8.heap.size P8 P8) := hide (Below.refl _ _)
  have HBBA := HBB
  have HBQA := HBQ
  obtain ⟨ca0, ca1, ca2, ca3, ca4, ca5, ca6, ca7⟩ := octa HD.out
  have C := sapartV_ok b0 ax cx z0 e0 b1 ay cy z1 e1 pos L WW VC d0 dc d1 P8 HT.out HX.out HY.out (by omega) (by omega) LL.out (by rw [EV0.out, EV1.out]; exact EFL.out) HK.out (by rw [EV0.out, EV1.out]; exact EW.out) KM.out (by rw [EV0.out]; exact EC.out) (by rw [EV0.out]; exact K0.out) KC.out (by rw [EV1.out]; exact K1.out)
  rw [EV0.out, EV1.out, EMM.out] at C
  go_wp2_with fail
  refine C.mono ?_
  rintro e Q9 ⟨u, ua, un, uk, ue, v, va, vn, vk, ve, x, xa, xn, xk, xe, y, ya, yn, yk, ye, rfl, hap⟩
  clear C ca0 ca1 ca2 ca3 ca4 ca5 ca6 ca7 hP8
  have hb := hap.2.2.2
  obtain ⟨P10, hP10, hbP, hx, hx2⟩ := enter2 Q9 (.cells #[.bool u, .slice ua un uk, .int .i64 ue, .bool v, .slice va vn vk, .int .i64 ve] 33) (.cells #[.bool x, .slice xa xn xk, .int .i64 xe, .bool y, .slice ya yn yk, .int .i64 ye] 33)
  have stp := bl_trans8 hb hbP
  replace HS := hide (block_upW stp HS.out)
  replace HD := hide (block_upW stp HD.out)
  replace HM := hide (block_upW stp HM.out)
  replace HP := hide (block_upW stp HP.out)
  replace HQ := hide (block_upW stp HQ.out)
  replace HA0 := hide (HA0.out.below stp)
  replace HA1 := hide (HA1.out.below stp)
  replace HT := hide (HT.out.below stp)
  replace HLa := hide (HLa.out.below stp)
  replace HLb := hide (HLb.out.below stp)
  replace HX := hide (HX.out.below stp)
  replace HY := hide (HY.out.below stp)
  replace HMv := hide (HMv.out.below stp)
  replace HNv := hide (HNv.out.below stp)
  replace HPv := hide (HPv.out.below stp)
  replace HQv := hide (HQv.out.below stp)
  replace HW := hid_below HW stp
  replace HBB := hid_below HBB stp
  replace HBQ := hid_below HBQ stp
  replace HBA := hid_below HBA stp
  have HAP := hide (hap.below hbP)
  have HU := hide hx
  have HV := hide hx2
  clear stp hbP hx hx2 hb hap
  obtain ⟨P11, hP11, hbP, hx⟩ := enter1 P10 (.cells #[.int .i64 0] 3)
  have C := lworst1 P10.heap.size 0 pos P11 hx
  rw [show fltAt 0 pos = 0 by unfold fltAt; rw [if_pos rfl, if_pos HK.out]] at C
  go_wp2_with fail
  refine C.mono ?_
  rintro e wn ⟨rfl, hw⟩; rw [hw]; clear hw wn
  replace HS := hide (block_upW hbP HS.out)
  replace HD := hide (block_upW hbP HD.out)
  replace HM := hide (block_upW hbP HM.out)
  replace HP := hide (block_upW hbP HP.out)
  replace HQ := hide (block_upW hbP HQ.out)
  replace HU := hide (block_upW hbP HU.out)
  replace HV := hide (block_upW hbP HV.out)
  replace HA0 := hide (HA0.out.below hbP)
  replace HA1 := hide (HA1.out.below hbP)
  replace HT := hide (HT.out.below hbP)
  replace HLa := hide (HLa.out.below hbP)
  replace HLb := hide (HLb.out.below hbP)
  replace HX := hide (HX.out.below hbP)
  replace HY := hide (HY.out.below hbP)
  replace HMv := hide (HMv.out.below hbP)
  replace HNv := hide (HNv.out.below hbP)
  replace HPv := hide (HPv.out.below hbP)
  replace HQv := hide (HQv.out.below hbP)
  replace HAP := hide (HAP.out.below hbP)
  replace HW := hid_below HW hbP
  replace HBB := hid_below HBB hbP
  replace HBQ := hid_below HBQ hbP
  replace HBA := hid_below HBA hbP
  clear C hx hbP hP11 hP10
  have NEG := hide (fun (W : World) (hg : Below P11.heap.size P11 W) => rnegV m ma mn mk me L V0 W (HMv.out.below hg))
  have SUM := hide (fun (W : World) (b5 : Bool) (a5 : Option Addr) (n5 k5 : Nat) (e5 : Int) (h5 : V8 W b5 a5 n5 k5 e5 L (-V0)) (hg : Below P11.heap.size P11 W) => rsumV n na nn nk ne b5 a5 n5 k5 e5 L V1 (-V0) cw W (HNv.out.below hg) h5 SM1.out SM0.out.neg KW.out)
  have KS := hide (fun (W : World) (hg : Below P11.heap.size P11 W) => show W.cell? ⟨Q3.heap.size, 0, none⟩ = some (.bool m) ∧ W.cell? ⟨Q3.heap.size, 1, none⟩ = some (.slice ma mn mk) ∧ W.cell? ⟨Q3.heap.size, 2, none⟩ = some (.int .i64 me) ∧ W.cell? ⟨Q3.heap.size, 3, none⟩ = some (.bool n) ∧ W.cell? ⟨Q3.heap.size, 4, none⟩ = some (.slice na nn nk) ∧ W.cell? ⟨Q3.heap.size, 5, none⟩ = some (.int .i64 ne) from hexa (block_upW hg HM.out))
  have g0 : Below P11.heap.size P11 P11 := Below.refl _ _
  go_upto_region 9 with fail
  go_cut [16, 17] from 86 to 93 (fun s t wx => OneC P11 L (V1 + -V0) cw s t wx)
  case first =>
    go_region_held3 (fun w' => w'.cell? ⟨Q3.heap.size, 0, none⟩ = some (.bool m) ∧ w'.cell? ⟨Q3.heap.size, 1, none⟩ = some (.slice ma mn mk) ∧ w'.cell? ⟨Q3.heap.size, 2, none⟩ = some (.int .i64 me) ∧ w'.cell? ⟨Q3.heap.size, 3, none⟩ = some (.bool n) ∧ w'.cell? ⟨Q3.heap.size, 4, none⟩ = some (.slice na nn nk) ∧ w'.cell? ⟨Q3.heap.size, 5, none⟩ = some (.int .i64 ne)) (first | (refine KS.out _ ?_; repeat (first | with_reducible assumption | with_reducible exact Below.refl _ _ | with_reducible apply bl_alloc10 | with_reducible apply bl_drew10 | (with_reducible refine below_tri8 ?_ (by omega) _ _ _)))) (first
      | (go_at_call 13; refine (SUM.out _ b5 a5 n5 k5 e5 (y5.below (by repeat (first | with_reducible exact Below.refl _ _ | with_reducible apply bl_alloc10))) (by repeat (first | with_reducible exact g1 | with_reducible apply bl_alloc10))).mono ?_; rintro e' t2 ⟨⟨bd, ad, ld, kd, ed, rfl, hs⟩, hb2⟩; have g2 : Below P11.heap.size P11 t2 := bl_trans8 (by repeat (first | with_reducible exact g1 | with_reducible apply bl_alloc10)) hb2; have hle1 := g1.size; (first | (with_reducible have hq := made10 hb2; obtain ⟨z0c, z1c, z2c⟩ := tri8 hq; have zf := tri8f hq) | (with_reducible have hq := block_upW hb2 hpA; obtain ⟨z0c, z1c, z2c⟩ := tri8 hq; have zf := tri8f hq) | skip))
      | (go_at_call 14; refine (NEG.out _ (by repeat (first | with_reducible exact Below.refl _ _ | with_reducible apply bl_alloc10 | with_reducible apply bl_drew10))).mono ?_; rintro e' t1 ⟨⟨b5, a5, n5, k5, e5, rfl, y5⟩, hb1⟩; have g1 : Below P11.heap.size P11 t1 := bl_trans8 (by repeat (first | with_reducible exact Below.refl _ _ | with_reducible apply bl_alloc10 | with_reducible apply bl_drew10)) hb1; (first | (with_reducible have hpA := made10d hb1) | (with_reducible have hpA := made10 hb1) | skip)))
    all_goals (go_wp2_with fail; go_meet; first
      | with_reducible exact one_c hs g2
      | with_reducible exact one_cs hq hle1 hs g2
      | with_reducible exact one_cs hq (Nat.le_refl _) hs g2)
  case rest =>
    obtain ⟨gd, d, da, dn, dk, de, rfl, rfl, hX, hS, hbx⟩ := hcut
    clear NEG SUM KS g0
    replace HS := hide (block_upW hbx HS.out)
    replace HD := hide (block_upW hbx HD.out)
    replace HM := hide (block_upW hbx HM.out)
    replace HP := hide (block_upW hbx HP.out)
    replace HQ := hide (block_upW hbx HQ.out)
    replace HU := hide (block_upW hbx HU.out)
    replace HV := hide (block_upW hbx HV.out)
    replace HA0 := hide (HA0.out.below hbx)
    replace HA1 := hide (HA1.out.below hbx)
    replace HT := hide (HT.out.below hbx)
    replace HLa := hide (HLa.out.below hbx)
    replace HLb := hide (HLb.out.below hbx)
    replace HX := hide (HX.out.below hbx)
    replace HY := hide (HY.out.below hbx)
    replace HMv := hide (HMv.out.below hbx)
    replace HNv := hide (HNv.out.below hbx)
    replace HPv := hide (HPv.out.below hbx)
    replace HQv := hide (HQv.out.below hbx)
    replace HAP := hide (HAP.out.below hbx)
    replace HW := hid_below HW hbx
    replace HBB := hid_below HBB hbx
    replace HBQ := hid_below HBQ hbx
    replace HBA := hid_below HBA hbx
    have Hd := hide hX
    have HSd : Hid (V8if cw wc d da dn dk de L (V1 + -V0)) := hide hS
    clear hX hS hbx
    obtain ⟨ca0, ca1, ca2, ca3, ca4, ca5⟩ := hexa HM.out
    have C := rmidV m ma mn mk me n na nn nk ne L V0 V1 WW 0 wc HMv.out HNv.out SM0.out SM1.out EW.out KM.out LL.out
    go_wp2_with fail
    refine C.mono ?_
    rintro e Q12 ⟨⟨c, ca, cn, ck, ce, rfl, hs⟩, hb⟩
    clear C ca0 ca1 ca2 ca3 ca4 ca5
    replace hs : V8if 0 Q12 c ca cn ck ce L WW := hs
    obtain ⟨P13, hP13, hbP, hx⟩ := enter1 Q12 (.cells #[.bool c, .slice ca cn ck, .int .i64 ce] 41)
    have stp := bl_trans8 hb hbP
    replace HS := hide (block_upW stp HS.out)
    replace HD := hide (block_upW stp HD.out)
    replace HM := hide (block_upW stp HM.out)
    replace HP := hide (block_upW stp HP.out)
    replace HQ := hide (block_upW stp HQ.out)
    replace HU := hide (block_upW stp HU.out)
    replace HV := hide (block_upW stp HV.out)
    replace Hd := hide (block_upW stp Hd.out)
    replace HA0 := hide (HA0.out.below stp)
    replace HA1 := hide (HA1.out.below stp)
    replace HT := hide (HT.out.below stp)
    replace HLa := hide (HLa.out.below stp)
    replace HLb := hide (HLb.out.below stp)
    replace HX := hide (HX.out.below stp)
    replace HY := hide (HY.out.below stp)
    replace HMv := hide (HMv.out.below stp)
    replace HNv := hide (HNv.out.below stp)
    replace HPv := hide (HPv.out.below stp)
    replace HQv := hide (HQv.out.below stp)
    replace HAP := hide (HAP.out.below stp)
    replace HSd := hide (HSd.out.below stp)
    replace HW := hid_below HW stp
    replace HBB := hid_below HBB stp
    replace HBQ := hid_below HBQ stp
    replace HBA := hid_below HBA stp
    have HSc := hide (hs.below hbP)
    have HKb := hide hx
    clear stp hbP hx hb hs
    obtain ⟨ca0, ca1, ca2⟩ := tri8 HP.out
    obtain ⟨cb0, cb1, cb2⟩ := tri8 Hd.out
    have C := oneR p pa pn pk pe pc cw d da dn dk de L _ _ P13 HPv.out KW.out HSd.out
    go_wp2_with fail
    refine C.mono ?_
    rintro e Q14 ⟨rfl, hb⟩
    clear C ca0 ca1 ca2 cb0 cb1 cb2 hP13
    replace HS := hide (block_upW hb HS.out)
    replace HD := hide (block_upW hb HD.out)
    replace HM := hide (block_upW hb HM.out)
    replace HP := hide (block_upW hb HP.out)
    replace HQ := hide (block_upW hb HQ.out)
    replace HU := hide (block_upW hb HU.out)
    replace HV := hide (block_upW hb HV.out)
    replace Hd := hide (block_upW hb Hd.out)
    replace HKb := hide (block_upW hb HKb.out)
    replace HA0 := hide (HA0.out.below hb)
    replace HA1 := hide (HA1.out.below hb)
    replace HT := hide (HT.out.below hb)
    replace HLa := hide (HLa.out.below hb)
    replace HLb := hide (HLb.out.below hb)
    replace HX := hide (HX.out.below hb)
    replace HY := hide (HY.out.below hb)
    replace HMv := hide (HMv.out.below hb)
    replace HNv := hide (HNv.out.below hb)
    replace HPv := hide (HPv.out.below hb)
    replace HQv := hide (HQv.out.below hb)
    replace HAP := hide (HAP.out.below hb)
    replace HSd := hide (HSd.out.below hb)
    replace HSc := hide (HSc.out.below hb)
    replace HW := hid_below HW hb
    replace HBB := hid_below HBB hb
    replace HBQ := hid_below HBQ hb
    replace HBA := hid_below HBA hb
    clear hb
    obtain ⟨ca0, ca1, ca2⟩ := tri8 HQ.out
    obtain ⟨cb0, cb1, cb2⟩ := tri8 HKb.out
    have C := oneR q qa qn qk qe qc 0 c ca cn ck ce L _ _ Q14 HQv.out KM.out HSc.out
    go_wp2_with fail
    refine C.mono ?_
    rintro e Q15 ⟨rfl, hb⟩
    clear C ca0 ca1 ca2 cb0 cb1 cb2
    replace HS := hide (block_upW hb HS.out)
    replace HD := hide (block_upW hb HD.out)
    replace HM := hide (block_upW hb HM.out)
    replace HP := hide (block_upW hb HP.out)
    replace HQ := hide (block_upW hb HQ.out)
    replace HU := hide (block_upW hb HU.out)
    replace HV := hide (block_upW hb HV.out)
    replace Hd := hide (block_upW hb Hd.out)
    replace HKb := hide (block_upW hb HKb.out)
    replace HA0 := hide (HA0.out.below hb)
    replace HA1 := hide (HA1.out.below hb)
    replace HT := hide (HT.out.below hb)
    replace HLa := hide (HLa.out.below hb)
    replace HLb := hide (HLb.out.below hb)
    replace HX := hide (HX.out.below hb)
    replace HY := hide (HY.out.below hb)
    replace HMv := hide (HMv.out.below hb)
    replace HNv := hide (HNv.out.below hb)
    replace HPv := hide (HPv.out.below hb)
    replace HQv := hide (HQv.out.below hb)
    replace HAP := hide (HAP.out.below hb)
    replace HSd := hide (HSd.out.below hb)
    replace HSc := hide (HSc.out.below hb)
    replace HW := hid_below HW hb
    replace HBB := hid_below HBB hb
    replace HBQ := hid_below HBQ hb
    replace HBA := hid_below HBA hb
    clear hb
    obtain ⟨ca0, ca1, ca2, ca3, ca4, ca5, ca6, ca7⟩ := octa HD.out
    obtain ⟨cb0, cb1, cb2, cb3, cb4, cb5⟩ := hexa HS.out
    have C := kept10_any au mu nu av mv nv b0 ax z0.length cx e0 b1 ay z1.length cy e1 b0 a0 k0 z0 e0 b1 a1 k1 z1 e1 Q15 HLa.out HLb.out HA0.out HA1.out (by omega) (by omega)
    go_wp2_with fail
    refine C.mono ?_
    rintro e Q16 ⟨rfl, hb⟩
    clear C ca0 ca1 ca2 ca3 ca4 ca5 ca6 ca7 cb0 cb1 cb2 cb3 cb4 cb5
    replace HS := hide (block_upW hb HS.out)
    replace HD := hide (block_upW hb HD.out)
    replace HM := hide (block_upW hb HM.out)
    replace HP := hide (block_upW hb HP.out)
    replace HQ := hide (block_upW hb HQ.out)
    replace HU := hide (block_upW hb HU.out)
    replace HV := hide (block_upW hb HV.out)
    replace Hd := hide (block_upW hb Hd.out)
    replace HKb := hide (block_upW hb HKb.out)
    replace HA0 := hide (HA0.out.below hb)
    replace HA1 := hide (HA1.out.below hb)
    replace HT := hide (HT.out.below hb)
    replace HLa := hide (HLa.out.below hb)
    replace HLb := hide (HLb.out.below hb)
    replace HX := hide (HX.out.below hb)
    replace HY := hide (HY.out.below hb)
    replace HMv := hide (HMv.out.below hb)
    replace HNv := hide (HNv.out.below hb)
    replace HPv := hide (HPv.out.below hb)
    replace HQv := hide (HQv.out.below hb)
    replace HAP := hide (HAP.out.below hb)
    replace HSd := hide (HSd.out.below hb)
    replace HSc := hide (HSc.out.below hb)
    replace HW := hid_below HW hb
    replace HBB := hid_below HBB hb
    replace HBQ := hid_below HBQ hb
    replace HBA := hid_below HBA hb
    clear hb
    obtain ⟨PY, PZ, hPY, hPZ, hxY, hxZ, hbZ⟩ := zero_box3w Q16 41
    have HZ := hide hxZ
    have HBZ := hide hbZ
    have zf := tri8f hxY
    obtain ⟨y0, y1, y2⟩ := tri8 hxY
    clear hbZ hxZ hxY
    obtain ⟨c0, c1, c2⟩ := tri8 (block_upW HBZ.out HKb.out)
    have C := rroundV c ca cn ck ce pos L WW PZ ((HSc.out rfl).below HBZ.out) SMW.out HK.out LL.out
    rw [ER.out] at C
    go_wp2_with fail
    refine C.mono ?_
    rintro e TR ⟨⟨r, ra, rn, rk, re, rfl, hv⟩, hb⟩
    have hz := block_upW hb HZ.out
    have hzf := tri8f hz
    obtain ⟨n0, n1, n2⟩ := tri8 hz
    have hU := below_tri8 (bl_trans8 HBZ.out hb) (Nat.le_refl _) (.bool r) (.slice ra rn rk) (.int .i64 re)
    have hz2 := tri8_all hz (.bool r) (.slice ra rn rk) (.int .i64 re)
    have hv2 := hv.tri8 hz r ra rn rk (.int .i64 re)
    obtain ⟨TS, hTS⟩ : ∃ TS, ((TR.setCell ⟨Q16.heap.size, 0, none⟩ (.bool r)).setCell ⟨Q16.heap.size, 1, none⟩ (.slice ra rn rk)).setCell ⟨Q16.heap.size, 2, none⟩ (.int .i64 re) = TS := ⟨_, rfl⟩
    rw [hTS] at hU hz2 hv2
    have HU1 := hide hU
    have HZ1 := hide hz2
    have HV1 := hide hv2
    have C := hv2.cmp (HMv.out.below hU)
    rw [ECZ.out] at C
    clear hz hb hv hU hz2 hv2 c0 c1 c2 HBZ HZ hPY hPZ zf y0 y1 y2
    obtain ⟨o0, o1, o2⟩ := tri8 HZ1.out
    obtain ⟨c0, c1, c2, c3, c4, c5⟩ := hexa (block_upW HU1.out HM.out)
    go_wp2_with fail
    refine C.mono ?_
    rintro e TC ⟨rfl, hb⟩
    have HU2 := hide (bl_trans8 HU1.out hb)
    have HZ2 := hide (block_upW hb HZ1.out)
    have HV2 := hide (HV1.out.below hb)
    clear C hb o0 o1 o2 c0 c1 c2 c3 c4 c5 hzf n0 n1 n2 hTS HU1 HZ1 HV1
    have hzf := tri8f HZ2.out
    obtain ⟨n0, n1, n2⟩ := tri8 HZ2.out
    obtain ⟨c0, c1, c2, c3, c4, c5⟩ := hexa (block_upW HU2.out HM.out)
    have hU := below_tri8 HU2.out (Nat.le_refl _) (.bool m) (.slice ma mn mk) (.int .i64 me)
    have hz2 := tri8_all HZ2.out (.bool m) (.slice ma mn mk) (.int .i64 me)
    obtain ⟨TD, hTD⟩ : ∃ TD, ((TC.setCell ⟨Q16.heap.size, 0, none⟩ (.bool m)).setCell ⟨Q16.heap.size, 1, none⟩ (.slice ma mn mk)).setCell ⟨Q16.heap.size, 2, none⟩ (.int .i64 me) = TD := ⟨_, rfl⟩
    rw [hTD] at hU hz2
    have hb := hU
    clear HU2 HZ2 HV2 hU
    replace HS := hide (block_upW hb HS.out)
    replace HD := hide (block_upW hb HD.out)
    replace HM := hide (block_upW hb HM.out)
    replace HP := hide (block_upW hb HP.out)
    replace HQ := hide (block_upW hb HQ.out)
    replace HU := hide (block_upW hb HU.out)
    replace HV := hide (block_upW hb HV.out)
    replace Hd := hide (block_upW hb Hd.out)
    replace HKb := hide (block_upW hb HKb.out)
    replace HA0 := hide (HA0.out.below hb)
    replace HA1 := hide (HA1.out.below hb)
    replace HT := hide (HT.out.below hb)
    replace HLa := hide (HLa.out.below hb)
    replace HLb := hide (HLb.out.below hb)
    replace HX := hide (HX.out.below hb)
    replace HY := hide (HY.out.below hb)
    replace HMv := hide (HMv.out.below hb)
    replace HNv := hide (HNv.out.below hb)
    replace HPv := hide (HPv.out.below hb)
    replace HQv := hide (HQv.out.below hb)
    replace HAP := hide (HAP.out.below hb)
    replace HSd := hide (HSd.out.below hb)
    replace HSc := hide (HSc.out.below hb)
    replace HW := hid_below HW hb
    replace HBB := hid_below HBB hb
    replace HBQ := hid_below HBQ hb
    replace HBA := hid_below HBA hb
    have HZ := hide hz2
    clear hz2 hb
    have HZv := HMv
    rw [ECV.out] at HZv
    obtain ⟨x0, x1, x2⟩ := tri8 HZ.out
    obtain ⟨s0c, s1c, s2c, s3c, s4c, s5c⟩ := hexa HM.out
    obtain ⟨PB, hPB, hbP, hx⟩ := enter1 TD (.cells #[.bool m, .slice ma mn mk, .int .i64 me, .bool m, .slice ma mn mk, .int .i64 me, .bool n, .slice na nn nk, .int .i64 ne] 41)
    have C := rbad3 TD.heap.size m ma mn mk me m ma mn mk me n na nn nk ne L V0 VC V1 d0 dc d1 PB hx (HMv.out.below hbP) (HZv.out.below hbP) (HNv.out.below hbP) K0.out KC.out K1.out
    rw [EMM.out] at C
    go_wp2_with fail
    refine C.mono ?_
    rintro e TB ⟨rfl, hb9⟩
    have hb := bl_trans8 hbP hb9
    clear C hx hbP hb9 hPB x0 x1 x2 s0c s1c s2c s3c s4c s5c hTD hzf n0 n1 n2 c0 c1 c2 c3 c4 c5
    replace HS := hide (block_upW hb HS.out)
    replace HD := hide (block_upW hb HD.out)
    replace HM := hide (block_upW hb HM.out)
    replace HP := hide (block_upW hb HP.out)
    replace HQ := hide (block_upW hb HQ.out)
    replace HU := hide (block_upW hb HU.out)
    replace HV := hide (block_upW hb HV.out)
    replace Hd := hide (block_upW hb Hd.out)
    replace HKb := hide (block_upW hb HKb.out)
    replace HZ := hide (block_upW hb HZ.out)
    replace HA0 := hide (HA0.out.below hb)
    replace HA1 := hide (HA1.out.below hb)
    replace HT := hide (HT.out.below hb)
    replace HLa := hide (HLa.out.below hb)
    replace HLb := hide (HLb.out.below hb)
    replace HX := hide (HX.out.below hb)
    replace HY := hide (HY.out.below hb)
    replace HMv := hide (HMv.out.below hb)
    replace HNv := hide (HNv.out.below hb)
    replace HPv := hide (HPv.out.below hb)
    replace HQv := hide (HQv.out.below hb)
    replace HAP := hide (HAP.out.below hb)
    replace HSd := hide (HSd.out.below hb)
    replace HSc := hide (HSc.out.below hb)
    replace HZv := hide (HZv.out.below hb)
    replace HW := hid_below HW hb
    replace HBB := hid_below HBB hb
    replace HBQ := hid_below HBQ hb
    replace HBA := hid_below HBA hb
    clear hb
    obtain ⟨ca0, ca1, ca2, ca3, ca4, ca5⟩ := hexa HU.out
    obtain ⟨cb0, cb1, cb2, cb3, cb4, cb5⟩ := hexa HM.out
    obtain ⟨cc0, cc1, cc2⟩ := tri8 HZ.out
    have C := alikeV u ua un uk ue v va vn vk ve MM MM m ma mn mk me m ma mn mk me L _ _ _ TB HAP.out.1 (fun _ => HMv.out) (fun _ => HZv.out)
    go_wp2_with fail
    refine C.mono ?_
    rintro e Q17 ⟨rfl, hb⟩
    clear C ca0 ca1 ca2 ca3 ca4 ca5 cb0 cb1 cb2 cb3 cb4 cb5 cc0 cc1 cc2
    replace HS := hide (block_upW hb HS.out)
    replace HD := hide (block_upW hb HD.out)
    replace HM := hide (block_upW hb HM.out)
    replace HP := hide (block_upW hb HP.out)
    replace HQ := hide (block_upW hb HQ.out)
    replace HU := hide (block_upW hb HU.out)
    replace HV := hide (block_upW hb HV.out)
    replace Hd := hide (block_upW hb Hd.out)
    replace HKb := hide (block_upW hb HKb.out)
    replace HZ := hide (block_upW hb HZ.out)
    replace HA0 := hide (HA0.out.below hb)
    replace HA1 := hide (HA1.out.below hb)
    replace HT := hide (HT.out.below hb)
    replace HLa := hide (HLa.out.below hb)
    replace HLb := hide (HLb.out.below hb)
    replace HX := hide (HX.out.below hb)
    replace HY := hide (HY.out.below hb)
    replace HMv := hide (HMv.out.below hb)
    replace HNv := hide (HNv.out.below hb)
    replace HPv := hide (HPv.out.below hb)
    replace HQv := hide (HQv.out.below hb)
    replace HAP := hide (HAP.out.below hb)
    replace HSd := hide (HSd.out.below hb)
    replace HSc := hide (HSc.out.below hb)
    replace HZv := hide (HZv.out.below hb)
    replace HW := hid_below HW hb
    replace HBB := hid_below HBB hb
    replace HBQ := hid_below HBQ hb
    replace HBA := hid_below HBA hb
    clear hb
    obtain ⟨ca0, ca1, ca2, ca3, ca4, ca5⟩ := hexa HV.out
    obtain ⟨cb0, cb1, cb2⟩ := tri8 HZ.out
    obtain ⟨cc0, cc1, cc2, cc3, cc4, cc5⟩ := hexa HM.out
    have C := alikeV x xa xn xk xe y ya yn yk ye MM MM m ma mn mk me n na nn nk ne L _ _ _ Q17 HAP.out.2.1 (fun _ => HZv.out) (fun _ => HNv.out)
    go_wp2_with fail
    refine C.mono ?_
    rintro e Q18 ⟨rfl, hb⟩
    clear C ca0 ca1 ca2 ca3 ca4 ca5 cb0 cb1 cb2 cc0 cc1 cc2 cc3 cc4 cc5
    replace HS := hide (block_upW hb HS.out)
    replace HD := hide (block_upW hb HD.out)
    replace HM := hide (block_upW hb HM.out)
    replace HP := hide (block_upW hb HP.out)
    replace HQ := hide (block_upW hb HQ.out)
    replace HU := hide (block_upW hb HU.out)
    replace HV := hide (block_upW hb HV.out)
    replace Hd := hide (block_upW hb Hd.out)
    replace HKb := hide (block_upW hb HKb.out)
    replace HZ := hide (block_upW hb HZ.out)
    replace HA0 := hide (HA0.out.below hb)
    replace HA1 := hide (HA1.out.below hb)
    replace HT := hide (HT.out.below hb)
    replace HLa := hide (HLa.out.below hb)
    replace HLb := hide (HLb.out.below hb)
    replace HX := hide (HX.out.below hb)
    replace HY := hide (HY.out.below hb)
    replace HMv := hide (HMv.out.below hb)
    replace HNv := hide (HNv.out.below hb)
    replace HPv := hide (HPv.out.below hb)
    replace HQv := hide (HQv.out.below hb)
    replace HAP := hide (HAP.out.below hb)
    replace HSd := hide (HSd.out.below hb)
    replace HSc := hide (HSc.out.below hb)
    replace HZv := hide (HZv.out.below hb)
    replace HW := hid_below HW hb
    replace HBB := hid_below HBB hb
    replace HBQ := hid_below HBQ hb
    replace HBA := hid_below HBA hb
    clear hb
    obtain ⟨d0, d1, d2⟩ := tri8 HP.out
    obtain ⟨f0, f1, f2⟩ := tri8 HQ.out
    obtain ⟨PO, hPO, hbP, hx⟩ := enter1 Q18 (.cells #[.slice pa pn pk, .slice qa qn qk] 22)
    obtain ⟨rq, iq, jq⟩ := HQv.out.lists
    obtain ⟨rp, ip, jp⟩ := HPv.out.lists
    obtain ⟨rp2, ip2, _⟩ := HPQ.out.lists
    obtain ⟨rp3, ip3, _⟩ := HPA.out.lists
    obtain ⟨rq3, iq3, _⟩ := HQA.out.lists
    have hB1 := HBBQ.out.size
    have hB2 := HBQA.out.size
    have hBB2 := HBB.out.size
    have hBP := HBBP.out.size
    have hAp : Aparts Q18 P2.heap.size [.slice pa pn pk, .slice qa qn qk] [rp, rq] := Aparts.cut10 (ip.base hBP) (iq.base hB1) (m := P6.heap.size) (fun g hg => (ip2.own.lt g hg).2) iq
    have C := own2W P2.heap.size (.slice pa pn pk) (.slice qa qn qk) rp rq Q18 hAp jp jq hBB2
    rw [hPO] at C
    have hTurn := turn2 (fun g hg => (ip3.own.lt g hg).2) (fun g hg => (iq3.own.lt g hg).2)
    have HTU := hide hTurn
    have HAQ := hide hAp
    clear hAp hTurn ip iq ip2 ip3 iq3 jp jq hx hbP hB1 hB2 hBP
    go_wp2_with fail
    refine C.mono ?_
    rintro e TO ⟨rfl, hk⟩
    obtain ⟨rss, hA4, hl4⟩ := HAP.out.2.2.1
    have hBA := HBBA.out.size
    have HA4 := hide (hA4.bw10 hk HTU.out hBA)
    have HUo := hide (hk.box10 HAQ.out (by decide) HU.out)
    have HVo := hide (hk.box10 HAQ.out (by decide) HV.out)
    have HBo : Hid (Below P2.heap.size P2 TO) := hide (HBB.out.trans hk.below)
    have hTo : P2.heap.size ≤ TO.heap.size := HBo.out.size
    clear C hk hA4 hBA d0 d1 d2 f0 f1 f2 hPO
    obtain ⟨d0, d1, d2, d3, d4, d5⟩ := hexa HUo.out
    obtain ⟨f0, f1, f2, f3, f4, f5⟩ := hexa HVo.out
    obtain ⟨PR, hPR, hbP, hx⟩ := enter1 TO (.cells #[.bool u, .slice ua un uk, .int .i64 ue, .bool v, .slice va vn vk, .int .i64 ve, .bool x, .slice xa xn xk, .int .i64 xe, .bool y, .slice ya yn yk, .int .i64 ye] 33)
    have C := own10_2 TO.heap.size u ua un uk ue v va vn vk ve x xa xn xk xe y ya yn yk ye P2.heap.size rss PR hx (HA4.out.below hbP) (le_big10 hl4) (Nat.le_trans hTo hbP.size)
    have HBp : Hid (Below P2.heap.size P2 PR) := hide (HBo.out.trans (hbP.mono hTo))
    clear hbP hx hTo hl4 HA4
    go_wp2_with fail
    refine C.mono ?_
    rintro e TP ⟨rfl, hk⟩
    have hb : Below P2.heap.size P2 TP := HBp.out.trans hk.below
    clear C hk d0 d1 d2 d3 d4 d5 f0 f1 f2 f3 f4 f5 hPR
    have HLa2 := hide (HLaB.out.below hb)
    have HLb2 := hide (HLbB.out.below hb)
    have HA02 := hide (HA0B.out.below hb)
    have HA12 := hide (HA1B.out.below hb)
    have HT2 := hide (HTB.out.below hb)
    have HS2 := hide (block_upW hb HSB.out)
    have HD2 := hide (block_upW hb HDB.out)
    have HW2 := hide (bl_trans8 HWB.out hb)
    clear hb
    obtain ⟨ca0, ca1, ca2, ca3, ca4, ca5, ca6, ca7⟩ := octa HD2.out
    obtain ⟨cb0, cb1, cb2, cb3, cb4, cb5⟩ := hexa HS2.out
    have C := kept10_any au mu nu av mv nv b0 ax z0.length cx e0 b1 ay z1.length cy e1 b0 a0 k0 z0 e0 b1 a1 k1 z1 e1 TP HLa2.out HLb2.out HA02.out HA12.out (by omega) (by omega)
    go_wp2_with fail
    refine C.mono ?_
    rintro e Q19 ⟨rfl, hb⟩
    clear C ca0 ca1 ca2 ca3 ca4 ca5 ca6 ca7 cb0 cb1 cb2 cb3 cb4 cb5
    replace HS2 := hide (block_upW hb HS2.out)
    replace HD2 := hide (block_upW hb HD2.out)
    replace HLa2 := hide (HLa2.out.below hb)
    replace HLb2 := hide (HLb2.out.below hb)
    replace HA02 := hide (HA02.out.below hb)
    replace HA12 := hide (HA12.out.below hb)
    replace HT2 := hide (HT2.out.below hb)
    replace HW2 := hid_below HW2 hb
    clear hb
    have C := awake10_any Q19 HT2.out
    go_wp2_with fail
    refine C.mono ?_
    rintro e Q20 ⟨rfl, hb⟩
    clear C 
    replace HS2 := hide (block_upW hb HS2.out)
    replace HD2 := hide (block_upW hb HD2.out)
    replace HLa2 := hide (HLa2.out.below hb)
    replace HLb2 := hide (HLb2.out.below hb)
    replace HA02 := hide (HA02.out.below hb)
    replace HA12 := hide (HA12.out.below hb)
    replace HT2 := hide (HT2.out.below hb)
    replace HW2 := hid_below HW2 hb
    clear hb
    go_wp2
    go_ret
    exact ⟨rfl, HW2.out⟩

end Go.Proofs.YtolebfnkmjmfnaaGreatDoor
