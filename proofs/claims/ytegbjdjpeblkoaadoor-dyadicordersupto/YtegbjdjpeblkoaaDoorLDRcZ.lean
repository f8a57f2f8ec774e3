/- The walk of the law DyadicOrders. -/
import Derived.Test.YtegbjdjpeblkoaaDoorDyOrZ
import Derived.Deep.CutBlock
import Derived.Deep.DeepCutAuto
namespace Go.Proofs.YtegbjdjpeblkoaaDoor
open Go.RowKit
open Lm
attribute [local go_sem ↓] Go.wp_at_zero Go.wp_at_succ

set_option maxRecDepth 20000 in
set_option maxHeartbeats 16000000 in
theorem orders8_gt (b0 : Bool) (v0 : Value) (z0 : List Nat) (p0 : Int) (b1 : Bool) (v1 : Value) (z1 : List Nat) (p1 : Int) (w : World) (hT : Tab w) (A0 : Arg w v0 z0) (s0 : z0.length ≤ 1048576) (_ : -9223372036854775808 ≤ p0) (_ : p0 ≤ 9223372036854775807) (A1 : Arg w v1 z1) (s1 : z1.length ≤ 1048576) (_ : -9223372036854775808 ≤ p1) (_ : p1 ≤ 9223372036854775807) (hE0 : fitE p0 = true) (hE1 : fitE p1 = true) (L : Nat) (hL : L = 9223372036854775808) (hk : 0 < cmpZ (omz (zz b0 (val z0)) * 2 ^ (oe (zz b0 (val z0)) p0 + L).toNat) (omz (zz b1 (val z1)) * 2 ^ (oe (zz b1 (val z1)) p1 + L).toNat)) :
    Calls Tryd.prog 3 #[.agg #[.bool b0, v0, .int .i64 p0], .agg #[.bool b1, v1, .int .i64 p1]] w fun e w' => e = .returned (.bool true) ∧ Below w.heap.size w w' := by
  obtain ⟨a0, n0, rfl, _, _, _⟩ := A0.form
  obtain ⟨a1, n1, rfl, _, _, _⟩ := A1.form
  obtain ⟨w0, hw0, hb0, h0, h1⟩ := enter2 w (.cells #[.bool b0, .slice a0 z0.length n0, .int .i64 p0] 24) (.cells #[.bool b1, .slice a1 z1.length n1, .int .i64 p1] 24)
  have HA := hide h0
  have HB := hide h1
  have HA0 := hide (A0.below hb0)
  have HA1 := hide (A1.below hb0)
  have HT := hide (hT.below hb0)
  have HW := hide hb0
  clear hT hb0 h0 h1
  have F0 := read_facts (b := b0) (ex := p0) A0 (by omega) hE0
  have hl0 : blen (omz (zz b0 (val z0))).natAbs ≤ 67108864 := by
    have h5 := blen_mono (od_le (zz b0 (val z0)).natAbs)
    have h6 := blen_len8 A0.limbs
    rw [zz_abs] at h5
    rw [omz_abs, zz_abs]; omega
  obtain ⟨M0, hM0⟩ : ∃ M0, omz (zz b0 (val z0)) = M0 := ⟨_, rfl⟩
  obtain ⟨E0, hE0v⟩ : ∃ E0, oe (zz b0 (val z0)) p0 = E0 := ⟨_, rfl⟩
  rw [hM0, hE0v] at F0
  rw [hM0] at hl0
  have HM0 := hide hM0
  have HV0 := hide hE0v
  have HN0 := hide F0.2.2.2
  have e01 := F0.2.1
  have e02 := F0.2.2.1
  clear F0 hM0 hE0v
  have F1 := read_facts (b := b1) (ex := p1) A1 (by omega) hE1
  have hl1 : blen (omz (zz b1 (val z1))).natAbs ≤ 67108864 := by
    have h5 := blen_mono (od_le (zz b1 (val z1)).natAbs)
    have h6 := blen_len8 A1.limbs
    rw [zz_abs] at h5
    rw [omz_abs, zz_abs]; omega
  obtain ⟨M1, hM1⟩ : ∃ M1, omz (zz b1 (val z1)) = M1 := ⟨_, rfl⟩
  obtain ⟨E1, hE1v⟩ : ∃ E1, oe (zz b1 (val z1)) p1 = E1 := ⟨_, rfl⟩
  rw [hM1, hE1v] at F1
  rw [hM1] at hl1
  have HM1 := hide hM1
  have HV1 := hide hE1v
  have HN1 := hide F1.2.2.2
  have e11 := F1.2.1
  have e12 := F1.2.2.1
  clear F1 hM1 hE1v
  have hL2 : 4611686018427387904 ≤ L := by omega
  have hEr0 := (fitE_iff p0).1 hE0
  have hEr1 := (fitE_iff p1).1 hE1
  have rx0 := (Rp.make L (zz b0 (val z0)) p0 (by omega)).norm.2
  have rx1 := (Rp.make L (zz b1 (val z1)) p1 (by omega)).norm.2
  rw [HM0.out, HV0.out] at rx0
  rw [HM1.out, HV1.out] at rx1
  rw [HM0.out, HV0.out, HM1.out, HV1.out] at hk
  obtain ⟨px, hpx⟩ : ∃ px : Nat, (p0 + L).toNat = px := ⟨_, rfl⟩
  obtain ⟨qx, hqx⟩ : ∃ qx : Nat, (p1 + L).toNat = qx := ⟨_, rfl⟩
  obtain ⟨PP, hPP⟩ : ∃ PP : Nat, (E0 + L).toNat = PP := ⟨_, rfl⟩
  obtain ⟨QQ, hQQ⟩ : ∃ QQ : Nat, (E1 + L).toNat = QQ := ⟨_, rfl⟩
  rw [hpx, hPP] at rx0
  rw [hqx, hQQ] at rx1
  rw [hPP, hQQ] at hk
  have hpx2 : (px : Int) = p0 + L := by omega
  have hqx2 : (qx : Int) = p1 + L := by omega
  have hPP2 : (PP : Int) = E0 + L := by omega
  have hQQ2 : (QQ : Int) = E1 + L := by omega
  have HPP := hide hPP2
  have HQQ := hide hQQ2
  have HPX := hide hpx2
  have HQX := hide hqx2
  have HL := hide hL2
  have HR0 := hide rx0
  have HR1 := hide rx1
  have HSR := hide (oe_sm_range hl0 hl1 (by omega) e01 e02 e11 e12)
  have HMM := hide (minmax_gt HN0.out HN1.out hk)
  obtain ⟨kc, hkc⟩ : ∃ kc, cmpZ (M0 * 2 ^ PP) (M1 * 2 ^ QQ) = kc := ⟨_, rfl⟩
  rw [hkc] at hk
  have hd9 : decide (0 < kc) = true := decide_eq_true hk
  have hd8 : 0 < kc := by omega
  have hkk : (kc != kc) = false := by simp
  have HKC := hide hkc
  clear A0 A1 hk hkc rx0 rx1 hpx hqx hPP hQQ hpx2 hqx2 hPP2 hQQ2 hL2 hEr0 hEr1
  go_enter Tryd.func3, Tryd.ntmps3
  obtain ⟨ca0, cb0, cc0⟩ := tri8 HA.out
  have C := lent8_any b0 a0 n0 z0 p0 w0 HA0.out (by omega)
  go_wp2_with fail
  refine C.mono ?_
  rintro e Q1 ⟨⟨aw, mw, nw, ax, cx, rfl, hL, hP⟩, hb⟩
  clear C ca0 cb0 cc0 hw0
  obtain ⟨P2, hP2, hbP, hx⟩ := enter1 Q1 (.cells #[.bool b0, .slice ax z0.length cx, .int .i64 p0] 29)
  have stp := bl_trans8 hb hbP
  replace HA := hide (block_upW stp HA.out)
  replace HB := hide (block_upW stp HB.out)
  replace HA0 := hide (HA0.out.below stp)
  replace HA1 := hide (HA1.out.below stp)
  replace HT := hide (HT.out.below stp)
  replace HW := hid_below HW stp
  have HLa := hide (hL.below hbP)
  have HPx := hide (hP.below hbP)
  have HX := hide hx
  clear hL hP hb hbP hx stp
  obtain ⟨ca0, cb0, cc0⟩ := tri8 HB.out
  have C := lent8_any b1 a1 n1 z1 p1 P2 HA1.out (by omega)
  go_wp2_with fail
  refine C.mono ?_
  rintro e Q3 ⟨⟨bw, mv, nv, ay, cy, rfl, hL, hP⟩, hb⟩
  clear C ca0 cb0 cc0 hP2
  obtain ⟨P4, hP4, hbP, hx⟩ := enter1 Q3 (.cells #[.bool b1, .slice ay z1.length cy, .int .i64 p1] 29)
  have stp := bl_trans8 hb hbP
  replace HA := hide (block_upW stp HA.out)
  replace HB := hide (block_upW stp HB.out)
  replace HX := hide (block_upW stp HX.out)
  replace HA0 := hide (HA0.out.below stp)
  replace HA1 := hide (HA1.out.below stp)
  replace HT := hide (HT.out.below stp)
  replace HLa := hide (HLa.out.below stp)
  replace HPx := hide (HPx.out.below stp)
  replace HW := hid_below HW stp
  have HLb := hide (hL.below hbP)
  have HPy := hide (hP.below hbP)
  have HY := hide hx
  clear hL hP hb hbP hx stp
  obtain ⟨ca0, cb0, cc0⟩ := tri8 HA.out
  have C := of8_ok b0 a0 n0 z0 p0 P4 HA0.out (by omega) hE0
  rw [HM0.out, HV0.out] at C
  go_wp2_with fail
  refine C.mono ?_
  rintro e Q5 ⟨⟨bm, am, lm, km, rfl, hd⟩, hb⟩
  clear C ca0 cb0 cc0 hP4
  obtain ⟨P6, hP6, hbP, hx⟩ := enter1 Q5 (.cells #[.bool bm, .slice am lm km, .int .i64 E0] 36)
  have stp := bl_trans8 hb hbP
  replace HA := hide (block_upW stp HA.out)
  replace HB := hide (block_upW stp HB.out)
  replace HX := hide (block_upW stp HX.out)
  replace HY := hide (block_upW stp HY.out)
  replace HA0 := hide (HA0.out.below stp)
  replace HA1 := hide (HA1.out.below stp)
  replace HT := hide (HT.out.below stp)
  replace HLa := hide (HLa.out.below stp)
  replace HPx := hide (HPx.out.below stp)
  replace HLb := hide (HLb.out.below stp)
  replace HPy := hide (HPy.out.below stp)
  replace HW := hid_below HW stp
  have HDm := hide (hd.below hbP)
  have Hm := hide hx
  clear hd hb hbP hx stp
  obtain ⟨ca0, cb0, cc0⟩ := tri8 HB.out
  have C := of8_ok b1 a1 n1 z1 p1 P6 HA1.out (by omega) hE1
  rw [HM1.out, HV1.out] at C
  go_wp2_with fail
  refine C.mono ?_
  rintro e Q7 ⟨⟨bn, an, ln, kn, rfl, hd⟩, hb⟩
  clear C ca0 cb0 cc0 hP6
  obtain ⟨P8, hP8, hbP, hx⟩ := enter1 Q7 (.cells #[.bool bn, .slice an ln kn, .int .i64 E1] 36)
  have stp := bl_trans8 hb hbP
  replace HA := hide (block_upW stp HA.out)
  replace HB := hide (block_upW stp HB.out)
  replace HX := hide (block_upW stp HX.out)
  replace HY := hide (block_upW stp HY.out)
  replace Hm := hide (block_upW stp Hm.out)
  replace HA0 := hide (HA0.out.below stp)
  replace HA1 := hide (HA1.out.below stp)
  replace HT := hide (HT.out.below stp)
  replace HLa := hide (HLa.out.below stp)
  replace HPx := hide (HPx.out.below stp)
  replace HLb := hide (HLb.out.below stp)
  replace HPy := hide (HPy.out.below stp)
  replace HDm := hide (HDm.out.below stp)
  replace HW := hid_below HW stp
  have HDn := hide (hd.below hbP)
  have Hn := hide hx
  clear hd hb hbP hx stp
  obtain ⟨ca0, cb0, cc0⟩ := tri8 HX.out
  obtain ⟨ca1, cb1, cc1⟩ := tri8 HY.out
  have C := yCompare_ok b0 ax cx z0 p0 b1 ay cy z1 p1 L px qx P8 HPx.out HPy.out (by omega) (by omega) hE0 hE1 HL.out HPX.out HQX.out
  rw [← HR0.out, ← HR1.out, HKC.out] at C
  go_wp2_with fail
  refine C.mono ?_
  rintro e Q9 ⟨rfl, hb⟩
  clear C ca0 cb0 cc0 ca1 cb1 cc1 hP8
  replace HA := hide (block_upW hb HA.out)
  replace HB := hide (block_upW hb HB.out)
  replace HX := hide (block_upW hb HX.out)
  replace HY := hide (block_upW hb HY.out)
  replace Hm := hide (block_upW hb Hm.out)
  replace Hn := hide (block_upW hb Hn.out)
  replace HA0 := hide (HA0.out.below hb)
  replace HA1 := hide (HA1.out.below hb)
  replace HT := hide (HT.out.below hb)
  replace HLa := hide (HLa.out.below hb)
  replace HPx := hide (HPx.out.below hb)
  replace HLb := hide (HLb.out.below hb)
  replace HPy := hide (HPy.out.below hb)
  replace HDm := hide (HDm.out.below hb)
  replace HDn := hide (HDn.out.below hb)
  replace HW := hid_below HW hb
  clear hb
  have HBB : Hid (Below Q9.heap.size Q9 Q9) := hide (Below.refl _ _)
  have HLaB := HLa
  have HLbB := HLb
  have HA0B := HA0
  have HA1B := HA1
  have HTB := HT
  have HWB := HW
  obtain ⟨ca0, cb0, cc0⟩ := tri8 HX.out
  obtain ⟨ca1, cb1, cc1⟩ := tri8 HY.out
  have C := ymin_full b0 ax cx z0 p0 b1 ay cy z1 p1 L PP QQ Q9 HT.out HPx.out HPy.out (by omega) (by omega) hE0 hE1 HL.out (by rw [HV0.out]; exact HPP.out) (by rw [HV1.out]; exact HQQ.out)
  rw [HM0.out, HV0.out, HM1.out, HV1.out] at C
  rw [HMM.out.1.1, HMM.out.1.2] at C
  go_wp2_with fail
  refine C.mono ?_
  rintro e Q10 ⟨⟨bp, ap, lp, kp, ep, cp, rfl, hd⟩, hb⟩
  clear C ca0 cb0 cc0 ca1 cb1 cc1
  obtain ⟨rp, hans, hlp⟩ := hd.own9
  have Ch := Chain.one hans hb.size
  obtain ⟨P11, hP11, hbP, hx⟩ := enter1 Q10 (.cells #[.bool bp, .slice ap lp kp, .int .i64 ep] 29)
  have stp := bl_trans8 hb hbP
  replace HA := hide (block_upW stp HA.out)
  replace HB := hide (block_upW stp HB.out)
  replace HX := hide (block_upW stp HX.out)
  replace HY := hide (block_upW stp HY.out)
  replace Hm := hide (block_upW stp Hm.out)
  replace Hn := hide (block_upW stp Hn.out)
  replace HA0 := hide (HA0.out.below stp)
  replace HA1 := hide (HA1.out.below stp)
  replace HT := hide (HT.out.below stp)
  replace HLa := hide (HLa.out.below stp)
  replace HPx := hide (HPx.out.below stp)
  replace HLb := hide (HLb.out.below stp)
  replace HPy := hide (HPy.out.below stp)
  replace HDm := hide (HDm.out.below stp)
  replace HDn := hide (HDn.out.below stp)
  replace HW := hid_below HW stp
  replace HBB := hid_below HBB stp
  have HDp := hide (hd.below hbP)
  have Hp := hide hx
  replace Ch := Ch.below hbP
  clear hans hd hb hbP hx stp
  obtain ⟨ca0, cb0, cc0⟩ := tri8 HX.out
  obtain ⟨ca1, cb1, cc1⟩ := tri8 HY.out
  have C := ymax_full b0 ax cx z0 p0 b1 ay cy z1 p1 L PP QQ P11 HT.out HPx.out HPy.out (by omega) (by omega) hE0 hE1 HL.out (by rw [HV0.out]; exact HPP.out) (by rw [HV1.out]; exact HQQ.out)
  rw [HM0.out, HV0.out, HM1.out, HV1.out] at C
  rw [HMM.out.2.1, HMM.out.2.2] at C
  go_wp2_with fail
  refine C.mono ?_
  rintro e Q12 ⟨⟨bq, aq, lq, kq, eq, cq, rfl, hd⟩, hb⟩
  clear C ca0 cb0 cc0 ca1 cb1 cc1 hP11
  obtain ⟨rq, hans, hlq⟩ := hd.own9
  replace Ch := Ch.snoc hb hans HBB.out.size
  obtain ⟨P13, hP13, hbP, hx⟩ := enter1 Q12 (.cells #[.bool bq, .slice aq lq kq, .int .i64 eq] 29)
  have stp := bl_trans8 hb hbP
  replace HA := hide (block_upW stp HA.out)
  replace HB := hide (block_upW stp HB.out)
  replace HX := hide (block_upW stp HX.out)
  replace HY := hide (block_upW stp HY.out)
  replace Hm := hide (block_upW stp Hm.out)
  replace Hn := hide (block_upW stp Hn.out)
  replace Hp := hide (block_upW stp Hp.out)
  replace HA0 := hide (HA0.out.below stp)
  replace HA1 := hide (HA1.out.below stp)
  replace HT := hide (HT.out.below stp)
  replace HLa := hide (HLa.out.below stp)
  replace HPx := hide (HPx.out.below stp)
  replace HLb := hide (HLb.out.below stp)
  replace HPy := hide (HPy.out.below stp)
  replace HDm := hide (HDm.out.below stp)
  replace HDn := hide (HDn.out.below stp)
  replace HDp := hide (HDp.out.below stp)
  replace HW := hid_below HW stp
  replace HBB := hid_below HBB stp
  have HDq := hide (hd.below hbP)
  have Hq := hide hx
  replace Ch := Ch.below hbP
  clear hans hd hb hbP hx stp
  obtain ⟨ca0, cb0, cc0⟩ := tri8 HX.out
  obtain ⟨ca1, cb1, cc1⟩ := tri8 HY.out
  have C := ymid_full b0 ax cx z0 p0 b1 ay cy z1 p1 P13 HT.out HPx.out HPy.out (by omega) (by omega) hE0 hE1
  rw [HM0.out, HV0.out, HM1.out, HV1.out] at C
  go_wp2_with fail
  refine C.mono ?_
  rintro e Q14 ⟨⟨br, ar, lr, kr, er, cr, rfl, hd⟩, hb⟩
  clear C ca0 cb0 cc0 ca1 cb1 cc1 hP13
  obtain ⟨rr, hans, hlr⟩ := hd.own9
  replace Ch := Ch.snoc hb hans HBB.out.size
  obtain ⟨P15, hP15, hbP, hx⟩ := enter1 Q14 (.cells #[.bool br, .slice ar lr kr, .int .i64 er] 29)
  have stp := bl_trans8 hb hbP
  replace HA := hide (block_upW stp HA.out)
  replace HB := hide (block_upW stp HB.out)
  replace HX := hide (block_upW stp HX.out)
  replace HY := hide (block_upW stp HY.out)
  replace Hm := hide (block_upW stp Hm.out)
  replace Hn := hide (block_upW stp Hn.out)
  replace Hp := hide (block_upW stp Hp.out)
  replace Hq := hide (block_upW stp Hq.out)
  replace HA0 := hide (HA0.out.below stp)
  replace HA1 := hide (HA1.out.below stp)
  replace HT := hide (HT.out.below stp)
  replace HLa := hide (HLa.out.below stp)
  replace HPx := hide (HPx.out.below stp)
  replace HLb := hide (HLb.out.below stp)
  replace HPy := hide (HPy.out.below stp)
  replace HDm := hide (HDm.out.below stp)
  replace HDn := hide (HDn.out.below stp)
  replace HDp := hide (HDp.out.below stp)
  replace HDq := hide (HDq.out.below stp)
  replace HW := hid_below HW stp
  replace HBB := hid_below HBB stp
  have HDr := hide (hd.below hbP)
  have Hr := hide hx
  replace Ch := Ch.below hbP
  clear hans hd hb hbP hx stp
  obtain ⟨ca0, cb0, cc0⟩ := tri8 Hm.out
  obtain ⟨ca1, cb1, cc1⟩ := tri8 Hn.out
  have C := rdCmp_any bm am lm km M0 E0 bn an ln kn M1 E1 L PP QQ P15 HDm.out HDn.out (by omega) (by omega) e01 e02 e11 e12 HPP.out HQQ.out
  rw [HKC.out] at C
  go_wp2_with fail
  refine C.mono ?_
  rintro e Q16 ⟨rfl, hb⟩
  clear C ca0 cb0 cc0 ca1 cb1 cc1 hP15
  replace HA := hide (block_upW hb HA.out)
  replace HB := hide (block_upW hb HB.out)
  replace HX := hide (block_upW hb HX.out)
  replace HY := hide (block_upW hb HY.out)
  replace Hm := hide (block_upW hb Hm.out)
  replace Hn := hide (block_upW hb Hn.out)
  replace Hp := hide (block_upW hb Hp.out)
  replace Hq := hide (block_upW hb Hq.out)
  replace Hr := hide (block_upW hb Hr.out)
  replace HA0 := hide (HA0.out.below hb)
  replace HA1 := hide (HA1.out.below hb)
  replace HT := hide (HT.out.below hb)
  replace HLa := hide (HLa.out.below hb)
  replace HPx := hide (HPx.out.below hb)
  replace HLb := hide (HLb.out.below hb)
  replace HPy := hide (HPy.out.below hb)
  replace HDm := hide (HDm.out.below hb)
  replace HDn := hide (HDn.out.below hb)
  replace HDp := hide (HDp.out.below hb)
  replace HDq := hide (HDq.out.below hb)
  replace HDr := hide (HDr.out.below hb)
  replace HW := hid_below HW hb
  replace HBB := hid_below HBB hb
  replace Ch := Ch.below hb
  clear hb
  have HN := num8_any 0 Q16
  go_wp2_with fail
  refine HN.mono ?_
  rintro e wn ⟨rfl, hw⟩; rw [hw]; clear hw wn HN
  have hbu : Q9.heap.size ≤ Q16.heap.size := HBB.out.size
  have UHA := HA
  have UHB := HB
  have UHX := HX
  have UHY := HY
  have UHm := Hm
  have UHn := Hn
  have UHp := Hp
  have UHq := Hq
  have UHr := Hr
  have UHA0 := HA0
  have UHA1 := HA1
  have UHT := HT
  have UHLa := HLa
  have UHPx := HPx
  have UHLb := HLb
  have UHPy := HPy
  have UHDm := HDm
  have UHDn := HDn
  have UHDp := HDp
  have UHDq := HDq
  have UHDr := HDr
  have UHBB := HBB
  have UHW := HW
  have UCh := hide Ch
  have hgm : Q5.heap.size < Q16.heap.size := lt_of_block Hm.out
  have hgn : Q7.heap.size < Q16.heap.size := lt_of_block Hn.out
  go_upto_region 15 with fail
  go_cut [23, 24] from 121 to 122 (fun s t wx => TwoD Q16 (.cells #[.bool bm, .slice am lm km, .int .i64 E0] 36) (.cells #[.bool bn, .slice an ln kn, .int .i64 E1] 36) s t wx)
  case first =>
    obtain ⟨ca0, cb0, cc0⟩ := tri8 Hm.out
    obtain ⟨ca1, cb1, cc1⟩ := tri8 Hn.out
    go_region
    all_goals (go_wp2_with fail; go_meet; first
      | with_reducible exact (two_d1 _ _ (Below.refl _ _)).drew
      | with_reducible exact (two_d2 _ _ (Below.refl _ _)).drew
      | with_reducible exact two_d1 _ _ (bl_drew9 (Below.refl _ _))
      | with_reducible exact two_d2 _ _ (bl_drew9 (Below.refl _ _)))
  case rest =>
    obtain ⟨gl, gh, rfl, rfl, hX1, hX2, hne, hge1, hge2, hb⟩ := hcut
    replace HA := hide (block_upW hb HA.out)
    replace HB := hide (block_upW hb HB.out)
    replace HX := hide (block_upW hb HX.out)
    replace HY := hide (block_upW hb HY.out)
    replace Hm := hide (block_upW hb Hm.out)
    replace Hn := hide (block_upW hb Hn.out)
    replace Hp := hide (block_upW hb Hp.out)
    replace Hq := hide (block_upW hb Hq.out)
    replace Hr := hide (block_upW hb Hr.out)
    replace HA0 := hide (HA0.out.below hb)
    replace HA1 := hide (HA1.out.below hb)
    replace HT := hide (HT.out.below hb)
    replace HLa := hide (HLa.out.below hb)
    replace HPx := hide (HPx.out.below hb)
    replace HLb := hide (HLb.out.below hb)
    replace HPy := hide (HPy.out.below hb)
    replace HDm := hide (HDm.out.below hb)
    replace HDn := hide (HDn.out.below hb)
    replace HDp := hide (HDp.out.below hb)
    replace HDq := hide (HDq.out.below hb)
    replace HDr := hide (HDr.out.below hb)
    replace HW := hid_below HW hb
    replace HBB := hid_below HBB hb
    replace Ch := Ch.below hb
    have Hlo := hide hX1
    have Hhi := hide hX2
    have hgb1 : Q9.heap.size ≤ gl := Nat.le_trans hbu hge1
    have hgb2 : Q9.heap.size ≤ gh := Nat.le_trans hbu hge2
    have HUB := hide hb
    clear hX1 hX2 hb
    go_upto_region 17 with fail
    go_cut [23, 24] from 125 to 126 (fun s t wx => TwoD Q16 (.cells #[.bool bn, .slice an ln kn, .int .i64 E1] 36) (.cells #[.bool bm, .slice am lm km, .int .i64 E0] 36) s t wx)
    case first =>
      obtain ⟨ca0, cb0, cc0⟩ := tri8 Hm.out
      obtain ⟨ca1, cb1, cc1⟩ := tri8 Hn.out
      obtain ⟨l0, l1, l2⟩ := tri8 Hlo.out
      have lf := tri8f Hlo.out
      obtain ⟨o0, o1, o2⟩ := tri8 Hhi.out
      have of9 := tri8f Hhi.out
      have r1 := fun (W : World) (k : Nat) (u : Value) (k' : Nat) => cell_other8 (w := W) (g := gl) (k := k) (g' := Q5.heap.size) (k' := k') (u := u) (by omega)
      have r2 := fun (W : World) (k : Nat) (u : Value) (k' : Nat) => cell_other8 (w := W) (g := gl) (k := k) (g' := Q7.heap.size) (k' := k') (u := u) (by omega)
      have r3 := fun (W : World) (k : Nat) (u : Value) (k' : Nat) => cell_other8 (w := W) (g := gh) (k := k) (g' := Q5.heap.size) (k' := k') (u := u) (by omega)
      have r4 := fun (W : World) (k : Nat) (u : Value) (k' : Nat) => cell_other8 (w := W) (g := gh) (k := k) (g' := Q7.heap.size) (k' := k') (u := u) (by omega)
      have r5 := fun (W : World) (k : Nat) (u : Value) (k' : Nat) => cell_other8 (w := W) (g := gl) (k := k) (g' := gh) (k' := k') (u := u) hne
      have r6 := fun (W : World) (k : Nat) (u : Value) (k' : Nat) => cell_other8 (w := W) (g := gh) (k := k) (g' := gl) (k' := k') (u := u) (Ne.symm hne)
      go_region
      all_goals (go_wp2_with fail; go_meet; first
        | exact (two_s Hlo.out Hhi.out hne hge1 hge2 HUB.out).drew
        | exact (two_s2 Hlo.out Hhi.out hne hge1 hge2 HUB.out).drew
        | exact two_s Hlo.out Hhi.out hne hge1 hge2 (bl_drew9 HUB.out)
        | exact two_s2 Hlo.out Hhi.out hne hge1 hge2 (bl_drew9 HUB.out))
    case rest =>
      obtain ⟨gl2, gh2, e1, e2, hX1, hX2, hne2, hge3, hge4, hb⟩ := hcut
      subst e1 e2
      replace HA := hide (block_upW hb UHA.out)
      replace HB := hide (block_upW hb UHB.out)
      replace HX := hide (block_upW hb UHX.out)
      replace HY := hide (block_upW hb UHY.out)
      replace Hm := hide (block_upW hb UHm.out)
      replace Hn := hide (block_upW hb UHn.out)
      replace Hp := hide (block_upW hb UHp.out)
      replace Hq := hide (block_upW hb UHq.out)
      replace Hr := hide (block_upW hb UHr.out)
      replace HA0 := hide (UHA0.out.below hb)
      replace HA1 := hide (UHA1.out.below hb)
      replace HT := hide (UHT.out.below hb)
      replace HLa := hide (UHLa.out.below hb)
      replace HPx := hide (UHPx.out.below hb)
      replace HLb := hide (UHLb.out.below hb)
      replace HPy := hide (UHPy.out.below hb)
      replace HDm := hide (UHDm.out.below hb)
      replace HDn := hide (UHDn.out.below hb)
      replace HDp := hide (UHDp.out.below hb)
      replace HDq := hide (UHDq.out.below hb)
      replace HDr := hide (UHDr.out.below hb)
      replace HBB := hid_below UHBB hb
      replace HW := hid_below UHW hb
      replace Ch := UCh.out.below hb
      replace Hlo := hide hX1
      replace Hhi := hide hX2
      clear hX1 hX2 hb hge1 hge2 hge3 hge4 hne2 UCh HUB UHA UHB UHX UHY UHm UHn UHp UHq UHr UHA0 UHA1 UHT UHLa UHPx UHLb UHPy UHDm UHDn UHDp UHDq UHDr UHBB UHW
      obtain ⟨ca0, cb0, cc0⟩ := tri8 Hm.out
      obtain ⟨ca1, cb1, cc1⟩ := tri8 Hn.out
      have C := rdAdd_any bm am lm km M0 E0 bn an ln kn M1 E1 wc HDm.out HDn.out HN0.out HN1.out (by omega) (by omega) e01 e02 e11 e12
      go_wp2_with fail
      refine C.mono ?_
      rintro e Q17 ⟨⟨bs, as2, ls, ks, es, ok, rfl, hcase⟩, hb⟩
      clear C ca0 cb0 cc0 ca1 cb1 cc1
      obtain ⟨P18, hP18, hbP, hx⟩ := enter1 Q17 (.cells #[.bool bs, .slice as2 ls ks, .int .i64 es] 36)
      have stp := bl_trans8 hb hbP
      replace HA := hide (block_upW stp HA.out)
      replace HB := hide (block_upW stp HB.out)
      replace HX := hide (block_upW stp HX.out)
      replace HY := hide (block_upW stp HY.out)
      replace Hm := hide (block_upW stp Hm.out)
      replace Hn := hide (block_upW stp Hn.out)
      replace Hp := hide (block_upW stp Hp.out)
      replace Hq := hide (block_upW stp Hq.out)
      replace Hr := hide (block_upW stp Hr.out)
      replace Hlo := hide (block_upW stp Hlo.out)
      replace Hhi := hide (block_upW stp Hhi.out)
      replace HA0 := hide (HA0.out.below stp)
      replace HA1 := hide (HA1.out.below stp)
      replace HT := hide (HT.out.below stp)
      replace HLa := hide (HLa.out.below stp)
      replace HPx := hide (HPx.out.below stp)
      replace HLb := hide (HLb.out.below stp)
      replace HPy := hide (HPy.out.below stp)
      replace HDm := hide (HDm.out.below stp)
      replace HDn := hide (HDn.out.below stp)
      replace HDp := hide (HDp.out.below stp)
      replace HDq := hide (HDq.out.below stp)
      replace HDr := hide (HDr.out.below stp)
      replace HW := hid_below HW stp
      replace HBB := hid_below HBB stp
      have Hs := hide hx
      replace Ch := Ch.below stp
      have HSR2 := HSR
      generalize hSS : sm M0 E0 M1 E1 = SS at *
      generalize hmm : min E0 E1 = mm at *
      clear hSS hmm
      rcases hcase with ⟨rfl, hd, rfl⟩ | ⟨rfl, hbig, hd⟩
      · skip
        have HDs := hide (hd.below hbP)
        clear hd hb hbP hx stp
        have stp : Below P18.heap.size P18 P18.drew := (Below.refl _ _).drew
        replace HA := hide (block_upW stp HA.out)
        replace HB := hide (block_upW stp HB.out)
        replace HX := hide (block_upW stp HX.out)
        replace HY := hide (block_upW stp HY.out)
        replace Hm := hide (block_upW stp Hm.out)
        replace Hn := hide (block_upW stp Hn.out)
        replace Hp := hide (block_upW stp Hp.out)
        replace Hq := hide (block_upW stp Hq.out)
        replace Hr := hide (block_upW stp Hr.out)
        replace Hlo := hide (block_upW stp Hlo.out)
        replace Hhi := hide (block_upW stp Hhi.out)
        replace Hs := hide (block_upW stp Hs.out)
        replace HA0 := hide (HA0.out.below stp)
        replace HA1 := hide (HA1.out.below stp)
        replace HT := hide (HT.out.below stp)
        replace HLa := hide (HLa.out.below stp)
        replace HPx := hide (HPx.out.below stp)
        replace HLb := hide (HLb.out.below stp)
        replace HPy := hide (HPy.out.below stp)
        replace HDm := hide (HDm.out.below stp)
        replace HDn := hide (HDn.out.below stp)
        replace HDp := hide (HDp.out.below stp)
        replace HDq := hide (HDq.out.below stp)
        replace HDr := hide (HDr.out.below stp)
        replace HDs := hide (HDs.out.below stp)
        replace HW := hid_below HW stp
        replace HBB := hid_below HBB stp
        replace Ch := Ch.below stp
        clear stp
        obtain ⟨LS, hLS⟩ : ∃ LS : List (Nat × Obj), LS = [(Q10.heap.size, .cells #[.bool bp, .slice ap lp kp, .int .i64 ep] 29), (gl2, .cells #[.bool bn, .slice an ln kn, .int .i64 E1] 36), (Q12.heap.size, .cells #[.bool bq, .slice aq lq kq, .int .i64 eq] 29), (gh2, .cells #[.bool bm, .slice am lm km, .int .i64 E0] 36), (Q14.heap.size, .cells #[.bool br, .slice ar lr kr, .int .i64 er] 29), (Q17.heap.size, .cells #[.bool bs, .slice as2 ls ks, .int .i64 (oe SS mm)] 36), (w.heap.size, .cells #[.bool b0, .slice a0 z0.length n0, .int .i64 p0] 24), (w.heap.size + 1, .cells #[.bool b1, .slice a1 z1.length n1, .int .i64 p1] 24)] := ⟨_, rfl⟩
        have s0 : Bx P18.drew LS := by rw [hLS]; exact Bx.cons Hp.out (Bx.cons Hlo.out (Bx.cons Hq.out (Bx.cons Hhi.out (Bx.cons Hr.out (Bx.cons Hs.out (Bx.cons HA.out (Bx.cons HB.out (Bx.nil _))))))))
        have HPL : Hid ((LS.all fun p => plainBox p.2) = true) := by rw [hLS]; exact hide rfl
        have KS := hide (fun (W : World) (h : Bx W LS) => show W.cell? ⟨Q10.heap.size, 0, none⟩ = some (.bool bp) ∧ W.cell? ⟨Q10.heap.size, 1, none⟩ = some (.slice ap lp kp) ∧ W.cell? ⟨Q10.heap.size, 2, none⟩ = some (.int .i64 ep) ∧ W.cell? ⟨gl2, 0, none⟩ = some (.bool bn) ∧ W.cell? ⟨gl2, 1, none⟩ = some (.slice an ln kn) ∧ W.cell? ⟨gl2, 2, none⟩ = some (.int .i64 E1) ∧ W.cell? ⟨Q12.heap.size, 0, none⟩ = some (.bool bq) ∧ W.cell? ⟨Q12.heap.size, 1, none⟩ = some (.slice aq lq kq) ∧ W.cell? ⟨Q12.heap.size, 2, none⟩ = some (.int .i64 eq) ∧ W.cell? ⟨gh2, 0, none⟩ = some (.bool bm) ∧ W.cell? ⟨gh2, 1, none⟩ = some (.slice am lm km) ∧ W.cell? ⟨gh2, 2, none⟩ = some (.int .i64 E0) ∧ W.cell? ⟨Q14.heap.size, 0, none⟩ = some (.bool br) ∧ W.cell? ⟨Q14.heap.size, 1, none⟩ = some (.slice ar lr kr) ∧ W.cell? ⟨Q14.heap.size, 2, none⟩ = some (.int .i64 er) ∧ W.cell? ⟨Q17.heap.size, 0, none⟩ = some (.bool bs) ∧ W.cell? ⟨Q17.heap.size, 1, none⟩ = some (.slice as2 ls ks) ∧ W.cell? ⟨Q17.heap.size, 2, none⟩ = some (.int .i64 (oe SS mm)) ∧ W.cell? ⟨w.heap.size, 0, none⟩ = some (.bool b0) ∧ W.cell? ⟨w.heap.size, 1, none⟩ = some (.slice a0 z0.length n0) ∧ W.cell? ⟨w.heap.size, 2, none⟩ = some (.int .i64 p0) ∧ W.cell? ⟨w.heap.size + 1, 0, none⟩ = some (.bool b1) ∧ W.cell? ⟨w.heap.size + 1, 1, none⟩ = some (.slice a1 z1.length n1) ∧ W.cell? ⟨w.heap.size + 1, 2, none⟩ = some (.int .i64 p1) by rw [hLS] at h; exact ⟨(tri8 (h 0 _ _ rfl)).1, (tri8 (h 0 _ _ rfl)).2.1, (tri8 (h 0 _ _ rfl)).2.2, (tri8 (h 1 _ _ rfl)).1, (tri8 (h 1 _ _ rfl)).2.1, (tri8 (h 1 _ _ rfl)).2.2, (tri8 (h 2 _ _ rfl)).1, (tri8 (h 2 _ _ rfl)).2.1, (tri8 (h 2 _ _ rfl)).2.2, (tri8 (h 3 _ _ rfl)).1, (tri8 (h 3 _ _ rfl)).2.1, (tri8 (h 3 _ _ rfl)).2.2, (tri8 (h 4 _ _ rfl)).1, (tri8 (h 4 _ _ rfl)).2.1, (tri8 (h 4 _ _ rfl)).2.2, (tri8 (h 5 _ _ rfl)).1, (tri8 (h 5 _ _ rfl)).2.1, (tri8 (h 5 _ _ rfl)).2.2, (tri8 (h 6 _ _ rfl)).1, (tri8 (h 6 _ _ rfl)).2.1, (tri8 (h 6 _ _ rfl)).2.2, (tri8 (h 7 _ _ rfl)).1, (tri8 (h 7 _ _ rfl)).2.1, (tri8 (h 7 _ _ rfl)).2.2⟩)
        have g0 : Below P18.drew.heap.size P18.drew P18.drew := Below.refl _ _
        have K3 := hide (fun (W : World) (hg : Below P18.drew.heap.size P18.drew W) => rdScale_any bs as2 ls ks (omz SS) (oe SS mm) (-1) W (HDs.out.below hg) (fun _ => by have := HSR2.out; omega))
        rw [half_exp] at K3
        have HCH := hide Ch
        have hbase : Q9.heap.size ≤ P18.drew.heap.size := HBB.out.size
        have HOW := hide (fun (W : World) (hg : Below P18.drew.heap.size P18.drew W) => own_aparts Q9.heap.size [.slice ap lp kp, .slice aq lq kq, .slice ar lr kr] [rp, rq, rr] W (HCH.out.below hg).aparts (by simp) (by simp; omega) (Nat.le_trans hbase hg.size))
        have HKA := hide (fun (W : World) (hg : Below Q9.heap.size Q9 W) => kept_ok (.slice aw mw nw) (.slice a0 z0.length n0) z0 W (HLaB.out.below hg) (HA0B.out.below hg) (by omega))
        have HKB := hide (fun (W : World) (hg : Below Q9.heap.size Q9 W) => kept_ok (.slice bw mv nv) (.slice a1 z1.length n1) z1 W (HLbB.out.below hg) (HA1B.out.below hg) (by omega))
        have HAW := hide (fun (W : World) (hg : Below Q9.heap.size Q9 W) => awake8_any W (HTB.out.below hg))
        clear Ch hLS HA HB HX HY Hm Hn Hp Hq Hr Hlo Hhi Hs
        go_wp2_with fail
        clear hP18
        try dsimp only [List.append]
        go_region_held3 (fun w' => w'.cell? ⟨Q10.heap.size, 0, none⟩ = some (.bool bp) ∧ w'.cell? ⟨Q10.heap.size, 1, none⟩ = some (.slice ap lp kp) ∧ w'.cell? ⟨Q10.heap.size, 2, none⟩ = some (.int .i64 ep) ∧ w'.cell? ⟨gl2, 0, none⟩ = some (.bool bn) ∧ w'.cell? ⟨gl2, 1, none⟩ = some (.slice an ln kn) ∧ w'.cell? ⟨gl2, 2, none⟩ = some (.int .i64 E1) ∧ w'.cell? ⟨Q12.heap.size, 0, none⟩ = some (.bool bq) ∧ w'.cell? ⟨Q12.heap.size, 1, none⟩ = some (.slice aq lq kq) ∧ w'.cell? ⟨Q12.heap.size, 2, none⟩ = some (.int .i64 eq) ∧ w'.cell? ⟨gh2, 0, none⟩ = some (.bool bm) ∧ w'.cell? ⟨gh2, 1, none⟩ = some (.slice am lm km) ∧ w'.cell? ⟨gh2, 2, none⟩ = some (.int .i64 E0) ∧ w'.cell? ⟨Q14.heap.size, 0, none⟩ = some (.bool br) ∧ w'.cell? ⟨Q14.heap.size, 1, none⟩ = some (.slice ar lr kr) ∧ w'.cell? ⟨Q14.heap.size, 2, none⟩ = some (.int .i64 er) ∧ w'.cell? ⟨Q17.heap.size, 0, none⟩ = some (.bool bs) ∧ w'.cell? ⟨Q17.heap.size, 1, none⟩ = some (.slice as2 ls ks) ∧ w'.cell? ⟨Q17.heap.size, 2, none⟩ = some (.int .i64 (oe SS mm)) ∧ w'.cell? ⟨w.heap.size, 0, none⟩ = some (.bool b0) ∧ w'.cell? ⟨w.heap.size, 1, none⟩ = some (.slice a0 z0.length n0) ∧ w'.cell? ⟨w.heap.size, 2, none⟩ = some (.int .i64 p0) ∧ w'.cell? ⟨w.heap.size + 1, 0, none⟩ = some (.bool b1) ∧ w'.cell? ⟨w.heap.size + 1, 1, none⟩ = some (.slice a1 z1.length n1) ∧ w'.cell? ⟨w.heap.size + 1, 2, none⟩ = some (.int .i64 p1)) (first | with_reducible exact KS.out _ s10 | with_reducible exact KS.out _ s9 | with_reducible exact KS.out _ s4 | with_reducible exact KS.out _ s3 | with_reducible exact KS.out _ s2 | with_reducible exact KS.out _ s1 | with_reducible exact KS.out _ s0 | with_reducible exact KS.out _ (Bx.alloc s4 _)) (first
          | (go_at_call 16; refine (HAW.out t9 G9).mono ?_; rintro e' t10 ⟨rfl, hb10⟩; have s10 := s9.below hb10)
          | (go_at_call_of 21 bw; refine (HKB.out t9 G9).mono ?_; rintro e' wn ⟨rfl, hw⟩; rw [hw]; clear hw wn)
          | (go_at_call_of 21 aw; refine (HKA.out t9 G9).mono ?_; rintro e' wn ⟨rfl, hw⟩; rw [hw]; clear hw wn)
          | (go_at_call 20; refine (HOW.out t4 g4).mono ?_; rintro e' t9 ⟨rfl, hk9⟩; have s9 := s4.bk hk9 HPL.out; have G9 := (HBB.out.trans (g4.mono HBB.out.size)).trans hk9.below; clear s4)
          | (go_at_call_of 15 ar; refine (alike8_says br ar lr kr er cr b23 a23 n23 k23 _ _ (omz SS) (oe SS (mm - 1)) _ t3 (HDr.out.below g3) (.inl ⟨rfl, y3, rfl⟩)).mono ?_; rintro e' t4 ⟨rfl, hb4⟩; have g4 := bl_trans8 g3 hb4; have s4 := s3.below hb4; clear s3)
          | (go_at_call 19; refine (K3.out _ g2).mono ?_; rintro e' t3 ⟨⟨b23, a23, n23, k23, rfl, y3⟩, hb3⟩; have g3 := bl_trans8 g2 hb3; have s3 := s2.below hb3; clear s2)
          | (go_at_call_of 15 aq; refine (alike8_ok bq aq lq kq eq cq bm am lm km M0 E0 _ t1 (HDq.out.below g1) (HDm.out.below g1)).mono ?_; rintro e' t2 ⟨rfl, hb2⟩; have g2 := bl_trans8 g1 hb2; have s2 := s1.below hb2; clear s1)
          | (go_at_call_of 15 ap; refine (alike8_ok bp ap lp kp ep cp bn an ln kn M1 E1 _ P18.drew HDp.out HDn.out).mono ?_; rintro e' t1 ⟨rfl, hb1⟩; have g1 := bl_trans8 g0 hb1; have s1 := s0.below hb1; clear s0))
        have HFIN := hide (HWB.out.trans ((G9.trans (hb10.mono G9.size)).mono HWB.out.size))
        clear hb1 hb2 hb3 hb4 hb10 g0 g1 g2 g3 g4 hk9 G9
        go_wp2
        go_ret
        exact ⟨rfl, HFIN.out⟩
      · skip
        have HDs := hide (hd.below hbP)
        clear hd hb hbP hx stp HSR2
        have HBIG := hide hbig
        clear hbig
        have stp : Below P18.heap.size P18 P18.drew := (Below.refl _ _).drew
        replace HA := hide (block_upW stp HA.out)
        replace HB := hide (block_upW stp HB.out)
        replace HX := hide (block_upW stp HX.out)
        replace HY := hide (block_upW stp HY.out)
        replace Hm := hide (block_upW stp Hm.out)
        replace Hn := hide (block_upW stp Hn.out)
        replace Hp := hide (block_upW stp Hp.out)
        replace Hq := hide (block_upW stp Hq.out)
        replace Hr := hide (block_upW stp Hr.out)
        replace Hlo := hide (block_upW stp Hlo.out)
        replace Hhi := hide (block_upW stp Hhi.out)
        replace Hs := hide (block_upW stp Hs.out)
        replace HA0 := hide (HA0.out.below stp)
        replace HA1 := hide (HA1.out.below stp)
        replace HT := hide (HT.out.below stp)
        replace HLa := hide (HLa.out.below stp)
        replace HPx := hide (HPx.out.below stp)
        replace HLb := hide (HLb.out.below stp)
        replace HPy := hide (HPy.out.below stp)
        replace HDm := hide (HDm.out.below stp)
        replace HDn := hide (HDn.out.below stp)
        replace HDp := hide (HDp.out.below stp)
        replace HDq := hide (HDq.out.below stp)
        replace HDr := hide (HDr.out.below stp)
        replace HDs := hide (HDs.out.below stp)
        replace HW := hid_below HW stp
        replace HBB := hid_below HBB stp
        replace Ch := Ch.below stp
        clear stp
        obtain ⟨LS, hLS⟩ : ∃ LS : List (Nat × Obj), LS = [(Q10.heap.size, .cells #[.bool bp, .slice ap lp kp, .int .i64 ep] 29), (gl2, .cells #[.bool bn, .slice an ln kn, .int .i64 E1] 36), (Q12.heap.size, .cells #[.bool bq, .slice aq lq kq, .int .i64 eq] 29), (gh2, .cells #[.bool bm, .slice am lm km, .int .i64 E0] 36), (Q14.heap.size, .cells #[.bool br, .slice ar lr kr, .int .i64 er] 29), (Q17.heap.size, .cells #[.bool bs, .slice as2 ls ks, .int .i64 es] 36), (w.heap.size, .cells #[.bool b0, .slice a0 z0.length n0, .int .i64 p0] 24), (w.heap.size + 1, .cells #[.bool b1, .slice a1 z1.length n1, .int .i64 p1] 24)] := ⟨_, rfl⟩
        have s0 : Bx P18.drew LS := by rw [hLS]; exact Bx.cons Hp.out (Bx.cons Hlo.out (Bx.cons Hq.out (Bx.cons Hhi.out (Bx.cons Hr.out (Bx.cons Hs.out (Bx.cons HA.out (Bx.cons HB.out (Bx.nil _))))))))
        have HPL : Hid ((LS.all fun p => plainBox p.2) = true) := by rw [hLS]; exact hide rfl
        have KS := hide (fun (W : World) (h : Bx W LS) => show W.cell? ⟨Q10.heap.size, 0, none⟩ = some (.bool bp) ∧ W.cell? ⟨Q10.heap.size, 1, none⟩ = some (.slice ap lp kp) ∧ W.cell? ⟨Q10.heap.size, 2, none⟩ = some (.int .i64 ep) ∧ W.cell? ⟨gl2, 0, none⟩ = some (.bool bn) ∧ W.cell? ⟨gl2, 1, none⟩ = some (.slice an ln kn) ∧ W.cell? ⟨gl2, 2, none⟩ = some (.int .i64 E1) ∧ W.cell? ⟨Q12.heap.size, 0, none⟩ = some (.bool bq) ∧ W.cell? ⟨Q12.heap.size, 1, none⟩ = some (.slice aq lq kq) ∧ W.cell? ⟨Q12.heap.size, 2, none⟩ = some (.int .i64 eq) ∧ W.cell? ⟨gh2, 0, none⟩ = some (.bool bm) ∧ W.cell? ⟨gh2, 1, none⟩ = some (.slice am lm km) ∧ W.cell? ⟨gh2, 2, none⟩ = some (.int .i64 E0) ∧ W.cell? ⟨Q14.heap.size, 0, none⟩ = some (.bool br) ∧ W.cell? ⟨Q14.heap.size, 1, none⟩ = some (.slice ar lr kr) ∧ W.cell? ⟨Q14.heap.size, 2, none⟩ = some (.int .i64 er) ∧ W.cell? ⟨Q17.heap.size, 0, none⟩ = some (.bool bs) ∧ W.cell? ⟨Q17.heap.size, 1, none⟩ = some (.slice as2 ls ks) ∧ W.cell? ⟨Q17.heap.size, 2, none⟩ = some (.int .i64 es) ∧ W.cell? ⟨w.heap.size, 0, none⟩ = some (.bool b0) ∧ W.cell? ⟨w.heap.size, 1, none⟩ = some (.slice a0 z0.length n0) ∧ W.cell? ⟨w.heap.size, 2, none⟩ = some (.int .i64 p0) ∧ W.cell? ⟨w.heap.size + 1, 0, none⟩ = some (.bool b1) ∧ W.cell? ⟨w.heap.size + 1, 1, none⟩ = some (.slice a1 z1.length n1) ∧ W.cell? ⟨w.heap.size + 1, 2, none⟩ = some (.int .i64 p1) by rw [hLS] at h; exact ⟨(tri8 (h 0 _ _ rfl)).1, (tri8 (h 0 _ _ rfl)).2.1, (tri8 (h 0 _ _ rfl)).2.2, (tri8 (h 1 _ _ rfl)).1, (tri8 (h 1 _ _ rfl)).2.1, (tri8 (h 1 _ _ rfl)).2.2, (tri8 (h 2 _ _ rfl)).1, (tri8 (h 2 _ _ rfl)).2.1, (tri8 (h 2 _ _ rfl)).2.2, (tri8 (h 3 _ _ rfl)).1, (tri8 (h 3 _ _ rfl)).2.1, (tri8 (h 3 _ _ rfl)).2.2, (tri8 (h 4 _ _ rfl)).1, (tri8 (h 4 _ _ rfl)).2.1, (tri8 (h 4 _ _ rfl)).2.2, (tri8 (h 5 _ _ rfl)).1, (tri8 (h 5 _ _ rfl)).2.1, (tri8 (h 5 _ _ rfl)).2.2, (tri8 (h 6 _ _ rfl)).1, (tri8 (h 6 _ _ rfl)).2.1, (tri8 (h 6 _ _ rfl)).2.2, (tri8 (h 7 _ _ rfl)).1, (tri8 (h 7 _ _ rfl)).2.1, (tri8 (h 7 _ _ rfl)).2.2⟩)
        have g0 : Below P18.drew.heap.size P18.drew P18.drew := Below.refl _ _
        have K3 := hide (fun (W : World) (hg : Below P18.drew.heap.size P18.drew W) => rdScale_any bs as2 ls ks 0 es (-1) W (HDs.out.below hg) (fun h => absurd rfl h))
        rw [if_pos rfl] at K3
        have HCH := hide Ch
        have hbase : Q9.heap.size ≤ P18.drew.heap.size := HBB.out.size
        have HOW := hide (fun (W : World) (hg : Below P18.drew.heap.size P18.drew W) => own_aparts Q9.heap.size [.slice ap lp kp, .slice aq lq kq, .slice ar lr kr] [rp, rq, rr] W (HCH.out.below hg).aparts (by simp) (by simp; omega) (Nat.le_trans hbase hg.size))
        have HKA := hide (fun (W : World) (hg : Below Q9.heap.size Q9 W) => kept_ok (.slice aw mw nw) (.slice a0 z0.length n0) z0 W (HLaB.out.below hg) (HA0B.out.below hg) (by omega))
        have HKB := hide (fun (W : World) (hg : Below Q9.heap.size Q9 W) => kept_ok (.slice bw mv nv) (.slice a1 z1.length n1) z1 W (HLbB.out.below hg) (HA1B.out.below hg) (by omega))
        have HAW := hide (fun (W : World) (hg : Below Q9.heap.size Q9 W) => awake8_any W (HTB.out.below hg))
        clear Ch hLS HA HB HX HY Hm Hn Hp Hq Hr Hlo Hhi Hs
        go_wp2_with fail
        clear hP18
        try dsimp only [List.append]
        go_region_held3 (fun w' => w'.cell? ⟨Q10.heap.size, 0, none⟩ = some (.bool bp) ∧ w'.cell? ⟨Q10.heap.size, 1, none⟩ = some (.slice ap lp kp) ∧ w'.cell? ⟨Q10.heap.size, 2, none⟩ = some (.int .i64 ep) ∧ w'.cell? ⟨gl2, 0, none⟩ = some (.bool bn) ∧ w'.cell? ⟨gl2, 1, none⟩ = some (.slice an ln kn) ∧ w'.cell? ⟨gl2, 2, none⟩ = some (.int .i64 E1) ∧ w'.cell? ⟨Q12.heap.size, 0, none⟩ = some (.bool bq) ∧ w'.cell? ⟨Q12.heap.size, 1, none⟩ = some (.slice aq lq kq) ∧ w'.cell? ⟨Q12.heap.size, 2, none⟩ = some (.int .i64 eq) ∧ w'.cell? ⟨gh2, 0, none⟩ = some (.bool bm) ∧ w'.cell? ⟨gh2, 1, none⟩ = some (.slice am lm km) ∧ w'.cell? ⟨gh2, 2, none⟩ = some (.int .i64 E0) ∧ w'.cell? ⟨Q14.heap.size, 0, none⟩ = some (.bool br) ∧ w'.cell? ⟨Q14.heap.size, 1, none⟩ = some (.slice ar lr kr) ∧ w'.cell? ⟨Q14.heap.size, 2, none⟩ = some (.int .i64 er) ∧ w'.cell? ⟨Q17.heap.size, 0, none⟩ = some (.bool bs) ∧ w'.cell? ⟨Q17.heap.size, 1, none⟩ = some (.slice as2 ls ks) ∧ w'.cell? ⟨Q17.heap.size, 2, none⟩ = some (.int .i64 es) ∧ w'.cell? ⟨w.heap.size, 0, none⟩ = some (.bool b0) ∧ w'.cell? ⟨w.heap.size, 1, none⟩ = some (.slice a0 z0.length n0) ∧ w'.cell? ⟨w.heap.size, 2, none⟩ = some (.int .i64 p0) ∧ w'.cell? ⟨w.heap.size + 1, 0, none⟩ = some (.bool b1) ∧ w'.cell? ⟨w.heap.size + 1, 1, none⟩ = some (.slice a1 z1.length n1) ∧ w'.cell? ⟨w.heap.size + 1, 2, none⟩ = some (.int .i64 p1)) (first | with_reducible exact KS.out _ s10 | with_reducible exact KS.out _ s9 | with_reducible exact KS.out _ s4 | with_reducible exact KS.out _ s3 | with_reducible exact KS.out _ s2 | with_reducible exact KS.out _ s1 | with_reducible exact KS.out _ s0 | with_reducible exact KS.out _ (Bx.alloc s4 _)) (first
          | (go_at_call 16; refine (HAW.out t9 G9).mono ?_; rintro e' t10 ⟨rfl, hb10⟩; have s10 := s9.below hb10)
          | (go_at_call_of 21 bw; refine (HKB.out t9 G9).mono ?_; rintro e' wn ⟨rfl, hw⟩; rw [hw]; clear hw wn)
          | (go_at_call_of 21 aw; refine (HKA.out t9 G9).mono ?_; rintro e' wn ⟨rfl, hw⟩; rw [hw]; clear hw wn)
          | (go_at_call 20; refine (HOW.out t4 g4).mono ?_; rintro e' t9 ⟨rfl, hk9⟩; have s9 := s4.bk hk9 HPL.out; have G9 := (HBB.out.trans (g4.mono HBB.out.size)).trans hk9.below; clear s4)
          | (go_at_call_of 15 ar; refine (alike8_says br ar lr kr er cr b23 a23 n23 k23 _ _ (omz SS) (oe SS (mm - 1)) _ t3 (HDr.out.below g3) (.inr ⟨rfl, HBIG.out⟩)).mono ?_; rintro e' t4 ⟨rfl, hb4⟩; have g4 := bl_trans8 g3 hb4; have s4 := s3.below hb4; clear s3)
          | (go_at_call 19; refine (K3.out _ g2).mono ?_; rintro e' t3 ⟨⟨b23, a23, n23, k23, rfl, _⟩, hb3⟩; have g3 := bl_trans8 g2 hb3; have s3 := s2.below hb3; clear s2)
          | (go_at_call_of 15 aq; refine (alike8_ok bq aq lq kq eq cq bm am lm km M0 E0 _ t1 (HDq.out.below g1) (HDm.out.below g1)).mono ?_; rintro e' t2 ⟨rfl, hb2⟩; have g2 := bl_trans8 g1 hb2; have s2 := s1.below hb2; clear s1)
          | (go_at_call_of 15 ap; refine (alike8_ok bp ap lp kp ep cp bn an ln kn M1 E1 _ P18.drew HDp.out HDn.out).mono ?_; rintro e' t1 ⟨rfl, hb1⟩; have g1 := bl_trans8 g0 hb1; have s1 := s0.below hb1; clear s0))
        have HFIN := hide (HWB.out.trans ((G9.trans (hb10.mono G9.size)).mono HWB.out.size))
        clear hb1 hb2 hb3 hb4 hb10 g0 g1 g2 g3 g4 hk9 G9
        go_wp2
        go_ret
        exact ⟨rfl, HFIN.out⟩

end Go.Proofs.YtegbjdjpeblkoaaDoor
