/- The law DyadicNear. -/
import Derived.Test.YtemajaclpkgpbaaDoorLDNaZ
namespace Go.Proofs.YtemajaclpkgpbaaDoor
open Go.RowKit
open Lm
attribute [local go_sem ↓] Go.wp_at_zero Go.wp_at_succ

set_option maxRecDepth 20000 in
set_option maxHeartbeats 16000000 in
theorem near_no (b0 : Bool) (v0 : Value) (z0 : List Nat) (p0 : Int) (pos : Int) (w : World) (hT : Tab w) (A0 : Arg w v0 z0) (_ : z0.length ≤ 17592186043904) (_ : -9223372036854775808 ≤ p0) (_ : p0 ≤ 9223372036854775807) (_ : -9223372036854775808 ≤ pos) (_ : pos ≤ 9223372036854775807) (hE0 : fitE p0 = false) :
    Calls Tryd.prog 5 #[.agg #[.bool b0, v0, .int .i64 p0], .int .i64 pos] w fun e w' => e = .returned (.bool true) ∧ Below w.heap.size w w' := by
  obtain ⟨a0, n0, rfl, _, _, _⟩ := A0.form
  obtain ⟨w0, hw0, hb0, h0⟩ := enter1 w (.cells #[.bool b0, .slice a0 z0.length n0, .int .i64 p0] 24)
  have HA := hide h0
  have HA0 := hide (A0.below hb0)
  have HT := hide (hT.below hb0)
  have HW := hide hb0
  clear hT hb0 h0
  clear A0
  go_enter Tryd.func5, Tryd.ntmps5
  obtain ⟨ca0, cb0, cc0⟩ := tri8 HA.out
  have C := in8_any b0 a0 z0.length n0 p0 w0
  go_wp2_with fail
  refine C.mono ?_
  rintro e Q1 ⟨rfl, hb⟩
  clear C ca0 cb0 cc0 hw0
  obtain ⟨P2, hP2, hbP, hx⟩ := enter1 Q1 (.cells #[.bool b0, .slice a0 z0.length n0, .int .i64 p0] 29)
  have stp := bl_trans8 hb hbP
  replace HA := hide (block_upW stp HA.out)
  replace HA0 := hide (HA0.out.below stp)
  replace HT := hide (HT.out.below stp)
  replace HW := hid_below HW stp
  have HX := hide hx
  clear hb hbP hx stp
  obtain ⟨ca0, cb0, cc0⟩ := tri8 HA.out
  have C := of8_no b0 a0 z0.length n0 p0 P2 hE0
  go_wp2_with fail
  refine C.mono ?_
  rintro e Q3 ⟨he, hb⟩
  clear C ca0 cb0 cc0 hP2
  obtain ⟨bm, am, lm, km, em, rfl⟩ : ∃ b a n k ex, e = .returned (.tuple #[.agg #[.bool b, .slice a n k, .int .i64 ex], .bool false]) := ⟨_, _, _, _, _, he⟩
  clear he
  obtain ⟨P4, hP4, hbP, hx⟩ := enter1 Q3 (.cells #[.bool bm, .slice am lm km, .int .i64 em] 36)
  have stp := bl_trans8 hb hbP
  replace HA := hide (block_upW stp HA.out)
  replace HX := hide (block_upW stp HX.out)
  replace HA0 := hide (HA0.out.below stp)
  replace HT := hide (HT.out.below stp)
  replace HW := hid_below HW stp
  have Hm := hide hx
  clear hb hbP hx stp
  have AW := awake8_any P4 HT.out
  go_wp2_with fail
  refine AW.mono ?_
  rintro e t9 ⟨rfl, hb9⟩
  have HFIN := hide (bl_trans8 HW.out hb9)
  clear AW hb9 hP4
  go_wp2
  go_ret
  exact ⟨rfl, HFIN.out⟩

set_option maxRecDepth 20000 in
set_option maxHeartbeats 16000000 in
theorem near_pos (b0 : Bool) (v0 : Value) (z0 : List Nat) (p0 : Int) (pos : Int) (w : World) (hT : Tab w) (A0 : Arg w v0 z0) (s0 : z0.length ≤ 17592186043904) (_ : -9223372036854775808 ≤ p0) (_ : p0 ≤ 9223372036854775807) (_ : -9223372036854775808 ≤ pos) (_ : pos ≤ 9223372036854775807) (hE0 : fitE p0 = true) (hK : fitE pos = false) :
    Calls Tryd.prog 5 #[.agg #[.bool b0, v0, .int .i64 p0], .int .i64 pos] w fun e w' => e = .returned (.bool true) ∧ Below w.heap.size w w' := by
  obtain ⟨a0, n0, rfl, _, _, _⟩ := A0.form
  obtain ⟨w0, hw0, hb0, h0⟩ := enter1 w (.cells #[.bool b0, .slice a0 z0.length n0, .int .i64 p0] 24)
  have HA := hide h0
  have HA0 := hide (A0.below hb0)
  have HT := hide (hT.below hb0)
  have HW := hide hb0
  clear hT hb0 h0
  obtain ⟨M0, hM0⟩ : ∃ M0, omz (zz b0 (val z0)) = M0 := ⟨_, rfl⟩
  obtain ⟨E0, hE0v⟩ : ∃ E0, oe (zz b0 (val z0)) p0 = E0 := ⟨_, rfl⟩
  have HM0 := hide hM0
  have HV0 := hide hE0v
  clear hM0 hE0v
  clear A0
  go_enter Tryd.func5, Tryd.ntmps5
  obtain ⟨ca0, cb0, cc0⟩ := tri8 HA.out
  have C := in8_any b0 a0 z0.length n0 p0 w0
  go_wp2_with fail
  refine C.mono ?_
  rintro e Q1 ⟨rfl, hb⟩
  clear C ca0 cb0 cc0 hw0
  obtain ⟨P2, hP2, hbP, hx⟩ := enter1 Q1 (.cells #[.bool b0, .slice a0 z0.length n0, .int .i64 p0] 29)
  have stp := bl_trans8 hb hbP
  replace HA := hide (block_upW stp HA.out)
  replace HA0 := hide (HA0.out.below stp)
  replace HT := hide (HT.out.below stp)
  replace HW := hid_below HW stp
  have HX := hide hx
  clear hb hbP hx stp
  obtain ⟨ca0, cb0, cc0⟩ := tri8 HA.out
  have C := of8_ok b0 a0 n0 z0 p0 P2 HA0.out (by omega) hE0
  rw [HM0.out, HV0.out] at C
  go_wp2_with fail
  refine C.mono ?_
  rintro e Q3 ⟨⟨bm, am, lm, km, rfl, hd0⟩, hb⟩
  clear C ca0 cb0 cc0 hP2
  obtain ⟨P4, hP4, hbP, hx⟩ := enter1 Q3 (.cells #[.bool bm, .slice am lm km, .int .i64 E0] 36)
  have stp := bl_trans8 hb hbP
  replace HA := hide (block_upW stp HA.out)
  replace HX := hide (block_upW stp HX.out)
  replace HA0 := hide (HA0.out.below stp)
  replace HT := hide (HT.out.below stp)
  replace HW := hid_below HW stp
  have HDm := hide (hd0.below hbP)
  have Hm := hide hx
  clear hd0 hb hbP hx stp
  have C := fit8_any pos P4
  rw [hK] at C
  go_wp2_with fail
  refine C.mono ?_
  rintro e wn ⟨rfl, hw⟩; rw [hw]; clear hw wn C hP4
  have AW := awake8_any P4 HT.out
  go_wp2_with fail
  refine AW.mono ?_
  rintro e t9 ⟨rfl, hb9⟩
  have HFIN := hide (bl_trans8 HW.out hb9)
  clear AW hb9
  go_wp2
  go_ret
  exact ⟨rfl, HFIN.out⟩

set_option maxRecDepth 20000 in
set_option maxHeartbeats 16000000 in
theorem near_at (b0 : Bool) (v0 : Value) (z0 : List Nat) (p0 : Int) (pos : Int) (w : World) (hT : Tab w) (A0 : Arg w v0 z0) (s0 : z0.length ≤ 17592186043904) (_ : -9223372036854775808 ≤ p0) (_ : p0 ≤ 9223372036854775807) (_ : -9223372036854775808 ≤ pos) (_ : pos ≤ 9223372036854775807) (hE0 : fitE p0 = true) (hK : fitE pos = true) (hat : omz (zz b0 (val z0)) = 0 ∨ pos ≤ oe (zz b0 (val z0)) p0) :
    Calls Tryd.prog 5 #[.agg #[.bool b0, v0, .int .i64 p0], .int .i64 pos] w fun e w' => e = .returned (.bool true) ∧ Below w.heap.size w w' := by
  obtain ⟨a0, n0, rfl, _, _, _⟩ := A0.form
  obtain ⟨w0, hw0, hb0, h0⟩ := enter1 w (.cells #[.bool b0, .slice a0 z0.length n0, .int .i64 p0] 24)
  have HA := hide h0
  have HA0 := hide (A0.below hb0)
  have HT := hide (hT.below hb0)
  have HW := hide hb0
  clear hT hb0 h0
  obtain ⟨L, hL⟩ : ∃ L : Nat, L = 9223372036854775808 := ⟨_, rfl⟩
  have hEr := (fitE_iff p0).1 hE0
  have hKr := (fitE_iff pos).1 hK
  have hbz : blen (zz b0 (val z0)).natAbs ≤ 64 * z0.length := by rw [zz_abs]; exact blen_len8 A0.limbs
  have hOE := oe_range (zz b0 (val z0)) p0 (by omega)
  obtain ⟨V, hX⟩ : ∃ V, Rp L (zz b0 (val z0)) p0 V := ⟨_, Rp.make L _ p0 (by omega)⟩
  have hr := hX.norm
  have hn := nr8_of (zz b0 (val z0)) p0
  have HI0 : Hid (I8 w0 b0 a0 z0.length n0 p0 L V) := hide ⟨z0, rfl, HA0.out, s0, hX⟩
  have HL := hide (show 4611686018427387904 ≤ L by omega)
  have hge : -1099511627776 ≤ oe (zz b0 (val z0)) p0 := by unfold oe; split <;> omega
  obtain ⟨M0, hM0⟩ : ∃ M0, omz (zz b0 (val z0)) = M0 := ⟨_, rfl⟩
  obtain ⟨E0, hE0v⟩ : ∃ E0, oe (zz b0 (val z0)) p0 = E0 := ⟨_, rfl⟩
  rw [hM0, hE0v] at hr hn
  rw [hE0v] at hOE hge
  have HM0 := hide hM0
  have HV0 := hide hE0v
  have HR := hide hr
  have HN := hide hn
  have HGE := hide hge
  have HHI := hide (show E0 ≤ 1125899906842624 * 4 by omega)
  obtain ⟨P, hP⟩ : ∃ P : Nat, 2 ^ (pos + L).toNat = P := ⟨_, rfl⟩
  have HPP := hide hP
  have HP0 := hide (show 0 < P by rw [← hP]; exact Nat.two_pow_pos _)
  have HPL := hide (show 0 ≤ pos + L by omega)
  have HKR := hide hKr
  have HLE := hide hL
  clear A0 hM0 hE0v hr hn hX hP hge hOE hEr hbz hL hKr
  go_enter Tryd.func5, Tryd.ntmps5
  obtain ⟨ca0, cb0, cc0⟩ := tri8 HA.out
  have C := in8_any b0 a0 z0.length n0 p0 w0
  go_wp2_with fail
  refine C.mono ?_
  rintro e Q1 ⟨rfl, hb⟩
  clear C ca0 cb0 cc0 hw0
  obtain ⟨P2, hP2, hbP, hx⟩ := enter1 Q1 (.cells #[.bool b0, .slice a0 z0.length n0, .int .i64 p0] 29)
  have stp := bl_trans8 hb hbP
  replace HA := hide (block_upW stp HA.out)
  replace HA0 := hide (HA0.out.below stp)
  replace HT := hide (HT.out.below stp)
  replace HI0 := hide (HI0.out.below stp)
  replace HW := hid_below HW stp
  have HX := hide hx
  clear hb hbP hx stp
  obtain ⟨ca0, cb0, cc0⟩ := tri8 HA.out
  have C := of8_ok b0 a0 n0 z0 p0 P2 HA0.out (by omega) hE0
  rw [HM0.out, HV0.out] at C
  go_wp2_with fail
  refine C.mono ?_
  rintro e Q3 ⟨⟨bm, am, lm, km, rfl, hd0⟩, hb⟩
  clear C ca0 cb0 cc0 hP2
  obtain ⟨P4, hP4, hbP, hx⟩ := enter1 Q3 (.cells #[.bool bm, .slice am lm km, .int .i64 E0] 36)
  have stp := bl_trans8 hb hbP
  replace HA := hide (block_upW stp HA.out)
  replace HX := hide (block_upW stp HX.out)
  replace HA0 := hide (HA0.out.below stp)
  replace HT := hide (HT.out.below stp)
  replace HI0 := hide (HI0.out.below stp)
  replace HW := hid_below HW stp
  have HDm := hide (hd0.below hbP)
  have Hm := hide hx
  clear hd0 hb hbP hx stp
  have C := fit8_any pos P4
  rw [hK] at C
  go_wp2_with fail
  refine C.mono ?_
  rintro e wn ⟨rfl, hw⟩; rw [hw]; clear hw wn C hP4
  obtain ⟨ca0, cb0, cc0⟩ := tri8 HX.out
  have C := yround8 b0 a0 z0.length n0 p0 L V pos 0 P4 HT.out HI0.out HL.out hK (by decide)
  rw [HPP.out] at C
  go_wp2_with fail
  refine C.mono ?_
  rintro e Q5 ⟨⟨bp, apx, lp, kp, ep, cp, rfl, hp⟩, hb⟩
  clear C ca0 cb0 cc0
  obtain ⟨P6, hP6, hbP, hx⟩ := enter1 Q5 (.cells #[.bool bp, .slice apx lp kp, .int .i64 ep] 29)
  have stp := bl_trans8 hb hbP
  replace HA := hide (block_upW stp HA.out)
  replace HX := hide (block_upW stp HX.out)
  replace Hm := hide (block_upW stp Hm.out)
  replace HA0 := hide (HA0.out.below stp)
  replace HT := hide (HT.out.below stp)
  replace HI0 := hide (HI0.out.below stp)
  replace HDm := hide (HDm.out.below stp)
  replace HW := hid_below HW stp
  have HRp := hide (hp.below hbP)
  have Hp := hide hx
  clear hp hb hbP hx stp
  obtain ⟨ca0, cb0, cc0⟩ := tri8 HX.out
  have C := yround8 b0 a0 z0.length n0 p0 L V pos 1 P6 HT.out HI0.out HL.out hK (by decide)
  rw [HPP.out] at C
  go_wp2_with fail
  refine C.mono ?_
  rintro e Q7 ⟨⟨bq, aqx, lq, kq, eq, cq, rfl, hp⟩, hb⟩
  clear C ca0 cb0 cc0 hP6
  obtain ⟨P8, hP8, hbP, hx⟩ := enter1 Q7 (.cells #[.bool bq, .slice aqx lq kq, .int .i64 eq] 29)
  have stp := bl_trans8 hb hbP
  replace HA := hide (block_upW stp HA.out)
  replace HX := hide (block_upW stp HX.out)
  replace Hm := hide (block_upW stp Hm.out)
  replace Hp := hide (block_upW stp Hp.out)
  replace HA0 := hide (HA0.out.below stp)
  replace HT := hide (HT.out.below stp)
  replace HI0 := hide (HI0.out.below stp)
  replace HDm := hide (HDm.out.below stp)
  replace HRp := hide (HRp.out.below stp)
  replace HW := hid_below HW stp
  have HRq := hide (hp.below hbP)
  have Hq := hide hx
  clear hp hb hbP hx stp
  obtain ⟨ca0, cb0, cc0⟩ := tri8 HX.out
  have C := yround8 b0 a0 z0.length n0 p0 L V pos 2 P8 HT.out HI0.out HL.out hK (by decide)
  rw [HPP.out] at C
  go_wp2_with fail
  refine C.mono ?_
  rintro e Q9 ⟨⟨br, arx, lr, kr, er, cr, rfl, hp⟩, hb⟩
  clear C ca0 cb0 cc0 hP8
  obtain ⟨P10, hP10, hbP, hx⟩ := enter1 Q9 (.cells #[.bool br, .slice arx lr kr, .int .i64 er] 29)
  have stp := bl_trans8 hb hbP
  replace HA := hide (block_upW stp HA.out)
  replace HX := hide (block_upW stp HX.out)
  replace Hm := hide (block_upW stp Hm.out)
  replace Hp := hide (block_upW stp Hp.out)
  replace Hq := hide (block_upW stp Hq.out)
  replace HA0 := hide (HA0.out.below stp)
  replace HT := hide (HT.out.below stp)
  replace HI0 := hide (HI0.out.below stp)
  replace HDm := hide (HDm.out.below stp)
  replace HRp := hide (HRp.out.below stp)
  replace HRq := hide (HRq.out.below stp)
  replace HW := hid_below HW stp
  have HRr := hide (hp.below hbP)
  have Hr := hide hx
  clear hp hb hbP hx stp
  obtain ⟨ca0, cb0, cc0⟩ := tri8 HX.out
  have C := yneg8 b0 a0 z0.length n0 p0 L V P10 HT.out HI0.out
  go_wp2_with fail
  refine C.mono ?_
  rintro e Q11 ⟨⟨bn, anx, ln, kn, en, cn, rfl, hp⟩, hb⟩
  clear C ca0 cb0 cc0 hP10
  obtain ⟨P12, hP12, hbP, hx⟩ := enter1 Q11 (.cells #[.bool bn, .slice anx ln kn, .int .i64 en] 29)
  have stp := bl_trans8 hb hbP
  replace HA := hide (block_upW stp HA.out)
  replace HX := hide (block_upW stp HX.out)
  replace Hm := hide (block_upW stp Hm.out)
  replace Hp := hide (block_upW stp Hp.out)
  replace Hq := hide (block_upW stp Hq.out)
  replace Hr := hide (block_upW stp Hr.out)
  replace HA0 := hide (HA0.out.below stp)
  replace HT := hide (HT.out.below stp)
  replace HI0 := hide (HI0.out.below stp)
  replace HDm := hide (HDm.out.below stp)
  replace HRp := hide (HRp.out.below stp)
  replace HRq := hide (HRq.out.below stp)
  replace HRr := hide (HRr.out.below stp)
  replace HW := hid_below HW stp
  have HRn := hide (hp.below hbP)
  have Hn := hide hx
  clear hp hb hbP hx stp
  obtain ⟨U13, hU13, hst, hLb⟩ := enter1 P12 (.cells #[.int .i64 cp, .int .i64 cq, .int .i64 cr, .int .i64 cn] 39)
  have AL := yall_any P12.heap.size 4 [cp, cq, cr, cn] U13 rfl (by omega) hLb
  replace HA := hide (block_upW hst HA.out)
  replace HX := hide (block_upW hst HX.out)
  replace Hm := hide (block_upW hst Hm.out)
  replace Hp := hide (block_upW hst Hp.out)
  replace Hq := hide (block_upW hst Hq.out)
  replace Hr := hide (block_upW hst Hr.out)
  replace Hn := hide (block_upW hst Hn.out)
  replace HA0 := hide (HA0.out.below hst)
  replace HT := hide (HT.out.below hst)
  replace HI0 := hide (HI0.out.below hst)
  replace HDm := hide (HDm.out.below hst)
  replace HRp := hide (HRp.out.below hst)
  replace HRq := hide (HRq.out.below hst)
  replace HRr := hide (HRr.out.below hst)
  replace HRn := hide (HRn.out.below hst)
  replace HW := hid_below HW hst
  clear hst hLb
  by_cases hc : cp = 0 ∧ cq = 0 ∧ cr = 0 ∧ cn = 0
  · skip
    obtain ⟨rfl, rfl, rfl, rfl⟩ := hc
    have hyes : (([0, 0, 0, 0] : List Int).all (· == 0)) = true := by decide
    rw [hyes] at AL
    clear hyes
    go_wp2_with fail
    refine AL.mono ?_
    rintro e wn ⟨rfl, hw⟩; rw [hw]; clear hw wn AL hP12 hU13
    have HGp := hide (HRp.out rfl)
    have HGq := hide (HRq.out rfl)
    have HGr := hide (HRr.out rfl)
    have HGn := hide (HRn.out rfl)
    clear HRp HRq HRr HRn
    have hl4 := near_room HP0.out HR.out HGE.out HHI.out HGp.out.ok8 HGq.out.ok8
    have HL4 := hide hl4
    have HN1 := hide (rv_neg01 V P)
    have HN2 := hide (rv_neg2 V P HP0.out)
    have HO1 : Hid (Ok8 L (rv 0 (-V) P)) := hide (by rw [HN1.out]; exact HGq.out.ok8.neg)
    have HO2 : Hid (Ok8 L (rv 2 (-V) P)) := hide (by rw [HN2.out]; exact HGr.out.ok8.neg)
    have HDN := hide (rv_down V P)
    have HUP := hide (rv_up V P)
    have HM1 := hide (Int.emod_nonneg V (show (P : Int) ≠ 0 by have := HP0.out; omega))
    have HM2 := hide (Int.emod_nonneg (-V) (show (P : Int) ≠ 0 by have := HP0.out; omega))
    have HML := hide (Int.emod_lt_of_pos V (show (0 : Int) < (P : Int) by have := HP0.out; omega))
    have HXd := hide (rv_rest 0 V P)
    have HXu := hide (rv_rest 1 V P)
    clear hl4
    obtain ⟨ca0, cb0, cc0⟩ := tri8 Hn.out
    have C := yround8s bn anx ln kn en L (-V) pos 0 U13 HT.out HGn.out HL.out hK (by decide) (by rw [HPP.out]; exact HO1.out)
    rw [HPP.out, HN1.out] at C
    go_wp2_with fail
    refine C.mono ?_
    rintro e Q14 ⟨⟨bs, asx, ls, ks, es, rfl, hp⟩, hb⟩
    clear C ca0 cb0 cc0
    obtain ⟨P15, hP15, hbP, hx⟩ := enter1 Q14 (.cells #[.bool bs, .slice asx ls ks, .int .i64 es] 29)
    have stp := bl_trans8 hb hbP
    replace HA := hide (block_upW stp HA.out)
    replace HX := hide (block_upW stp HX.out)
    replace Hm := hide (block_upW stp Hm.out)
    replace Hp := hide (block_upW stp Hp.out)
    replace Hq := hide (block_upW stp Hq.out)
    replace Hr := hide (block_upW stp Hr.out)
    replace Hn := hide (block_upW stp Hn.out)
    replace HA0 := hide (HA0.out.below stp)
    replace HT := hide (HT.out.below stp)
    replace HI0 := hide (HI0.out.below stp)
    replace HDm := hide (HDm.out.below stp)
    replace HGp := hide (HGp.out.below stp)
    replace HGq := hide (HGq.out.below stp)
    replace HGr := hide (HGr.out.below stp)
    replace HGn := hide (HGn.out.below stp)
    replace HW := hid_below HW stp
    have HGs := hide (hp.below hbP)
    have Hs := hide hx
    clear hp hb hbP hx stp
    obtain ⟨ca0, cb0, cc0⟩ := tri8 Hn.out
    have C := yround8s bn anx ln kn en L (-V) pos 2 P15 HT.out HGn.out HL.out hK (by decide) (by rw [HPP.out]; exact HO2.out)
    rw [HPP.out, HN2.out] at C
    go_wp2_with fail
    refine C.mono ?_
    rintro e Q16 ⟨⟨bt, atx, lt, kt, et, rfl, hp⟩, hb⟩
    clear C ca0 cb0 cc0 hP15
    obtain ⟨P17, hP17, hbP, hx⟩ := enter1 Q16 (.cells #[.bool bt, .slice atx lt kt, .int .i64 et] 29)
    have stp := bl_trans8 hb hbP
    replace HA := hide (block_upW stp HA.out)
    replace HX := hide (block_upW stp HX.out)
    replace Hm := hide (block_upW stp Hm.out)
    replace Hp := hide (block_upW stp Hp.out)
    replace Hq := hide (block_upW stp Hq.out)
    replace Hr := hide (block_upW stp Hr.out)
    replace Hn := hide (block_upW stp Hn.out)
    replace Hs := hide (block_upW stp Hs.out)
    replace HA0 := hide (HA0.out.below stp)
    replace HT := hide (HT.out.below stp)
    replace HI0 := hide (HI0.out.below stp)
    replace HDm := hide (HDm.out.below stp)
    replace HGp := hide (HGp.out.below stp)
    replace HGq := hide (HGq.out.below stp)
    replace HGr := hide (HGr.out.below stp)
    replace HGn := hide (HGn.out.below stp)
    replace HGs := hide (HGs.out.below stp)
    replace HW := hid_below HW stp
    have HGt := hide (hp.below hbP)
    have Ht := hide hx
    clear hp hb hbP hx stp
    obtain ⟨U18, hU18, hst, hLb⟩ := enter1 P17 (.cells #[.int .i64 0, .int .i64 0] 39)
    have AL := yall_any P17.heap.size 2 [0, 0] U18 rfl (by omega) hLb
    replace HA := hide (block_upW hst HA.out)
    replace HX := hide (block_upW hst HX.out)
    replace Hm := hide (block_upW hst Hm.out)
    replace Hp := hide (block_upW hst Hp.out)
    replace Hq := hide (block_upW hst Hq.out)
    replace Hr := hide (block_upW hst Hr.out)
    replace Hn := hide (block_upW hst Hn.out)
    replace Hs := hide (block_upW hst Hs.out)
    replace Ht := hide (block_upW hst Ht.out)
    replace HA0 := hide (HA0.out.below hst)
    replace HT := hide (HT.out.below hst)
    replace HI0 := hide (HI0.out.below hst)
    replace HDm := hide (HDm.out.below hst)
    replace HGp := hide (HGp.out.below hst)
    replace HGq := hide (HGq.out.below hst)
    replace HGr := hide (HGr.out.below hst)
    replace HGn := hide (HGn.out.below hst)
    replace HGs := hide (HGs.out.below hst)
    replace HGt := hide (HGt.out.below hst)
    replace HW := hid_below HW hst
    clear hst hLb
    have hyes : (([0, 0] : List Int).all (· == 0)) = true := by decide
    rw [hyes] at AL
    clear hyes
    go_wp2_with fail
    refine AL.mono ?_
    rintro e wn ⟨rfl, hw⟩; rw [hw]; clear hw wn AL hP17 hU18
    rw [HM0.out, HV0.out] at hat
    have hmod : V % (P : Int) = 0 := by rw [← HPP.out]; exact (at_iff HR.out HN.out HPL.out).1 hat
    have hd0 : rv 0 V P = V := rv_mult HP0.out hmod
    have hu0 : rv 1 V P = V := rv_mult HP0.out hmod
    have hn0 : rv 2 V P = V := rv_mult HP0.out hmod
    rw [hd0] at HGp
    rw [hu0] at HGq HGs
    rw [hn0] at HGr HGt
    have HMOD := hide hmod
    clear hat hd0 hu0 hn0 hmod HDN HUP HXd HXu HN1 HN2 HO1 HO2
    have HFp := hide HGp.out.fit9
    have HFq := hide HGq.out.fit9
    have HFr := hide HGr.out.fit9
    have KS := hide (fun (W : World) (hg : Below U18.heap.size U18 W) => show W.cell? ⟨Q5.heap.size, 0, none⟩ = some (.bool bp) ∧ W.cell? ⟨Q5.heap.size, 1, none⟩ = some (.slice apx lp kp) ∧ W.cell? ⟨Q5.heap.size, 2, none⟩ = some (.int .i64 ep) ∧ W.cell? ⟨Q7.heap.size, 0, none⟩ = some (.bool bq) ∧ W.cell? ⟨Q7.heap.size, 1, none⟩ = some (.slice aqx lq kq) ∧ W.cell? ⟨Q7.heap.size, 2, none⟩ = some (.int .i64 eq) ∧ W.cell? ⟨Q9.heap.size, 0, none⟩ = some (.bool br) ∧ W.cell? ⟨Q9.heap.size, 1, none⟩ = some (.slice arx lr kr) ∧ W.cell? ⟨Q9.heap.size, 2, none⟩ = some (.int .i64 er) from ⟨(tri8 (block_upW hg Hp.out)).1, (tri8 (block_upW hg Hp.out)).2.1, (tri8 (block_upW hg Hp.out)).2.2, (tri8 (block_upW hg Hq.out)).1, (tri8 (block_upW hg Hq.out)).2.1, (tri8 (block_upW hg Hq.out)).2.2, (tri8 (block_upW hg Hr.out)).1, (tri8 (block_upW hg Hr.out)).2.1, (tri8 (block_upW hg Hr.out)).2.2⟩)
    have IN1 := hide (fun (W : World) (hg : Below U18.heap.size U18 W) => tread8 bp apx lp kp ep L V W (HGp.out.below hg))
    have IN2 := hide (fun (W : World) (hg : Below U18.heap.size U18 W) => tread8 bq aqx lq kq eq L V W (HGq.out.below hg))
    have IN3 := hide (fun (W : World) (hg : Below U18.heap.size U18 W) => tread8 br arx lr kr er L V W (HGr.out.below hg))
    go_upto_region 20 with fail
    go_cut [20, 21, 22] from 93 to 98 (fun s t r wx => ThreeT U18 ep eq er L V V V s t r wx)
    case first =>
      refine wp_region_held_drew (S := fun w' => w'.cell? ⟨Q5.heap.size, 0, none⟩ = some (.bool bp) ∧ w'.cell? ⟨Q5.heap.size, 1, none⟩ = some (.slice apx lp kp) ∧ w'.cell? ⟨Q5.heap.size, 2, none⟩ = some (.int .i64 ep) ∧ w'.cell? ⟨Q7.heap.size, 0, none⟩ = some (.bool bq) ∧ w'.cell? ⟨Q7.heap.size, 1, none⟩ = some (.slice aqx lq kq) ∧ w'.cell? ⟨Q7.heap.size, 2, none⟩ = some (.int .i64 eq) ∧ w'.cell? ⟨Q9.heap.size, 0, none⟩ = some (.bool br) ∧ w'.cell? ⟨Q9.heap.size, 1, none⟩ = some (.slice arx lr kr) ∧ w'.cell? ⟨Q9.heap.size, 2, none⟩ = some (.int .i64 er)) (by kernel_rfl) (KS.out _ (bl_drewT (Below.refl _ _))) (fun hHeld => ?_)
      refine wpAnyH_take (i := 0) (v := .agg #[.bool bp, .slice apx lp kp, .int .i64 ep]) rfl (by kernel_rfl) (by kernel_rfl) (by kernel_rfl) (fun _ _ _ h => h) (Or.inl ⟨by rfl, fun w9 hSw => ?_⟩) hHeld ?_
      · (try dsimp only at hSw); go_simp
      refine wpAnyH_take (i := 2) (v := .agg #[.bool bq, .slice aqx lq kq, .int .i64 eq]) rfl (by kernel_rfl) (by kernel_rfl) (by kernel_rfl) (fun _ _ _ h => h) (Or.inl ⟨by rfl, fun w9 hSw => ?_⟩) hHeld ?_
      · (try dsimp only at hSw); go_simp
      refine wpAnyH_take (i := 4) (v := .agg #[.bool br, .slice arx lr kr, .int .i64 er]) rfl (by kernel_rfl) (by kernel_rfl) (by kernel_rfl) (fun _ _ _ h => h) (Or.inl ⟨by rfl, fun w9 hSw => ?_⟩) hHeld ?_
      · (try dsimp only at hSw); go_simp
      refine dp3t U18 (IsT ep L V) (IsT eq L V) (IsT er L V) (IsT.up _ _ _) (IsT.up _ _ _) (IsT.up _ _ _) (fun x1 x2 x3 y1 y2 y3 => { tmps := #[Value.agg #[Value.bool b0, Value.slice a0 z0.length n0, Value.int IntKind.i64 p0], Value.int IntKind.i64 pos, Value.pointer (some { block := w.heap.size, off := 0 }), undef, Value.bool false, Value.pointer (some { block := Q1.heap.size, off := 0 }), Value.pointer (some { block := Q3.heap.size, off := 0 }), Value.bool true, Value.pointer (some { block := Q5.heap.size, off := 0 }), Value.int IntKind.i64 0, Value.pointer (some { block := Q7.heap.size, off := 0 }), Value.int IntKind.i64 0, Value.pointer (some { block := Q9.heap.size, off := 0 }), Value.int IntKind.i64 0, Value.pointer (some { block := Q11.heap.size, off := 0 }), Value.int IntKind.i64 0, Value.pointer (some { block := Q14.heap.size, off := 0 }), Value.int IntKind.i64 0, Value.pointer (some { block := Q16.heap.size, off := 0 }), Value.int IntKind.i64 0, y1, y2, y3, undef, undef, undef, undef, undef, undef, undef, Value.agg #[Value.bool b0, Value.slice a0 z0.length n0, Value.int IntKind.i64 p0], Value.agg #[Value.bool b0, Value.slice a0 z0.length n0, Value.int IntKind.i64 p0], Value.tuple #[Value.agg #[Value.bool bm, Value.slice am lm km, Value.int IntKind.i64 E0], Value.bool true], Value.agg #[Value.bool b0, Value.slice a0 z0.length n0, Value.int IntKind.i64 p0], Value.tuple #[Value.agg #[Value.bool bm, Value.slice am lm km, Value.int IntKind.i64 E0], Value.bool true], Value.agg #[Value.bool bm, Value.slice am lm km, Value.int IntKind.i64 E0], Value.bool true, Value.bool true, Value.bool false, Value.bool false, Value.int IntKind.i64 pos, Value.bool true, Value.bool false, Value.bool false, undef, Value.tuple #[Value.agg #[Value.bool bp, Value.slice apx lp kp, Value.int IntKind.i64 ep], Value.int IntKind.i64 0], Value.agg #[Value.bool b0, Value.slice a0 z0.length n0, Value.int IntKind.i64 p0], Value.int IntKind.i64 pos, Value.tuple #[Value.agg #[Value.bool bp, Value.slice apx lp kp, Value.int IntKind.i64 ep], Value.int IntKind.i64 0], Value.agg #[Value.bool bp, Value.slice apx lp kp, Value.int IntKind.i64 ep], Value.int IntKind.i64 0, Value.tuple #[Value.agg #[Value.bool bq, Value.slice aqx lq kq, Value.int IntKind.i64 eq], Value.int IntKind.i64 0], Value.agg #[Value.bool b0, Value.slice a0 z0.length n0, Value.int IntKind.i64 p0], Value.int IntKind.i64 pos, Value.tuple #[Value.agg #[Value.bool bq, Value.slice aqx lq kq, Value.int IntKind.i64 eq], Value.int IntKind.i64 0], Value.agg #[Value.bool bq, Value.slice aqx lq kq, Value.int IntKind.i64 eq], Value.int IntKind.i64 0, Value.tuple #[Value.agg #[Value.bool br, Value.slice arx lr kr, Value.int IntKind.i64 er], Value.int IntKind.i64 0], Value.agg #[Value.bool b0, Value.slice a0 z0.length n0, Value.int IntKind.i64 p0], Value.int IntKind.i64 pos, Value.tuple #[Value.agg #[Value.bool br, Value.slice arx lr kr, Value.int IntKind.i64 er], Value.int IntKind.i64 0], Value.agg #[Value.bool br, Value.slice arx lr kr, Value.int IntKind.i64 er], Value.int IntKind.i64 0, Value.tuple #[Value.agg #[Value.bool bn, Value.slice anx ln kn, Value.int IntKind.i64 en], Value.int IntKind.i64 0], Value.agg #[Value.bool b0, Value.slice a0 z0.length n0, Value.int IntKind.i64 p0], Value.tuple #[Value.agg #[Value.bool bn, Value.slice anx ln kn, Value.int IntKind.i64 en], Value.int IntKind.i64 0], Value.agg #[Value.bool bn, Value.slice anx ln kn, Value.int IntKind.i64 en], Value.int IntKind.i64 0, Value.int IntKind.i64 0, Value.int IntKind.i64 0, Value.int IntKind.i64 0, Value.int IntKind.i64 0, Value.slice (some { block := P12.heap.size, off := 0 }) 4 4, Value.bool true, Value.bool false, undef, Value.tuple #[Value.agg #[Value.bool bs, Value.slice asx ls ks, Value.int IntKind.i64 es], Value.int IntKind.i64 0], Value.agg #[Value.bool bn, Value.slice anx ln kn, Value.int IntKind.i64 en], Value.int IntKind.i64 pos, Value.tuple #[Value.agg #[Value.bool bs, Value.slice asx ls ks, Value.int IntKind.i64 es], Value.int IntKind.i64 0], Value.agg #[Value.bool bs, Value.slice asx ls ks, Value.int IntKind.i64 es], Value.int IntKind.i64 0, Value.tuple #[Value.agg #[Value.bool bt, Value.slice atx lt kt, Value.int IntKind.i64 et], Value.int IntKind.i64 0], Value.agg #[Value.bool bn, Value.slice anx ln kn, Value.int IntKind.i64 en], Value.int IntKind.i64 pos, Value.tuple #[Value.agg #[Value.bool bt, Value.slice atx lt kt, Value.int IntKind.i64 et], Value.int IntKind.i64 0], Value.agg #[Value.bool bt, Value.slice atx lt kt, Value.int IntKind.i64 et], Value.int IntKind.i64 0, Value.int IntKind.i64 0, Value.int IntKind.i64 0, Value.slice (some { block := P17.heap.size, off := 0 }) 2 2, Value.bool true, Value.bool false, .agg #[.bool bp, .slice apx lp kp, .int .i64 ep], x1, .agg #[.bool bq, .slice aqx lq kq, .int .i64 eq], x2, .agg #[.bool br, .slice arx lr kr, .int .i64 er], x3, undef, undef, undef, undef, undef, undef, undef, undef, undef, undef, undef, undef, undef, undef, undef, undef, undef, undef, undef, undef, undef, undef, undef, undef, undef, undef, undef, undef, undef, undef, undef, undef, undef, undef, undef, undef, undef, undef, undef, undef, undef, undef, undef, undef, undef, undef, undef, undef, undef, undef, undef, undef, undef, undef, undef, undef, undef, undef, undef, undef, undef, undef, undef, undef, undef, undef, undef, undef, undef, undef, undef, undef, undef, undef, undef, undef, undef, undef, undef, undef, undef, undef, undef, undef, undef, undef, undef, undef, undef, undef, undef, undef, undef, undef, undef, undef, undef, undef, undef, undef, undef, undef, undef, undef, undef, undef, undef, undef, undef, undef, undef, undef, undef, undef, undef, undef, undef, undef, undef, undef, undef, undef, undef, undef, undef, undef, undef, undef, undef, undef, undef, undef], defers := [] }) (fun c1 c2 c3 k1 k2 k3 => #[true, c1, true, c2, true, c3, k1, k2, k3, false, false, false]) (by kernel_rfl) (by kernel_rfl) rfl (bl_drewT (Below.refl _ _)) ?_
      clear hHeld
      intro n
      induction n with
      | zero =>
        intro c1 c2 c3 k1 k2 k3 x1 x2 x3 y1 y2 y3 W hf J
        exact absurd hf (by unfold left6t; omega)
      | succ n ih =>
        intro c1 c2 c3 k1 k2 k3 x1 x2 x3 y1 y2 y3 W hf J
        cases c1
        · skip
          cases c2
          · skip
            cases c3
            · skip
              cases k1
              · skip
                cases k2
                · skip
                  cases k3
                  · skip
                    refine wpAnyH_ready (rs := [1, 6, 7, 8]) (by kernel_rfl) (by simp) ?_
                    refine AllReadyH.cons rfl (fun K hK => ?_) ?_
                    · go_simp
                      refine (IN1.out W J.up).mono ?_
                      rintro e' W2 ⟨⟨b9, a9, n9, k9, rfl, t9⟩, hb⟩
                      refine hK.out _ _ (KS.out _ (bl_trans8 J.up hb)) (fun _ => ?_)
                      simp only [List.setIfInBounds_toArray, List.set_cons_zero, List.set_cons_succ]
                      exact ih _ _ _ _ _ _ _ _ _ _ _ _ _ (by simp [left6t] at hf ⊢; omega) (J.call1 hb ⟨_, _, _, _, rfl, t9⟩)
                    refine AllReadyH.cons rfl (fun K hK => ?_) ?_
                    · go_simp
                      refine hK.out _ _ (KS.out _ (bl_allocT J.up _)) (fun _ => ?_)
                      simp only [List.setIfInBounds_toArray, List.set_cons_zero, List.set_cons_succ]
                      exact ih _ _ _ _ _ _ _ _ _ _ _ _ _ (by simp [left6t] at hf ⊢; omega) J.make1
                    refine AllReadyH.cons rfl (fun K hK => ?_) ?_
                    · go_simp
                      refine hK.out _ _ (KS.out _ (bl_allocT J.up _)) (fun _ => ?_)
                      simp only [List.setIfInBounds_toArray, List.set_cons_zero, List.set_cons_succ]
                      exact ih _ _ _ _ _ _ _ _ _ _ _ _ _ (by simp [left6t] at hf ⊢; omega) J.make2
                    refine AllReadyH.cons rfl (fun K hK => ?_) ?_
                    · go_simp
                      refine hK.out _ _ (KS.out _ (bl_allocT J.up _)) (fun _ => ?_)
                      simp only [List.setIfInBounds_toArray, List.set_cons_zero, List.set_cons_succ]
                      exact ih _ _ _ _ _ _ _ _ _ _ _ _ _ (by simp [left6t] at hf ⊢; omega) J.make3
                    exact AllReadyH.nil
                  · skip
                    refine wpAnyH_ready (rs := [1, 6, 7]) (by kernel_rfl) (by simp) ?_
                    refine AllReadyH.cons rfl (fun K hK => ?_) ?_
                    · go_simp
                      refine (IN1.out W J.up).mono ?_
                      rintro e' W2 ⟨⟨b9, a9, n9, k9, rfl, t9⟩, hb⟩
                      refine hK.out _ _ (KS.out _ (bl_trans8 J.up hb)) (fun _ => ?_)
                      simp only [List.setIfInBounds_toArray, List.set_cons_zero, List.set_cons_succ]
                      exact ih _ _ _ _ _ _ _ _ _ _ _ _ _ (by simp [left6t] at hf ⊢; omega) (J.call1 hb ⟨_, _, _, _, rfl, t9⟩)
                    refine AllReadyH.cons rfl (fun K hK => ?_) ?_
                    · go_simp
                      refine hK.out _ _ (KS.out _ (bl_allocT J.up _)) (fun _ => ?_)
                      simp only [List.setIfInBounds_toArray, List.set_cons_zero, List.set_cons_succ]
                      exact ih _ _ _ _ _ _ _ _ _ _ _ _ _ (by simp [left6t] at hf ⊢; omega) J.make1
                    refine AllReadyH.cons rfl (fun K hK => ?_) ?_
                    · go_simp
                      refine hK.out _ _ (KS.out _ (bl_allocT J.up _)) (fun _ => ?_)
                      simp only [List.setIfInBounds_toArray, List.set_cons_zero, List.set_cons_succ]
                      exact ih _ _ _ _ _ _ _ _ _ _ _ _ _ (by simp [left6t] at hf ⊢; omega) J.make2
                    exact AllReadyH.nil
                · skip
                  cases k3
                  · skip
                    refine wpAnyH_ready (rs := [1, 6, 8]) (by kernel_rfl) (by simp) ?_
                    refine AllReadyH.cons rfl (fun K hK => ?_) ?_
                    · go_simp
                      refine (IN1.out W J.up).mono ?_
                      rintro e' W2 ⟨⟨b9, a9, n9, k9, rfl, t9⟩, hb⟩
                      refine hK.out _ _ (KS.out _ (bl_trans8 J.up hb)) (fun _ => ?_)
                      simp only [List.setIfInBounds_toArray, List.set_cons_zero, List.set_cons_succ]
                      exact ih _ _ _ _ _ _ _ _ _ _ _ _ _ (by simp [left6t] at hf ⊢; omega) (J.call1 hb ⟨_, _, _, _, rfl, t9⟩)
                    refine AllReadyH.cons rfl (fun K hK => ?_) ?_
                    · go_simp
                      refine hK.out _ _ (KS.out _ (bl_allocT J.up _)) (fun _ => ?_)
                      simp only [List.setIfInBounds_toArray, List.set_cons_zero, List.set_cons_succ]
                      exact ih _ _ _ _ _ _ _ _ _ _ _ _ _ (by simp [left6t] at hf ⊢; omega) J.make1
                    refine AllReadyH.cons rfl (fun K hK => ?_) ?_
                    · go_simp
                      refine hK.out _ _ (KS.out _ (bl_allocT J.up _)) (fun _ => ?_)
                      simp only [List.setIfInBounds_toArray, List.set_cons_zero, List.set_cons_succ]
                      exact ih _ _ _ _ _ _ _ _ _ _ _ _ _ (by simp [left6t] at hf ⊢; omega) J.make3
                    exact AllReadyH.nil
                  · skip
                    refine wpAnyH_ready (rs := [1, 6]) (by kernel_rfl) (by simp) ?_
                    refine AllReadyH.cons rfl (fun K hK => ?_) ?_
                    · go_simp
                      refine (IN1.out W J.up).mono ?_
                      rintro e' W2 ⟨⟨b9, a9, n9, k9, rfl, t9⟩, hb⟩
                      refine hK.out _ _ (KS.out _ (bl_trans8 J.up hb)) (fun _ => ?_)
                      simp only [List.setIfInBounds_toArray, List.set_cons_zero, List.set_cons_succ]
                      exact ih _ _ _ _ _ _ _ _ _ _ _ _ _ (by simp [left6t] at hf ⊢; omega) (J.call1 hb ⟨_, _, _, _, rfl, t9⟩)
                    refine AllReadyH.cons rfl (fun K hK => ?_) ?_
                    · go_simp
                      refine hK.out _ _ (KS.out _ (bl_allocT J.up _)) (fun _ => ?_)
                      simp only [List.setIfInBounds_toArray, List.set_cons_zero, List.set_cons_succ]
                      exact ih _ _ _ _ _ _ _ _ _ _ _ _ _ (by simp [left6t] at hf ⊢; omega) J.make1
                    exact AllReadyH.nil
              · skip
                cases k2
                · skip
                  cases k3
                  · skip
                    refine wpAnyH_ready (rs := [1, 7, 8]) (by kernel_rfl) (by simp) ?_
                    refine AllReadyH.cons rfl (fun K hK => ?_) ?_
                    · go_simp
                      refine (IN1.out W J.up).mono ?_
                      rintro e' W2 ⟨⟨b9, a9, n9, k9, rfl, t9⟩, hb⟩
                      refine hK.out _ _ (KS.out _ (bl_trans8 J.up hb)) (fun _ => ?_)
                      simp only [List.setIfInBounds_toArray, List.set_cons_zero, List.set_cons_succ]
                      exact ih _ _ _ _ _ _ _ _ _ _ _ _ _ (by simp [left6t] at hf ⊢; omega) (J.call1 hb ⟨_, _, _, _, rfl, t9⟩)
                    refine AllReadyH.cons rfl (fun K hK => ?_) ?_
                    · go_simp
                      refine hK.out _ _ (KS.out _ (bl_allocT J.up _)) (fun _ => ?_)
                      simp only [List.setIfInBounds_toArray, List.set_cons_zero, List.set_cons_succ]
                      exact ih _ _ _ _ _ _ _ _ _ _ _ _ _ (by simp [left6t] at hf ⊢; omega) J.make2
                    refine AllReadyH.cons rfl (fun K hK => ?_) ?_
                    · go_simp
                      refine hK.out _ _ (KS.out _ (bl_allocT J.up _)) (fun _ => ?_)
                      simp only [List.setIfInBounds_toArray, List.set_cons_zero, List.set_cons_succ]
                      exact ih _ _ _ _ _ _ _ _ _ _ _ _ _ (by simp [left6t] at hf ⊢; omega) J.make3
                    exact AllReadyH.nil
                  · skip
                    refine wpAnyH_ready (rs := [1, 7]) (by kernel_rfl) (by simp) ?_
                    refine AllReadyH.cons rfl (fun K hK => ?_) ?_
                    · go_simp
                      refine (IN1.out W J.up).mono ?_
                      rintro e' W2 ⟨⟨b9, a9, n9, k9, rfl, t9⟩, hb⟩
                      refine hK.out _ _ (KS.out _ (bl_trans8 J.up hb)) (fun _ => ?_)
                      simp only [List.setIfInBounds_toArray, List.set_cons_zero, List.set_cons_succ]
                      exact ih _ _ _ _ _ _ _ _ _ _ _ _ _ (by simp [left6t] at hf ⊢; omega) (J.call1 hb ⟨_, _, _, _, rfl, t9⟩)
                    refine AllReadyH.cons rfl (fun K hK => ?_) ?_
                    · go_simp
                      refine hK.out _ _ (KS.out _ (bl_allocT J.up _)) (fun _ => ?_)
                      simp only [List.setIfInBounds_toArray, List.set_cons_zero, List.set_cons_succ]
                      exact ih _ _ _ _ _ _ _ _ _ _ _ _ _ (by simp [left6t] at hf ⊢; omega) J.make2
                    exact AllReadyH.nil
                · skip
                  cases k3
                  · skip
                    refine wpAnyH_ready (rs := [1, 8]) (by kernel_rfl) (by simp) ?_
                    refine AllReadyH.cons rfl (fun K hK => ?_) ?_
                    · go_simp
                      refine (IN1.out W J.up).mono ?_
                      rintro e' W2 ⟨⟨b9, a9, n9, k9, rfl, t9⟩, hb⟩
                      refine hK.out _ _ (KS.out _ (bl_trans8 J.up hb)) (fun _ => ?_)
                      simp only [List.setIfInBounds_toArray, List.set_cons_zero, List.set_cons_succ]
                      exact ih _ _ _ _ _ _ _ _ _ _ _ _ _ (by simp [left6t] at hf ⊢; omega) (J.call1 hb ⟨_, _, _, _, rfl, t9⟩)
                    refine AllReadyH.cons rfl (fun K hK => ?_) ?_
                    · go_simp
                      refine hK.out _ _ (KS.out _ (bl_allocT J.up _)) (fun _ => ?_)
                      simp only [List.setIfInBounds_toArray, List.set_cons_zero, List.set_cons_succ]
                      exact ih _ _ _ _ _ _ _ _ _ _ _ _ _ (by simp [left6t] at hf ⊢; omega) J.make3
                    exact AllReadyH.nil
                  · skip
                    refine wpAnyH_ready (rs := [1]) (by kernel_rfl) (by simp) ?_
                    refine AllReadyH.cons rfl (fun K hK => ?_) ?_
                    · go_simp
                      refine (IN1.out W J.up).mono ?_
                      rintro e' W2 ⟨⟨b9, a9, n9, k9, rfl, t9⟩, hb⟩
                      refine hK.out _ _ (KS.out _ (bl_trans8 J.up hb)) (fun _ => ?_)
                      simp only [List.setIfInBounds_toArray, List.set_cons_zero, List.set_cons_succ]
                      exact ih _ _ _ _ _ _ _ _ _ _ _ _ _ (by simp [left6t] at hf ⊢; omega) (J.call1 hb ⟨_, _, _, _, rfl, t9⟩)
                    exact AllReadyH.nil
            · skip
              exact absurd (J.ch.2 rfl) (by decide)
          · skip
            exact absurd (J.ch.1 rfl) (by decide)
        · skip
          cases c2
          · skip
            cases c3
            · skip
              cases k1
              · skip
                cases k2
                · skip
                  cases k3
                  · skip
                    refine wpAnyH_ready (rs := [3, 6, 7, 8]) (by kernel_rfl) (by simp) ?_
                    refine AllReadyH.cons rfl (fun K hK => ?_) ?_
                    · go_simp
                      refine (IN2.out W J.up).mono ?_
                      rintro e' W2 ⟨⟨b9, a9, n9, k9, rfl, t9⟩, hb⟩
                      refine hK.out _ _ (KS.out _ (bl_trans8 J.up hb)) (fun _ => ?_)
                      simp only [List.setIfInBounds_toArray, List.set_cons_zero, List.set_cons_succ]
                      exact ih _ _ _ _ _ _ _ _ _ _ _ _ _ (by simp [left6t] at hf ⊢; omega) (J.call2 hb ⟨_, _, _, _, rfl, t9⟩)
                    refine AllReadyH.cons rfl (fun K hK => ?_) ?_
                    · go_simp
                      refine hK.out _ _ (KS.out _ (bl_allocT J.up _)) (fun _ => ?_)
                      simp only [List.setIfInBounds_toArray, List.set_cons_zero, List.set_cons_succ]
                      exact ih _ _ _ _ _ _ _ _ _ _ _ _ _ (by simp [left6t] at hf ⊢; omega) J.make1
                    refine AllReadyH.cons rfl (fun K hK => ?_) ?_
                    · go_simp
                      refine hK.out _ _ (KS.out _ (bl_allocT J.up _)) (fun _ => ?_)
                      simp only [List.setIfInBounds_toArray, List.set_cons_zero, List.set_cons_succ]
                      exact ih _ _ _ _ _ _ _ _ _ _ _ _ _ (by simp [left6t] at hf ⊢; omega) J.make2
                    refine AllReadyH.cons rfl (fun K hK => ?_) ?_
                    · go_simp
                      refine hK.out _ _ (KS.out _ (bl_allocT J.up _)) (fun _ => ?_)
                      simp only [List.setIfInBounds_toArray, List.set_cons_zero, List.set_cons_succ]
                      exact ih _ _ _ _ _ _ _ _ _ _ _ _ _ (by simp [left6t] at hf ⊢; omega) J.make3
                    exact AllReadyH.nil
                  · skip
                    refine wpAnyH_ready (rs := [3, 6, 7]) (by kernel_rfl) (by simp) ?_
                    refine AllReadyH.cons rfl (fun K hK => ?_) ?_
                    · go_simp
                      refine (IN2.out W J.up).mono ?_
                      rintro e' W2 ⟨⟨b9, a9, n9, k9, rfl, t9⟩, hb⟩
                      refine hK.out _ _ (KS.out _ (bl_trans8 J.up hb)) (fun _ => ?_)
                      simp only [List.setIfInBounds_toArray, List.set_cons_zero, List.set_cons_succ]
                      exact ih _ _ _ _ _ _ _ _ _ _ _ _ _ (by simp [left6t] at hf ⊢; omega) (J.call2 hb ⟨_, _, _, _, rfl, t9⟩)
                    refine AllReadyH.cons rfl (fun K hK => ?_) ?_
                    · go_simp
                      refine hK.out _ _ (KS.out _ (bl_allocT J.up _)) (fun _ => ?_)
                      simp only [List.setIfInBounds_toArray, List.set_cons_zero, List.set_cons_succ]
                      exact ih _ _ _ _ _ _ _ _ _ _ _ _ _ (by simp [left6t] at hf ⊢; omega) J.make1
                    refine AllReadyH.cons rfl (fun K hK => ?_) ?_
                    · go_simp
                      refine hK.out _ _ (KS.out _ (bl_allocT J.up _)) (fun _ => ?_)
                      simp only [List.setIfInBounds_toArray, List.set_cons_zero, List.set_cons_succ]
                      exact ih _ _ _ _ _ _ _ _ _ _ _ _ _ (by simp [left6t] at hf ⊢; omega) J.make2
                    exact AllReadyH.nil
                · skip
                  cases k3
                  · skip
                    refine wpAnyH_ready (rs := [3, 6, 8]) (by kernel_rfl) (by simp) ?_
                    refine AllReadyH.cons rfl (fun K hK => ?_) ?_
                    · go_simp
                      refine (IN2.out W J.up).mono ?_
                      rintro e' W2 ⟨⟨b9, a9, n9, k9, rfl, t9⟩, hb⟩
                      refine hK.out _ _ (KS.out _ (bl_trans8 J.up hb)) (fun _ => ?_)
                      simp only [List.setIfInBounds_toArray, List.set_cons_zero, List.set_cons_succ]
                      exact ih _ _ _ _ _ _ _ _ _ _ _ _ _ (by simp [left6t] at hf ⊢; omega) (J.call2 hb ⟨_, _, _, _, rfl, t9⟩)
                    refine AllReadyH.cons rfl (fun K hK => ?_) ?_
                    · go_simp
                      refine hK.out _ _ (KS.out _ (bl_allocT J.up _)) (fun _ => ?_)
                      simp only [List.setIfInBounds_toArray, List.set_cons_zero, List.set_cons_succ]
                      exact ih _ _ _ _ _ _ _ _ _ _ _ _ _ (by simp [left6t] at hf ⊢; omega) J.make1
                    refine AllReadyH.cons rfl (fun K hK => ?_) ?_
                    · go_simp
                      refine hK.out _ _ (KS.out _ (bl_allocT J.up _)) (fun _ => ?_)
                      simp only [List.setIfInBounds_toArray, List.set_cons_zero, List.set_cons_succ]
                      exact ih _ _ _ _ _ _ _ _ _ _ _ _ _ (by simp [left6t] at hf ⊢; omega) J.make3
                    exact AllReadyH.nil
                  · skip
                    refine wpAnyH_ready (rs := [3, 6]) (by kernel_rfl) (by simp) ?_
                    refine AllReadyH.cons rfl (fun K hK => ?_) ?_
                    · go_simp
                      refine (IN2.out W J.up).mono ?_
                      rintro e' W2 ⟨⟨b9, a9, n9, k9, rfl, t9⟩, hb⟩
                      refine hK.out _ _ (KS.out _ (bl_trans8 J.up hb)) (fun _ => ?_)
                      simp only [List.setIfInBounds_toArray, List.set_cons_zero, List.set_cons_succ]
                      exact ih _ _ _ _ _ _ _ _ _ _ _ _ _ (by simp [left6t] at hf ⊢; omega) (J.call2 hb ⟨_, _, _, _, rfl, t9⟩)
                    refine AllReadyH.cons rfl (fun K hK => ?_) ?_
                    · go_simp
                      refine hK.out _ _ (KS.out _ (bl_allocT J.up _)) (fun _ => ?_)
                      simp only [List.setIfInBounds_toArray, List.set_cons_zero, List.set_cons_succ]
                      exact ih _ _ _ _ _ _ _ _ _ _ _ _ _ (by simp [left6t] at hf ⊢; omega) J.make1
                    exact AllReadyH.nil
              · skip
                cases k2
                · skip
                  cases k3
                  · skip
                    refine wpAnyH_ready (rs := [3, 7, 8]) (by kernel_rfl) (by simp) ?_
                    refine AllReadyH.cons rfl (fun K hK => ?_) ?_
                    · go_simp
                      refine (IN2.out W J.up).mono ?_
                      rintro e' W2 ⟨⟨b9, a9, n9, k9, rfl, t9⟩, hb⟩
                      refine hK.out _ _ (KS.out _ (bl_trans8 J.up hb)) (fun _ => ?_)
                      simp only [List.setIfInBounds_toArray, List.set_cons_zero, List.set_cons_succ]
                      exact ih _ _ _ _ _ _ _ _ _ _ _ _ _ (by simp [left6t] at hf ⊢; omega) (J.call2 hb ⟨_, _, _, _, rfl, t9⟩)
                    refine AllReadyH.cons rfl (fun K hK => ?_) ?_
                    · go_simp
                      refine hK.out _ _ (KS.out _ (bl_allocT J.up _)) (fun _ => ?_)
                      simp only [List.setIfInBounds_toArray, List.set_cons_zero, List.set_cons_succ]
                      exact ih _ _ _ _ _ _ _ _ _ _ _ _ _ (by simp [left6t] at hf ⊢; omega) J.make2
                    refine AllReadyH.cons rfl (fun K hK => ?_) ?_
                    · go_simp
                      refine hK.out _ _ (KS.out _ (bl_allocT J.up _)) (fun _ => ?_)
                      simp only [List.setIfInBounds_toArray, List.set_cons_zero, List.set_cons_succ]
                      exact ih _ _ _ _ _ _ _ _ _ _ _ _ _ (by simp [left6t] at hf ⊢; omega) J.make3
                    exact AllReadyH.nil
                  · skip
                    refine wpAnyH_ready (rs := [3, 7]) (by kernel_rfl) (by simp) ?_
                    refine AllReadyH.cons rfl (fun K hK => ?_) ?_
                    · go_simp
                      refine (IN2.out W J.up).mono ?_
                      rintro e' W2 ⟨⟨b9, a9, n9, k9, rfl, t9⟩, hb⟩
                      refine hK.out _ _ (KS.out _ (bl_trans8 J.up hb)) (fun _ => ?_)
                      simp only [List.setIfInBounds_toArray, List.set_cons_zero, List.set_cons_succ]
                      exact ih _ _ _ _ _ _ _ _ _ _ _ _ _ (by simp [left6t] at hf ⊢; omega) (J.call2 hb ⟨_, _, _, _, rfl, t9⟩)
                    refine AllReadyH.cons rfl (fun K hK => ?_) ?_
                    · go_simp
                      refine hK.out _ _ (KS.out _ (bl_allocT J.up _)) (fun _ => ?_)
                      simp only [List.setIfInBounds_toArray, List.set_cons_zero, List.set_cons_succ]
                      exact ih _ _ _ _ _ _ _ _ _ _ _ _ _ (by simp [left6t] at hf ⊢; omega) J.make2
                    exact AllReadyH.nil
                · skip
                  cases k3
                  · skip
                    refine wpAnyH_ready (rs := [3, 8]) (by kernel_rfl) (by simp) ?_
                    refine AllReadyH.cons rfl (fun K hK => ?_) ?_
                    · go_simp
                      refine (IN2.out W J.up).mono ?_
                      rintro e' W2 ⟨⟨b9, a9, n9, k9, rfl, t9⟩, hb⟩
                      refine hK.out _ _ (KS.out _ (bl_trans8 J.up hb)) (fun _ => ?_)
                      simp only [List.setIfInBounds_toArray, List.set_cons_zero, List.set_cons_succ]
                      exact ih _ _ _ _ _ _ _ _ _ _ _ _ _ (by simp [left6t] at hf ⊢; omega) (J.call2 hb ⟨_, _, _, _, rfl, t9⟩)
                    refine AllReadyH.cons rfl (fun K hK => ?_) ?_
                    · go_simp
                      refine hK.out _ _ (KS.out _ (bl_allocT J.up _)) (fun _ => ?_)
                      simp only [List.setIfInBounds_toArray, List.set_cons_zero, List.set_cons_succ]
                      exact ih _ _ _ _ _ _ _ _ _ _ _ _ _ (by simp [left6t] at hf ⊢; omega) J.make3
                    exact AllReadyH.nil
                  · skip
                    refine wpAnyH_ready (rs := [3]) (by kernel_rfl) (by simp) ?_
                    refine AllReadyH.cons rfl (fun K hK => ?_) ?_
                    · go_simp
                      refine (IN2.out W J.up).mono ?_
                      rintro e' W2 ⟨⟨b9, a9, n9, k9, rfl, t9⟩, hb⟩
                      refine hK.out _ _ (KS.out _ (bl_trans8 J.up hb)) (fun _ => ?_)
                      simp only [List.setIfInBounds_toArray, List.set_cons_zero, List.set_cons_succ]
                      exact ih _ _ _ _ _ _ _ _ _ _ _ _ _ (by simp [left6t] at hf ⊢; omega) (J.call2 hb ⟨_, _, _, _, rfl, t9⟩)
                    exact AllReadyH.nil
            · skip
              exact absurd (J.ch.2 rfl) (by decide)
          · skip
            cases c3
            · skip
              cases k1
              · skip
                cases k2
                · skip
                  cases k3
                  · skip
                    refine wpAnyH_ready (rs := [5, 6, 7, 8]) (by kernel_rfl) (by simp) ?_
                    refine AllReadyH.cons rfl (fun K hK => ?_) ?_
                    · go_simp
                      refine (IN3.out W J.up).mono ?_
                      rintro e' W2 ⟨⟨b9, a9, n9, k9, rfl, t9⟩, hb⟩
                      refine hK.out _ _ (KS.out _ (bl_trans8 J.up hb)) (fun _ => ?_)
                      simp only [List.setIfInBounds_toArray, List.set_cons_zero, List.set_cons_succ]
                      exact ih _ _ _ _ _ _ _ _ _ _ _ _ _ (by simp [left6t] at hf ⊢; omega) (J.call3 hb ⟨_, _, _, _, rfl, t9⟩)
                    refine AllReadyH.cons rfl (fun K hK => ?_) ?_
                    · go_simp
                      refine hK.out _ _ (KS.out _ (bl_allocT J.up _)) (fun _ => ?_)
                      simp only [List.setIfInBounds_toArray, List.set_cons_zero, List.set_cons_succ]
                      exact ih _ _ _ _ _ _ _ _ _ _ _ _ _ (by simp [left6t] at hf ⊢; omega) J.make1
                    refine AllReadyH.cons rfl (fun K hK => ?_) ?_
                    · go_simp
                      refine hK.out _ _ (KS.out _ (bl_allocT J.up _)) (fun _ => ?_)
                      simp only [List.setIfInBounds_toArray, List.set_cons_zero, List.set_cons_succ]
                      exact ih _ _ _ _ _ _ _ _ _ _ _ _ _ (by simp [left6t] at hf ⊢; omega) J.make2
                    refine AllReadyH.cons rfl (fun K hK => ?_) ?_
                    · go_simp
                      refine hK.out _ _ (KS.out _ (bl_allocT J.up _)) (fun _ => ?_)
                      simp only [List.setIfInBounds_toArray, List.set_cons_zero, List.set_cons_succ]
                      exact ih _ _ _ _ _ _ _ _ _ _ _ _ _ (by simp [left6t] at hf ⊢; omega) J.make3
                    exact AllReadyH.nil
                  · skip
                    refine wpAnyH_ready (rs := [5, 6, 7]) (by kernel_rfl) (by simp) ?_
                    refine AllReadyH.cons rfl (fun K hK => ?_) ?_
                    · go_simp
                      refine (IN3.out W J.up).mono ?_
                      rintro e' W2 ⟨⟨b9, a9, n9, k9, rfl, t9⟩, hb⟩
                      refine hK.out _ _ (KS.out _ (bl_trans8 J.up hb)) (fun _ => ?_)
                      simp only [List.setIfInBounds_toArray, List.set_cons_zero, List.set_cons_succ]
                      exact ih _ _ _ _ _ _ _ _ _ _ _ _ _ (by simp [left6t] at hf ⊢; omega) (J.call3 hb ⟨_, _, _, _, rfl, t9⟩)
                    refine AllReadyH.cons rfl (fun K hK => ?_) ?_
                    · go_simp
                      refine hK.out _ _ (KS.out _ (bl_allocT J.up _)) (fun _ => ?_)
                      simp only [List.setIfInBounds_toArray, List.set_cons_zero, List.set_cons_succ]
                      exact ih _ _ _ _ _ _ _ _ _ _ _ _ _ (by simp [left6t] at hf ⊢; omega) J.make1
                    refine AllReadyH.cons rfl (fun K hK => ?_) ?_
                    · go_simp
                      refine hK.out _ _ (KS.out _ (bl_allocT J.up _)) (fun _ => ?_)
                      simp only [List.setIfInBounds_toArray, List.set_cons_zero, List.set_cons_succ]
                      exact ih _ _ _ _ _ _ _ _ _ _ _ _ _ (by simp [left6t] at hf ⊢; omega) J.make2
                    exact AllReadyH.nil
                · skip
                  cases k3
                  · skip
                    refine wpAnyH_ready (rs := [5, 6, 8]) (by kernel_rfl) (by simp) ?_
                    refine AllReadyH.cons rfl (fun K hK => ?_) ?_
                    · go_simp
                      refine (IN3.out W J.up).mono ?_
                      rintro e' W2 ⟨⟨b9, a9, n9, k9, rfl, t9⟩, hb⟩
                      refine hK.out _ _ (KS.out _ (bl_trans8 J.up hb)) (fun _ => ?_)
                      simp only [List.setIfInBounds_toArray, List.set_cons_zero, List.set_cons_succ]
                      exact ih _ _ _ _ _ _ _ _ _ _ _ _ _ (by simp [left6t] at hf ⊢; omega) (J.call3 hb ⟨_, _, _, _, rfl, t9⟩)
                    refine AllReadyH.cons rfl (fun K hK => ?_) ?_
                    · go_simp
                      refine hK.out _ _ (KS.out _ (bl_allocT J.up _)) (fun _ => ?_)
                      simp only [List.setIfInBounds_toArray, List.set_cons_zero, List.set_cons_succ]
                      exact ih _ _ _ _ _ _ _ _ _ _ _ _ _ (by simp [left6t] at hf ⊢; omega) J.make1
                    refine AllReadyH.cons rfl (fun K hK => ?_) ?_
                    · go_simp
                      refine hK.out _ _ (KS.out _ (bl_allocT J.up _)) (fun _ => ?_)
                      simp only [List.setIfInBounds_toArray, List.set_cons_zero, List.set_cons_succ]
                      exact ih _ _ _ _ _ _ _ _ _ _ _ _ _ (by simp [left6t] at hf ⊢; omega) J.make3
                    exact AllReadyH.nil
                  · skip
                    refine wpAnyH_ready (rs := [5, 6]) (by kernel_rfl) (by simp) ?_
                    refine AllReadyH.cons rfl (fun K hK => ?_) ?_
                    · go_simp
                      refine (IN3.out W J.up).mono ?_
                      rintro e' W2 ⟨⟨b9, a9, n9, k9, rfl, t9⟩, hb⟩
                      refine hK.out _ _ (KS.out _ (bl_trans8 J.up hb)) (fun _ => ?_)
                      simp only [List.setIfInBounds_toArray, List.set_cons_zero, List.set_cons_succ]
                      exact ih _ _ _ _ _ _ _ _ _ _ _ _ _ (by simp [left6t] at hf ⊢; omega) (J.call3 hb ⟨_, _, _, _, rfl, t9⟩)
                    refine AllReadyH.cons rfl (fun K hK => ?_) ?_
                    · go_simp
                      refine hK.out _ _ (KS.out _ (bl_allocT J.up _)) (fun _ => ?_)
                      simp only [List.setIfInBounds_toArray, List.set_cons_zero, List.set_cons_succ]
                      exact ih _ _ _ _ _ _ _ _ _ _ _ _ _ (by simp [left6t] at hf ⊢; omega) J.make1
                    exact AllReadyH.nil
              · skip
                cases k2
                · skip
                  cases k3
                  · skip
                    refine wpAnyH_ready (rs := [5, 7, 8]) (by kernel_rfl) (by simp) ?_
                    refine AllReadyH.cons rfl (fun K hK => ?_) ?_
                    · go_simp
                      refine (IN3.out W J.up).mono ?_
                      rintro e' W2 ⟨⟨b9, a9, n9, k9, rfl, t9⟩, hb⟩
                      refine hK.out _ _ (KS.out _ (bl_trans8 J.up hb)) (fun _ => ?_)
                      simp only [List.setIfInBounds_toArray, List.set_cons_zero, List.set_cons_succ]
                      exact ih _ _ _ _ _ _ _ _ _ _ _ _ _ (by simp [left6t] at hf ⊢; omega) (J.call3 hb ⟨_, _, _, _, rfl, t9⟩)
                    refine AllReadyH.cons rfl (fun K hK => ?_) ?_
                    · go_simp
                      refine hK.out _ _ (KS.out _ (bl_allocT J.up _)) (fun _ => ?_)
                      simp only [List.setIfInBounds_toArray, List.set_cons_zero, List.set_cons_succ]
                      exact ih _ _ _ _ _ _ _ _ _ _ _ _ _ (by simp [left6t] at hf ⊢; omega) J.make2
                    refine AllReadyH.cons rfl (fun K hK => ?_) ?_
                    · go_simp
                      refine hK.out _ _ (KS.out _ (bl_allocT J.up _)) (fun _ => ?_)
                      simp only [List.setIfInBounds_toArray, List.set_cons_zero, List.set_cons_succ]
                      exact ih _ _ _ _ _ _ _ _ _ _ _ _ _ (by simp [left6t] at hf ⊢; omega) J.make3
                    exact AllReadyH.nil
                  · skip
                    refine wpAnyH_ready (rs := [5, 7]) (by kernel_rfl) (by simp) ?_
                    refine AllReadyH.cons rfl (fun K hK => ?_) ?_
                    · go_simp
                      refine (IN3.out W J.up).mono ?_
                      rintro e' W2 ⟨⟨b9, a9, n9, k9, rfl, t9⟩, hb⟩
                      refine hK.out _ _ (KS.out _ (bl_trans8 J.up hb)) (fun _ => ?_)
                      simp only [List.setIfInBounds_toArray, List.set_cons_zero, List.set_cons_succ]
                      exact ih _ _ _ _ _ _ _ _ _ _ _ _ _ (by simp [left6t] at hf ⊢; omega) (J.call3 hb ⟨_, _, _, _, rfl, t9⟩)
                    refine AllReadyH.cons rfl (fun K hK => ?_) ?_
                    · go_simp
                      refine hK.out _ _ (KS.out _ (bl_allocT J.up _)) (fun _ => ?_)
                      simp only [List.setIfInBounds_toArray, List.set_cons_zero, List.set_cons_succ]
                      exact ih _ _ _ _ _ _ _ _ _ _ _ _ _ (by simp [left6t] at hf ⊢; omega) J.make2
                    exact AllReadyH.nil
                · skip
                  cases k3
                  · skip
                    refine wpAnyH_ready (rs := [5, 8]) (by kernel_rfl) (by simp) ?_
                    refine AllReadyH.cons rfl (fun K hK => ?_) ?_
                    · go_simp
                      refine (IN3.out W J.up).mono ?_
                      rintro e' W2 ⟨⟨b9, a9, n9, k9, rfl, t9⟩, hb⟩
                      refine hK.out _ _ (KS.out _ (bl_trans8 J.up hb)) (fun _ => ?_)
                      simp only [List.setIfInBounds_toArray, List.set_cons_zero, List.set_cons_succ]
                      exact ih _ _ _ _ _ _ _ _ _ _ _ _ _ (by simp [left6t] at hf ⊢; omega) (J.call3 hb ⟨_, _, _, _, rfl, t9⟩)
                    refine AllReadyH.cons rfl (fun K hK => ?_) ?_
                    · go_simp
                      refine hK.out _ _ (KS.out _ (bl_allocT J.up _)) (fun _ => ?_)
                      simp only [List.setIfInBounds_toArray, List.set_cons_zero, List.set_cons_succ]
                      exact ih _ _ _ _ _ _ _ _ _ _ _ _ _ (by simp [left6t] at hf ⊢; omega) J.make3
                    exact AllReadyH.nil
                  · skip
                    refine wpAnyH_ready (rs := [5]) (by kernel_rfl) (by simp) ?_
                    refine AllReadyH.cons rfl (fun K hK => ?_) ?_
                    · go_simp
                      refine (IN3.out W J.up).mono ?_
                      rintro e' W2 ⟨⟨b9, a9, n9, k9, rfl, t9⟩, hb⟩
                      refine hK.out _ _ (KS.out _ (bl_trans8 J.up hb)) (fun _ => ?_)
                      simp only [List.setIfInBounds_toArray, List.set_cons_zero, List.set_cons_succ]
                      exact ih _ _ _ _ _ _ _ _ _ _ _ _ _ (by simp [left6t] at hf ⊢; omega) (J.call3 hb ⟨_, _, _, _, rfl, t9⟩)
                    exact AllReadyH.nil
            · skip
              cases k1
              · skip
                cases k2
                · skip
                  cases k3
                  · skip
                    refine wpAnyH_ready (rs := [6, 7, 8]) (by kernel_rfl) (by simp) ?_
                    refine AllReadyH.cons rfl (fun K hK => ?_) ?_
                    · go_simp
                      refine hK.out _ _ (KS.out _ (bl_allocT J.up _)) (fun _ => ?_)
                      simp only [List.setIfInBounds_toArray, List.set_cons_zero, List.set_cons_succ]
                      exact ih _ _ _ _ _ _ _ _ _ _ _ _ _ (by simp [left6t] at hf ⊢; omega) J.make1
                    refine AllReadyH.cons rfl (fun K hK => ?_) ?_
                    · go_simp
                      refine hK.out _ _ (KS.out _ (bl_allocT J.up _)) (fun _ => ?_)
                      simp only [List.setIfInBounds_toArray, List.set_cons_zero, List.set_cons_succ]
                      exact ih _ _ _ _ _ _ _ _ _ _ _ _ _ (by simp [left6t] at hf ⊢; omega) J.make2
                    refine AllReadyH.cons rfl (fun K hK => ?_) ?_
                    · go_simp
                      refine hK.out _ _ (KS.out _ (bl_allocT J.up _)) (fun _ => ?_)
                      simp only [List.setIfInBounds_toArray, List.set_cons_zero, List.set_cons_succ]
                      exact ih _ _ _ _ _ _ _ _ _ _ _ _ _ (by simp [left6t] at hf ⊢; omega) J.make3
                    exact AllReadyH.nil
                  · skip
                    refine wpAnyH_ready (rs := [6, 7]) (by kernel_rfl) (by simp) ?_
                    refine AllReadyH.cons rfl (fun K hK => ?_) ?_
                    · go_simp
                      refine hK.out _ _ (KS.out _ (bl_allocT J.up _)) (fun _ => ?_)
                      simp only [List.setIfInBounds_toArray, List.set_cons_zero, List.set_cons_succ]
                      exact ih _ _ _ _ _ _ _ _ _ _ _ _ _ (by simp [left6t] at hf ⊢; omega) J.make1
                    refine AllReadyH.cons rfl (fun K hK => ?_) ?_
                    · go_simp
                      refine hK.out _ _ (KS.out _ (bl_allocT J.up _)) (fun _ => ?_)
                      simp only [List.setIfInBounds_toArray, List.set_cons_zero, List.set_cons_succ]
                      exact ih _ _ _ _ _ _ _ _ _ _ _ _ _ (by simp [left6t] at hf ⊢; omega) J.make2
                    exact AllReadyH.nil
                · skip
                  cases k3
                  · skip
                    refine wpAnyH_ready (rs := [6, 8]) (by kernel_rfl) (by simp) ?_
                    refine AllReadyH.cons rfl (fun K hK => ?_) ?_
                    · go_simp
                      refine hK.out _ _ (KS.out _ (bl_allocT J.up _)) (fun _ => ?_)
                      simp only [List.setIfInBounds_toArray, List.set_cons_zero, List.set_cons_succ]
                      exact ih _ _ _ _ _ _ _ _ _ _ _ _ _ (by simp [left6t] at hf ⊢; omega) J.make1
                    refine AllReadyH.cons rfl (fun K hK => ?_) ?_
                    · go_simp
                      refine hK.out _ _ (KS.out _ (bl_allocT J.up _)) (fun _ => ?_)
                      simp only [List.setIfInBounds_toArray, List.set_cons_zero, List.set_cons_succ]
                      exact ih _ _ _ _ _ _ _ _ _ _ _ _ _ (by simp [left6t] at hf ⊢; omega) J.make3
                    exact AllReadyH.nil
                  · skip
                    refine wpAnyH_ready (rs := [6]) (by kernel_rfl) (by simp) ?_
                    refine AllReadyH.cons rfl (fun K hK => ?_) ?_
                    · go_simp
                      refine hK.out _ _ (KS.out _ (bl_allocT J.up _)) (fun _ => ?_)
                      simp only [List.setIfInBounds_toArray, List.set_cons_zero, List.set_cons_succ]
                      exact ih _ _ _ _ _ _ _ _ _ _ _ _ _ (by simp [left6t] at hf ⊢; omega) J.make1
                    exact AllReadyH.nil
              · skip
                cases k2
                · skip
                  cases k3
                  · skip
                    refine wpAnyH_ready (rs := [7, 8]) (by kernel_rfl) (by simp) ?_
                    refine AllReadyH.cons rfl (fun K hK => ?_) ?_
                    · go_simp
                      refine hK.out _ _ (KS.out _ (bl_allocT J.up _)) (fun _ => ?_)
                      simp only [List.setIfInBounds_toArray, List.set_cons_zero, List.set_cons_succ]
                      exact ih _ _ _ _ _ _ _ _ _ _ _ _ _ (by simp [left6t] at hf ⊢; omega) J.make2
                    refine AllReadyH.cons rfl (fun K hK => ?_) ?_
                    · go_simp
                      refine hK.out _ _ (KS.out _ (bl_allocT J.up _)) (fun _ => ?_)
                      simp only [List.setIfInBounds_toArray, List.set_cons_zero, List.set_cons_succ]
                      exact ih _ _ _ _ _ _ _ _ _ _ _ _ _ (by simp [left6t] at hf ⊢; omega) J.make3
                    exact AllReadyH.nil
                  · skip
                    refine wpAnyH_ready (rs := [7]) (by kernel_rfl) (by simp) ?_
                    refine AllReadyH.cons rfl (fun K hK => ?_) ?_
                    · go_simp
                      refine hK.out _ _ (KS.out _ (bl_allocT J.up _)) (fun _ => ?_)
                      simp only [List.setIfInBounds_toArray, List.set_cons_zero, List.set_cons_succ]
                      exact ih _ _ _ _ _ _ _ _ _ _ _ _ _ (by simp [left6t] at hf ⊢; omega) J.make2
                    exact AllReadyH.nil
                · skip
                  cases k3
                  · skip
                    refine wpAnyH_ready (rs := [8]) (by kernel_rfl) (by simp) ?_
                    refine AllReadyH.cons rfl (fun K hK => ?_) ?_
                    · go_simp
                      refine hK.out _ _ (KS.out _ (bl_allocT J.up _)) (fun _ => ?_)
                      simp only [List.setIfInBounds_toArray, List.set_cons_zero, List.set_cons_succ]
                      exact ih _ _ _ _ _ _ _ _ _ _ _ _ _ (by simp [left6t] at hf ⊢; omega) J.make3
                    exact AllReadyH.nil
                  · skip
                    obtain ⟨b1x, a1x, n1x, k1x, rfl, t1x⟩ := J.q1 rfl
                    obtain ⟨b2x, a2x, n2x, k2x, rfl, t2x⟩ := J.q2 rfl
                    obtain ⟨b3x, a3x, n3x, k3x, rfl, t3x⟩ := J.q3 rfl
                    have D12 := J.d12 rfl rfl
                    have D13 := J.d13 rfl rfl
                    have D23 := J.d23 rfl rfl
                    obtain ⟨g1, rfl, l1, e1⟩ := J.r1 rfl
                    obtain ⟨g2, rfl, l2, e2⟩ := J.r2 rfl
                    obtain ⟨g3, rfl, l3, e3⟩ := J.r3 rfl
                    have HU := hide J.up
                    obtain rfl : n = 2 := by simp [left6t] at hf; omega
                    clear J ih hf
                    obtain ⟨m0, m1, m1c⟩ := tri8 e1
                    have hf1 := tri8f e1
                    have D12g : g1 ≠ g2 := fun e => D12 (by rw [e])
                    have D13g : g1 ≠ g3 := fun e => D13 (by rw [e])
                    have D23g : g2 ≠ g3 := fun e => D23 (by rw [e])
                    have HFIN := hide (three_t e1 e2 e3 l1 l2 l3 D12g D13g D23g HU.out t1x t2x t3x)
                    clear D12 D13 D23 t1x t2x t3x
                    have t2 := tri9_other (u0 := .bool b1x) (u1 := .slice a1x n1x k1x) (u2 := .int .i64 ep) e2 (Ne.symm D12g)
                    have t3 := tri9_other (u0 := .bool b2x) (u1 := .slice a2x n2x k2x) (u2 := .int .i64 eq) (tri9_other (u0 := .bool b1x) (u1 := .slice a1x n1x k1x) (u2 := .int .i64 ep) e3 (Ne.symm D13g)) (Ne.symm D23g)
                    obtain ⟨m2, m3, m3c⟩ := tri8 t2
                    have hf2 := tri8f t2
                    obtain ⟨m4, m5, m5c⟩ := tri8 t3
                    have hf3 := tri8f t3
                    have HB1 := hide (below_tri8 HU.out l1 (.bool b1x) (.slice a1x n1x k1x) (.int .i64 ep))
                    have HB2 := hide (below_tri8 HB1.out l2 (.bool b2x) (.slice a2x n2x k2x) (.int .i64 eq))
                    have HB3 := hide (below_tri8 HB2.out l3 (.bool b3x) (.slice a3x n3x k3x) (.int .i64 er))
                    clear t2 t3 e1 e2 e3
                    refine wpAnyH_ready (rs := [9]) (by kernel_rfl) (by simp) ?_
                    refine AllReadyH.cons rfl (fun K hK => ?_) AllReadyH.nil
                    go_simp
                    refine hK.out _ _ (KS.out _ HB1.out) (fun _ => ?_)
                    clear hK K
                    try simp only [List.setIfInBounds_toArray, List.set_cons_zero, List.set_cons_succ]
                    refine wpAnyH_ready (rs := [10]) (by kernel_rfl) (by simp) ?_
                    refine AllReadyH.cons rfl (fun K hK => ?_) AllReadyH.nil
                    go_simp
                    refine hK.out _ _ (KS.out _ HB2.out) (fun _ => ?_)
                    clear hK K
                    try simp only [List.setIfInBounds_toArray, List.set_cons_zero, List.set_cons_succ]
                    refine wpAnyH_ready (rs := [11]) (by kernel_rfl) (by simp) ?_
                    refine AllReadyH.cons rfl (fun K hK => ?_) AllReadyH.nil
                    go_simp
                    refine hK.out _ _ (KS.out _ HB3.out) (fun _ => ?_)
                    clear hK K
                    try simp only [List.setIfInBounds_toArray, List.set_cons_zero, List.set_cons_succ]
                    refine wpAnyH_done (by kernel_rfl) ?_ _
                    clear m0 m1 m1c m2 m3 m3c m4 m5 m5c hf1 hf2 hf3 HB1 HB2 HB3
                    go_wp2_with fail
                    go_meet
                    exact HFIN.out
    case rest =>
      obtain ⟨gd, gu, gk, bd, ad9, ld, kd, bu, au9, lu, ku, bk, ak9, lk, kk, rfl, rfl, rfl, hX1, hX2, hX3, hY1, hY2, hY3, hbx⟩ := hcut
      clear KS IN1 IN2 IN3
      replace HA := hide (block_upW hbx HA.out)
      replace HX := hide (block_upW hbx HX.out)
      replace Hm := hide (block_upW hbx Hm.out)
      replace Hp := hide (block_upW hbx Hp.out)
      replace Hq := hide (block_upW hbx Hq.out)
      replace Hr := hide (block_upW hbx Hr.out)
      replace Hn := hide (block_upW hbx Hn.out)
      replace Hs := hide (block_upW hbx Hs.out)
      replace Ht := hide (block_upW hbx Ht.out)
      replace HA0 := hide (HA0.out.below hbx)
      replace HT := hide (HT.out.below hbx)
      replace HI0 := hide (HI0.out.below hbx)
      replace HDm := hide (HDm.out.below hbx)
      replace HGp := hide (HGp.out.below hbx)
      replace HGq := hide (HGq.out.below hbx)
      replace HGr := hide (HGr.out.below hbx)
      replace HGn := hide (HGn.out.below hbx)
      replace HGs := hide (HGs.out.below hbx)
      replace HGt := hide (HGt.out.below hbx)
      replace HW := hid_below HW hbx
      have Hd := hide hX1
      have Hu := hide hX2
      have Hk := hide hX3
      have HTd := hide hY1
      have HTu := hide hY2
      have HTk := hide hY3
      clear hX1 hX2 hX3 hY1 hY2 hY3 hbx
      have HTm := hide (T8.mk9 HDm.out HR.out HN.out HL4.out (by have := HGE.out; omega) HHI.out)
      obtain ⟨c1, hc1⟩ : ∃ c, cmpZ V V = c := ⟨_, rfl⟩
      obtain ⟨c2, hc2⟩ : ∃ c, cmpZ V V = c := ⟨_, rfl⟩
      rw [cmpZ_self9] at hc1 hc2
      subst hc1 hc2
      go_upto_region 16 with fail
      go_cut [132] from 99 to 131 (fun s wx => s = .bool false ∧ Below wc.heap.size wc wx)
      case first =>
        have HU2 : Hid (Below wc.heap.size wc wc) := hide (Below.refl _ _)
        obtain ⟨ca0, cb0, cc0⟩ := tri8 Hd.out
        obtain ⟨ca1, cb1, cc1⟩ := tri8 Hm.out
        have C := tcmp8 bd ad9 ld kd ep bm am lm km E0 L V V wc HTd.out HTm.out
        rw [cmpZ_self9] at C
        go_wp2_with fail
        refine C.mono ?_
        rintro e Q19 ⟨rfl, hb⟩
        clear C ca0 cb0 cc0 ca1 cb1 cc1
        replace HA := hide (block_upW hb HA.out)
        replace HX := hide (block_upW hb HX.out)
        replace Hm := hide (block_upW hb Hm.out)
        replace Hp := hide (block_upW hb Hp.out)
        replace Hq := hide (block_upW hb Hq.out)
        replace Hr := hide (block_upW hb Hr.out)
        replace Hn := hide (block_upW hb Hn.out)
        replace Hs := hide (block_upW hb Hs.out)
        replace Ht := hide (block_upW hb Ht.out)
        replace Hd := hide (block_upW hb Hd.out)
        replace Hu := hide (block_upW hb Hu.out)
        replace Hk := hide (block_upW hb Hk.out)
        replace HA0 := hide (HA0.out.below hb)
        replace HT := hide (HT.out.below hb)
        replace HI0 := hide (HI0.out.below hb)
        replace HDm := hide (HDm.out.below hb)
        replace HGp := hide (HGp.out.below hb)
        replace HGq := hide (HGq.out.below hb)
        replace HGr := hide (HGr.out.below hb)
        replace HGn := hide (HGn.out.below hb)
        replace HGs := hide (HGs.out.below hb)
        replace HGt := hide (HGt.out.below hb)
        replace HTd := hide (HTd.out.below hb)
        replace HTu := hide (HTu.out.below hb)
        replace HTk := hide (HTk.out.below hb)
        replace HTm := hide (HTm.out.below hb)
        replace HW := hid_below HW hb
        replace HU2 := hid_below HU2 hb
        clear hb
        obtain ⟨ca0, cb0, cc0⟩ := tri8 Hu.out
        obtain ⟨ca1, cb1, cc1⟩ := tri8 Hm.out
        have C := tcmp8 bu au9 lu ku eq bm am lm km E0 L V V Q19 HTu.out HTm.out
        rw [cmpZ_self9] at C
        go_wp2_with fail
        refine C.mono ?_
        rintro e Q20 ⟨rfl, hb⟩
        clear C ca0 cb0 cc0 ca1 cb1 cc1
        replace HA := hide (block_upW hb HA.out)
        replace HX := hide (block_upW hb HX.out)
        replace Hm := hide (block_upW hb Hm.out)
        replace Hp := hide (block_upW hb Hp.out)
        replace Hq := hide (block_upW hb Hq.out)
        replace Hr := hide (block_upW hb Hr.out)
        replace Hn := hide (block_upW hb Hn.out)
        replace Hs := hide (block_upW hb Hs.out)
        replace Ht := hide (block_upW hb Ht.out)
        replace Hd := hide (block_upW hb Hd.out)
        replace Hu := hide (block_upW hb Hu.out)
        replace Hk := hide (block_upW hb Hk.out)
        replace HA0 := hide (HA0.out.below hb)
        replace HT := hide (HT.out.below hb)
        replace HI0 := hide (HI0.out.below hb)
        replace HDm := hide (HDm.out.below hb)
        replace HGp := hide (HGp.out.below hb)
        replace HGq := hide (HGq.out.below hb)
        replace HGr := hide (HGr.out.below hb)
        replace HGn := hide (HGn.out.below hb)
        replace HGs := hide (HGs.out.below hb)
        replace HGt := hide (HGt.out.below hb)
        replace HTd := hide (HTd.out.below hb)
        replace HTu := hide (HTu.out.below hb)
        replace HTk := hide (HTk.out.below hb)
        replace HTm := hide (HTm.out.below hb)
        replace HW := hid_below HW hb
        replace HU2 := hid_below HU2 hb
        clear hb
        obtain ⟨ca0, cb0, cc0⟩ := tri8 Hr.out
        obtain ⟨ca1, cb1, cc1⟩ := tri8 Hp.out
        have C := ysame8 br arx lr kr er bp apx lp kp ep L V Q20 HGr.out HGp.out
        go_wp2_with fail
        refine C.mono ?_
        rintro e Q21 ⟨rfl, hb⟩
        clear C ca0 cb0 cc0 ca1 cb1 cc1
        replace HA := hide (block_upW hb HA.out)
        replace HX := hide (block_upW hb HX.out)
        replace Hm := hide (block_upW hb Hm.out)
        replace Hp := hide (block_upW hb Hp.out)
        replace Hq := hide (block_upW hb Hq.out)
        replace Hr := hide (block_upW hb Hr.out)
        replace Hn := hide (block_upW hb Hn.out)
        replace Hs := hide (block_upW hb Hs.out)
        replace Ht := hide (block_upW hb Ht.out)
        replace Hd := hide (block_upW hb Hd.out)
        replace Hu := hide (block_upW hb Hu.out)
        replace Hk := hide (block_upW hb Hk.out)
        replace HA0 := hide (HA0.out.below hb)
        replace HT := hide (HT.out.below hb)
        replace HI0 := hide (HI0.out.below hb)
        replace HDm := hide (HDm.out.below hb)
        replace HGp := hide (HGp.out.below hb)
        replace HGq := hide (HGq.out.below hb)
        replace HGr := hide (HGr.out.below hb)
        replace HGn := hide (HGn.out.below hb)
        replace HGs := hide (HGs.out.below hb)
        replace HGt := hide (HGt.out.below hb)
        replace HTd := hide (HTd.out.below hb)
        replace HTu := hide (HTu.out.below hb)
        replace HTk := hide (HTk.out.below hb)
        replace HTm := hide (HTm.out.below hb)
        replace HW := hid_below HW hb
        replace HU2 := hid_below HU2 hb
        clear hb
        obtain ⟨ca0, cb0, cc0⟩ := tri8 Hd.out
        have C := tat8 bd ad9 ld kd ep L V pos Q21 HTd.out HPL.out
        rw [HPP.out] at C
        rw [decide_eq_true HMOD.out] at C
        go_wp2_with fail
        refine C.mono ?_
        rintro e Q22 ⟨rfl, hb⟩
        clear C ca0 cb0 cc0
        replace HA := hide (block_upW hb HA.out)
        replace HX := hide (block_upW hb HX.out)
        replace Hm := hide (block_upW hb Hm.out)
        replace Hp := hide (block_upW hb Hp.out)
        replace Hq := hide (block_upW hb Hq.out)
        replace Hr := hide (block_upW hb Hr.out)
        replace Hn := hide (block_upW hb Hn.out)
        replace Hs := hide (block_upW hb Hs.out)
        replace Ht := hide (block_upW hb Ht.out)
        replace Hd := hide (block_upW hb Hd.out)
        replace Hu := hide (block_upW hb Hu.out)
        replace Hk := hide (block_upW hb Hk.out)
        replace HA0 := hide (HA0.out.below hb)
        replace HT := hide (HT.out.below hb)
        replace HI0 := hide (HI0.out.below hb)
        replace HDm := hide (HDm.out.below hb)
        replace HGp := hide (HGp.out.below hb)
        replace HGq := hide (HGq.out.below hb)
        replace HGr := hide (HGr.out.below hb)
        replace HGn := hide (HGn.out.below hb)
        replace HGs := hide (HGs.out.below hb)
        replace HGt := hide (HGt.out.below hb)
        replace HTd := hide (HTd.out.below hb)
        replace HTu := hide (HTu.out.below hb)
        replace HTk := hide (HTk.out.below hb)
        replace HTm := hide (HTm.out.below hb)
        replace HW := hid_below HW hb
        replace HU2 := hid_below HU2 hb
        clear hb
        obtain ⟨ca0, cb0, cc0⟩ := tri8 Hu.out
        have C := tat8 bu au9 lu ku eq L V pos Q22 HTu.out HPL.out
        rw [HPP.out] at C
        rw [decide_eq_true HMOD.out] at C
        go_wp2_with fail
        refine C.mono ?_
        rintro e Q23 ⟨rfl, hb⟩
        clear C ca0 cb0 cc0
        replace HA := hide (block_upW hb HA.out)
        replace HX := hide (block_upW hb HX.out)
        replace Hm := hide (block_upW hb Hm.out)
        replace Hp := hide (block_upW hb Hp.out)
        replace Hq := hide (block_upW hb Hq.out)
        replace Hr := hide (block_upW hb Hr.out)
        replace Hn := hide (block_upW hb Hn.out)
        replace Hs := hide (block_upW hb Hs.out)
        replace Ht := hide (block_upW hb Ht.out)
        replace Hd := hide (block_upW hb Hd.out)
        replace Hu := hide (block_upW hb Hu.out)
        replace Hk := hide (block_upW hb Hk.out)
        replace HA0 := hide (HA0.out.below hb)
        replace HT := hide (HT.out.below hb)
        replace HI0 := hide (HI0.out.below hb)
        replace HDm := hide (HDm.out.below hb)
        replace HGp := hide (HGp.out.below hb)
        replace HGq := hide (HGq.out.below hb)
        replace HGr := hide (HGr.out.below hb)
        replace HGn := hide (HGn.out.below hb)
        replace HGs := hide (HGs.out.below hb)
        replace HGt := hide (HGt.out.below hb)
        replace HTd := hide (HTd.out.below hb)
        replace HTu := hide (HTu.out.below hb)
        replace HTk := hide (HTk.out.below hb)
        replace HTm := hide (HTm.out.below hb)
        replace HW := hid_below HW hb
        replace HU2 := hid_below HU2 hb
        clear hb
        go_wp2_with fail
        go_meet
        exact ⟨rfl, HU2.out⟩
      case rest =>
        obtain ⟨rfl, hbx⟩ := hcut
        replace HA := hide (block_upW hbx HA.out)
        replace HX := hide (block_upW hbx HX.out)
        replace Hm := hide (block_upW hbx Hm.out)
        replace Hp := hide (block_upW hbx Hp.out)
        replace Hq := hide (block_upW hbx Hq.out)
        replace Hr := hide (block_upW hbx Hr.out)
        replace Hn := hide (block_upW hbx Hn.out)
        replace Hs := hide (block_upW hbx Hs.out)
        replace Ht := hide (block_upW hbx Ht.out)
        replace Hd := hide (block_upW hbx Hd.out)
        replace Hu := hide (block_upW hbx Hu.out)
        replace Hk := hide (block_upW hbx Hk.out)
        replace HA0 := hide (HA0.out.below hbx)
        replace HT := hide (HT.out.below hbx)
        replace HI0 := hide (HI0.out.below hbx)
        replace HDm := hide (HDm.out.below hbx)
        replace HGp := hide (HGp.out.below hbx)
        replace HGq := hide (HGq.out.below hbx)
        replace HGr := hide (HGr.out.below hbx)
        replace HGn := hide (HGn.out.below hbx)
        replace HGs := hide (HGs.out.below hbx)
        replace HGt := hide (HGt.out.below hbx)
        replace HTd := hide (HTd.out.below hbx)
        replace HTu := hide (HTu.out.below hbx)
        replace HTk := hide (HTk.out.below hbx)
        replace HTm := hide (HTm.out.below hbx)
        replace HW := hid_below HW hbx
        clear hbx
        obtain ⟨ca0, cb0, cc0⟩ := tri8 Hm.out
        have C := tat8 bm am lm km E0 L V pos wc HTm.out HPL.out
        rw [HPP.out] at C
        rw [decide_eq_true HMOD.out] at C
        go_wp2_with fail
        refine C.mono ?_
        rintro e Q24 ⟨rfl, hb⟩
        clear C ca0 cb0 cc0
        replace HA := hide (block_upW hb HA.out)
        replace HX := hide (block_upW hb HX.out)
        replace Hm := hide (block_upW hb Hm.out)
        replace Hp := hide (block_upW hb Hp.out)
        replace Hq := hide (block_upW hb Hq.out)
        replace Hr := hide (block_upW hb Hr.out)
        replace Hn := hide (block_upW hb Hn.out)
        replace Hs := hide (block_upW hb Hs.out)
        replace Ht := hide (block_upW hb Ht.out)
        replace Hd := hide (block_upW hb Hd.out)
        replace Hu := hide (block_upW hb Hu.out)
        replace Hk := hide (block_upW hb Hk.out)
        replace HA0 := hide (HA0.out.below hb)
        replace HT := hide (HT.out.below hb)
        replace HI0 := hide (HI0.out.below hb)
        replace HDm := hide (HDm.out.below hb)
        replace HGp := hide (HGp.out.below hb)
        replace HGq := hide (HGq.out.below hb)
        replace HGr := hide (HGr.out.below hb)
        replace HGn := hide (HGn.out.below hb)
        replace HGs := hide (HGs.out.below hb)
        replace HGt := hide (HGt.out.below hb)
        replace HTd := hide (HTd.out.below hb)
        replace HTu := hide (HTu.out.below hb)
        replace HTk := hide (HTk.out.below hb)
        replace HTm := hide (HTm.out.below hb)
        replace HW := hid_below HW hb
        clear hb
        obtain ⟨ca0, cb0, cc0⟩ := tri8 Hp.out
        obtain ⟨ca1, cb1, cc1⟩ := tri8 Hq.out
        have C := ysame8 bp apx lp kp ep bq aqx lq kq eq L V Q24 HGp.out HGq.out
        go_wp2_with fail
        refine C.mono ?_
        rintro e Q25 ⟨rfl, hb⟩
        clear C ca0 cb0 cc0 ca1 cb1 cc1
        replace HA := hide (block_upW hb HA.out)
        replace HX := hide (block_upW hb HX.out)
        replace Hm := hide (block_upW hb Hm.out)
        replace Hp := hide (block_upW hb Hp.out)
        replace Hq := hide (block_upW hb Hq.out)
        replace Hr := hide (block_upW hb Hr.out)
        replace Hn := hide (block_upW hb Hn.out)
        replace Hs := hide (block_upW hb Hs.out)
        replace Ht := hide (block_upW hb Ht.out)
        replace Hd := hide (block_upW hb Hd.out)
        replace Hu := hide (block_upW hb Hu.out)
        replace Hk := hide (block_upW hb Hk.out)
        replace HA0 := hide (HA0.out.below hb)
        replace HT := hide (HT.out.below hb)
        replace HI0 := hide (HI0.out.below hb)
        replace HDm := hide (HDm.out.below hb)
        replace HGp := hide (HGp.out.below hb)
        replace HGq := hide (HGq.out.below hb)
        replace HGr := hide (HGr.out.below hb)
        replace HGn := hide (HGn.out.below hb)
        replace HGs := hide (HGs.out.below hb)
        replace HGt := hide (HGt.out.below hb)
        replace HTd := hide (HTd.out.below hb)
        replace HTu := hide (HTu.out.below hb)
        replace HTk := hide (HTk.out.below hb)
        replace HTm := hide (HTm.out.below hb)
        replace HW := hid_below HW hb
        clear hb
        obtain ⟨ca0, cb0, cc0⟩ := tri8 Hd.out
        obtain ⟨ca1, cb1, cc1⟩ := tri8 Hm.out
        have C := tcmp8 bd ad9 ld kd ep bm am lm km E0 L V V Q25 HTd.out HTm.out
        rw [cmpZ_self9] at C
        go_wp2_with fail
        refine C.mono ?_
        rintro e Q26 ⟨rfl, hb⟩
        clear C ca0 cb0 cc0 ca1 cb1 cc1
        replace HA := hide (block_upW hb HA.out)
        replace HX := hide (block_upW hb HX.out)
        replace Hm := hide (block_upW hb Hm.out)
        replace Hp := hide (block_upW hb Hp.out)
        replace Hq := hide (block_upW hb Hq.out)
        replace Hr := hide (block_upW hb Hr.out)
        replace Hn := hide (block_upW hb Hn.out)
        replace Hs := hide (block_upW hb Hs.out)
        replace Ht := hide (block_upW hb Ht.out)
        replace Hd := hide (block_upW hb Hd.out)
        replace Hu := hide (block_upW hb Hu.out)
        replace Hk := hide (block_upW hb Hk.out)
        replace HA0 := hide (HA0.out.below hb)
        replace HT := hide (HT.out.below hb)
        replace HI0 := hide (HI0.out.below hb)
        replace HDm := hide (HDm.out.below hb)
        replace HGp := hide (HGp.out.below hb)
        replace HGq := hide (HGq.out.below hb)
        replace HGr := hide (HGr.out.below hb)
        replace HGn := hide (HGn.out.below hb)
        replace HGs := hide (HGs.out.below hb)
        replace HGt := hide (HGt.out.below hb)
        replace HTd := hide (HTd.out.below hb)
        replace HTu := hide (HTu.out.below hb)
        replace HTk := hide (HTk.out.below hb)
        replace HTm := hide (HTm.out.below hb)
        replace HW := hid_below HW hb
        clear hb
        have AW := awake8_any Q26 HT.out
        go_wp2_with fail
        refine AW.mono ?_
        rintro e t9 ⟨rfl, hb9⟩
        have HFIN := hide (bl_trans8 HW.out hb9)
        clear AW hb9
        go_wp2
        go_ret
        exact ⟨rfl, HFIN.out⟩
  · skip
    have hno : ([cp, cq, cr, cn].all (· == 0)) = false := by
      rw [Bool.eq_false_iff]
      intro h
      simp only [List.all_cons, List.all_nil, Bool.and_true, Bool.and_eq_true, beq_iff_eq] at h
      exact hc h
    rw [hno] at AL
    clear hno
    go_wp2_with fail
    refine AL.mono ?_
    rintro e wn ⟨rfl, hw⟩; rw [hw]; clear hw wn AL hP12 hU13
    have AW := awake8_any U13 HT.out
    go_wp2_with fail
    refine AW.mono ?_
    rintro e t9 ⟨rfl, hb9⟩
    have HFIN := hide (bl_trans8 HW.out hb9)
    clear AW hb9
    go_wp2
    go_ret
    exact ⟨rfl, HFIN.out⟩

set_option maxRecDepth 20000 in
set_option maxHeartbeats 16000000 in
theorem dyadicNear_walk (b0 : Bool) (v0 : Value) (z0 : List Nat) (p0 : Int) (pos : Int) (w : World) (hT : Tab w) (A0 : Arg w v0 z0) (s0 : z0.length ≤ 17592186043904) (lo : -9223372036854775808 ≤ p0) (hi : p0 ≤ 9223372036854775807) (l1 : -9223372036854775808 ≤ pos) (h1 : pos ≤ 9223372036854775807) :
    Calls Tryd.prog 5 #[.agg #[.bool b0, v0, .int .i64 p0], .int .i64 pos] w fun e w' => e = .returned (.bool true) ∧ Below w.heap.size w w' := by
  cases hE : fitE p0
  · exact near_no b0 v0 z0 p0 pos w hT A0 s0 lo hi l1 h1 hE
  · cases hK : fitE pos
    · exact near_pos b0 v0 z0 p0 pos w hT A0 s0 lo hi l1 h1 hE hK
    · by_cases hat : omz (zz b0 (val z0)) = 0 ∨ pos ≤ oe (zz b0 (val z0)) p0
      · exact near_at b0 v0 z0 p0 pos w hT A0 s0 lo hi l1 h1 hE hK hat
      · exact near_far b0 v0 z0 p0 pos w hT A0 s0 lo hi l1 h1 hE hK hat

end Go.Proofs.YtemajaclpkgpbaaDoor
