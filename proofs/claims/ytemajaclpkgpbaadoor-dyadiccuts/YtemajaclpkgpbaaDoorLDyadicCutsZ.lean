/- The walk of the law DyadicCuts. -/
import Derived.Test.YtemajaclpkgpbaaDoorDyClZ
namespace Go.Proofs.YtemajaclpkgpbaaDoor
open Go.RowKit
open Lm
attribute [local go_sem ↓] Go.wp_at_zero Go.wp_at_succ

set_option maxRecDepth 20000 in
set_option maxHeartbeats 16000000 in
theorem cuts_no (b0 : Bool) (v0 : Value) (z0 : List Nat) (p0 : Int) (bits m : Int) (w : World) (hT : Tab w) (A0 : Arg w v0 z0) (s0 : z0.length ≤ 17592186043904) (_ : -9223372036854775808 ≤ p0) (_ : p0 ≤ 9223372036854775807) (_ : -9223372036854775808 ≤ bits) (_ : bits ≤ 9223372036854775807) (_ : -9223372036854775808 ≤ m) (_ : m ≤ 9223372036854775807) (hE0 : fitE p0 = false) :
    Calls Tryd.prog 3 #[.agg #[.bool b0, v0, .int .i64 p0], .int .i64 bits, .int .i64 m] w fun e w' => e = .returned (.bool true) ∧ Below w.heap.size w w' := by
  obtain ⟨a0, n0, rfl, _, _, _⟩ := A0.form
  obtain ⟨w0, hw0, hb0, h0⟩ := enter1 w (.cells #[.bool b0, .slice a0 z0.length n0, .int .i64 p0] 24)
  have HA := hide h0
  have HA0 := hide (A0.below hb0)
  have HT := hide (hT.below hb0)
  have HW := hide hb0
  clear hT hb0 h0
  clear A0
  go_enter Tryd.func3, Tryd.ntmps3
  obtain ⟨ca0, cb0, cc0⟩ := tri8 HA.out
  have C := lent8_any b0 a0 n0 z0 p0 w0 HA0.out (by omega)
  go_wp2_with fail
  refine C.mono ?_
  rintro e Q1 ⟨⟨aw, mw, nw, ax, cx, rfl, hL, hP⟩, hb⟩
  clear C ca0 cb0 cc0 hw0
  obtain ⟨P2, hP2, hbP, hx⟩ := enter1 Q1 (.cells #[.bool b0, .slice ax z0.length cx, .int .i64 p0] 29)
  have stp := bl_trans8 hb hbP
  replace HA := hide (block_upW stp HA.out)
  replace HA0 := hide (HA0.out.below stp)
  replace HT := hide (HT.out.below stp)
  replace HW := hid_below HW stp
  have HLa := hide (hL.below hbP)
  have HPx := hide (hP.below hbP)
  have HX := hide hx
  clear hL hP hb hbP hx stp
  obtain ⟨ca0, cb0, cc0⟩ := tri8 HA.out
  have C := of8_no b0 a0 z0.length n0 p0 P2 hE0
  go_wp2_with fail
  refine C.mono ?_
  rintro e Q3 ⟨he, hb⟩
  clear C ca0 cb0 cc0 hP2
  obtain ⟨bm, am, lm, km, em, rfl⟩ : ∃ b a n k ex, e = .returned (.tuple #[.agg #[.bool b, .slice a n k, .int .i64 ex], .bool false]) := ⟨_, _, _, _, _, he⟩
  clear he
  obtain ⟨P4, hP4, hbP, hx⟩ := enter1 Q3 (.cells #[.bool bm, .slice am lm km, .int .i64 em] 36)
  have stp := bl_trans8 hb hbP
  replace HA := hide (block_upW stp HA.out)
  replace HX := hide (block_upW stp HX.out)
  replace HA0 := hide (HA0.out.below stp)
  replace HT := hide (HT.out.below stp)
  replace HLa := hide (HLa.out.below stp)
  replace HPx := hide (HPx.out.below stp)
  replace HW := hid_below HW stp
  have Hm := hide hx
  clear hb hbP hx stp
  have HBB : Hid (Below P4.heap.size P4 P4) := hide (Below.refl _ _)
  have HLaB := HLa
  have HA0B := HA0
  have HTB := HT
  have HWB := HW
  have HAB := HA
  obtain ⟨ca0, cb0, cc0⟩ := tri8 HX.out
  have C := ycut_no b0 ax z0.length cx p0 bits m P4 hE0
  go_wp2_with fail
  refine C.mono ?_
  rintro e Q5 ⟨he, hb⟩
  clear C ca0 cb0 cc0 hP4
  obtain ⟨bp, ap, lp, kp, ep, cp, rfl, hq⟩ : ∃ b a n k ex c, e = .returned (.tuple #[.agg #[.bool b, .slice a n k, .int .i64 ex], .int .i64 c]) ∧ (b = false ∧ a = none ∧ n = 0 ∧ k = 0 ∧ ex = 0 ∧ c = 80) := ⟨_, _, _, _, _, _, he, rfl, rfl, rfl, rfl, rfl, rfl⟩
  obtain ⟨rp, hrp⟩ : ∃ r : List Nat, r = [] := ⟨_, rfl⟩
  have hans : Ans Q5 P4.heap.size (.slice ap lp kp) rp := by
    rw [hrp, hq.2.1, hq.2.2.1, hq.2.2.2.1]; exact Ans.nil _ _
  have hlp : rp.length ≤ 1048576 := by rw [hrp]; simp
  have HQp := hide hq
  clear he hq hrp
  have Ch := Chain.one hans hb.size
  obtain ⟨P6, hP6, hbP, hx⟩ := enter1 Q5 (.cells #[.bool bp, .slice ap lp kp, .int .i64 ep] 29)
  have stp := bl_trans8 hb hbP
  replace HA := hide (block_upW stp HA.out)
  replace HX := hide (block_upW stp HX.out)
  replace Hm := hide (block_upW stp Hm.out)
  replace HA0 := hide (HA0.out.below stp)
  replace HT := hide (HT.out.below stp)
  replace HLa := hide (HLa.out.below stp)
  replace HPx := hide (HPx.out.below stp)
  replace HW := hid_below HW stp
  replace HBB := hid_below HBB stp
  have Hp := hide hx
  replace Ch := Ch.below hbP
  clear hans hb hbP hx stp
  obtain ⟨ca0, cb0, cc0⟩ := tri8 HX.out
  have C := ywhole_no b0 ax z0.length cx p0 m P6 hE0
  go_wp2_with fail
  refine C.mono ?_
  rintro e Q7 ⟨he, hb⟩
  clear C ca0 cb0 cc0 hP6
  obtain ⟨bq, aq, lq, kq, cq, rfl, hq⟩ : ∃ b a n k c, e = .returned (.tuple #[.agg #[.bool b, .slice a n k], .int .i64 c]) ∧ (b = false ∧ a = none ∧ n = 0 ∧ k = 0 ∧ c = 80) := ⟨_, _, _, _, _, he, rfl, rfl, rfl, rfl, rfl⟩
  obtain ⟨rq, hrq⟩ : ∃ r : List Nat, r = [] := ⟨_, rfl⟩
  have hans : Ans Q7 P6.heap.size (.slice aq lq kq) rq := by
    rw [hrq, hq.2.1, hq.2.2.1, hq.2.2.2.1]; exact Ans.nil _ _
  have hlq : rq.length ≤ 1048576 := by rw [hrq]; simp
  have HQq := hide hq
  clear he hq hrq
  replace Ch := Ch.snoc hb hans HBB.out.size
  obtain ⟨P8, hP8, hbP, hx⟩ := enter1 Q7 (.cells #[.bool bq, .slice aq lq kq] 27)
  have stp := bl_trans8 hb hbP
  replace HA := hide (block_upW stp HA.out)
  replace HX := hide (block_upW stp HX.out)
  replace Hm := hide (block_upW stp Hm.out)
  replace Hp := hide (block_upW stp Hp.out)
  replace HA0 := hide (HA0.out.below stp)
  replace HT := hide (HT.out.below stp)
  replace HLa := hide (HLa.out.below stp)
  replace HPx := hide (HPx.out.below stp)
  replace HW := hid_below HW stp
  replace HBB := hid_below HBB stp
  have Hq := hide hx
  replace Ch := Ch.below hbP
  clear hans hb hbP hx stp
  obtain ⟨w7, w8, hw7, hw8, h7, h8, hb8, hs8⟩ := zero_box10 P8 36
  obtain ⟨w9, wa, hw9, hwa, h9, ha, hb9⟩ := zero_box2 w8 34
  have HU := hide (bl_trans8 hb8 hb9)
  have HWT := hide (block_upW hb9 h8)
  have HZZ := hide ha
  have HKW := hide (show P8.heap.size ≤ w8.heap.size from hb8.size)
  have HNE := hide (show w8.heap.size ≠ P8.heap.size by omega)
  have hf7 := tri8f h7
  have hf9 := duof h9
  obtain ⟨y0, y1, y2⟩ := tri8 h7
  obtain ⟨y3, y4⟩ := duo h9
  clear h7 h8 hb8 h9 ha hb9 hs8
  skip
  obtain ⟨u0, u1⟩ := duo (block_upW HU.out Hq.out)
  have C := num8_any cq wa
  go_wp2_with fail
  refine C.mono ?_
  rintro e wn ⟨rfl, hw⟩; rw [hw]; clear hw wn C
  obtain ⟨hbq, haq, hlq0, hkq, hcq⟩ := HQq.out
  subst hcq hbq hlq0
  clear haq hkq
  clear hf7 hf9 y0 y1 y2 y3 y4 hw7 hw8 hw9 hwa
  skip
  obtain ⟨s0, s1, s2⟩ := tri8 (block_upW HU.out Hp.out)
  obtain ⟨s3, s4, s5⟩ := tri8 HWT.out
  have HAL : Calls Tryd.prog 17 #[.agg #[.bool bp, .slice ap lp kp, .int .i64 ep], .int .i64 cp, .agg #[.bool false, .slice none 0 0, .int .i64 0], .int .i64 80] wa (fun e w' => e = .returned (.bool true) ∧ Below wa.heap.size wa w') := by
    obtain ⟨q1, q2, q3, q4, q5, q6⟩ := HQp.out
    rw [q1, q2, q3, q4, q5, q6]
    exact alike8_bad 80 false none 0 0 0 wa (by decide)
  go_wp2_with fail
  refine HAL.mono ?_
  rintro e t9 ⟨rfl, g9⟩
  clear HAL s0 s1 s2 s3 s4 s5 u0 u1
  have G9 := bl_trans8 HU.out g9
  have HC9 := hide (Ch.below G9)
  have HB9 := hide (bl_trans8 HBB.out G9)
  have HOW := own_aparts P4.heap.size [.slice ap lp kp, .slice aq 0 kq] [rp, rq] t9 HC9.out.aparts (by simp) (by simp; omega) HB9.out.size
  obtain ⟨o0, o1, o2⟩ := tri8 (block_upW G9 Hp.out)
  obtain ⟨o3, o4⟩ := duo (block_upW G9 Hq.out)
  clear g9 G9
  go_wp2_with fail
  refine HOW.mono ?_
  rintro e t10 ⟨rfl, hk⟩
  have G10 : Below P4.heap.size P4 t10 := HB9.out.trans (hk.below)
  have HKE := kept_ok (.slice aw mw nw) (.slice a0 z0.length n0) z0 t10 (HLaB.out.below G10) (HA0B.out.below G10) (by omega)
  obtain ⟨k0, k1, k2⟩ := tri8 (show t10.heap[w.heap.size]? = some (.cells #[.bool b0, .slice a0 z0.length n0, .int .i64 p0] 24) from hk.box _ _ _ (by decide) (by decide) (block_upW HB9.out HAB.out))
  have HAW := awake8_any t10 (HTB.out.below G10)
  have HG10 := hide (bl_trans8 HWB.out G10)
  clear hk HOW G10 o0 o1 o2 o3 o4
  go_wp2_with fail
  refine HKE.mono ?_
  rintro e wn ⟨rfl, hw⟩; rw [hw]; clear hw wn HKE
  go_wp2_with fail
  refine HAW.mono ?_
  rintro e wz ⟨rfl, hbz⟩
  have HZ := hide (bl_trans8 HG10.out hbz)
  clear hbz HAW
  go_wp2
  go_ret
  exact ⟨rfl, HZ.out⟩

set_option maxRecDepth 20000 in
set_option maxHeartbeats 16000000 in
theorem cuts_mode1 (b0 : Bool) (v0 : Value) (z0 : List Nat) (p0 : Int) (bits m : Int) (w : World) (hT : Tab w) (A0 : Arg w v0 z0) (s0 : z0.length ≤ 17592186043904) (_ : -9223372036854775808 ≤ p0) (_ : p0 ≤ 9223372036854775807) (_ : -9223372036854775808 ≤ bits) (_ : bits ≤ 9223372036854775807) (_ : -9223372036854775808 ≤ m) (_ : m ≤ 9223372036854775807) (hE0 : fitE p0 = true) (hM : isM m = false) (hK : 1 ≤ bits) :
    Calls Tryd.prog 3 #[.agg #[.bool b0, v0, .int .i64 p0], .int .i64 bits, .int .i64 m] w fun e w' => e = .returned (.bool true) ∧ Below w.heap.size w w' := by
  obtain ⟨a0, n0, rfl, _, _, _⟩ := A0.form
  obtain ⟨w0, hw0, hb0, h0⟩ := enter1 w (.cells #[.bool b0, .slice a0 z0.length n0, .int .i64 p0] 24)
  have HA := hide h0
  have HA0 := hide (A0.below hb0)
  have HT := hide (hT.below hb0)
  have HW := hide hb0
  clear hT hb0 h0
  have hEr := (fitE_iff p0).1 hE0
  have hbz : blen (zz b0 (val z0)).natAbs ≤ 64 * z0.length := by rw [zz_abs]; exact blen_len8 A0.limbs
  have hOE := oe_range (zz b0 (val z0)) p0 (by omega)
  have hl0 : blen (omz (zz b0 (val z0))).natAbs ≤ 1125899906809900 := by
    have h5 := blen_mono (od_le (zz b0 (val z0)).natAbs)
    rw [omz_abs]; omega
  have hN0 := norm8_of (zz b0 (val z0)) p0
  obtain ⟨M0, hM0⟩ : ∃ M0, omz (zz b0 (val z0)) = M0 := ⟨_, rfl⟩
  obtain ⟨E0, hE0v⟩ : ∃ E0, oe (zz b0 (val z0)) p0 = E0 := ⟨_, rfl⟩
  rw [hM0] at hl0 hN0
  rw [hE0v] at hOE hN0
  have HM0 := hide hM0
  have HV0 := hide hE0v
  have HN0 := hide hN0
  have HL0 := hide hl0
  have e01 : -576460752303423488 ≤ E0 := by omega
  have e02 : E0 ≤ 576460752303423488 := by omega
  clear hM0 hE0v hN0 hl0 hOE hbz hEr
  clear A0
  have i1 : decide (bits < 1) = false := decide_eq_false (by omega)
  have i1b : ¬ bits < 1 := by omega
  have i1c : decide (1 ≤ bits) = true := decide_eq_true hK
  go_enter Tryd.func3, Tryd.ntmps3
  obtain ⟨ca0, cb0, cc0⟩ := tri8 HA.out
  have C := lent8_any b0 a0 n0 z0 p0 w0 HA0.out (by omega)
  go_wp2_with fail
  refine C.mono ?_
  rintro e Q1 ⟨⟨aw, mw, nw, ax, cx, rfl, hL, hP⟩, hb⟩
  clear C ca0 cb0 cc0 hw0
  obtain ⟨P2, hP2, hbP, hx⟩ := enter1 Q1 (.cells #[.bool b0, .slice ax z0.length cx, .int .i64 p0] 29)
  have stp := bl_trans8 hb hbP
  replace HA := hide (block_upW stp HA.out)
  replace HA0 := hide (HA0.out.below stp)
  replace HT := hide (HT.out.below stp)
  replace HW := hid_below HW stp
  have HLa := hide (hL.below hbP)
  have HPx := hide (hP.below hbP)
  have HX := hide hx
  clear hL hP hb hbP hx stp
  obtain ⟨ca0, cb0, cc0⟩ := tri8 HA.out
  have C := of8_ok b0 a0 n0 z0 p0 P2 HA0.out (by omega) hE0
  rw [HM0.out, HV0.out] at C
  go_wp2_with fail
  refine C.mono ?_
  rintro e Q3 ⟨⟨bm, am, lm, km, rfl, hd⟩, hb⟩
  clear C ca0 cb0 cc0 hP2
  obtain ⟨P4, hP4, hbP, hx⟩ := enter1 Q3 (.cells #[.bool bm, .slice am lm km, .int .i64 E0] 36)
  have stp := bl_trans8 hb hbP
  replace HA := hide (block_upW stp HA.out)
  replace HX := hide (block_upW stp HX.out)
  replace HA0 := hide (HA0.out.below stp)
  replace HT := hide (HT.out.below stp)
  replace HLa := hide (HLa.out.below stp)
  replace HPx := hide (HPx.out.below stp)
  replace HW := hid_below HW stp
  have HDm := hide (hd.below hbP)
  have Hm := hide hx
  clear hd hb hbP hx stp
  have HBB : Hid (Below P4.heap.size P4 P4) := hide (Below.refl _ _)
  have HLaB := HLa
  have HA0B := HA0
  have HTB := HT
  have HWB := HW
  have HAB := HA
  obtain ⟨ca0, cb0, cc0⟩ := tri8 HX.out
  have C := ycut_mode b0 ax cx z0 p0 bits m P4 HPx.out HT.out (by omega) hE0 hK hM
  go_wp2_with fail
  refine C.mono ?_
  rintro e Q5 ⟨he, hb⟩
  clear C ca0 cb0 cc0 hP4
  obtain ⟨bp, ap, lp, kp, ep, cp, rfl, hq⟩ : ∃ b a n k ex c, e = .returned (.tuple #[.agg #[.bool b, .slice a n k, .int .i64 ex], .int .i64 c]) ∧ (b = false ∧ a = none ∧ n = 0 ∧ k = 0 ∧ ex = 0 ∧ c = 81) := ⟨_, _, _, _, _, _, he, rfl, rfl, rfl, rfl, rfl, rfl⟩
  obtain ⟨rp, hrp⟩ : ∃ r : List Nat, r = [] := ⟨_, rfl⟩
  have hans : Ans Q5 P4.heap.size (.slice ap lp kp) rp := by
    rw [hrp, hq.2.1, hq.2.2.1, hq.2.2.2.1]; exact Ans.nil _ _
  have hlp : rp.length ≤ 1048576 := by rw [hrp]; simp
  have HQp := hide hq
  clear he hq hrp
  have Ch := Chain.one hans hb.size
  obtain ⟨P6, hP6, hbP, hx⟩ := enter1 Q5 (.cells #[.bool bp, .slice ap lp kp, .int .i64 ep] 29)
  have stp := bl_trans8 hb hbP
  replace HA := hide (block_upW stp HA.out)
  replace HX := hide (block_upW stp HX.out)
  replace Hm := hide (block_upW stp Hm.out)
  replace HA0 := hide (HA0.out.below stp)
  replace HT := hide (HT.out.below stp)
  replace HLa := hide (HLa.out.below stp)
  replace HPx := hide (HPx.out.below stp)
  replace HDm := hide (HDm.out.below stp)
  replace HW := hid_below HW stp
  replace HBB := hid_below HBB stp
  have Hp := hide hx
  replace Ch := Ch.below hbP
  clear hans hb hbP hx stp
  obtain ⟨ca0, cb0, cc0⟩ := tri8 HX.out
  have C := ywhole_mode b0 ax cx z0 p0 m P6 HPx.out HT.out (by omega) hE0 hM
  go_wp2_with fail
  refine C.mono ?_
  rintro e Q7 ⟨he, hb⟩
  clear C ca0 cb0 cc0 hP6
  obtain ⟨bq, aq, lq, kq, cq, rfl, hq⟩ : ∃ b a n k c, e = .returned (.tuple #[.agg #[.bool b, .slice a n k], .int .i64 c]) ∧ (b = false ∧ a = none ∧ n = 0 ∧ k = 0 ∧ c = 81) := ⟨_, _, _, _, _, he, rfl, rfl, rfl, rfl, rfl⟩
  obtain ⟨rq, hrq⟩ : ∃ r : List Nat, r = [] := ⟨_, rfl⟩
  have hans : Ans Q7 P6.heap.size (.slice aq lq kq) rq := by
    rw [hrq, hq.2.1, hq.2.2.1, hq.2.2.2.1]; exact Ans.nil _ _
  have hlq : rq.length ≤ 1048576 := by rw [hrq]; simp
  have HQq := hide hq
  clear he hq hrq
  replace Ch := Ch.snoc hb hans HBB.out.size
  obtain ⟨P8, hP8, hbP, hx⟩ := enter1 Q7 (.cells #[.bool bq, .slice aq lq kq] 27)
  have stp := bl_trans8 hb hbP
  replace HA := hide (block_upW stp HA.out)
  replace HX := hide (block_upW stp HX.out)
  replace Hm := hide (block_upW stp Hm.out)
  replace Hp := hide (block_upW stp Hp.out)
  replace HA0 := hide (HA0.out.below stp)
  replace HT := hide (HT.out.below stp)
  replace HLa := hide (HLa.out.below stp)
  replace HPx := hide (HPx.out.below stp)
  replace HDm := hide (HDm.out.below stp)
  replace HW := hid_below HW stp
  replace HBB := hid_below HBB stp
  have Hq := hide hx
  replace Ch := Ch.below hbP
  clear hans hb hbP hx stp
  obtain ⟨w7, w8, hw7, hw8, h7, h8, hb8, hs8⟩ := zero_box10 P8 36
  obtain ⟨w9, wa, hw9, hwa, h9, ha, hb9⟩ := zero_box2 w8 34
  have HU := hide (bl_trans8 hb8 hb9)
  have HWT := hide (block_upW hb9 h8)
  have HZZ := hide ha
  have HKW := hide (show P8.heap.size ≤ w8.heap.size from hb8.size)
  have HNE := hide (show w8.heap.size ≠ P8.heap.size by omega)
  have hf7 := tri8f h7
  have hf9 := duof h9
  obtain ⟨y0, y1, y2⟩ := tri8 h7
  obtain ⟨y3, y4⟩ := duo h9
  clear h7 h8 hb8 h9 ha hb9 hs8
  have C := mode8_any m wa
  rw [hM] at C
  go_wp2_with fail
  refine C.mono ?_
  rintro e wn ⟨rfl, hw⟩; rw [hw]; clear hw wn C hf7 hf9 y0 y1 y2 y3 y4 hP8
  obtain ⟨u0, u1⟩ := duo (block_upW HU.out Hq.out)
  have C := num8_any cq wa
  go_wp2_with fail
  refine C.mono ?_
  rintro e wn ⟨rfl, hw⟩; rw [hw]; clear hw wn C
  obtain ⟨hbq, haq, hlq0, hkq, hcq⟩ := HQq.out
  subst hcq hbq hlq0
  clear haq hkq
  skip
  obtain ⟨s0, s1, s2⟩ := tri8 (block_upW HU.out Hp.out)
  obtain ⟨s3, s4, s5⟩ := tri8 HWT.out
  have HAL : Calls Tryd.prog 17 #[.agg #[.bool bp, .slice ap lp kp, .int .i64 ep], .int .i64 cp, .agg #[.bool false, .slice none 0 0, .int .i64 0], .int .i64 81] wa (fun e w' => e = .returned (.bool true) ∧ Below wa.heap.size wa w') := by
    obtain ⟨q1, q2, q3, q4, q5, q6⟩ := HQp.out
    rw [q1, q2, q3, q4, q5, q6]
    exact alike8_bad 81 false none 0 0 0 wa (by decide)
  go_wp2_with fail
  refine HAL.mono ?_
  rintro e t9 ⟨rfl, g9⟩
  clear HAL s0 s1 s2 s3 s4 s5 u0 u1
  have G9 := bl_trans8 HU.out g9
  have HC9 := hide (Ch.below G9)
  have HB9 := hide (bl_trans8 HBB.out G9)
  have HOW := own_aparts P4.heap.size [.slice ap lp kp, .slice aq 0 kq] [rp, rq] t9 HC9.out.aparts (by simp) (by simp; omega) HB9.out.size
  obtain ⟨o0, o1, o2⟩ := tri8 (block_upW G9 Hp.out)
  obtain ⟨o3, o4⟩ := duo (block_upW G9 Hq.out)
  clear g9 G9
  go_wp2_with fail
  refine HOW.mono ?_
  rintro e t10 ⟨rfl, hk⟩
  have G10 : Below P4.heap.size P4 t10 := HB9.out.trans (hk.below)
  have HKE := kept_ok (.slice aw mw nw) (.slice a0 z0.length n0) z0 t10 (HLaB.out.below G10) (HA0B.out.below G10) (by omega)
  obtain ⟨k0, k1, k2⟩ := tri8 (show t10.heap[w.heap.size]? = some (.cells #[.bool b0, .slice a0 z0.length n0, .int .i64 p0] 24) from hk.box _ _ _ (by decide) (by decide) (block_upW HB9.out HAB.out))
  have HAW := awake8_any t10 (HTB.out.below G10)
  have HG10 := hide (bl_trans8 HWB.out G10)
  clear hk HOW G10 o0 o1 o2 o3 o4
  go_wp2_with fail
  refine HKE.mono ?_
  rintro e wn ⟨rfl, hw⟩; rw [hw]; clear hw wn HKE
  go_wp2_with fail
  refine HAW.mono ?_
  rintro e wz ⟨rfl, hbz⟩
  have HZ := hide (bl_trans8 HG10.out hbz)
  clear hbz HAW
  go_wp2
  go_ret
  exact ⟨rfl, HZ.out⟩

set_option maxRecDepth 20000 in
set_option maxHeartbeats 16000000 in
theorem cuts_mode0 (b0 : Bool) (v0 : Value) (z0 : List Nat) (p0 : Int) (bits m : Int) (w : World) (hT : Tab w) (A0 : Arg w v0 z0) (s0 : z0.length ≤ 17592186043904) (_ : -9223372036854775808 ≤ p0) (_ : p0 ≤ 9223372036854775807) (_ : -9223372036854775808 ≤ bits) (_ : bits ≤ 9223372036854775807) (_ : -9223372036854775808 ≤ m) (_ : m ≤ 9223372036854775807) (hE0 : fitE p0 = true) (hM : isM m = false) (hK : bits < 1) :
    Calls Tryd.prog 3 #[.agg #[.bool b0, v0, .int .i64 p0], .int .i64 bits, .int .i64 m] w fun e w' => e = .returned (.bool true) ∧ Below w.heap.size w w' := by
  obtain ⟨a0, n0, rfl, _, _, _⟩ := A0.form
  obtain ⟨w0, hw0, hb0, h0⟩ := enter1 w (.cells #[.bool b0, .slice a0 z0.length n0, .int .i64 p0] 24)
  have HA := hide h0
  have HA0 := hide (A0.below hb0)
  have HT := hide (hT.below hb0)
  have HW := hide hb0
  clear hT hb0 h0
  have hEr := (fitE_iff p0).1 hE0
  have hbz : blen (zz b0 (val z0)).natAbs ≤ 64 * z0.length := by rw [zz_abs]; exact blen_len8 A0.limbs
  have hOE := oe_range (zz b0 (val z0)) p0 (by omega)
  have hl0 : blen (omz (zz b0 (val z0))).natAbs ≤ 1125899906809900 := by
    have h5 := blen_mono (od_le (zz b0 (val z0)).natAbs)
    rw [omz_abs]; omega
  have hN0 := norm8_of (zz b0 (val z0)) p0
  obtain ⟨M0, hM0⟩ : ∃ M0, omz (zz b0 (val z0)) = M0 := ⟨_, rfl⟩
  obtain ⟨E0, hE0v⟩ : ∃ E0, oe (zz b0 (val z0)) p0 = E0 := ⟨_, rfl⟩
  rw [hM0] at hl0 hN0
  rw [hE0v] at hOE hN0
  have HM0 := hide hM0
  have HV0 := hide hE0v
  have HN0 := hide hN0
  have HL0 := hide hl0
  have e01 : -576460752303423488 ≤ E0 := by omega
  have e02 : E0 ≤ 576460752303423488 := by omega
  clear hM0 hE0v hN0 hl0 hOE hbz hEr
  clear A0
  have i1 : decide (bits < 1) = true := decide_eq_true hK
  have i1b : ¬ 1 ≤ bits := by omega
  have i1c : decide (1 ≤ bits) = false := decide_eq_false i1b
  go_enter Tryd.func3, Tryd.ntmps3
  obtain ⟨ca0, cb0, cc0⟩ := tri8 HA.out
  have C := lent8_any b0 a0 n0 z0 p0 w0 HA0.out (by omega)
  go_wp2_with fail
  refine C.mono ?_
  rintro e Q1 ⟨⟨aw, mw, nw, ax, cx, rfl, hL, hP⟩, hb⟩
  clear C ca0 cb0 cc0 hw0
  obtain ⟨P2, hP2, hbP, hx⟩ := enter1 Q1 (.cells #[.bool b0, .slice ax z0.length cx, .int .i64 p0] 29)
  have stp := bl_trans8 hb hbP
  replace HA := hide (block_upW stp HA.out)
  replace HA0 := hide (HA0.out.below stp)
  replace HT := hide (HT.out.below stp)
  replace HW := hid_below HW stp
  have HLa := hide (hL.below hbP)
  have HPx := hide (hP.below hbP)
  have HX := hide hx
  clear hL hP hb hbP hx stp
  obtain ⟨ca0, cb0, cc0⟩ := tri8 HA.out
  have C := of8_ok b0 a0 n0 z0 p0 P2 HA0.out (by omega) hE0
  rw [HM0.out, HV0.out] at C
  go_wp2_with fail
  refine C.mono ?_
  rintro e Q3 ⟨⟨bm, am, lm, km, rfl, hd⟩, hb⟩
  clear C ca0 cb0 cc0 hP2
  obtain ⟨P4, hP4, hbP, hx⟩ := enter1 Q3 (.cells #[.bool bm, .slice am lm km, .int .i64 E0] 36)
  have stp := bl_trans8 hb hbP
  replace HA := hide (block_upW stp HA.out)
  replace HX := hide (block_upW stp HX.out)
  replace HA0 := hide (HA0.out.below stp)
  replace HT := hide (HT.out.below stp)
  replace HLa := hide (HLa.out.below stp)
  replace HPx := hide (HPx.out.below stp)
  replace HW := hid_below HW stp
  have HDm := hide (hd.below hbP)
  have Hm := hide hx
  clear hd hb hbP hx stp
  have HBB : Hid (Below P4.heap.size P4 P4) := hide (Below.refl _ _)
  have HLaB := HLa
  have HA0B := HA0
  have HTB := HT
  have HWB := HW
  have HAB := HA
  obtain ⟨ca0, cb0, cc0⟩ := tri8 HX.out
  have C := ycut_arg b0 ax cx z0 p0 bits m P4 HPx.out HT.out (by omega) hE0 hK
  go_wp2_with fail
  refine C.mono ?_
  rintro e Q5 ⟨he, hb⟩
  clear C ca0 cb0 cc0 hP4
  obtain ⟨bp, ap, lp, kp, ep, cp, rfl, hq⟩ : ∃ b a n k ex c, e = .returned (.tuple #[.agg #[.bool b, .slice a n k, .int .i64 ex], .int .i64 c]) ∧ (b = false ∧ a = none ∧ n = 0 ∧ k = 0 ∧ ex = 0 ∧ c = 1) := ⟨_, _, _, _, _, _, he, rfl, rfl, rfl, rfl, rfl, rfl⟩
  obtain ⟨rp, hrp⟩ : ∃ r : List Nat, r = [] := ⟨_, rfl⟩
  have hans : Ans Q5 P4.heap.size (.slice ap lp kp) rp := by
    rw [hrp, hq.2.1, hq.2.2.1, hq.2.2.2.1]; exact Ans.nil _ _
  have hlp : rp.length ≤ 1048576 := by rw [hrp]; simp
  have HQp := hide hq
  clear he hq hrp
  have Ch := Chain.one hans hb.size
  obtain ⟨P6, hP6, hbP, hx⟩ := enter1 Q5 (.cells #[.bool bp, .slice ap lp kp, .int .i64 ep] 29)
  have stp := bl_trans8 hb hbP
  replace HA := hide (block_upW stp HA.out)
  replace HX := hide (block_upW stp HX.out)
  replace Hm := hide (block_upW stp Hm.out)
  replace HA0 := hide (HA0.out.below stp)
  replace HT := hide (HT.out.below stp)
  replace HLa := hide (HLa.out.below stp)
  replace HPx := hide (HPx.out.below stp)
  replace HDm := hide (HDm.out.below stp)
  replace HW := hid_below HW stp
  replace HBB := hid_below HBB stp
  have Hp := hide hx
  replace Ch := Ch.below hbP
  clear hans hb hbP hx stp
  obtain ⟨ca0, cb0, cc0⟩ := tri8 HX.out
  have C := ywhole_mode b0 ax cx z0 p0 m P6 HPx.out HT.out (by omega) hE0 hM
  go_wp2_with fail
  refine C.mono ?_
  rintro e Q7 ⟨he, hb⟩
  clear C ca0 cb0 cc0 hP6
  obtain ⟨bq, aq, lq, kq, cq, rfl, hq⟩ : ∃ b a n k c, e = .returned (.tuple #[.agg #[.bool b, .slice a n k], .int .i64 c]) ∧ (b = false ∧ a = none ∧ n = 0 ∧ k = 0 ∧ c = 81) := ⟨_, _, _, _, _, he, rfl, rfl, rfl, rfl, rfl⟩
  obtain ⟨rq, hrq⟩ : ∃ r : List Nat, r = [] := ⟨_, rfl⟩
  have hans : Ans Q7 P6.heap.size (.slice aq lq kq) rq := by
    rw [hrq, hq.2.1, hq.2.2.1, hq.2.2.2.1]; exact Ans.nil _ _
  have hlq : rq.length ≤ 1048576 := by rw [hrq]; simp
  have HQq := hide hq
  clear he hq hrq
  replace Ch := Ch.snoc hb hans HBB.out.size
  obtain ⟨P8, hP8, hbP, hx⟩ := enter1 Q7 (.cells #[.bool bq, .slice aq lq kq] 27)
  have stp := bl_trans8 hb hbP
  replace HA := hide (block_upW stp HA.out)
  replace HX := hide (block_upW stp HX.out)
  replace Hm := hide (block_upW stp Hm.out)
  replace Hp := hide (block_upW stp Hp.out)
  replace HA0 := hide (HA0.out.below stp)
  replace HT := hide (HT.out.below stp)
  replace HLa := hide (HLa.out.below stp)
  replace HPx := hide (HPx.out.below stp)
  replace HDm := hide (HDm.out.below stp)
  replace HW := hid_below HW stp
  replace HBB := hid_below HBB stp
  have Hq := hide hx
  replace Ch := Ch.below hbP
  clear hans hb hbP hx stp
  obtain ⟨w7, w8, hw7, hw8, h7, h8, hb8, hs8⟩ := zero_box10 P8 36
  obtain ⟨w9, wa, hw9, hwa, h9, ha, hb9⟩ := zero_box2 w8 34
  have HU := hide (bl_trans8 hb8 hb9)
  have HWT := hide (block_upW hb9 h8)
  have HZZ := hide ha
  have HKW := hide (show P8.heap.size ≤ w8.heap.size from hb8.size)
  have HNE := hide (show w8.heap.size ≠ P8.heap.size by omega)
  have hf7 := tri8f h7
  have hf9 := duof h9
  obtain ⟨y0, y1, y2⟩ := tri8 h7
  obtain ⟨y3, y4⟩ := duo h9
  clear h7 h8 hb8 h9 ha hb9 hs8
  have C := mode8_any m wa
  rw [hM] at C
  go_wp2_with fail
  refine C.mono ?_
  rintro e wn ⟨rfl, hw⟩; rw [hw]; clear hw wn C hf7 hf9 y0 y1 y2 y3 y4 hP8
  obtain ⟨u0, u1⟩ := duo (block_upW HU.out Hq.out)
  have C := num8_any cq wa
  go_wp2_with fail
  refine C.mono ?_
  rintro e wn ⟨rfl, hw⟩; rw [hw]; clear hw wn C
  obtain ⟨hbq, haq, hlq0, hkq, hcq⟩ := HQq.out
  subst hcq hbq hlq0
  clear haq hkq
  skip
  obtain ⟨s0, s1, s2⟩ := tri8 (block_upW HU.out Hp.out)
  obtain ⟨s3, s4, s5⟩ := tri8 HWT.out
  have HAL : Calls Tryd.prog 17 #[.agg #[.bool bp, .slice ap lp kp, .int .i64 ep], .int .i64 cp, .agg #[.bool false, .slice none 0 0, .int .i64 0], .int .i64 1] wa (fun e w' => e = .returned (.bool true) ∧ Below wa.heap.size wa w') := by
    obtain ⟨q1, q2, q3, q4, q5, q6⟩ := HQp.out
    rw [q1, q2, q3, q4, q5, q6]
    exact alike8_bad 1 false none 0 0 0 wa (by decide)
  go_wp2_with fail
  refine HAL.mono ?_
  rintro e t9 ⟨rfl, g9⟩
  clear HAL s0 s1 s2 s3 s4 s5 u0 u1
  have G9 := bl_trans8 HU.out g9
  have HC9 := hide (Ch.below G9)
  have HB9 := hide (bl_trans8 HBB.out G9)
  have HOW := own_aparts P4.heap.size [.slice ap lp kp, .slice aq 0 kq] [rp, rq] t9 HC9.out.aparts (by simp) (by simp; omega) HB9.out.size
  obtain ⟨o0, o1, o2⟩ := tri8 (block_upW G9 Hp.out)
  obtain ⟨o3, o4⟩ := duo (block_upW G9 Hq.out)
  clear g9 G9
  go_wp2_with fail
  refine HOW.mono ?_
  rintro e t10 ⟨rfl, hk⟩
  have G10 : Below P4.heap.size P4 t10 := HB9.out.trans (hk.below)
  have HKE := kept_ok (.slice aw mw nw) (.slice a0 z0.length n0) z0 t10 (HLaB.out.below G10) (HA0B.out.below G10) (by omega)
  obtain ⟨k0, k1, k2⟩ := tri8 (show t10.heap[w.heap.size]? = some (.cells #[.bool b0, .slice a0 z0.length n0, .int .i64 p0] 24) from hk.box _ _ _ (by decide) (by decide) (block_upW HB9.out HAB.out))
  have HAW := awake8_any t10 (HTB.out.below G10)
  have HG10 := hide (bl_trans8 HWB.out G10)
  clear hk HOW G10 o0 o1 o2 o3 o4
  go_wp2_with fail
  refine HKE.mono ?_
  rintro e wn ⟨rfl, hw⟩; rw [hw]; clear hw wn HKE
  go_wp2_with fail
  refine HAW.mono ?_
  rintro e wz ⟨rfl, hbz⟩
  have HZ := hide (bl_trans8 HG10.out hbz)
  clear hbz HAW
  go_wp2
  go_ret
  exact ⟨rfl, HZ.out⟩

set_option maxRecDepth 20000 in
set_option maxHeartbeats 16000000 in
theorem cuts_1f (b0 : Bool) (v0 : Value) (z0 : List Nat) (p0 : Int) (bits m : Int) (w : World) (hT : Tab w) (A0 : Arg w v0 z0) (s0 : z0.length ≤ 17592186043904) (_ : -9223372036854775808 ≤ p0) (_ : p0 ≤ 9223372036854775807) (_ : -9223372036854775808 ≤ bits) (_ : bits ≤ 9223372036854775807) (_ : -9223372036854775808 ≤ m) (_ : m ≤ 9223372036854775807) (hE0 : fitE p0 = true) (hM : isM m = true) (hK : 1 ≤ bits) (hfine : blen (rndM (omz (zz b0 (val z0))) (oe (zz b0 (val z0)) p0) 0 m * 2 ^ (rndE (omz (zz b0 (val z0))) (oe (zz b0 (val z0)) p0) 0).toNat).natAbs ≤ 67108864) :
    Calls Tryd.prog 3 #[.agg #[.bool b0, v0, .int .i64 p0], .int .i64 bits, .int .i64 m] w fun e w' => e = .returned (.bool true) ∧ Below w.heap.size w w' := by
  obtain ⟨a0, n0, rfl, _, _, _⟩ := A0.form
  obtain ⟨w0, hw0, hb0, h0⟩ := enter1 w (.cells #[.bool b0, .slice a0 z0.length n0, .int .i64 p0] 24)
  have HA := hide h0
  have HA0 := hide (A0.below hb0)
  have HT := hide (hT.below hb0)
  have HW := hide hb0
  clear hT hb0 h0
  have hEr := (fitE_iff p0).1 hE0
  have hbz : blen (zz b0 (val z0)).natAbs ≤ 64 * z0.length := by rw [zz_abs]; exact blen_len8 A0.limbs
  have hOE := oe_range (zz b0 (val z0)) p0 (by omega)
  have hl0 : blen (omz (zz b0 (val z0))).natAbs ≤ 1125899906809900 := by
    have h5 := blen_mono (od_le (zz b0 (val z0)).natAbs)
    rw [omz_abs]; omega
  have hN0 := norm8_of (zz b0 (val z0)) p0
  obtain ⟨M0, hM0⟩ : ∃ M0, omz (zz b0 (val z0)) = M0 := ⟨_, rfl⟩
  obtain ⟨E0, hE0v⟩ : ∃ E0, oe (zz b0 (val z0)) p0 = E0 := ⟨_, rfl⟩
  rw [hM0] at hl0 hN0
  rw [hE0v] at hOE hN0
  have HM0 := hide hM0
  have HV0 := hide hE0v
  have HN0 := hide hN0
  have HL0 := hide hl0
  have e01 : -576460752303423488 ≤ E0 := by omega
  have e02 : E0 ≤ 576460752303423488 := by omega
  clear hM0 hE0v hN0 hl0 hOE hbz hEr
  clear A0
  have i1 : decide (bits < 1) = false := decide_eq_false (by omega)
  have i1b : ¬ bits < 1 := by omega
  have i1c : decide (1 ≤ bits) = true := decide_eq_true hK
  have hm := (isM_iff m).1 hM
  go_enter Tryd.func3, Tryd.ntmps3
  obtain ⟨ca0, cb0, cc0⟩ := tri8 HA.out
  have C := lent8_any b0 a0 n0 z0 p0 w0 HA0.out (by omega)
  go_wp2_with fail
  refine C.mono ?_
  rintro e Q1 ⟨⟨aw, mw, nw, ax, cx, rfl, hL, hP⟩, hb⟩
  clear C ca0 cb0 cc0 hw0
  obtain ⟨P2, hP2, hbP, hx⟩ := enter1 Q1 (.cells #[.bool b0, .slice ax z0.length cx, .int .i64 p0] 29)
  have stp := bl_trans8 hb hbP
  replace HA := hide (block_upW stp HA.out)
  replace HA0 := hide (HA0.out.below stp)
  replace HT := hide (HT.out.below stp)
  replace HW := hid_below HW stp
  have HLa := hide (hL.below hbP)
  have HPx := hide (hP.below hbP)
  have HX := hide hx
  clear hL hP hb hbP hx stp
  obtain ⟨ca0, cb0, cc0⟩ := tri8 HA.out
  have C := of8_ok b0 a0 n0 z0 p0 P2 HA0.out (by omega) hE0
  rw [HM0.out, HV0.out] at C
  go_wp2_with fail
  refine C.mono ?_
  rintro e Q3 ⟨⟨bm, am, lm, km, rfl, hd⟩, hb⟩
  clear C ca0 cb0 cc0 hP2
  obtain ⟨P4, hP4, hbP, hx⟩ := enter1 Q3 (.cells #[.bool bm, .slice am lm km, .int .i64 E0] 36)
  have stp := bl_trans8 hb hbP
  replace HA := hide (block_upW stp HA.out)
  replace HX := hide (block_upW stp HX.out)
  replace HA0 := hide (HA0.out.below stp)
  replace HT := hide (HT.out.below stp)
  replace HLa := hide (HLa.out.below stp)
  replace HPx := hide (HPx.out.below stp)
  replace HW := hid_below HW stp
  have HDm := hide (hd.below hbP)
  have Hm := hide hx
  clear hd hb hbP hx stp
  have HBB : Hid (Below P4.heap.size P4 P4) := hide (Below.refl _ _)
  have HLaB := HLa
  have HA0B := HA0
  have HTB := HT
  have HWB := HW
  have HAB := HA
  obtain ⟨ca0, cb0, cc0⟩ := tri8 HX.out
  have C := ycut_ok b0 ax cx z0 p0 bits m P4 HPx.out HT.out (by omega) hE0 hK hM
  rw [HM0.out, HV0.out] at C
  go_wp2_with fail
  refine C.mono ?_
  rintro e Q5 ⟨⟨bp, ap, lp, kp, ep, cp, rfl, hd⟩, hb⟩
  clear C ca0 cb0 cc0 hP4
  obtain ⟨rp, hans, hlp⟩ := hd.own10
  have Ch := Chain.one hans hb.size
  obtain ⟨P6, hP6, hbP, hx⟩ := enter1 Q5 (.cells #[.bool bp, .slice ap lp kp, .int .i64 ep] 29)
  have stp := bl_trans8 hb hbP
  replace HA := hide (block_upW stp HA.out)
  replace HX := hide (block_upW stp HX.out)
  replace Hm := hide (block_upW stp Hm.out)
  replace HA0 := hide (HA0.out.below stp)
  replace HT := hide (HT.out.below stp)
  replace HLa := hide (HLa.out.below stp)
  replace HPx := hide (HPx.out.below stp)
  replace HDm := hide (HDm.out.below stp)
  replace HW := hid_below HW stp
  replace HBB := hid_below HBB stp
  have HDp := hide (hd.below hbP)
  have Hp := hide hx
  replace Ch := Ch.below hbP
  clear hans hb hbP hx stp
  clear hd
  obtain ⟨ca0, cb0, cc0⟩ := tri8 HX.out
  have C := ywhole_ok b0 ax cx z0 p0 m P6 HPx.out HT.out (by omega) hE0 hM
  rw [HM0.out, HV0.out] at C
  go_wp2_with fail
  refine C.mono ?_
  rintro e Q7 ⟨⟨bq, aq, lq, kq, cq, rfl, hd⟩, hb⟩
  clear C ca0 cb0 cc0 hP6
  obtain ⟨rq, hans, hlq, hz1, hz2⟩ := hd.own10
  rw [HM0.out, HV0.out] at hfine
  have HZF := hide (hz1 hfine)
  clear hz1 hz2
  replace Ch := Ch.snoc hb hans HBB.out.size
  obtain ⟨P8, hP8, hbP, hx⟩ := enter1 Q7 (.cells #[.bool bq, .slice aq lq kq] 27)
  have stp := bl_trans8 hb hbP
  replace HA := hide (block_upW stp HA.out)
  replace HX := hide (block_upW stp HX.out)
  replace Hm := hide (block_upW stp Hm.out)
  replace Hp := hide (block_upW stp Hp.out)
  replace HA0 := hide (HA0.out.below stp)
  replace HT := hide (HT.out.below stp)
  replace HLa := hide (HLa.out.below stp)
  replace HPx := hide (HPx.out.below stp)
  replace HDm := hide (HDm.out.below stp)
  replace HDp := hide (HDp.out.below stp)
  replace HW := hid_below HW stp
  replace HBB := hid_below HBB stp
  have Hq := hide hx
  replace Ch := Ch.below hbP
  clear hans hb hbP hx stp
  clear hd
  obtain ⟨w7, w8, hw7, hw8, h7, h8, hb8, hs8⟩ := zero_box10 P8 36
  obtain ⟨w9, wa, hw9, hwa, h9, ha, hb9⟩ := zero_box2 w8 34
  have HU := hide (bl_trans8 hb8 hb9)
  have HWT := hide (block_upW hb9 h8)
  have HZZ := hide ha
  have HKW := hide (show P8.heap.size ≤ w8.heap.size from hb8.size)
  have HNE := hide (show w8.heap.size ≠ P8.heap.size by omega)
  have hf7 := tri8f h7
  have hf9 := duof h9
  obtain ⟨y0, y1, y2⟩ := tri8 h7
  obtain ⟨y3, y4⟩ := duo h9
  clear h7 h8 hb8 h9 ha hb9 hs8
  have C := mode8_any m wa
  rw [hM] at C
  go_wp2_with fail
  refine C.mono ?_
  rintro e wn ⟨rfl, hw⟩; rw [hw]; clear hw wn C hf7 hf9 y0 y1 y2 y3 y4 hP8
  have hf5 := tri8f HWT.out
  obtain ⟨x0, x1, x2⟩ := tri8 HWT.out
  obtain ⟨v0, v1, v2⟩ := tri8 (block_upW HU.out Hm.out)
  obtain ⟨wS, hwS, hU1, hW1, hZ1, _⟩ := put8 HU.out (Nat.le_refl _) HWT.out HZZ.out HNE.out bm am lm km E0
  have HU1 := hide hU1
  have HW1 := hide hW1
  have HZ1 := hide hZ1
  have HDS := hide (HDm.out.below hU1)
  obtain ⟨q0, q1, q2⟩ := tri8 (block_upW hU1 Hm.out)
  clear hU1 hW1 hZ1
  have C := rdCut_any bm am lm km M0 E0 bits m wS HDS.out HN0.out HL0.out e01 e02 hm hK
  have HSV : Hid (DR P8 P4.heap.size bp (.slice ap lp kp) ep cp (omz (rndM M0 E0 (cutP M0 E0 bits) m)) (oe (rndM M0 E0 (cutP M0 E0 bits) m) (rndE M0 E0 (cutP M0 E0 bits)))) := HDp
  generalize omz (rndM M0 E0 (cutP M0 E0 bits) m) = CM at *
  generalize oe (rndM M0 E0 (cutP M0 E0 bits) m) (rndE M0 E0 (cutP M0 E0 bits)) = CE at *
  go_wp2_with fail
  refine C.mono ?_
  rintro e t2 ⟨⟨bc, ac, lc, kc, rfl, D2⟩, hb⟩
  clear C hf5 x0 x1 x2 v0 v1 v2 q0 q1 q2 hwS
  have hc2 := block_upW hb HW1.out
  have hf5 := tri8f hc2
  obtain ⟨x0, x1, x2⟩ := tri8 hc2
  obtain ⟨wR, hwR, hU2, hW2, hZ2, hD2⟩ := put8 (bl_trans8 HU1.out hb) (Nat.le_refl _) hc2 (block_upW hb HZ1.out) HNE.out bc ac lc kc CE
  have HU2 := hide hU2
  have HW2 := hide hW2
  have HZ2 := hide hZ2
  have HDC := hide (hD2 _ _ _ D2)
  have HDV := hide (HDm.out.below hU2)
  obtain ⟨q0, q1, q2⟩ := tri8 (block_upW hU2 Hm.out)
  clear hU2 hW2 hZ2 hD2 D2 hb hc2
  have C := rdWhole_any bm am lm km M0 E0 m wR HDV.out HN0.out HL0.out e01 e02 hm
  generalize rndM M0 E0 0 m * 2 ^ (rndE M0 E0 0).toNat = ZN at *
  go_wp2_with fail
  refine C.mono ?_
  rintro e t3 ⟨⟨bz, az, lz, kz, ok, rfl, hzc⟩, hb⟩
  clear C hf5 x0 x1 x2 q0 q1 q2  hwR
  have hc3 := block_upW hb HZ2.out
  have hf5 := duof hc3
  obtain ⟨x3, x4⟩ := duo hc3
  obtain ⟨wQ, hwQ, hU3, hZ3, hW3, hD3, hE3⟩ := put2 (bl_trans8 HU2.out hb) HKW.out hc3 (block_upW hb HW2.out) (Ne.symm HNE.out) bz az lz kz
  have HU3 := hide hU3
  have HW3 := hide hW3
  have HZ3 := hide hZ3
  have HDC3 := hide (hD3 _ _ _ (HDC.out.below hb))
  obtain ⟨hok, hzn⟩ : ok = true ∧ Zn t3 (.agg #[.bool bz, .slice az lz kz]) ZN := by
    rcases hzc with ⟨h1, h2, _⟩ | ⟨_, h2⟩
    · exact ⟨h1, h2⟩
    · omega
  have HZN := hide (hE3 _ _ hzn)
  clear hzn
  subst hok
  clear hzc hU3 hW3 hZ3 hD3 hE3 hb hc3
  obtain ⟨u0, u1⟩ := duo (block_upW HU3.out Hq.out)
  obtain ⟨hcq, hbq, hvq, htq⟩ := HZF.out
  subst hcq
  have HQA := hide (show Ans P8 P4.heap.size (.slice aq lq kq) rq from (Ch.aparts.row 1 (by simp)))
  have HIS := rzis_any (.agg #[.bool bz, .slice az lz kz]) ZN (.slice aq lq kq) rq wQ HZN.out ((HQA.out.below HU3.out).arg (by omega)) htq hvq (by omega)
  rw [← hbq] at HIS
  clear hbq hvq htq HZF
  have C := num8_any 0 wQ
  obtain ⟨u3, u4⟩ := duo HZ3.out
  go_wp2_with fail
  refine C.mono ?_
  rintro e wn ⟨rfl, hw⟩; rw [hw]; clear hw wn C
  go_wp2_with fail
  refine HIS.mono ?_
  rintro e t5 ⟨rfl, hb⟩
  clear HIS u0 u1 u3 u4 hwQ hf5 x3 x4
  have HU5 := hide (bl_trans8 HU3.out hb)
  have HW5 := hide (block_upW hb HW3.out)
  have HD5 := hide (HDC3.out.below hb)
  clear hb
  obtain ⟨s0, s1, s2⟩ := tri8 (block_upW HU5.out Hp.out)
  obtain ⟨s3, s4, s5⟩ := tri8 HW5.out
  have HAL := alike8_ok bp ap lp kp ep cp bc ac lc kc CM CE _ t5 (HSV.out.below HU5.out) HD5.out
  go_wp2_with fail
  refine HAL.mono ?_
  rintro e t9 ⟨rfl, g9⟩
  clear HAL s0 s1 s2 s3 s4 s5
  have G9 := bl_trans8 HU5.out g9
  have HC9 := hide (Ch.below G9)
  have HB9 := hide (bl_trans8 HBB.out G9)
  have HOW := own_aparts P4.heap.size [.slice ap lp kp, .slice aq lq kq] [rp, rq] t9 HC9.out.aparts (by simp) (by simp; omega) HB9.out.size
  obtain ⟨o0, o1, o2⟩ := tri8 (block_upW G9 Hp.out)
  obtain ⟨o3, o4⟩ := duo (block_upW G9 Hq.out)
  clear g9 G9
  go_wp2_with fail
  refine HOW.mono ?_
  rintro e t10 ⟨rfl, hk⟩
  have G10 : Below P4.heap.size P4 t10 := HB9.out.trans (hk.below)
  have HKE := kept_ok (.slice aw mw nw) (.slice a0 z0.length n0) z0 t10 (HLaB.out.below G10) (HA0B.out.below G10) (by omega)
  obtain ⟨k0, k1, k2⟩ := tri8 (show t10.heap[w.heap.size]? = some (.cells #[.bool b0, .slice a0 z0.length n0, .int .i64 p0] 24) from hk.box _ _ _ (by decide) (by decide) (block_upW HB9.out HAB.out))
  have HAW := awake8_any t10 (HTB.out.below G10)
  have HG10 := hide (bl_trans8 HWB.out G10)
  clear hk HOW G10 o0 o1 o2 o3 o4
  go_wp2_with fail
  refine HKE.mono ?_
  rintro e wn ⟨rfl, hw⟩; rw [hw]; clear hw wn HKE
  go_wp2_with fail
  refine HAW.mono ?_
  rintro e wz ⟨rfl, hbz⟩
  have HZ := hide (bl_trans8 HG10.out hbz)
  clear hbz HAW
  go_wp2
  go_ret
  exact ⟨rfl, HZ.out⟩

set_option maxRecDepth 20000 in
set_option maxHeartbeats 16000000 in
theorem cuts_1b (b0 : Bool) (v0 : Value) (z0 : List Nat) (p0 : Int) (bits m : Int) (w : World) (hT : Tab w) (A0 : Arg w v0 z0) (s0 : z0.length ≤ 17592186043904) (_ : -9223372036854775808 ≤ p0) (_ : p0 ≤ 9223372036854775807) (_ : -9223372036854775808 ≤ bits) (_ : bits ≤ 9223372036854775807) (_ : -9223372036854775808 ≤ m) (_ : m ≤ 9223372036854775807) (hE0 : fitE p0 = true) (hM : isM m = true) (hK : 1 ≤ bits) (hfine : 67108864 < blen (rndM (omz (zz b0 (val z0))) (oe (zz b0 (val z0)) p0) 0 m * 2 ^ (rndE (omz (zz b0 (val z0))) (oe (zz b0 (val z0)) p0) 0).toNat).natAbs) :
    Calls Tryd.prog 3 #[.agg #[.bool b0, v0, .int .i64 p0], .int .i64 bits, .int .i64 m] w fun e w' => e = .returned (.bool true) ∧ Below w.heap.size w w' := by
  obtain ⟨a0, n0, rfl, _, _, _⟩ := A0.form
  obtain ⟨w0, hw0, hb0, h0⟩ := enter1 w (.cells #[.bool b0, .slice a0 z0.length n0, .int .i64 p0] 24)
  have HA := hide h0
  have HA0 := hide (A0.below hb0)
  have HT := hide (hT.below hb0)
  have HW := hide hb0
  clear hT hb0 h0
  have hEr := (fitE_iff p0).1 hE0
  have hbz : blen (zz b0 (val z0)).natAbs ≤ 64 * z0.length := by rw [zz_abs]; exact blen_len8 A0.limbs
  have hOE := oe_range (zz b0 (val z0)) p0 (by omega)
  have hl0 : blen (omz (zz b0 (val z0))).natAbs ≤ 1125899906809900 := by
    have h5 := blen_mono (od_le (zz b0 (val z0)).natAbs)
    rw [omz_abs]; omega
  have hN0 := norm8_of (zz b0 (val z0)) p0
  obtain ⟨M0, hM0⟩ : ∃ M0, omz (zz b0 (val z0)) = M0 := ⟨_, rfl⟩
  obtain ⟨E0, hE0v⟩ : ∃ E0, oe (zz b0 (val z0)) p0 = E0 := ⟨_, rfl⟩
  rw [hM0] at hl0 hN0
  rw [hE0v] at hOE hN0
  have HM0 := hide hM0
  have HV0 := hide hE0v
  have HN0 := hide hN0
  have HL0 := hide hl0
  have e01 : -576460752303423488 ≤ E0 := by omega
  have e02 : E0 ≤ 576460752303423488 := by omega
  clear hM0 hE0v hN0 hl0 hOE hbz hEr
  clear A0
  have i1 : decide (bits < 1) = false := decide_eq_false (by omega)
  have i1b : ¬ bits < 1 := by omega
  have i1c : decide (1 ≤ bits) = true := decide_eq_true hK
  have hm := (isM_iff m).1 hM
  go_enter Tryd.func3, Tryd.ntmps3
  obtain ⟨ca0, cb0, cc0⟩ := tri8 HA.out
  have C := lent8_any b0 a0 n0 z0 p0 w0 HA0.out (by omega)
  go_wp2_with fail
  refine C.mono ?_
  rintro e Q1 ⟨⟨aw, mw, nw, ax, cx, rfl, hL, hP⟩, hb⟩
  clear C ca0 cb0 cc0 hw0
  obtain ⟨P2, hP2, hbP, hx⟩ := enter1 Q1 (.cells #[.bool b0, .slice ax z0.length cx, .int .i64 p0] 29)
  have stp := bl_trans8 hb hbP
  replace HA := hide (block_upW stp HA.out)
  replace HA0 := hide (HA0.out.below stp)
  replace HT := hide (HT.out.below stp)
  replace HW := hid_below HW stp
  have HLa := hide (hL.below hbP)
  have HPx := hide (hP.below hbP)
  have HX := hide hx
  clear hL hP hb hbP hx stp
  obtain ⟨ca0, cb0, cc0⟩ := tri8 HA.out
  have C := of8_ok b0 a0 n0 z0 p0 P2 HA0.out (by omega) hE0
  rw [HM0.out, HV0.out] at C
  go_wp2_with fail
  refine C.mono ?_
  rintro e Q3 ⟨⟨bm, am, lm, km, rfl, hd⟩, hb⟩
  clear C ca0 cb0 cc0 hP2
  obtain ⟨P4, hP4, hbP, hx⟩ := enter1 Q3 (.cells #[.bool bm, .slice am lm km, .int .i64 E0] 36)
  have stp := bl_trans8 hb hbP
  replace HA := hide (block_upW stp HA.out)
  replace HX := hide (block_upW stp HX.out)
  replace HA0 := hide (HA0.out.below stp)
  replace HT := hide (HT.out.below stp)
  replace HLa := hide (HLa.out.below stp)
  replace HPx := hide (HPx.out.below stp)
  replace HW := hid_below HW stp
  have HDm := hide (hd.below hbP)
  have Hm := hide hx
  clear hd hb hbP hx stp
  have HBB : Hid (Below P4.heap.size P4 P4) := hide (Below.refl _ _)
  have HLaB := HLa
  have HA0B := HA0
  have HTB := HT
  have HWB := HW
  have HAB := HA
  obtain ⟨ca0, cb0, cc0⟩ := tri8 HX.out
  have C := ycut_ok b0 ax cx z0 p0 bits m P4 HPx.out HT.out (by omega) hE0 hK hM
  rw [HM0.out, HV0.out] at C
  go_wp2_with fail
  refine C.mono ?_
  rintro e Q5 ⟨⟨bp, ap, lp, kp, ep, cp, rfl, hd⟩, hb⟩
  clear C ca0 cb0 cc0 hP4
  obtain ⟨rp, hans, hlp⟩ := hd.own10
  have Ch := Chain.one hans hb.size
  obtain ⟨P6, hP6, hbP, hx⟩ := enter1 Q5 (.cells #[.bool bp, .slice ap lp kp, .int .i64 ep] 29)
  have stp := bl_trans8 hb hbP
  replace HA := hide (block_upW stp HA.out)
  replace HX := hide (block_upW stp HX.out)
  replace Hm := hide (block_upW stp Hm.out)
  replace HA0 := hide (HA0.out.below stp)
  replace HT := hide (HT.out.below stp)
  replace HLa := hide (HLa.out.below stp)
  replace HPx := hide (HPx.out.below stp)
  replace HDm := hide (HDm.out.below stp)
  replace HW := hid_below HW stp
  replace HBB := hid_below HBB stp
  have HDp := hide (hd.below hbP)
  have Hp := hide hx
  replace Ch := Ch.below hbP
  clear hans hb hbP hx stp
  clear hd
  obtain ⟨ca0, cb0, cc0⟩ := tri8 HX.out
  have C := ywhole_ok b0 ax cx z0 p0 m P6 HPx.out HT.out (by omega) hE0 hM
  rw [HM0.out, HV0.out] at C
  go_wp2_with fail
  refine C.mono ?_
  rintro e Q7 ⟨⟨bq, aq, lq, kq, cq, rfl, hd⟩, hb⟩
  clear C ca0 cb0 cc0 hP6
  obtain ⟨rq, hans, hlq, hz1, hz2⟩ := hd.own10
  rw [HM0.out, HV0.out] at hfine
  have HZF := hide (hz2 hfine)
  clear hz1 hz2
  replace Ch := Ch.snoc hb hans HBB.out.size
  obtain ⟨P8, hP8, hbP, hx⟩ := enter1 Q7 (.cells #[.bool bq, .slice aq lq kq] 27)
  have stp := bl_trans8 hb hbP
  replace HA := hide (block_upW stp HA.out)
  replace HX := hide (block_upW stp HX.out)
  replace Hm := hide (block_upW stp Hm.out)
  replace Hp := hide (block_upW stp Hp.out)
  replace HA0 := hide (HA0.out.below stp)
  replace HT := hide (HT.out.below stp)
  replace HLa := hide (HLa.out.below stp)
  replace HPx := hide (HPx.out.below stp)
  replace HDm := hide (HDm.out.below stp)
  replace HDp := hide (HDp.out.below stp)
  replace HW := hid_below HW stp
  replace HBB := hid_below HBB stp
  have Hq := hide hx
  replace Ch := Ch.below hbP
  clear hans hb hbP hx stp
  clear hd
  obtain ⟨w7, w8, hw7, hw8, h7, h8, hb8, hs8⟩ := zero_box10 P8 36
  obtain ⟨w9, wa, hw9, hwa, h9, ha, hb9⟩ := zero_box2 w8 34
  have HU := hide (bl_trans8 hb8 hb9)
  have HWT := hide (block_upW hb9 h8)
  have HZZ := hide ha
  have HKW := hide (show P8.heap.size ≤ w8.heap.size from hb8.size)
  have HNE := hide (show w8.heap.size ≠ P8.heap.size by omega)
  have hf7 := tri8f h7
  have hf9 := duof h9
  obtain ⟨y0, y1, y2⟩ := tri8 h7
  obtain ⟨y3, y4⟩ := duo h9
  clear h7 h8 hb8 h9 ha hb9 hs8
  have C := mode8_any m wa
  rw [hM] at C
  go_wp2_with fail
  refine C.mono ?_
  rintro e wn ⟨rfl, hw⟩; rw [hw]; clear hw wn C hf7 hf9 y0 y1 y2 y3 y4 hP8
  have hf5 := tri8f HWT.out
  obtain ⟨x0, x1, x2⟩ := tri8 HWT.out
  obtain ⟨v0, v1, v2⟩ := tri8 (block_upW HU.out Hm.out)
  obtain ⟨wS, hwS, hU1, hW1, hZ1, _⟩ := put8 HU.out (Nat.le_refl _) HWT.out HZZ.out HNE.out bm am lm km E0
  have HU1 := hide hU1
  have HW1 := hide hW1
  have HZ1 := hide hZ1
  have HDS := hide (HDm.out.below hU1)
  obtain ⟨q0, q1, q2⟩ := tri8 (block_upW hU1 Hm.out)
  clear hU1 hW1 hZ1
  have C := rdCut_any bm am lm km M0 E0 bits m wS HDS.out HN0.out HL0.out e01 e02 hm hK
  have HSV : Hid (DR P8 P4.heap.size bp (.slice ap lp kp) ep cp (omz (rndM M0 E0 (cutP M0 E0 bits) m)) (oe (rndM M0 E0 (cutP M0 E0 bits) m) (rndE M0 E0 (cutP M0 E0 bits)))) := HDp
  generalize omz (rndM M0 E0 (cutP M0 E0 bits) m) = CM at *
  generalize oe (rndM M0 E0 (cutP M0 E0 bits) m) (rndE M0 E0 (cutP M0 E0 bits)) = CE at *
  go_wp2_with fail
  refine C.mono ?_
  rintro e t2 ⟨⟨bc, ac, lc, kc, rfl, D2⟩, hb⟩
  clear C hf5 x0 x1 x2 v0 v1 v2 q0 q1 q2 hwS
  have hc2 := block_upW hb HW1.out
  have hf5 := tri8f hc2
  obtain ⟨x0, x1, x2⟩ := tri8 hc2
  obtain ⟨wR, hwR, hU2, hW2, hZ2, hD2⟩ := put8 (bl_trans8 HU1.out hb) (Nat.le_refl _) hc2 (block_upW hb HZ1.out) HNE.out bc ac lc kc CE
  have HU2 := hide hU2
  have HW2 := hide hW2
  have HZ2 := hide hZ2
  have HDC := hide (hD2 _ _ _ D2)
  have HDV := hide (HDm.out.below hU2)
  obtain ⟨q0, q1, q2⟩ := tri8 (block_upW hU2 Hm.out)
  clear hU2 hW2 hZ2 hD2 D2 hb hc2
  have C := rdWhole_any bm am lm km M0 E0 m wR HDV.out HN0.out HL0.out e01 e02 hm
  generalize rndM M0 E0 0 m * 2 ^ (rndE M0 E0 0).toNat = ZN at *
  go_wp2_with fail
  refine C.mono ?_
  rintro e t3 ⟨⟨bz, az, lz, kz, ok, rfl, hzc⟩, hb⟩
  clear C hf5 x0 x1 x2 q0 q1 q2  hwR
  have hc3 := block_upW hb HZ2.out
  have hf5 := duof hc3
  obtain ⟨x3, x4⟩ := duo hc3
  obtain ⟨wQ, hwQ, hU3, hZ3, hW3, hD3, hE3⟩ := put2 (bl_trans8 HU2.out hb) HKW.out hc3 (block_upW hb HW2.out) (Ne.symm HNE.out) bz az lz kz
  have HU3 := hide hU3
  have HW3 := hide hW3
  have HZ3 := hide hZ3
  have HDC3 := hide (hD3 _ _ _ (HDC.out.below hb))
  have hok : ok = false := by
    rcases hzc with ⟨_, _, h2⟩ | ⟨h1, _⟩
    · omega
    · exact h1
  subst hok
  clear hzc hU3 hW3 hZ3 hD3 hE3 hb hc3
  obtain ⟨u0, u1⟩ := duo (block_upW HU3.out Hq.out)
  have C := num8_any cq wQ
  go_wp2_with fail
  refine C.mono ?_
  rintro e wn ⟨rfl, hw⟩; rw [hw]; clear hw wn C
  obtain ⟨hcq, hbq, hvq⟩ := HZF.out
  obtain ⟨haq, hlq0, hkq⟩ : aq = none ∧ lq = 0 ∧ kq = 0 := by injection hvq with h1 h2 h3; exact ⟨h1, h2, h3⟩
  subst hcq hbq hlq0
  clear haq hkq hvq
  skip
  obtain ⟨s0, s1, s2⟩ := tri8 (block_upW HU3.out Hp.out)
  obtain ⟨s3, s4, s5⟩ := tri8 HW3.out
  have HAL := alike8_ok bp ap lp kp ep cp bc ac lc kc CM CE _ wQ (HSV.out.below HU3.out) HDC3.out
  go_wp2_with fail
  refine HAL.mono ?_
  rintro e t9 ⟨rfl, g9⟩
  clear HAL s0 s1 s2 s3 s4 s5 u0 u1
  have G9 := bl_trans8 HU3.out g9
  have HC9 := hide (Ch.below G9)
  have HB9 := hide (bl_trans8 HBB.out G9)
  have HOW := own_aparts P4.heap.size [.slice ap lp kp, .slice aq 0 kq] [rp, rq] t9 HC9.out.aparts (by simp) (by simp; omega) HB9.out.size
  obtain ⟨o0, o1, o2⟩ := tri8 (block_upW G9 Hp.out)
  obtain ⟨o3, o4⟩ := duo (block_upW G9 Hq.out)
  clear g9 G9
  go_wp2_with fail
  refine HOW.mono ?_
  rintro e t10 ⟨rfl, hk⟩
  have G10 : Below P4.heap.size P4 t10 := HB9.out.trans (hk.below)
  have HKE := kept_ok (.slice aw mw nw) (.slice a0 z0.length n0) z0 t10 (HLaB.out.below G10) (HA0B.out.below G10) (by omega)
  obtain ⟨k0, k1, k2⟩ := tri8 (show t10.heap[w.heap.size]? = some (.cells #[.bool b0, .slice a0 z0.length n0, .int .i64 p0] 24) from hk.box _ _ _ (by decide) (by decide) (block_upW HB9.out HAB.out))
  have HAW := awake8_any t10 (HTB.out.below G10)
  have HG10 := hide (bl_trans8 HWB.out G10)
  clear hk HOW G10 o0 o1 o2 o3 o4
  go_wp2_with fail
  refine HKE.mono ?_
  rintro e wn ⟨rfl, hw⟩; rw [hw]; clear hw wn HKE
  go_wp2_with fail
  refine HAW.mono ?_
  rintro e wz ⟨rfl, hbz⟩
  have HZ := hide (bl_trans8 HG10.out hbz)
  clear hbz HAW
  go_wp2
  go_ret
  exact ⟨rfl, HZ.out⟩

set_option maxRecDepth 20000 in
set_option maxHeartbeats 16000000 in
theorem cuts_0f (b0 : Bool) (v0 : Value) (z0 : List Nat) (p0 : Int) (bits m : Int) (w : World) (hT : Tab w) (A0 : Arg w v0 z0) (s0 : z0.length ≤ 17592186043904) (_ : -9223372036854775808 ≤ p0) (_ : p0 ≤ 9223372036854775807) (_ : -9223372036854775808 ≤ bits) (_ : bits ≤ 9223372036854775807) (_ : -9223372036854775808 ≤ m) (_ : m ≤ 9223372036854775807) (hE0 : fitE p0 = true) (hM : isM m = true) (hK : bits < 1) (hfine : blen (rndM (omz (zz b0 (val z0))) (oe (zz b0 (val z0)) p0) 0 m * 2 ^ (rndE (omz (zz b0 (val z0))) (oe (zz b0 (val z0)) p0) 0).toNat).natAbs ≤ 67108864) :
    Calls Tryd.prog 3 #[.agg #[.bool b0, v0, .int .i64 p0], .int .i64 bits, .int .i64 m] w fun e w' => e = .returned (.bool true) ∧ Below w.heap.size w w' := by
  obtain ⟨a0, n0, rfl, _, _, _⟩ := A0.form
  obtain ⟨w0, hw0, hb0, h0⟩ := enter1 w (.cells #[.bool b0, .slice a0 z0.length n0, .int .i64 p0] 24)
  have HA := hide h0
  have HA0 := hide (A0.below hb0)
  have HT := hide (hT.below hb0)
  have HW := hide hb0
  clear hT hb0 h0
  have hEr := (fitE_iff p0).1 hE0
  have hbz : blen (zz b0 (val z0)).natAbs ≤ 64 * z0.length := by rw [zz_abs]; exact blen_len8 A0.limbs
  have hOE := oe_range (zz b0 (val z0)) p0 (by omega)
  have hl0 : blen (omz (zz b0 (val z0))).natAbs ≤ 1125899906809900 := by
    have h5 := blen_mono (od_le (zz b0 (val z0)).natAbs)
    rw [omz_abs]; omega
  have hN0 := norm8_of (zz b0 (val z0)) p0
  obtain ⟨M0, hM0⟩ : ∃ M0, omz (zz b0 (val z0)) = M0 := ⟨_, rfl⟩
  obtain ⟨E0, hE0v⟩ : ∃ E0, oe (zz b0 (val z0)) p0 = E0 := ⟨_, rfl⟩
  rw [hM0] at hl0 hN0
  rw [hE0v] at hOE hN0
  have HM0 := hide hM0
  have HV0 := hide hE0v
  have HN0 := hide hN0
  have HL0 := hide hl0
  have e01 : -576460752303423488 ≤ E0 := by omega
  have e02 : E0 ≤ 576460752303423488 := by omega
  clear hM0 hE0v hN0 hl0 hOE hbz hEr
  clear A0
  have i1 : decide (bits < 1) = true := decide_eq_true hK
  have i1b : ¬ 1 ≤ bits := by omega
  have i1c : decide (1 ≤ bits) = false := decide_eq_false i1b
  have hm := (isM_iff m).1 hM
  go_enter Tryd.func3, Tryd.ntmps3
  obtain ⟨ca0, cb0, cc0⟩ := tri8 HA.out
  have C := lent8_any b0 a0 n0 z0 p0 w0 HA0.out (by omega)
  go_wp2_with fail
  refine C.mono ?_
  rintro e Q1 ⟨⟨aw, mw, nw, ax, cx, rfl, hL, hP⟩, hb⟩
  clear C ca0 cb0 cc0 hw0
  obtain ⟨P2, hP2, hbP, hx⟩ := enter1 Q1 (.cells #[.bool b0, .slice ax z0.length cx, .int .i64 p0] 29)
  have stp := bl_trans8 hb hbP
  replace HA := hide (block_upW stp HA.out)
  replace HA0 := hide (HA0.out.below stp)
  replace HT := hide (HT.out.below stp)
  replace HW := hid_below HW stp
  have HLa := hide (hL.below hbP)
  have HPx := hide (hP.below hbP)
  have HX := hide hx
  clear hL hP hb hbP hx stp
  obtain ⟨ca0, cb0, cc0⟩ := tri8 HA.out
  have C := of8_ok b0 a0 n0 z0 p0 P2 HA0.out (by omega) hE0
  rw [HM0.out, HV0.out] at C
  go_wp2_with fail
  refine C.mono ?_
  rintro e Q3 ⟨⟨bm, am, lm, km, rfl, hd⟩, hb⟩
  clear C ca0 cb0 cc0 hP2
  obtain ⟨P4, hP4, hbP, hx⟩ := enter1 Q3 (.cells #[.bool bm, .slice am lm km, .int .i64 E0] 36)
  have stp := bl_trans8 hb hbP
  replace HA := hide (block_upW stp HA.out)
  replace HX := hide (block_upW stp HX.out)
  replace HA0 := hide (HA0.out.below stp)
  replace HT := hide (HT.out.below stp)
  replace HLa := hide (HLa.out.below stp)
  replace HPx := hide (HPx.out.below stp)
  replace HW := hid_below HW stp
  have HDm := hide (hd.below hbP)
  have Hm := hide hx
  clear hd hb hbP hx stp
  have HBB : Hid (Below P4.heap.size P4 P4) := hide (Below.refl _ _)
  have HLaB := HLa
  have HA0B := HA0
  have HTB := HT
  have HWB := HW
  have HAB := HA
  obtain ⟨ca0, cb0, cc0⟩ := tri8 HX.out
  have C := ycut_arg b0 ax cx z0 p0 bits m P4 HPx.out HT.out (by omega) hE0 hK
  go_wp2_with fail
  refine C.mono ?_
  rintro e Q5 ⟨he, hb⟩
  clear C ca0 cb0 cc0 hP4
  obtain ⟨bp, ap, lp, kp, ep, cp, rfl, hq⟩ : ∃ b a n k ex c, e = .returned (.tuple #[.agg #[.bool b, .slice a n k, .int .i64 ex], .int .i64 c]) ∧ (b = false ∧ a = none ∧ n = 0 ∧ k = 0 ∧ ex = 0 ∧ c = 1) := ⟨_, _, _, _, _, _, he, rfl, rfl, rfl, rfl, rfl, rfl⟩
  obtain ⟨rp, hrp⟩ : ∃ r : List Nat, r = [] := ⟨_, rfl⟩
  have hans : Ans Q5 P4.heap.size (.slice ap lp kp) rp := by
    rw [hrp, hq.2.1, hq.2.2.1, hq.2.2.2.1]; exact Ans.nil _ _
  have hlp : rp.length ≤ 1048576 := by rw [hrp]; simp
  have HQp := hide hq
  clear he hq hrp
  have Ch := Chain.one hans hb.size
  obtain ⟨P6, hP6, hbP, hx⟩ := enter1 Q5 (.cells #[.bool bp, .slice ap lp kp, .int .i64 ep] 29)
  have stp := bl_trans8 hb hbP
  replace HA := hide (block_upW stp HA.out)
  replace HX := hide (block_upW stp HX.out)
  replace Hm := hide (block_upW stp Hm.out)
  replace HA0 := hide (HA0.out.below stp)
  replace HT := hide (HT.out.below stp)
  replace HLa := hide (HLa.out.below stp)
  replace HPx := hide (HPx.out.below stp)
  replace HDm := hide (HDm.out.below stp)
  replace HW := hid_below HW stp
  replace HBB := hid_below HBB stp
  have Hp := hide hx
  replace Ch := Ch.below hbP
  clear hans hb hbP hx stp
  obtain ⟨ca0, cb0, cc0⟩ := tri8 HX.out
  have C := ywhole_ok b0 ax cx z0 p0 m P6 HPx.out HT.out (by omega) hE0 hM
  rw [HM0.out, HV0.out] at C
  go_wp2_with fail
  refine C.mono ?_
  rintro e Q7 ⟨⟨bq, aq, lq, kq, cq, rfl, hd⟩, hb⟩
  clear C ca0 cb0 cc0 hP6
  obtain ⟨rq, hans, hlq, hz1, hz2⟩ := hd.own10
  rw [HM0.out, HV0.out] at hfine
  have HZF := hide (hz1 hfine)
  clear hz1 hz2
  replace Ch := Ch.snoc hb hans HBB.out.size
  obtain ⟨P8, hP8, hbP, hx⟩ := enter1 Q7 (.cells #[.bool bq, .slice aq lq kq] 27)
  have stp := bl_trans8 hb hbP
  replace HA := hide (block_upW stp HA.out)
  replace HX := hide (block_upW stp HX.out)
  replace Hm := hide (block_upW stp Hm.out)
  replace Hp := hide (block_upW stp Hp.out)
  replace HA0 := hide (HA0.out.below stp)
  replace HT := hide (HT.out.below stp)
  replace HLa := hide (HLa.out.below stp)
  replace HPx := hide (HPx.out.below stp)
  replace HDm := hide (HDm.out.below stp)
  replace HW := hid_below HW stp
  replace HBB := hid_below HBB stp
  have Hq := hide hx
  replace Ch := Ch.below hbP
  clear hans hb hbP hx stp
  clear hd
  obtain ⟨w7, w8, hw7, hw8, h7, h8, hb8, hs8⟩ := zero_box10 P8 36
  obtain ⟨w9, wa, hw9, hwa, h9, ha, hb9⟩ := zero_box2 w8 34
  have HU := hide (bl_trans8 hb8 hb9)
  have HWT := hide (block_upW hb9 h8)
  have HZZ := hide ha
  have HKW := hide (show P8.heap.size ≤ w8.heap.size from hb8.size)
  have HNE := hide (show w8.heap.size ≠ P8.heap.size by omega)
  have hf7 := tri8f h7
  have hf9 := duof h9
  obtain ⟨y0, y1, y2⟩ := tri8 h7
  obtain ⟨y3, y4⟩ := duo h9
  clear h7 h8 hb8 h9 ha hb9 hs8
  have C := mode8_any m wa
  rw [hM] at C
  go_wp2_with fail
  refine C.mono ?_
  rintro e wn ⟨rfl, hw⟩; rw [hw]; clear hw wn C hf7 hf9 y0 y1 y2 y3 y4 hP8
  have hf5 := tri8f HWT.out
  obtain ⟨x0, x1, x2⟩ := tri8 HWT.out
  obtain ⟨v0, v1, v2⟩ := tri8 (block_upW HU.out Hm.out)
  obtain ⟨wS, hwS, hU1, hW1, hZ1, _⟩ := put8 HU.out (Nat.le_refl _) HWT.out HZZ.out HNE.out bm am lm km E0
  have HU1 := hide hU1
  have HW1 := hide hW1
  have HZ1 := hide hZ1
  have HDS := hide (HDm.out.below hU1)
  obtain ⟨q0, q1, q2⟩ := tri8 (block_upW hU1 Hm.out)
  clear hU1 hW1 hZ1
  have C := rdWhole_any bm am lm km M0 E0 m wS HDS.out HN0.out HL0.out e01 e02 hm
  generalize rndM M0 E0 0 m * 2 ^ (rndE M0 E0 0).toNat = ZN at *
  go_wp2_with fail
  refine C.mono ?_
  rintro e t3 ⟨⟨bz, az, lz, kz, ok, rfl, hzc⟩, hb⟩
  clear C hf5 x0 x1 x2 q0 q1 q2 v0 v1 v2 hwS
  have hc3 := block_upW hb HZ1.out
  have hf5 := duof hc3
  obtain ⟨x3, x4⟩ := duo hc3
  obtain ⟨wQ, hwQ, hU3, hZ3, hW3, hD3, hE3⟩ := put2 (bl_trans8 HU1.out hb) HKW.out hc3 (block_upW hb HW1.out) (Ne.symm HNE.out) bz az lz kz
  have HU3 := hide hU3
  have HW3 := hide hW3
  have HZ3 := hide hZ3
  skip
  obtain ⟨hok, hzn⟩ : ok = true ∧ Zn t3 (.agg #[.bool bz, .slice az lz kz]) ZN := by
    rcases hzc with ⟨h1, h2, _⟩ | ⟨_, h2⟩
    · exact ⟨h1, h2⟩
    · omega
  have HZN := hide (hE3 _ _ hzn)
  clear hzn
  subst hok
  clear hzc hU3 hW3 hZ3 hD3 hE3 hb hc3
  obtain ⟨u0, u1⟩ := duo (block_upW HU3.out Hq.out)
  obtain ⟨hcq, hbq, hvq, htq⟩ := HZF.out
  subst hcq
  have HQA := hide (show Ans P8 P4.heap.size (.slice aq lq kq) rq from (Ch.aparts.row 1 (by simp)))
  have HIS := rzis_any (.agg #[.bool bz, .slice az lz kz]) ZN (.slice aq lq kq) rq wQ HZN.out ((HQA.out.below HU3.out).arg (by omega)) htq hvq (by omega)
  rw [← hbq] at HIS
  clear hbq hvq htq HZF
  have C := num8_any 0 wQ
  obtain ⟨u3, u4⟩ := duo HZ3.out
  go_wp2_with fail
  refine C.mono ?_
  rintro e wn ⟨rfl, hw⟩; rw [hw]; clear hw wn C
  go_wp2_with fail
  refine HIS.mono ?_
  rintro e t5 ⟨rfl, hb⟩
  clear HIS u0 u1 u3 u4 hwQ hf5 x3 x4
  have HU5 := hide (bl_trans8 HU3.out hb)
  have HW5 := hide (block_upW hb HW3.out)
  skip
  clear hb
  obtain ⟨s0, s1, s2⟩ := tri8 (block_upW HU5.out Hp.out)
  obtain ⟨s3, s4, s5⟩ := tri8 HW5.out
  have HAL : Calls Tryd.prog 17 #[.agg #[.bool bp, .slice ap lp kp, .int .i64 ep], .int .i64 cp, .agg #[.bool bm, .slice am lm km, .int .i64 E0], .int .i64 1] t5 (fun e w' => e = .returned (.bool true) ∧ Below t5.heap.size t5 w') := by
    obtain ⟨q1, q2, q3, q4, q5, q6⟩ := HQp.out
    rw [q1, q2, q3, q4, q5, q6]
    exact alike8_bad 1 bm am lm km E0 t5 (by decide)
  go_wp2_with fail
  refine HAL.mono ?_
  rintro e t9 ⟨rfl, g9⟩
  clear HAL s0 s1 s2 s3 s4 s5
  have G9 := bl_trans8 HU5.out g9
  have HC9 := hide (Ch.below G9)
  have HB9 := hide (bl_trans8 HBB.out G9)
  have HOW := own_aparts P4.heap.size [.slice ap lp kp, .slice aq lq kq] [rp, rq] t9 HC9.out.aparts (by simp) (by simp; omega) HB9.out.size
  obtain ⟨o0, o1, o2⟩ := tri8 (block_upW G9 Hp.out)
  obtain ⟨o3, o4⟩ := duo (block_upW G9 Hq.out)
  clear g9 G9
  go_wp2_with fail
  refine HOW.mono ?_
  rintro e t10 ⟨rfl, hk⟩
  have G10 : Below P4.heap.size P4 t10 := HB9.out.trans (hk.below)
  have HKE := kept_ok (.slice aw mw nw) (.slice a0 z0.length n0) z0 t10 (HLaB.out.below G10) (HA0B.out.below G10) (by omega)
  obtain ⟨k0, k1, k2⟩ := tri8 (show t10.heap[w.heap.size]? = some (.cells #[.bool b0, .slice a0 z0.length n0, .int .i64 p0] 24) from hk.box _ _ _ (by decide) (by decide) (block_upW HB9.out HAB.out))
  have HAW := awake8_any t10 (HTB.out.below G10)
  have HG10 := hide (bl_trans8 HWB.out G10)
  clear hk HOW G10 o0 o1 o2 o3 o4
  go_wp2_with fail
  refine HKE.mono ?_
  rintro e wn ⟨rfl, hw⟩; rw [hw]; clear hw wn HKE
  go_wp2_with fail
  refine HAW.mono ?_
  rintro e wz ⟨rfl, hbz⟩
  have HZ := hide (bl_trans8 HG10.out hbz)
  clear hbz HAW
  go_wp2
  go_ret
  exact ⟨rfl, HZ.out⟩

set_option maxRecDepth 20000 in
set_option maxHeartbeats 16000000 in
theorem cuts_0b (b0 : Bool) (v0 : Value) (z0 : List Nat) (p0 : Int) (bits m : Int) (w : World) (hT : Tab w) (A0 : Arg w v0 z0) (s0 : z0.length ≤ 17592186043904) (_ : -9223372036854775808 ≤ p0) (_ : p0 ≤ 9223372036854775807) (_ : -9223372036854775808 ≤ bits) (_ : bits ≤ 9223372036854775807) (_ : -9223372036854775808 ≤ m) (_ : m ≤ 9223372036854775807) (hE0 : fitE p0 = true) (hM : isM m = true) (hK : bits < 1) (hfine : 67108864 < blen (rndM (omz (zz b0 (val z0))) (oe (zz b0 (val z0)) p0) 0 m * 2 ^ (rndE (omz (zz b0 (val z0))) (oe (zz b0 (val z0)) p0) 0).toNat).natAbs) :
    Calls Tryd.prog 3 #[.agg #[.bool b0, v0, .int .i64 p0], .int .i64 bits, .int .i64 m] w fun e w' => e = .returned (.bool true) ∧ Below w.heap.size w w' := by
  obtain ⟨a0, n0, rfl, _, _, _⟩ := A0.form
  obtain ⟨w0, hw0, hb0, h0⟩ := enter1 w (.cells #[.bool b0, .slice a0 z0.length n0, .int .i64 p0] 24)
  have HA := hide h0
  have HA0 := hide (A0.below hb0)
  have HT := hide (hT.below hb0)
  have HW := hide hb0
  clear hT hb0 h0
  have hEr := (fitE_iff p0).1 hE0
  have hbz : blen (zz b0 (val z0)).natAbs ≤ 64 * z0.length := by rw [zz_abs]; exact blen_len8 A0.limbs
  have hOE := oe_range (zz b0 (val z0)) p0 (by omega)
  have hl0 : blen (omz (zz b0 (val z0))).natAbs ≤ 1125899906809900 := by
    have h5 := blen_mono (od_le (zz b0 (val z0)).natAbs)
    rw [omz_abs]; omega
  have hN0 := norm8_of (zz b0 (val z0)) p0
  obtain ⟨M0, hM0⟩ : ∃ M0, omz (zz b0 (val z0)) = M0 := ⟨_, rfl⟩
  obtain ⟨E0, hE0v⟩ : ∃ E0, oe (zz b0 (val z0)) p0 = E0 := ⟨_, rfl⟩
  rw [hM0] at hl0 hN0
  rw [hE0v] at hOE hN0
  have HM0 := hide hM0
  have HV0 := hide hE0v
  have HN0 := hide hN0
  have HL0 := hide hl0
  have e01 : -576460752303423488 ≤ E0 := by omega
  have e02 : E0 ≤ 576460752303423488 := by omega
  clear hM0 hE0v hN0 hl0 hOE hbz hEr
  clear A0
  have i1 : decide (bits < 1) = true := decide_eq_true hK
  have i1b : ¬ 1 ≤ bits := by omega
  have i1c : decide (1 ≤ bits) = false := decide_eq_false i1b
  have hm := (isM_iff m).1 hM
  go_enter Tryd.func3, Tryd.ntmps3
  obtain ⟨ca0, cb0, cc0⟩ := tri8 HA.out
  have C := lent8_any b0 a0 n0 z0 p0 w0 HA0.out (by omega)
  go_wp2_with fail
  refine C.mono ?_
  rintro e Q1 ⟨⟨aw, mw, nw, ax, cx, rfl, hL, hP⟩, hb⟩
  clear C ca0 cb0 cc0 hw0
  obtain ⟨P2, hP2, hbP, hx⟩ := enter1 Q1 (.cells #[.bool b0, .slice ax z0.length cx, .int .i64 p0] 29)
  have stp := bl_trans8 hb hbP
  replace HA := hide (block_upW stp HA.out)
  replace HA0 := hide (HA0.out.below stp)
  replace HT := hide (HT.out.below stp)
  replace HW := hid_below HW stp
  have HLa := hide (hL.below hbP)
  have HPx := hide (hP.below hbP)
  have HX := hide hx
  clear hL hP hb hbP hx stp
  obtain ⟨ca0, cb0, cc0⟩ := tri8 HA.out
  have C := of8_ok b0 a0 n0 z0 p0 P2 HA0.out (by omega) hE0
  rw [HM0.out, HV0.out] at C
  go_wp2_with fail
  refine C.mono ?_
  rintro e Q3 ⟨⟨bm, am, lm, km, rfl, hd⟩, hb⟩
  clear C ca0 cb0 cc0 hP2
  obtain ⟨P4, hP4, hbP, hx⟩ := enter1 Q3 (.cells #[.bool bm, .slice am lm km, .int .i64 E0] 36)
  have stp := bl_trans8 hb hbP
  replace HA := hide (block_upW stp HA.out)
  replace HX := hide (block_upW stp HX.out)
  replace HA0 := hide (HA0.out.below stp)
  replace HT := hide (HT.out.below stp)
  replace HLa := hide (HLa.out.below stp)
  replace HPx := hide (HPx.out.below stp)
  replace HW := hid_below HW stp
  have HDm := hide (hd.below hbP)
  have Hm := hide hx
  clear hd hb hbP hx stp
  have HBB : Hid (Below P4.heap.size P4 P4) := hide (Below.refl _ _)
  have HLaB := HLa
  have HA0B := HA0
  have HTB := HT
  have HWB := HW
  have HAB := HA
  obtain ⟨ca0, cb0, cc0⟩ := tri8 HX.out
  have C := ycut_arg b0 ax cx z0 p0 bits m P4 HPx.out HT.out (by omega) hE0 hK
  go_wp2_with fail
  refine C.mono ?_
  rintro e Q5 ⟨he, hb⟩
  clear C ca0 cb0 cc0 hP4
  obtain ⟨bp, ap, lp, kp, ep, cp, rfl, hq⟩ : ∃ b a n k ex c, e = .returned (.tuple #[.agg #[.bool b, .slice a n k, .int .i64 ex], .int .i64 c]) ∧ (b = false ∧ a = none ∧ n = 0 ∧ k = 0 ∧ ex = 0 ∧ c = 1) := ⟨_, _, _, _, _, _, he, rfl, rfl, rfl, rfl, rfl, rfl⟩
  obtain ⟨rp, hrp⟩ : ∃ r : List Nat, r = [] := ⟨_, rfl⟩
  have hans : Ans Q5 P4.heap.size (.slice ap lp kp) rp := by
    rw [hrp, hq.2.1, hq.2.2.1, hq.2.2.2.1]; exact Ans.nil _ _
  have hlp : rp.length ≤ 1048576 := by rw [hrp]; simp
  have HQp := hide hq
  clear he hq hrp
  have Ch := Chain.one hans hb.size
  obtain ⟨P6, hP6, hbP, hx⟩ := enter1 Q5 (.cells #[.bool bp, .slice ap lp kp, .int .i64 ep] 29)
  have stp := bl_trans8 hb hbP
  replace HA := hide (block_upW stp HA.out)
  replace HX := hide (block_upW stp HX.out)
  replace Hm := hide (block_upW stp Hm.out)
  replace HA0 := hide (HA0.out.below stp)
  replace HT := hide (HT.out.below stp)
  replace HLa := hide (HLa.out.below stp)
  replace HPx := hide (HPx.out.below stp)
  replace HDm := hide (HDm.out.below stp)
  replace HW := hid_below HW stp
  replace HBB := hid_below HBB stp
  have Hp := hide hx
  replace Ch := Ch.below hbP
  clear hans hb hbP hx stp
  obtain ⟨ca0, cb0, cc0⟩ := tri8 HX.out
  have C := ywhole_ok b0 ax cx z0 p0 m P6 HPx.out HT.out (by omega) hE0 hM
  rw [HM0.out, HV0.out] at C
  go_wp2_with fail
  refine C.mono ?_
  rintro e Q7 ⟨⟨bq, aq, lq, kq, cq, rfl, hd⟩, hb⟩
  clear C ca0 cb0 cc0 hP6
  obtain ⟨rq, hans, hlq, hz1, hz2⟩ := hd.own10
  rw [HM0.out, HV0.out] at hfine
  have HZF := hide (hz2 hfine)
  clear hz1 hz2
  replace Ch := Ch.snoc hb hans HBB.out.size
  obtain ⟨P8, hP8, hbP, hx⟩ := enter1 Q7 (.cells #[.bool bq, .slice aq lq kq] 27)
  have stp := bl_trans8 hb hbP
  replace HA := hide (block_upW stp HA.out)
  replace HX := hide (block_upW stp HX.out)
  replace Hm := hide (block_upW stp Hm.out)
  replace Hp := hide (block_upW stp Hp.out)
  replace HA0 := hide (HA0.out.below stp)
  replace HT := hide (HT.out.below stp)
  replace HLa := hide (HLa.out.below stp)
  replace HPx := hide (HPx.out.below stp)
  replace HDm := hide (HDm.out.below stp)
  replace HW := hid_below HW stp
  replace HBB := hid_below HBB stp
  have Hq := hide hx
  replace Ch := Ch.below hbP
  clear hans hb hbP hx stp
  clear hd
  obtain ⟨w7, w8, hw7, hw8, h7, h8, hb8, hs8⟩ := zero_box10 P8 36
  obtain ⟨w9, wa, hw9, hwa, h9, ha, hb9⟩ := zero_box2 w8 34
  have HU := hide (bl_trans8 hb8 hb9)
  have HWT := hide (block_upW hb9 h8)
  have HZZ := hide ha
  have HKW := hide (show P8.heap.size ≤ w8.heap.size from hb8.size)
  have HNE := hide (show w8.heap.size ≠ P8.heap.size by omega)
  have hf7 := tri8f h7
  have hf9 := duof h9
  obtain ⟨y0, y1, y2⟩ := tri8 h7
  obtain ⟨y3, y4⟩ := duo h9
  clear h7 h8 hb8 h9 ha hb9 hs8
  have C := mode8_any m wa
  rw [hM] at C
  go_wp2_with fail
  refine C.mono ?_
  rintro e wn ⟨rfl, hw⟩; rw [hw]; clear hw wn C hf7 hf9 y0 y1 y2 y3 y4 hP8
  have hf5 := tri8f HWT.out
  obtain ⟨x0, x1, x2⟩ := tri8 HWT.out
  obtain ⟨v0, v1, v2⟩ := tri8 (block_upW HU.out Hm.out)
  obtain ⟨wS, hwS, hU1, hW1, hZ1, _⟩ := put8 HU.out (Nat.le_refl _) HWT.out HZZ.out HNE.out bm am lm km E0
  have HU1 := hide hU1
  have HW1 := hide hW1
  have HZ1 := hide hZ1
  have HDS := hide (HDm.out.below hU1)
  obtain ⟨q0, q1, q2⟩ := tri8 (block_upW hU1 Hm.out)
  clear hU1 hW1 hZ1
  have C := rdWhole_any bm am lm km M0 E0 m wS HDS.out HN0.out HL0.out e01 e02 hm
  generalize rndM M0 E0 0 m * 2 ^ (rndE M0 E0 0).toNat = ZN at *
  go_wp2_with fail
  refine C.mono ?_
  rintro e t3 ⟨⟨bz, az, lz, kz, ok, rfl, hzc⟩, hb⟩
  clear C hf5 x0 x1 x2 q0 q1 q2 v0 v1 v2 hwS
  have hc3 := block_upW hb HZ1.out
  have hf5 := duof hc3
  obtain ⟨x3, x4⟩ := duo hc3
  obtain ⟨wQ, hwQ, hU3, hZ3, hW3, hD3, hE3⟩ := put2 (bl_trans8 HU1.out hb) HKW.out hc3 (block_upW hb HW1.out) (Ne.symm HNE.out) bz az lz kz
  have HU3 := hide hU3
  have HW3 := hide hW3
  have HZ3 := hide hZ3
  skip
  have hok : ok = false := by
    rcases hzc with ⟨_, _, h2⟩ | ⟨h1, _⟩
    · omega
    · exact h1
  subst hok
  clear hzc hU3 hW3 hZ3 hD3 hE3 hb hc3
  obtain ⟨u0, u1⟩ := duo (block_upW HU3.out Hq.out)
  have C := num8_any cq wQ
  go_wp2_with fail
  refine C.mono ?_
  rintro e wn ⟨rfl, hw⟩; rw [hw]; clear hw wn C
  obtain ⟨hcq, hbq, hvq⟩ := HZF.out
  obtain ⟨haq, hlq0, hkq⟩ : aq = none ∧ lq = 0 ∧ kq = 0 := by injection hvq with h1 h2 h3; exact ⟨h1, h2, h3⟩
  subst hcq hbq hlq0
  clear haq hkq hvq
  skip
  obtain ⟨s0, s1, s2⟩ := tri8 (block_upW HU3.out Hp.out)
  obtain ⟨s3, s4, s5⟩ := tri8 HW3.out
  have HAL : Calls Tryd.prog 17 #[.agg #[.bool bp, .slice ap lp kp, .int .i64 ep], .int .i64 cp, .agg #[.bool bm, .slice am lm km, .int .i64 E0], .int .i64 1] wQ (fun e w' => e = .returned (.bool true) ∧ Below wQ.heap.size wQ w') := by
    obtain ⟨q1, q2, q3, q4, q5, q6⟩ := HQp.out
    rw [q1, q2, q3, q4, q5, q6]
    exact alike8_bad 1 bm am lm km E0 wQ (by decide)
  go_wp2_with fail
  refine HAL.mono ?_
  rintro e t9 ⟨rfl, g9⟩
  clear HAL s0 s1 s2 s3 s4 s5 u0 u1
  have G9 := bl_trans8 HU3.out g9
  have HC9 := hide (Ch.below G9)
  have HB9 := hide (bl_trans8 HBB.out G9)
  have HOW := own_aparts P4.heap.size [.slice ap lp kp, .slice aq 0 kq] [rp, rq] t9 HC9.out.aparts (by simp) (by simp; omega) HB9.out.size
  obtain ⟨o0, o1, o2⟩ := tri8 (block_upW G9 Hp.out)
  obtain ⟨o3, o4⟩ := duo (block_upW G9 Hq.out)
  clear g9 G9
  go_wp2_with fail
  refine HOW.mono ?_
  rintro e t10 ⟨rfl, hk⟩
  have G10 : Below P4.heap.size P4 t10 := HB9.out.trans (hk.below)
  have HKE := kept_ok (.slice aw mw nw) (.slice a0 z0.length n0) z0 t10 (HLaB.out.below G10) (HA0B.out.below G10) (by omega)
  obtain ⟨k0, k1, k2⟩ := tri8 (show t10.heap[w.heap.size]? = some (.cells #[.bool b0, .slice a0 z0.length n0, .int .i64 p0] 24) from hk.box _ _ _ (by decide) (by decide) (block_upW HB9.out HAB.out))
  have HAW := awake8_any t10 (HTB.out.below G10)
  have HG10 := hide (bl_trans8 HWB.out G10)
  clear hk HOW G10 o0 o1 o2 o3 o4
  go_wp2_with fail
  refine HKE.mono ?_
  rintro e wn ⟨rfl, hw⟩; rw [hw]; clear hw wn HKE
  go_wp2_with fail
  refine HAW.mono ?_
  rintro e wz ⟨rfl, hbz⟩
  have HZ := hide (bl_trans8 HG10.out hbz)
  clear hbz HAW
  go_wp2
  go_ret
  exact ⟨rfl, HZ.out⟩

set_option maxRecDepth 20000 in
set_option maxHeartbeats 16000000 in
theorem dyadicCuts_walk (b0 : Bool) (v0 : Value) (z0 : List Nat) (p0 : Int) (bits m : Int) (w : World) (hT : Tab w) (A0 : Arg w v0 z0) (s0 : z0.length ≤ 17592186043904) (lo : -9223372036854775808 ≤ p0) (hi : p0 ≤ 9223372036854775807) (l1 : -9223372036854775808 ≤ bits) (h1 : bits ≤ 9223372036854775807) (l2 : -9223372036854775808 ≤ m) (h2 : m ≤ 9223372036854775807) :
    Calls Tryd.prog 3 #[.agg #[.bool b0, v0, .int .i64 p0], .int .i64 bits, .int .i64 m] w fun e w' => e = .returned (.bool true) ∧ Below w.heap.size w w' := by
  cases hE : fitE p0
  · exact cuts_no b0 v0 z0 p0 bits m w hT A0 s0 lo hi l1 h1 l2 h2 hE
  · cases hM : isM m
    · by_cases hK : 1 ≤ bits
      · exact cuts_mode1 b0 v0 z0 p0 bits m w hT A0 s0 lo hi l1 h1 l2 h2 hE hM hK
      · exact cuts_mode0 b0 v0 z0 p0 bits m w hT A0 s0 lo hi l1 h1 l2 h2 hE hM (by omega)
    · by_cases hf : blen (rndM (omz (zz b0 (val z0))) (oe (zz b0 (val z0)) p0) 0 m * 2 ^ (rndE (omz (zz b0 (val z0))) (oe (zz b0 (val z0)) p0) 0).toNat).natAbs ≤ 67108864
      · by_cases hK : 1 ≤ bits
        · exact cuts_1f b0 v0 z0 p0 bits m w hT A0 s0 lo hi l1 h1 l2 h2 hE hM hK hf
        · exact cuts_0f b0 v0 z0 p0 bits m w hT A0 s0 lo hi l1 h1 l2 h2 hE hM (by omega) hf
      · by_cases hK : 1 ≤ bits
        · exact cuts_1b b0 v0 z0 p0 bits m w hT A0 s0 lo hi l1 h1 l2 h2 hE hM hK (by omega)
        · exact cuts_0b b0 v0 z0 p0 bits m w hT A0 s0 lo hi l1 h1 l2 h2 hE hM (by omega) (by omega)

end Go.Proofs.YtemajaclpkgpbaaDoor
