/- The walk of the law DyadicRatios. -/
import Derived.Test.YtemajaclpkgpbaaDoorDyRlZ
import Derived.Deep.RegionHeld3
namespace Go.Proofs.YtemajaclpkgpbaaDoor
open Go.RowKit
open Lm
attribute [local go_sem ↓] Go.wp_at_zero Go.wp_at_succ

theorem Zn.dn9 {w : World} {b : Bool} {a : Option Addr} {n c : Nat} {M : Int} (h : Zn w (.agg #[.bool b, .slice a n c]) M) : Dn w b (.slice a n c) M := by
  obtain ⟨u, e1, hnum⟩ := h
  have e2 : b = decide (M < 0) ∧ .slice a n c = u := by
    have := congrArg Value.cells e1
    simp [Value.cells] at this
    exact this
  obtain ⟨hb, rfl⟩ := e2
  exact ⟨hb, hnum⟩

set_option maxRecDepth 20000 in
set_option maxHeartbeats 16000000 in
theorem ratios_no (b0 : Bool) (v0 : Value) (z0 : List Nat) (p0 : Int) (w : World) (hT : Tab w) (A0 : Arg w v0 z0) (s0 : z0.length ≤ 17592186043904) (_ : -9223372036854775808 ≤ p0) (_ : p0 ≤ 9223372036854775807) (hE0 : fitE p0 = false) :
    Calls Tryd.prog 4 #[.agg #[.bool b0, v0, .int .i64 p0]] w fun e w' => e = .returned (.bool true) ∧ Below w.heap.size w w' := by
  obtain ⟨a0, n0, rfl, _, _, _⟩ := A0.form
  obtain ⟨w0, hw0, hb0, h0⟩ := enter1 w (.cells #[.bool b0, .slice a0 z0.length n0, .int .i64 p0] 24)
  have HA := hide h0
  have HA0 := hide (A0.below hb0)
  have HT := hide (hT.below hb0)
  have HW := hide hb0
  clear hT hb0 h0
  clear A0
  go_enter Tryd.func4, Tryd.ntmps4
  obtain ⟨ca0, cb0, cc0⟩ := tri8 HA.out
  have C := lent8_any b0 a0 n0 z0 p0 w0 HA0.out (by omega)
  go_wp2_with fail
  refine C.mono ?_
  rintro e Q1 ⟨⟨aw, mw, nw, ax, cx, rfl, hL, hP⟩, hb⟩
  clear C ca0 cb0 cc0 hw0
  obtain ⟨P2, hP2, hbP, hx⟩ := enter1 Q1 (.cells #[.bool b0, .slice ax z0.length cx, .int .i64 p0] 29)
  have stp := bl_trans8 hb hbP
  replace HA := hide (block_upW stp HA.out)
  replace HA0 := hide (HA0.out.below stp)
  replace HT := hide (HT.out.below stp)
  replace HW := hid_below HW stp
  have HLa := hide (hL.below hbP)
  have HPx := hide (hP.below hbP)
  have HX := hide hx
  clear hL hP hb hbP hx stp
  obtain ⟨ca0, cb0, cc0⟩ := tri8 HA.out
  have C := of8_no b0 a0 z0.length n0 p0 P2 hE0
  go_wp2_with fail
  refine C.mono ?_
  rintro e Q3 ⟨he, hb⟩
  clear C ca0 cb0 cc0 hP2
  obtain ⟨bm, am, lm, km, em, rfl⟩ : ∃ b a n k ex, e = .returned (.tuple #[.agg #[.bool b, .slice a n k, .int .i64 ex], .bool false]) := ⟨_, _, _, _, _, he⟩
  clear he
  obtain ⟨P4, hP4, hbP, hx⟩ := enter1 Q3 (.cells #[.bool bm, .slice am lm km, .int .i64 em] 36)
  have stp := bl_trans8 hb hbP
  replace HA := hide (block_upW stp HA.out)
  replace HX := hide (block_upW stp HX.out)
  replace HA0 := hide (HA0.out.below stp)
  replace HT := hide (HT.out.below stp)
  replace HLa := hide (HLa.out.below stp)
  replace HPx := hide (HPx.out.below stp)
  replace HW := hid_below HW stp
  have Hm := hide hx
  clear hb hbP hx stp
  have HBB : Hid (Below P4.heap.size P4 P4) := hide (Below.refl _ _)
  have HLaB := HLa
  have HA0B := HA0
  have HTB := HT
  have HWB := HW
  have HAB := HA
  obtain ⟨ca0, cb0, cc0⟩ := tri8 HX.out
  have C := yratio_no b0 ax z0.length cx p0 P4 hE0
  go_wp2_with fail
  refine C.mono ?_
  rintro e Q5 ⟨he, hb⟩
  clear C ca0 cb0 cc0 hP4
  obtain ⟨br, ar, lr, kr, ad, ld, kd, cr, rfl, hq⟩ : ∃ b a n k a2 n2 k2 c, e = .returned (.tuple #[.agg #[.bool b, .slice a n k, .slice a2 n2 k2], .int .i64 c]) ∧ (b = false ∧ a = none ∧ n = 0 ∧ k = 0 ∧ a2 = none ∧ n2 = 0 ∧ k2 = 0 ∧ c = 80) := ⟨_, _, _, _, _, _, _, _, he, rfl, rfl, rfl, rfl, rfl, rfl, rfl, rfl⟩
  have HQR := hide hq
  clear he hq
  obtain ⟨P6, hP6, hbP, hx⟩ := enter1 Q5 (.cells #[.bool br, .slice ar lr kr, .slice ad ld kd] 57)
  have stp := bl_trans8 hb hbP
  replace HA := hide (block_upW stp HA.out)
  replace HX := hide (block_upW stp HX.out)
  replace Hm := hide (block_upW stp Hm.out)
  replace HA0 := hide (HA0.out.below stp)
  replace HT := hide (HT.out.below stp)
  replace HLa := hide (HLa.out.below stp)
  replace HPx := hide (HPx.out.below stp)
  replace HW := hid_below HW stp
  replace HBB := hid_below HBB stp
  have Hr := hide hx
  clear hb hbP hx stp
  have C := int_one P6
  go_wp2_with fail
  refine C.mono ?_
  rintro e Q7 ⟨⟨a9, n9, k9, rfl, hn9⟩, hb⟩
  clear C hP6
  replace HA := hide (block_upW hb HA.out)
  replace HX := hide (block_upW hb HX.out)
  replace Hm := hide (block_upW hb Hm.out)
  replace Hr := hide (block_upW hb Hr.out)
  replace HA0 := hide (HA0.out.below hb)
  replace HT := hide (HT.out.below hb)
  replace HLa := hide (HLa.out.below hb)
  replace HPx := hide (HPx.out.below hb)
  replace HW := hid_below HW hb
  replace HBB := hid_below HBB hb
  have HN9 := hide hn9
  clear hb hn9
  obtain ⟨w7, w8, hw7, hw8, h7, h8, hb8⟩ := zero_box3 Q7 34
  have HU := hide hb8
  have HZZ := hide h8
  have hf7 := duof h7
  obtain ⟨y0, y1⟩ := duo h7
  clear h7 h8 hb8
  obtain ⟨q3, q4⟩ := duo HZZ.out
  have C := len_is (.slice none 0 0) 0 0 w8 (Num.nil8 _) rfl
  go_wp2_with fail
  refine C.mono ?_
  rintro e wn ⟨rfl, hw⟩; rw [hw]; clear hw wn C hf7 y0 y1 hw7 hw8
  have C := len_is (.slice a9 n9 k9) 1 1 w8 (HN9.out.below HU.out) blen_1
  go_wp2_with fail
  refine C.mono ?_
  rintro e wn ⟨rfl, hw⟩; rw [hw]; clear hw wn C
  clear q3 q4
  obtain ⟨s0, s1, s2⟩ := tri8 (block_upW HU.out Hr.out)
  have C := num8_any cr w8
  go_wp2_with fail
  refine C.mono ?_
  rintro e wn ⟨rfl, hw⟩; rw [hw]; clear hw wn C
  obtain ⟨q1, q2, q3, q4, q5, q6, q7, q8⟩ := HQR.out
  subst q8 q1 q3 q6
  clear q2 q4 q5 q7
  have AW := awake8_any w8 (HT.out.below HU.out)
  go_wp2_with fail
  refine AW.mono ?_
  rintro e t9 ⟨rfl, hb9⟩
  have HFIN := hide (bl_trans8 (bl_trans8 HW.out HU.out) hb9)
  clear AW hb9
  go_wp2
  go_ret
  exact ⟨rfl, HFIN.out⟩

set_option maxRecDepth 20000 in
set_option maxHeartbeats 16000000 in
theorem ratios_t1 (b0 : Bool) (v0 : Value) (z0 : List Nat) (p0 : Int) (w : World) (hT : Tab w) (A0 : Arg w v0 z0) (s0 : z0.length ≤ 17592186043904) (_ : -9223372036854775808 ≤ p0) (_ : p0 ≤ 9223372036854775807) (hE0 : fitE p0 = true) (h1 : 67108864 < oe (zz b0 (val z0)) p0) :
    Calls Tryd.prog 4 #[.agg #[.bool b0, v0, .int .i64 p0]] w fun e w' => e = .returned (.bool true) ∧ Below w.heap.size w w' := by
  obtain ⟨a0, n0, rfl, _, _, _⟩ := A0.form
  obtain ⟨w0, hw0, hb0, h0⟩ := enter1 w (.cells #[.bool b0, .slice a0 z0.length n0, .int .i64 p0] 24)
  have HA := hide h0
  have HA0 := hide (A0.below hb0)
  have HT := hide (hT.below hb0)
  have HW := hide hb0
  clear hT hb0 h0
  have hEr := (fitE_iff p0).1 hE0
  have hbz : blen (zz b0 (val z0)).natAbs ≤ 64 * z0.length := by rw [zz_abs]; exact blen_len8 A0.limbs
  have hOE := oe_range (zz b0 (val z0)) p0 (by omega)
  have hge : -1099511627776 ≤ oe (zz b0 (val z0)) p0 := by unfold oe; split <;> omega
  have hl0 : blen (omz (zz b0 (val z0))).natAbs ≤ 1125899906809900 := by
    have h5 := blen_mono (od_le (zz b0 (val z0)).natAbs)
    rw [omz_abs]; omega
  have hN0 : oe (zz b0 (val z0)) p0 ≠ 0 → omz (zz b0 (val z0)) ≠ 0 := by
    intro h h2
    rcases nr8_of (zz b0 (val z0)) p0 with h3 | h3
    · exact h h3.2
    · rw [h2] at h3; simp at h3
  have HRT := hide (fun (en dn : Nat) (W : World) (a1 : Option Addr) (c1 : Nat) (hA : Arg W (.slice a1 z0.length c1) z0) (hT : Tab W) => yratio_ok b0 a1 c1 z0 p0 en dn W hA hT (by omega) hE0)
  obtain ⟨M0, hM0⟩ : ∃ M0, omz (zz b0 (val z0)) = M0 := ⟨_, rfl⟩
  obtain ⟨E0, hE0v⟩ : ∃ E0, oe (zz b0 (val z0)) p0 = E0 := ⟨_, rfl⟩
  rw [hM0] at hl0 hN0 HRT
  rw [hE0v] at hOE hN0 hge HRT
  have HM0 := hide hM0
  have HV0 := hide hE0v
  have HNZ := hide hN0
  obtain ⟨l, hl⟩ : ∃ l, blen M0.natAbs = l := ⟨_, rfl⟩
  have HLL := hide hl
  rw [hl] at hl0
  clear hN0
  rw [hE0v] at h1
  obtain ⟨en, hen⟩ : ∃ en : Nat, E0 = (en : Int) := ⟨E0.toNat, by omega⟩
  have hx1 : max E0 0 = (en : Int) := by omega
  have hx2 : max (-E0) 0 = ((0 : Nat) : Int) := by omega
  have HBG : Hid (67108864 < blen (M0 * 2 ^ en).natAbs ∨ 67108864 < blen (2 ^ 0)) := hide (.inl (by rw [blen_up _ _ (HNZ.out (by omega)), hl]; omega))
  have i1 : decide (67108864 < E0) = true := decide_eq_true h1
  obtain ⟨sg9, hsg⟩ : ∃ s, M0.sign = s := ⟨_, rfl⟩
  have HSG := hide hsg
  have i2 : (sg9 == 0) = false := by rw [beq_eq_false_iff_ne, ← hsg]; intro h; exact HNZ.out (by omega) (Int.sign_eq_zero_iff_zero.1 h)
  have i2b : (sg9 != 0) = true := by rw [bne, i2]; rfl
  clear hsg
  have HX1 := hide hx1
  have HX2 := hide hx2
  clear hM0 hE0v hl hx1 hx2 hOE hbz hEr hge
  have HEN := hide hen
  clear hen
  clear A0
  go_enter Tryd.func4, Tryd.ntmps4
  obtain ⟨ca0, cb0, cc0⟩ := tri8 HA.out
  have C := lent8_any b0 a0 n0 z0 p0 w0 HA0.out (by omega)
  go_wp2_with fail
  refine C.mono ?_
  rintro e Q1 ⟨⟨aw, mw, nw, ax, cx, rfl, hL, hP⟩, hb⟩
  clear C ca0 cb0 cc0 hw0
  obtain ⟨P2, hP2, hbP, hx⟩ := enter1 Q1 (.cells #[.bool b0, .slice ax z0.length cx, .int .i64 p0] 29)
  have stp := bl_trans8 hb hbP
  replace HA := hide (block_upW stp HA.out)
  replace HA0 := hide (HA0.out.below stp)
  replace HT := hide (HT.out.below stp)
  replace HW := hid_below HW stp
  have HLa := hide (hL.below hbP)
  have HPx := hide (hP.below hbP)
  have HX := hide hx
  clear hL hP hb hbP hx stp
  obtain ⟨ca0, cb0, cc0⟩ := tri8 HA.out
  have C := of8_ok b0 a0 n0 z0 p0 P2 HA0.out (by omega) hE0
  rw [HM0.out, HV0.out] at C
  go_wp2_with fail
  refine C.mono ?_
  rintro e Q3 ⟨⟨bm, am, lm, km, rfl, hd⟩, hb⟩
  clear C ca0 cb0 cc0 hP2
  obtain ⟨P4, hP4, hbP, hx⟩ := enter1 Q3 (.cells #[.bool bm, .slice am lm km, .int .i64 E0] 36)
  have stp := bl_trans8 hb hbP
  replace HA := hide (block_upW stp HA.out)
  replace HX := hide (block_upW stp HX.out)
  replace HA0 := hide (HA0.out.below stp)
  replace HT := hide (HT.out.below stp)
  replace HLa := hide (HLa.out.below stp)
  replace HPx := hide (HPx.out.below stp)
  replace HW := hid_below HW stp
  have HDm := hide (hd.below hbP)
  have Hm := hide hx
  clear hd hb hbP hx stp
  have HBB : Hid (Below P4.heap.size P4 P4) := hide (Below.refl _ _)
  have HLaB := HLa
  have HA0B := HA0
  have HTB := HT
  have HWB := HW
  have HAB := HA
  obtain ⟨ca0, cb0, cc0⟩ := tri8 HX.out
  have C := (HRT.out en 0 P4 ax cx HPx.out HT.out HX1.out HX2.out).mono fun _ _ h => h.big HBG.out
  clear HRT
  go_wp2_with fail
  refine C.mono ?_
  rintro e Q5 ⟨he, hb⟩
  clear C ca0 cb0 cc0 hP4
  obtain ⟨br, ar, lr, kr, ad, ld, kd, cr, rfl, hq⟩ : ∃ b a n k a2 n2 k2 c, e = .returned (.tuple #[.agg #[.bool b, .slice a n k, .slice a2 n2 k2], .int .i64 c]) ∧ (b = false ∧ a = none ∧ n = 0 ∧ k = 0 ∧ a2 = none ∧ n2 = 0 ∧ k2 = 0 ∧ c = 3) := ⟨_, _, _, _, _, _, _, _, he, rfl, rfl, rfl, rfl, rfl, rfl, rfl, rfl⟩
  have HQR := hide hq
  clear he hq
  obtain ⟨P6, hP6, hbP, hx⟩ := enter1 Q5 (.cells #[.bool br, .slice ar lr kr, .slice ad ld kd] 57)
  have stp := bl_trans8 hb hbP
  replace HA := hide (block_upW stp HA.out)
  replace HX := hide (block_upW stp HX.out)
  replace Hm := hide (block_upW stp Hm.out)
  replace HA0 := hide (HA0.out.below stp)
  replace HT := hide (HT.out.below stp)
  replace HLa := hide (HLa.out.below stp)
  replace HPx := hide (HPx.out.below stp)
  replace HDm := hide (HDm.out.below stp)
  replace HW := hid_below HW stp
  replace HBB := hid_below HBB stp
  have Hr := hide hx
  clear hb hbP hx stp
  have C := int_one P6
  go_wp2_with fail
  refine C.mono ?_
  rintro e Q7 ⟨⟨a9, n9, k9, rfl, hn9⟩, hb⟩
  clear C hP6
  replace HA := hide (block_upW hb HA.out)
  replace HX := hide (block_upW hb HX.out)
  replace Hm := hide (block_upW hb Hm.out)
  replace Hr := hide (block_upW hb Hr.out)
  replace HA0 := hide (HA0.out.below hb)
  replace HT := hide (HT.out.below hb)
  replace HLa := hide (HLa.out.below hb)
  replace HPx := hide (HPx.out.below hb)
  replace HDm := hide (HDm.out.below hb)
  replace HW := hid_below HW hb
  replace HBB := hid_below HBB hb
  have HN9 := hide hn9
  clear hb hn9
  obtain ⟨w7, w8, hw7, hw8, h7, h8, hb8⟩ := zero_box3 Q7 34
  have HU := hide hb8
  have HZZ := hide h8
  have hf7 := duof h7
  obtain ⟨y0, y1⟩ := duo h7
  clear h7 h8 hb8
  obtain ⟨v0, v1, v2⟩ := tri8 (block_upW HU.out Hm.out)
  have C := rzsign_any (.agg #[.bool bm, .slice am lm km]) M0 w8 (HDm.out.below HU.out).zn
  rw [HSG.out] at C
  go_wp2_with fail
  refine C.mono ?_
  rintro e t2 ⟨rfl, hb⟩
  have HU2 := hide (bl_trans8 HU.out hb)
  have HZ2 := hide (block_upW hb HZZ.out)
  clear C hb v0 v1 v2 hf7 y0 y1 hw7 hw8
  obtain ⟨q3, q4⟩ := duo HZ2.out
  have C := len_is (.slice none 0 0) 0 0 t2 (Num.nil8 _) rfl
  go_wp2_with fail
  refine C.mono ?_
  rintro e wn ⟨rfl, hw⟩; rw [hw]; clear hw wn C
  have C := len_is (.slice a9 n9 k9) 1 1 t2 (HN9.out.below HU2.out) blen_1
  go_wp2_with fail
  refine C.mono ?_
  rintro e wn ⟨rfl, hw⟩; rw [hw]; clear hw wn C
  clear q3 q4
  obtain ⟨s0, s1, s2⟩ := tri8 (block_upW HU2.out Hr.out)
  have C := num8_any cr t2
  go_wp2_with fail
  refine C.mono ?_
  rintro e wn ⟨rfl, hw⟩; rw [hw]; clear hw wn C
  obtain ⟨q1, q2, q3, q4, q5, q6, q7, q8⟩ := HQR.out
  subst q8 q1 q3 q6
  clear q2 q4 q5 q7
  have AW := awake8_any t2 (HT.out.below HU2.out)
  go_wp2_with fail
  refine AW.mono ?_
  rintro e t9 ⟨rfl, hb9⟩
  have HFIN := hide (bl_trans8 (bl_trans8 HW.out HU2.out) hb9)
  clear AW hb9
  go_wp2
  go_ret
  exact ⟨rfl, HFIN.out⟩

set_option maxRecDepth 20000 in
set_option maxHeartbeats 16000000 in
theorem ratios_t2 (b0 : Bool) (v0 : Value) (z0 : List Nat) (p0 : Int) (w : World) (hT : Tab w) (A0 : Arg w v0 z0) (s0 : z0.length ≤ 17592186043904) (_ : -9223372036854775808 ≤ p0) (_ : p0 ≤ 9223372036854775807) (hE0 : fitE p0 = true) (h1 : oe (zz b0 (val z0)) p0 < -67108864) :
    Calls Tryd.prog 4 #[.agg #[.bool b0, v0, .int .i64 p0]] w fun e w' => e = .returned (.bool true) ∧ Below w.heap.size w w' := by
  obtain ⟨a0, n0, rfl, _, _, _⟩ := A0.form
  obtain ⟨w0, hw0, hb0, h0⟩ := enter1 w (.cells #[.bool b0, .slice a0 z0.length n0, .int .i64 p0] 24)
  have HA := hide h0
  have HA0 := hide (A0.below hb0)
  have HT := hide (hT.below hb0)
  have HW := hide hb0
  clear hT hb0 h0
  have hEr := (fitE_iff p0).1 hE0
  have hbz : blen (zz b0 (val z0)).natAbs ≤ 64 * z0.length := by rw [zz_abs]; exact blen_len8 A0.limbs
  have hOE := oe_range (zz b0 (val z0)) p0 (by omega)
  have hge : -1099511627776 ≤ oe (zz b0 (val z0)) p0 := by unfold oe; split <;> omega
  have hl0 : blen (omz (zz b0 (val z0))).natAbs ≤ 1125899906809900 := by
    have h5 := blen_mono (od_le (zz b0 (val z0)).natAbs)
    rw [omz_abs]; omega
  have hN0 : oe (zz b0 (val z0)) p0 ≠ 0 → omz (zz b0 (val z0)) ≠ 0 := by
    intro h h2
    rcases nr8_of (zz b0 (val z0)) p0 with h3 | h3
    · exact h h3.2
    · rw [h2] at h3; simp at h3
  have HRT := hide (fun (en dn : Nat) (W : World) (a1 : Option Addr) (c1 : Nat) (hA : Arg W (.slice a1 z0.length c1) z0) (hT : Tab W) => yratio_ok b0 a1 c1 z0 p0 en dn W hA hT (by omega) hE0)
  obtain ⟨M0, hM0⟩ : ∃ M0, omz (zz b0 (val z0)) = M0 := ⟨_, rfl⟩
  obtain ⟨E0, hE0v⟩ : ∃ E0, oe (zz b0 (val z0)) p0 = E0 := ⟨_, rfl⟩
  rw [hM0] at hl0 hN0 HRT
  rw [hE0v] at hOE hN0 hge HRT
  have HM0 := hide hM0
  have HV0 := hide hE0v
  have HNZ := hide hN0
  obtain ⟨l, hl⟩ : ∃ l, blen M0.natAbs = l := ⟨_, rfl⟩
  have HLL := hide hl
  rw [hl] at hl0
  clear hN0
  rw [hE0v] at h1
  obtain ⟨dn, hdn⟩ : ∃ dn : Nat, -E0 = (dn : Int) := ⟨(-E0).toNat, by omega⟩
  have hx1 : max E0 0 = ((0 : Nat) : Int) := by omega
  have hx2 : max (-E0) 0 = (dn : Int) := by omega
  have HBG : Hid (67108864 < blen (M0 * 2 ^ 0).natAbs ∨ 67108864 < blen (2 ^ dn)) := hide (.inr (by rw [blen_two]; omega))
  have i1 : decide (67108864 < E0) = false := decide_eq_false (by omega)
  have i1b : ¬ 67108864 < E0 := by omega
  have i3 : decide (E0 < -67108864) = true := decide_eq_true h1
  have HX1 := hide hx1
  have HX2 := hide hx2
  clear hM0 hE0v hl hx1 hx2 hOE hbz hEr hge
  have HDN := hide hdn
  clear hdn
  clear A0
  go_enter Tryd.func4, Tryd.ntmps4
  obtain ⟨ca0, cb0, cc0⟩ := tri8 HA.out
  have C := lent8_any b0 a0 n0 z0 p0 w0 HA0.out (by omega)
  go_wp2_with fail
  refine C.mono ?_
  rintro e Q1 ⟨⟨aw, mw, nw, ax, cx, rfl, hL, hP⟩, hb⟩
  clear C ca0 cb0 cc0 hw0
  obtain ⟨P2, hP2, hbP, hx⟩ := enter1 Q1 (.cells #[.bool b0, .slice ax z0.length cx, .int .i64 p0] 29)
  have stp := bl_trans8 hb hbP
  replace HA := hide (block_upW stp HA.out)
  replace HA0 := hide (HA0.out.below stp)
  replace HT := hide (HT.out.below stp)
  replace HW := hid_below HW stp
  have HLa := hide (hL.below hbP)
  have HPx := hide (hP.below hbP)
  have HX := hide hx
  clear hL hP hb hbP hx stp
  obtain ⟨ca0, cb0, cc0⟩ := tri8 HA.out
  have C := of8_ok b0 a0 n0 z0 p0 P2 HA0.out (by omega) hE0
  rw [HM0.out, HV0.out] at C
  go_wp2_with fail
  refine C.mono ?_
  rintro e Q3 ⟨⟨bm, am, lm, km, rfl, hd⟩, hb⟩
  clear C ca0 cb0 cc0 hP2
  obtain ⟨P4, hP4, hbP, hx⟩ := enter1 Q3 (.cells #[.bool bm, .slice am lm km, .int .i64 E0] 36)
  have stp := bl_trans8 hb hbP
  replace HA := hide (block_upW stp HA.out)
  replace HX := hide (block_upW stp HX.out)
  replace HA0 := hide (HA0.out.below stp)
  replace HT := hide (HT.out.below stp)
  replace HLa := hide (HLa.out.below stp)
  replace HPx := hide (HPx.out.below stp)
  replace HW := hid_below HW stp
  have HDm := hide (hd.below hbP)
  have Hm := hide hx
  clear hd hb hbP hx stp
  have HBB : Hid (Below P4.heap.size P4 P4) := hide (Below.refl _ _)
  have HLaB := HLa
  have HA0B := HA0
  have HTB := HT
  have HWB := HW
  have HAB := HA
  obtain ⟨ca0, cb0, cc0⟩ := tri8 HX.out
  have C := (HRT.out 0 dn P4 ax cx HPx.out HT.out HX1.out HX2.out).mono fun _ _ h => h.big HBG.out
  clear HRT
  go_wp2_with fail
  refine C.mono ?_
  rintro e Q5 ⟨he, hb⟩
  clear C ca0 cb0 cc0 hP4
  obtain ⟨br, ar, lr, kr, ad, ld, kd, cr, rfl, hq⟩ : ∃ b a n k a2 n2 k2 c, e = .returned (.tuple #[.agg #[.bool b, .slice a n k, .slice a2 n2 k2], .int .i64 c]) ∧ (b = false ∧ a = none ∧ n = 0 ∧ k = 0 ∧ a2 = none ∧ n2 = 0 ∧ k2 = 0 ∧ c = 3) := ⟨_, _, _, _, _, _, _, _, he, rfl, rfl, rfl, rfl, rfl, rfl, rfl, rfl⟩
  have HQR := hide hq
  clear he hq
  obtain ⟨P6, hP6, hbP, hx⟩ := enter1 Q5 (.cells #[.bool br, .slice ar lr kr, .slice ad ld kd] 57)
  have stp := bl_trans8 hb hbP
  replace HA := hide (block_upW stp HA.out)
  replace HX := hide (block_upW stp HX.out)
  replace Hm := hide (block_upW stp Hm.out)
  replace HA0 := hide (HA0.out.below stp)
  replace HT := hide (HT.out.below stp)
  replace HLa := hide (HLa.out.below stp)
  replace HPx := hide (HPx.out.below stp)
  replace HDm := hide (HDm.out.below stp)
  replace HW := hid_below HW stp
  replace HBB := hid_below HBB stp
  have Hr := hide hx
  clear hb hbP hx stp
  have C := int_one P6
  go_wp2_with fail
  refine C.mono ?_
  rintro e Q7 ⟨⟨a9, n9, k9, rfl, hn9⟩, hb⟩
  clear C hP6
  replace HA := hide (block_upW hb HA.out)
  replace HX := hide (block_upW hb HX.out)
  replace Hm := hide (block_upW hb Hm.out)
  replace Hr := hide (block_upW hb Hr.out)
  replace HA0 := hide (HA0.out.below hb)
  replace HT := hide (HT.out.below hb)
  replace HLa := hide (HLa.out.below hb)
  replace HPx := hide (HPx.out.below hb)
  replace HDm := hide (HDm.out.below hb)
  replace HW := hid_below HW hb
  replace HBB := hid_below HBB hb
  have HN9 := hide hn9
  clear hb hn9
  obtain ⟨w7, w8, hw7, hw8, h7, h8, hb8⟩ := zero_box3 Q7 34
  have HU := hide hb8
  have HZZ := hide h8
  have hf7 := duof h7
  obtain ⟨y0, y1⟩ := duo h7
  clear h7 h8 hb8
  obtain ⟨v0, v1, v2⟩ := tri8 (block_upW HU.out Hm.out)
  obtain ⟨q3, q4⟩ := duo HZZ.out
  have C := len_is (.slice none 0 0) 0 0 w8 (Num.nil8 _) rfl
  go_wp2_with fail
  refine C.mono ?_
  rintro e wn ⟨rfl, hw⟩; rw [hw]; clear hw wn C hf7 y0 y1 hw7 hw8
  have C := len_is (.slice a9 n9 k9) 1 1 w8 (HN9.out.below HU.out) blen_1
  go_wp2_with fail
  refine C.mono ?_
  rintro e wn ⟨rfl, hw⟩; rw [hw]; clear hw wn C
  clear v0 v1 v2
  clear q3 q4
  obtain ⟨s0, s1, s2⟩ := tri8 (block_upW HU.out Hr.out)
  have C := num8_any cr w8
  go_wp2_with fail
  refine C.mono ?_
  rintro e wn ⟨rfl, hw⟩; rw [hw]; clear hw wn C
  obtain ⟨q1, q2, q3, q4, q5, q6, q7, q8⟩ := HQR.out
  subst q8 q1 q3 q6
  clear q2 q4 q5 q7
  have AW := awake8_any w8 (HT.out.below HU.out)
  go_wp2_with fail
  refine AW.mono ?_
  rintro e t9 ⟨rfl, hb9⟩
  have HFIN := hide (bl_trans8 (bl_trans8 HW.out HU.out) hb9)
  clear AW hb9
  go_wp2
  go_ret
  exact ⟨rfl, HFIN.out⟩

set_option maxRecDepth 20000 in
set_option maxHeartbeats 16000000 in
theorem ratios_t3 (b0 : Bool) (v0 : Value) (z0 : List Nat) (p0 : Int) (w : World) (hT : Tab w) (A0 : Arg w v0 z0) (s0 : z0.length ≤ 17592186043904) (_ : -9223372036854775808 ≤ p0) (_ : p0 ≤ 9223372036854775807) (hE0 : fitE p0 = true) (h1 : oe (zz b0 (val z0)) p0 ≤ 67108864) (h2 : -67108864 ≤ oe (zz b0 (val z0)) p0) (h3 : 67108864 < blen (omz (zz b0 (val z0))).natAbs) :
    Calls Tryd.prog 4 #[.agg #[.bool b0, v0, .int .i64 p0]] w fun e w' => e = .returned (.bool true) ∧ Below w.heap.size w w' := by
  obtain ⟨a0, n0, rfl, _, _, _⟩ := A0.form
  obtain ⟨w0, hw0, hb0, h0⟩ := enter1 w (.cells #[.bool b0, .slice a0 z0.length n0, .int .i64 p0] 24)
  have HA := hide h0
  have HA0 := hide (A0.below hb0)
  have HT := hide (hT.below hb0)
  have HW := hide hb0
  clear hT hb0 h0
  have hEr := (fitE_iff p0).1 hE0
  have hbz : blen (zz b0 (val z0)).natAbs ≤ 64 * z0.length := by rw [zz_abs]; exact blen_len8 A0.limbs
  have hOE := oe_range (zz b0 (val z0)) p0 (by omega)
  have hge : -1099511627776 ≤ oe (zz b0 (val z0)) p0 := by unfold oe; split <;> omega
  have hl0 : blen (omz (zz b0 (val z0))).natAbs ≤ 1125899906809900 := by
    have h5 := blen_mono (od_le (zz b0 (val z0)).natAbs)
    rw [omz_abs]; omega
  have hN0 : oe (zz b0 (val z0)) p0 ≠ 0 → omz (zz b0 (val z0)) ≠ 0 := by
    intro h h2
    rcases nr8_of (zz b0 (val z0)) p0 with h3 | h3
    · exact h h3.2
    · rw [h2] at h3; simp at h3
  have HRT := hide (fun (en dn : Nat) (W : World) (a1 : Option Addr) (c1 : Nat) (hA : Arg W (.slice a1 z0.length c1) z0) (hT : Tab W) => yratio_ok b0 a1 c1 z0 p0 en dn W hA hT (by omega) hE0)
  obtain ⟨M0, hM0⟩ : ∃ M0, omz (zz b0 (val z0)) = M0 := ⟨_, rfl⟩
  obtain ⟨E0, hE0v⟩ : ∃ E0, oe (zz b0 (val z0)) p0 = E0 := ⟨_, rfl⟩
  rw [hM0] at hl0 hN0 HRT
  rw [hE0v] at hOE hN0 hge HRT
  have HM0 := hide hM0
  have HV0 := hide hE0v
  have HNZ := hide hN0
  obtain ⟨l, hl⟩ : ∃ l, blen M0.natAbs = l := ⟨_, rfl⟩
  have HLL := hide hl
  rw [hl] at hl0
  clear hN0
  rw [hE0v] at h1 h2
  rw [hM0, hl] at h3
  obtain ⟨en, hen⟩ : ∃ en : Nat, max E0 0 = (en : Int) := ⟨(max E0 0).toNat, by omega⟩
  obtain ⟨dn, hdn⟩ : ∃ dn : Nat, max (-E0) 0 = (dn : Int) := ⟨(max (-E0) 0).toNat, by omega⟩
  have hx1 := hen
  have hx2 := hdn
  have HBG : Hid (67108864 < blen (M0 * 2 ^ en).natAbs ∨ 67108864 < blen (2 ^ dn)) := hide (.inl (by rw [blen_up _ _ (by intro h; rw [h, show blen (0 : Int).natAbs = 0 from rfl] at hl; omega), hl]; omega))
  have i1 : decide (67108864 < E0) = false := decide_eq_false (by omega)
  have i1b : ¬ 67108864 < E0 := by omega
  have i3 : decide (E0 < -67108864) = false := decide_eq_false (by omega)
  have i3b : ¬ E0 < -67108864 := by omega
  have i4 : decide ((67108864 : Int) < (l : Int)) = true := decide_eq_true (by omega)
  have i4b : (67108864 : Int) < (l : Int) := by omega
  have HX1 := hide hx1
  have HX2 := hide hx2
  clear hM0 hE0v hl hx1 hx2 hOE hbz hEr hge
  have HEN := hide hen
  have HDN := hide hdn
  clear hen hdn
  clear A0
  go_enter Tryd.func4, Tryd.ntmps4
  obtain ⟨ca0, cb0, cc0⟩ := tri8 HA.out
  have C := lent8_any b0 a0 n0 z0 p0 w0 HA0.out (by omega)
  go_wp2_with fail
  refine C.mono ?_
  rintro e Q1 ⟨⟨aw, mw, nw, ax, cx, rfl, hL, hP⟩, hb⟩
  clear C ca0 cb0 cc0 hw0
  obtain ⟨P2, hP2, hbP, hx⟩ := enter1 Q1 (.cells #[.bool b0, .slice ax z0.length cx, .int .i64 p0] 29)
  have stp := bl_trans8 hb hbP
  replace HA := hide (block_upW stp HA.out)
  replace HA0 := hide (HA0.out.below stp)
  replace HT := hide (HT.out.below stp)
  replace HW := hid_below HW stp
  have HLa := hide (hL.below hbP)
  have HPx := hide (hP.below hbP)
  have HX := hide hx
  clear hL hP hb hbP hx stp
  obtain ⟨ca0, cb0, cc0⟩ := tri8 HA.out
  have C := of8_ok b0 a0 n0 z0 p0 P2 HA0.out (by omega) hE0
  rw [HM0.out, HV0.out] at C
  go_wp2_with fail
  refine C.mono ?_
  rintro e Q3 ⟨⟨bm, am, lm, km, rfl, hd⟩, hb⟩
  clear C ca0 cb0 cc0 hP2
  obtain ⟨P4, hP4, hbP, hx⟩ := enter1 Q3 (.cells #[.bool bm, .slice am lm km, .int .i64 E0] 36)
  have stp := bl_trans8 hb hbP
  replace HA := hide (block_upW stp HA.out)
  replace HX := hide (block_upW stp HX.out)
  replace HA0 := hide (HA0.out.below stp)
  replace HT := hide (HT.out.below stp)
  replace HLa := hide (HLa.out.below stp)
  replace HPx := hide (HPx.out.below stp)
  replace HW := hid_below HW stp
  have HDm := hide (hd.below hbP)
  have Hm := hide hx
  clear hd hb hbP hx stp
  have HBB : Hid (Below P4.heap.size P4 P4) := hide (Below.refl _ _)
  have HLaB := HLa
  have HA0B := HA0
  have HTB := HT
  have HWB := HW
  have HAB := HA
  obtain ⟨ca0, cb0, cc0⟩ := tri8 HX.out
  have C := (HRT.out en dn P4 ax cx HPx.out HT.out HX1.out HX2.out).mono fun _ _ h => h.big HBG.out
  clear HRT
  go_wp2_with fail
  refine C.mono ?_
  rintro e Q5 ⟨he, hb⟩
  clear C ca0 cb0 cc0 hP4
  obtain ⟨br, ar, lr, kr, ad, ld, kd, cr, rfl, hq⟩ : ∃ b a n k a2 n2 k2 c, e = .returned (.tuple #[.agg #[.bool b, .slice a n k, .slice a2 n2 k2], .int .i64 c]) ∧ (b = false ∧ a = none ∧ n = 0 ∧ k = 0 ∧ a2 = none ∧ n2 = 0 ∧ k2 = 0 ∧ c = 3) := ⟨_, _, _, _, _, _, _, _, he, rfl, rfl, rfl, rfl, rfl, rfl, rfl, rfl⟩
  have HQR := hide hq
  clear he hq
  obtain ⟨P6, hP6, hbP, hx⟩ := enter1 Q5 (.cells #[.bool br, .slice ar lr kr, .slice ad ld kd] 57)
  have stp := bl_trans8 hb hbP
  replace HA := hide (block_upW stp HA.out)
  replace HX := hide (block_upW stp HX.out)
  replace Hm := hide (block_upW stp Hm.out)
  replace HA0 := hide (HA0.out.below stp)
  replace HT := hide (HT.out.below stp)
  replace HLa := hide (HLa.out.below stp)
  replace HPx := hide (HPx.out.below stp)
  replace HDm := hide (HDm.out.below stp)
  replace HW := hid_below HW stp
  replace HBB := hid_below HBB stp
  have Hr := hide hx
  clear hb hbP hx stp
  have C := int_one P6
  go_wp2_with fail
  refine C.mono ?_
  rintro e Q7 ⟨⟨a9, n9, k9, rfl, hn9⟩, hb⟩
  clear C hP6
  replace HA := hide (block_upW hb HA.out)
  replace HX := hide (block_upW hb HX.out)
  replace Hm := hide (block_upW hb Hm.out)
  replace Hr := hide (block_upW hb Hr.out)
  replace HA0 := hide (HA0.out.below hb)
  replace HT := hide (HT.out.below hb)
  replace HLa := hide (HLa.out.below hb)
  replace HPx := hide (HPx.out.below hb)
  replace HDm := hide (HDm.out.below hb)
  replace HW := hid_below HW hb
  replace HBB := hid_below HBB hb
  have HN9 := hide hn9
  clear hb hn9
  obtain ⟨w7, w8, hw7, hw8, h7, h8, hb8⟩ := zero_box3 Q7 34
  have HU := hide hb8
  have HZZ := hide h8
  have hf7 := duof h7
  obtain ⟨y0, y1⟩ := duo h7
  clear h7 h8 hb8
  obtain ⟨v0, v1, v2⟩ := tri8 (block_upW HU.out Hm.out)
  have C := len_is (.slice am lm km) M0.natAbs l w8 (HDm.out.below HU.out).2 HLL.out
  go_wp2_with fail
  refine C.mono ?_
  rintro e wn ⟨rfl, hw⟩; rw [hw]; clear hw wn C hf7 y0 y1 hw7 hw8
  obtain ⟨q3, q4⟩ := duo HZZ.out
  have C := len_is (.slice none 0 0) 0 0 w8 (Num.nil8 _) rfl
  go_wp2_with fail
  refine C.mono ?_
  rintro e wn ⟨rfl, hw⟩; rw [hw]; clear hw wn C
  have C := len_is (.slice a9 n9 k9) 1 1 w8 (HN9.out.below HU.out) blen_1
  go_wp2_with fail
  refine C.mono ?_
  rintro e wn ⟨rfl, hw⟩; rw [hw]; clear hw wn C
  clear v0 v1 v2
  clear q3 q4
  obtain ⟨s0, s1, s2⟩ := tri8 (block_upW HU.out Hr.out)
  have C := num8_any cr w8
  go_wp2_with fail
  refine C.mono ?_
  rintro e wn ⟨rfl, hw⟩; rw [hw]; clear hw wn C
  obtain ⟨q1, q2, q3, q4, q5, q6, q7, q8⟩ := HQR.out
  subst q8 q1 q3 q6
  clear q2 q4 q5 q7
  have AW := awake8_any w8 (HT.out.below HU.out)
  go_wp2_with fail
  refine AW.mono ?_
  rintro e t9 ⟨rfl, hb9⟩
  have HFIN := hide (bl_trans8 (bl_trans8 HW.out HU.out) hb9)
  clear AW hb9
  go_wp2
  go_ret
  exact ⟨rfl, HFIN.out⟩

set_option maxRecDepth 20000 in
set_option maxHeartbeats 16000000 in
theorem ratios_t4b (b0 : Bool) (v0 : Value) (z0 : List Nat) (p0 : Int) (w : World) (hT : Tab w) (A0 : Arg w v0 z0) (s0 : z0.length ≤ 17592186043904) (_ : -9223372036854775808 ≤ p0) (_ : p0 ≤ 9223372036854775807) (hE0 : fitE p0 = true) (h1 : oe (zz b0 (val z0)) p0 ≤ 67108864) (h2 : 0 ≤ oe (zz b0 (val z0)) p0) (h3 : blen (omz (zz b0 (val z0))).natAbs ≤ 67108864) (h4 : 67108864 < blen (omz (zz b0 (val z0)) * 2 ^ (oe (zz b0 (val z0)) p0).toNat).natAbs) :
    Calls Tryd.prog 4 #[.agg #[.bool b0, v0, .int .i64 p0]] w fun e w' => e = .returned (.bool true) ∧ Below w.heap.size w w' := by
  obtain ⟨a0, n0, rfl, _, _, _⟩ := A0.form
  obtain ⟨w0, hw0, hb0, h0⟩ := enter1 w (.cells #[.bool b0, .slice a0 z0.length n0, .int .i64 p0] 24)
  have HA := hide h0
  have HA0 := hide (A0.below hb0)
  have HT := hide (hT.below hb0)
  have HW := hide hb0
  clear hT hb0 h0
  have hEr := (fitE_iff p0).1 hE0
  have hbz : blen (zz b0 (val z0)).natAbs ≤ 64 * z0.length := by rw [zz_abs]; exact blen_len8 A0.limbs
  have hOE := oe_range (zz b0 (val z0)) p0 (by omega)
  have hge : -1099511627776 ≤ oe (zz b0 (val z0)) p0 := by unfold oe; split <;> omega
  have hl0 : blen (omz (zz b0 (val z0))).natAbs ≤ 1125899906809900 := by
    have h5 := blen_mono (od_le (zz b0 (val z0)).natAbs)
    rw [omz_abs]; omega
  have hN0 : oe (zz b0 (val z0)) p0 ≠ 0 → omz (zz b0 (val z0)) ≠ 0 := by
    intro h h2
    rcases nr8_of (zz b0 (val z0)) p0 with h3 | h3
    · exact h h3.2
    · rw [h2] at h3; simp at h3
  have HRT := hide (fun (en dn : Nat) (W : World) (a1 : Option Addr) (c1 : Nat) (hA : Arg W (.slice a1 z0.length c1) z0) (hT : Tab W) => yratio_ok b0 a1 c1 z0 p0 en dn W hA hT (by omega) hE0)
  obtain ⟨M0, hM0⟩ : ∃ M0, omz (zz b0 (val z0)) = M0 := ⟨_, rfl⟩
  obtain ⟨E0, hE0v⟩ : ∃ E0, oe (zz b0 (val z0)) p0 = E0 := ⟨_, rfl⟩
  rw [hM0] at hl0 hN0 HRT
  rw [hE0v] at hOE hN0 hge HRT
  have HM0 := hide hM0
  have HV0 := hide hE0v
  have HNZ := hide hN0
  obtain ⟨l, hl⟩ : ∃ l, blen M0.natAbs = l := ⟨_, rfl⟩
  have HLL := hide hl
  rw [hl] at hl0
  clear hN0
  rw [hE0v] at h1 h2
  rw [hM0, hl] at h3
  rw [hM0, hE0v] at h4
  obtain ⟨en, hen⟩ : ∃ en : Nat, E0 = (en : Int) := ⟨E0.toNat, by omega⟩
  have hx1 : max E0 0 = (en : Int) := by omega
  have hx2 : max (-E0) 0 = ((0 : Nat) : Int) := by omega
  have HBG : Hid (67108864 < blen (M0 * 2 ^ en).natAbs ∨ 67108864 < blen (2 ^ 0)) := hide (.inl (by rw [hen, Int.toNat_natCast] at h4; exact h4))
  have i1 : decide (67108864 < E0) = false := decide_eq_false (by omega)
  have i1b : ¬ 67108864 < E0 := by omega
  have i3 : decide (E0 < -67108864) = false := decide_eq_false (by omega)
  have i3b : ¬ E0 < -67108864 := by omega
  have i4 : decide ((67108864 : Int) < (l : Int)) = false := decide_eq_false (by omega)
  have i4b : ¬ (67108864 : Int) < (l : Int) := by omega
  have i5 : decide (0 ≤ E0) = true := decide_eq_true h2
  have HX1 := hide hx1
  have HX2 := hide hx2
  clear hM0 hE0v hl hx1 hx2 hOE hbz hEr hge
  have HEN := hide hen
  clear hen h4
  clear A0
  go_enter Tryd.func4, Tryd.ntmps4
  obtain ⟨ca0, cb0, cc0⟩ := tri8 HA.out
  have C := lent8_any b0 a0 n0 z0 p0 w0 HA0.out (by omega)
  go_wp2_with fail
  refine C.mono ?_
  rintro e Q1 ⟨⟨aw, mw, nw, ax, cx, rfl, hL, hP⟩, hb⟩
  clear C ca0 cb0 cc0 hw0
  obtain ⟨P2, hP2, hbP, hx⟩ := enter1 Q1 (.cells #[.bool b0, .slice ax z0.length cx, .int .i64 p0] 29)
  have stp := bl_trans8 hb hbP
  replace HA := hide (block_upW stp HA.out)
  replace HA0 := hide (HA0.out.below stp)
  replace HT := hide (HT.out.below stp)
  replace HW := hid_below HW stp
  have HLa := hide (hL.below hbP)
  have HPx := hide (hP.below hbP)
  have HX := hide hx
  clear hL hP hb hbP hx stp
  obtain ⟨ca0, cb0, cc0⟩ := tri8 HA.out
  have C := of8_ok b0 a0 n0 z0 p0 P2 HA0.out (by omega) hE0
  rw [HM0.out, HV0.out] at C
  go_wp2_with fail
  refine C.mono ?_
  rintro e Q3 ⟨⟨bm, am, lm, km, rfl, hd⟩, hb⟩
  clear C ca0 cb0 cc0 hP2
  obtain ⟨P4, hP4, hbP, hx⟩ := enter1 Q3 (.cells #[.bool bm, .slice am lm km, .int .i64 E0] 36)
  have stp := bl_trans8 hb hbP
  replace HA := hide (block_upW stp HA.out)
  replace HX := hide (block_upW stp HX.out)
  replace HA0 := hide (HA0.out.below stp)
  replace HT := hide (HT.out.below stp)
  replace HLa := hide (HLa.out.below stp)
  replace HPx := hide (HPx.out.below stp)
  replace HW := hid_below HW stp
  have HDm := hide (hd.below hbP)
  have Hm := hide hx
  clear hd hb hbP hx stp
  have HBB : Hid (Below P4.heap.size P4 P4) := hide (Below.refl _ _)
  have HLaB := HLa
  have HA0B := HA0
  have HTB := HT
  have HWB := HW
  have HAB := HA
  obtain ⟨ca0, cb0, cc0⟩ := tri8 HX.out
  have C := (HRT.out en 0 P4 ax cx HPx.out HT.out HX1.out HX2.out).mono fun _ _ h => h.big HBG.out
  clear HRT
  go_wp2_with fail
  refine C.mono ?_
  rintro e Q5 ⟨he, hb⟩
  clear C ca0 cb0 cc0 hP4
  obtain ⟨br, ar, lr, kr, ad, ld, kd, cr, rfl, hq⟩ : ∃ b a n k a2 n2 k2 c, e = .returned (.tuple #[.agg #[.bool b, .slice a n k, .slice a2 n2 k2], .int .i64 c]) ∧ (b = false ∧ a = none ∧ n = 0 ∧ k = 0 ∧ a2 = none ∧ n2 = 0 ∧ k2 = 0 ∧ c = 3) := ⟨_, _, _, _, _, _, _, _, he, rfl, rfl, rfl, rfl, rfl, rfl, rfl, rfl⟩
  have HQR := hide hq
  clear he hq
  obtain ⟨P6, hP6, hbP, hx⟩ := enter1 Q5 (.cells #[.bool br, .slice ar lr kr, .slice ad ld kd] 57)
  have stp := bl_trans8 hb hbP
  replace HA := hide (block_upW stp HA.out)
  replace HX := hide (block_upW stp HX.out)
  replace Hm := hide (block_upW stp Hm.out)
  replace HA0 := hide (HA0.out.below stp)
  replace HT := hide (HT.out.below stp)
  replace HLa := hide (HLa.out.below stp)
  replace HPx := hide (HPx.out.below stp)
  replace HDm := hide (HDm.out.below stp)
  replace HW := hid_below HW stp
  replace HBB := hid_below HBB stp
  have Hr := hide hx
  clear hb hbP hx stp
  have C := int_one P6
  go_wp2_with fail
  refine C.mono ?_
  rintro e Q7 ⟨⟨a9, n9, k9, rfl, hn9⟩, hb⟩
  clear C hP6
  replace HA := hide (block_upW hb HA.out)
  replace HX := hide (block_upW hb HX.out)
  replace Hm := hide (block_upW hb Hm.out)
  replace Hr := hide (block_upW hb Hr.out)
  replace HA0 := hide (HA0.out.below hb)
  replace HT := hide (HT.out.below hb)
  replace HLa := hide (HLa.out.below hb)
  replace HPx := hide (HPx.out.below hb)
  replace HDm := hide (HDm.out.below hb)
  replace HW := hid_below HW hb
  replace HBB := hid_below HBB hb
  have HN9 := hide hn9
  clear hb hn9
  obtain ⟨w7, w8, hw7, hw8, h7, h8, hb8⟩ := zero_box3 Q7 34
  have HU := hide hb8
  have HZZ := hide h8
  have hf7 := duof h7
  obtain ⟨y0, y1⟩ := duo h7
  clear h7 h8 hb8
  obtain ⟨v0, v1, v2⟩ := tri8 (block_upW HU.out Hm.out)
  have C := len_is (.slice am lm km) M0.natAbs l w8 (HDm.out.below HU.out).2 HLL.out
  go_wp2_with fail
  refine C.mono ?_
  rintro e wn ⟨rfl, hw⟩; rw [hw]; clear hw wn C hf7 y0 y1 hw7 hw8
  have C := rzshift_any bm am lm km M0 en w8 (HDm.out.below HU.out).zn (by rw [HLL.out]; have := HEN.out; omega)
  rw [← HEN.out] at C
  go_wp2_with fail
  refine C.mono ?_
  rintro e t2 ⟨⟨bz, az, lz, kz, rfl, hz⟩, hb⟩
  have hc3 := block_upW hb HZZ.out
  have hf5 := duof hc3
  obtain ⟨x3, x4⟩ := duo hc3
  obtain ⟨wQ, hwQ, hU3, hZ3, hE3⟩ := put3 (bl_trans8 HU.out hb) (Nat.le_refl _) hc3 bz az lz kz
  have HU3 := hide hU3
  have HZ3 := hide hZ3
  have HZN := hide (hE3 _ _ hz)
  clear C hb hz hc3 hU3 hZ3 hE3 v0 v1 v2
  obtain ⟨q3, q4⟩ := duo HZ3.out
  obtain ⟨ln, hln⟩ : ∃ ln, blen (M0 * 2 ^ en).natAbs = ln := ⟨_, rfl⟩
  have h9 : 67108864 < ln := by
    rcases HBG.out with h | h
    · omega
    · rw [blen_two] at h; omega
  have i8 : decide ((67108864 : Int) < (ln : Int)) = true := decide_eq_true (by omega)
  have i8b : (67108864 : Int) < (ln : Int) := by omega
  have HLN := hide hln
  clear hln
  have C := len_is (.slice az lz kz) _ ln wQ (Zn.dn9 HZN.out).2 HLN.out
  go_wp2_with fail
  refine C.mono ?_
  rintro e wn ⟨rfl, hw⟩; rw [hw]; clear hw wn C
  clear hf5 x3 x4 hwQ
  clear q3 q4
  obtain ⟨s0, s1, s2⟩ := tri8 (block_upW HU3.out Hr.out)
  have C := num8_any cr wQ
  go_wp2_with fail
  refine C.mono ?_
  rintro e wn ⟨rfl, hw⟩; rw [hw]; clear hw wn C
  obtain ⟨q1, q2, q3, q4, q5, q6, q7, q8⟩ := HQR.out
  subst q8 q1 q3 q6
  clear q2 q4 q5 q7
  have AW := awake8_any wQ (HT.out.below HU3.out)
  go_wp2_with fail
  refine AW.mono ?_
  rintro e t9 ⟨rfl, hb9⟩
  have HFIN := hide (bl_trans8 (bl_trans8 HW.out HU3.out) hb9)
  clear AW hb9
  go_wp2
  go_ret
  exact ⟨rfl, HFIN.out⟩

set_option maxRecDepth 20000 in
set_option maxHeartbeats 16000000 in
theorem ratios_t4f (b0 : Bool) (v0 : Value) (z0 : List Nat) (p0 : Int) (w : World) (hT : Tab w) (A0 : Arg w v0 z0) (s0 : z0.length ≤ 17592186043904) (_ : -9223372036854775808 ≤ p0) (_ : p0 ≤ 9223372036854775807) (hE0 : fitE p0 = true) (h1 : oe (zz b0 (val z0)) p0 ≤ 67108864) (h2 : 0 ≤ oe (zz b0 (val z0)) p0) (h3 : blen (omz (zz b0 (val z0))).natAbs ≤ 67108864) (h4 : blen (omz (zz b0 (val z0)) * 2 ^ (oe (zz b0 (val z0)) p0).toNat).natAbs ≤ 67108864) :
    Calls Tryd.prog 4 #[.agg #[.bool b0, v0, .int .i64 p0]] w fun e w' => e = .returned (.bool true) ∧ Below w.heap.size w w' := by
  obtain ⟨a0, n0, rfl, _, _, _⟩ := A0.form
  obtain ⟨w0, hw0, hb0, h0⟩ := enter1 w (.cells #[.bool b0, .slice a0 z0.length n0, .int .i64 p0] 24)
  have HA := hide h0
  have HA0 := hide (A0.below hb0)
  have HT := hide (hT.below hb0)
  have HW := hide hb0
  clear hT hb0 h0
  have hEr := (fitE_iff p0).1 hE0
  have hbz : blen (zz b0 (val z0)).natAbs ≤ 64 * z0.length := by rw [zz_abs]; exact blen_len8 A0.limbs
  have hOE := oe_range (zz b0 (val z0)) p0 (by omega)
  have hge : -1099511627776 ≤ oe (zz b0 (val z0)) p0 := by unfold oe; split <;> omega
  have hl0 : blen (omz (zz b0 (val z0))).natAbs ≤ 1125899906809900 := by
    have h5 := blen_mono (od_le (zz b0 (val z0)).natAbs)
    rw [omz_abs]; omega
  have hN0 : oe (zz b0 (val z0)) p0 ≠ 0 → omz (zz b0 (val z0)) ≠ 0 := by
    intro h h2
    rcases nr8_of (zz b0 (val z0)) p0 with h3 | h3
    · exact h h3.2
    · rw [h2] at h3; simp at h3
  have HRT := hide (fun (en dn : Nat) (W : World) (a1 : Option Addr) (c1 : Nat) (hA : Arg W (.slice a1 z0.length c1) z0) (hT : Tab W) => yratio_ok b0 a1 c1 z0 p0 en dn W hA hT (by omega) hE0)
  obtain ⟨M0, hM0⟩ : ∃ M0, omz (zz b0 (val z0)) = M0 := ⟨_, rfl⟩
  obtain ⟨E0, hE0v⟩ : ∃ E0, oe (zz b0 (val z0)) p0 = E0 := ⟨_, rfl⟩
  rw [hM0] at hl0 hN0 HRT
  rw [hE0v] at hOE hN0 hge HRT
  have HM0 := hide hM0
  have HV0 := hide hE0v
  have HNZ := hide hN0
  obtain ⟨l, hl⟩ : ∃ l, blen M0.natAbs = l := ⟨_, rfl⟩
  have HLL := hide hl
  rw [hl] at hl0
  clear hN0
  rw [hE0v] at h1 h2
  rw [hM0, hl] at h3
  rw [hM0, hE0v] at h4
  obtain ⟨en, hen⟩ : ∃ en : Nat, E0 = (en : Int) := ⟨E0.toNat, by omega⟩
  have hx1 : max E0 0 = (en : Int) := by omega
  have hx2 : max (-E0) 0 = ((0 : Nat) : Int) := by omega
  rw [hen, Int.toNat_natCast] at h4
  have HF1 := hide h4
  have HF2 : Hid (blen (2 ^ 0) ≤ 67108864) := hide (by rw [blen_two]; omega)
  have i1 : decide (67108864 < E0) = false := decide_eq_false (by omega)
  have i1b : ¬ 67108864 < E0 := by omega
  have i3 : decide (E0 < -67108864) = false := decide_eq_false (by omega)
  have i3b : ¬ E0 < -67108864 := by omega
  have i4 : decide ((67108864 : Int) < (l : Int)) = false := decide_eq_false (by omega)
  have i4b : ¬ (67108864 : Int) < (l : Int) := by omega
  have i5 : decide (0 ≤ E0) = true := decide_eq_true h2
  have HX1 := hide hx1
  have HX2 := hide hx2
  clear hM0 hE0v hl hx1 hx2 hOE hbz hEr hge
  have HEN := hide hen
  clear hen h4
  clear A0
  go_enter Tryd.func4, Tryd.ntmps4
  obtain ⟨ca0, cb0, cc0⟩ := tri8 HA.out
  have C := lent8_any b0 a0 n0 z0 p0 w0 HA0.out (by omega)
  go_wp2_with fail
  refine C.mono ?_
  rintro e Q1 ⟨⟨aw, mw, nw, ax, cx, rfl, hL, hP⟩, hb⟩
  clear C ca0 cb0 cc0 hw0
  obtain ⟨P2, hP2, hbP, hx⟩ := enter1 Q1 (.cells #[.bool b0, .slice ax z0.length cx, .int .i64 p0] 29)
  have stp := bl_trans8 hb hbP
  replace HA := hide (block_upW stp HA.out)
  replace HA0 := hide (HA0.out.below stp)
  replace HT := hide (HT.out.below stp)
  replace HW := hid_below HW stp
  have HLa := hide (hL.below hbP)
  have HPx := hide (hP.below hbP)
  have HX := hide hx
  clear hL hP hb hbP hx stp
  obtain ⟨ca0, cb0, cc0⟩ := tri8 HA.out
  have C := of8_ok b0 a0 n0 z0 p0 P2 HA0.out (by omega) hE0
  rw [HM0.out, HV0.out] at C
  go_wp2_with fail
  refine C.mono ?_
  rintro e Q3 ⟨⟨bm, am, lm, km, rfl, hd⟩, hb⟩
  clear C ca0 cb0 cc0 hP2
  obtain ⟨P4, hP4, hbP, hx⟩ := enter1 Q3 (.cells #[.bool bm, .slice am lm km, .int .i64 E0] 36)
  have stp := bl_trans8 hb hbP
  replace HA := hide (block_upW stp HA.out)
  replace HX := hide (block_upW stp HX.out)
  replace HA0 := hide (HA0.out.below stp)
  replace HT := hide (HT.out.below stp)
  replace HLa := hide (HLa.out.below stp)
  replace HPx := hide (HPx.out.below stp)
  replace HW := hid_below HW stp
  have HDm := hide (hd.below hbP)
  have Hm := hide hx
  clear hd hb hbP hx stp
  have HBB : Hid (Below P4.heap.size P4 P4) := hide (Below.refl _ _)
  have HLaB := HLa
  have HA0B := HA0
  have HTB := HT
  have HWB := HW
  have HAB := HA
  obtain ⟨ca0, cb0, cc0⟩ := tri8 HX.out
  have C := (HRT.out en 0 P4 ax cx HPx.out HT.out HX1.out HX2.out).mono fun _ _ h => h.fits HF1.out HF2.out
  clear HRT
  generalize hNN : M0 * 2 ^ en = NN at *
  generalize hDD : 2 ^ 0 = DD at *
  have HNN := hide hNN
  have HDD := hide hDD
  clear hNN hDD
  go_wp2_with fail
  refine C.mono ?_
  rintro e Q5 ⟨⟨br, ar, lr, kr, ad, ld, kd, rfl, hbr, rs, ds, hch, hv1, ht1, hv2, ht2, hl1, hl2⟩, hb⟩
  clear C ca0 cb0 cc0 hP4
  have HFR := hide (And.intro hbr (And.intro hv1 (And.intro ht1 (And.intro hv2 ht2))))
  clear hbr hv1 ht1 hv2 ht2
  obtain ⟨P6, hP6, hbP, hx⟩ := enter1 Q5 (.cells #[.bool br, .slice ar lr kr, .slice ad ld kd] 57)
  have stp := bl_trans8 hb hbP
  have Ch := hch.below hbP
  replace HA := hide (block_upW stp HA.out)
  replace HX := hide (block_upW stp HX.out)
  replace Hm := hide (block_upW stp Hm.out)
  replace HA0 := hide (HA0.out.below stp)
  replace HT := hide (HT.out.below stp)
  replace HLa := hide (HLa.out.below stp)
  replace HPx := hide (HPx.out.below stp)
  replace HDm := hide (HDm.out.below stp)
  replace HW := hid_below HW stp
  replace HBB := hid_below HBB stp
  have Hr := hide hx
  clear hb hbP hx stp hch
  have C := int_one P6
  go_wp2_with fail
  refine C.mono ?_
  rintro e Q7 ⟨⟨a9, n9, k9, rfl, hn9⟩, hb⟩
  clear C hP6
  replace HA := hide (block_upW hb HA.out)
  replace HX := hide (block_upW hb HX.out)
  replace Hm := hide (block_upW hb Hm.out)
  replace Hr := hide (block_upW hb Hr.out)
  replace HA0 := hide (HA0.out.below hb)
  replace HT := hide (HT.out.below hb)
  replace HLa := hide (HLa.out.below hb)
  replace HPx := hide (HPx.out.below hb)
  replace HDm := hide (HDm.out.below hb)
  replace HW := hid_below HW hb
  replace HBB := hid_below HBB hb
  replace Ch := Ch.below hb
  have HN9 := hide hn9
  clear hb hn9
  obtain ⟨w7, w8, hw7, hw8, h7, h8, hb8⟩ := zero_box3 Q7 34
  have HU := hide hb8
  have HZZ := hide h8
  have hf7 := duof h7
  obtain ⟨y0, y1⟩ := duo h7
  clear h7 h8 hb8
  obtain ⟨v0, v1, v2⟩ := tri8 (block_upW HU.out Hm.out)
  have C := len_is (.slice am lm km) M0.natAbs l w8 (HDm.out.below HU.out).2 HLL.out
  go_wp2_with fail
  refine C.mono ?_
  rintro e wn ⟨rfl, hw⟩; rw [hw]; clear hw wn C hf7 y0 y1 hw7 hw8
  have C := rzshift_any bm am lm km M0 en w8 (HDm.out.below HU.out).zn (by rw [HLL.out]; have := HEN.out; omega)
  rw [← HEN.out] at C
  rw [HNN.out] at C
  go_wp2_with fail
  refine C.mono ?_
  rintro e t2 ⟨⟨bz, az, lz, kz, rfl, hz⟩, hb⟩
  have hc3 := block_upW hb HZZ.out
  have hf5 := duof hc3
  obtain ⟨x3, x4⟩ := duo hc3
  obtain ⟨wQ, hwQ, hU3, hZ3, hE3⟩ := put3 (bl_trans8 HU.out hb) (Nat.le_refl _) hc3 bz az lz kz
  have HU3 := hide hU3
  have HZ3 := hide hZ3
  have HZN := hide (hE3 _ _ hz)
  clear C hb hz hc3 hU3 hZ3 hE3 v0 v1 v2
  obtain ⟨q3, q4⟩ := duo HZ3.out
  obtain ⟨ln, hln⟩ : ∃ ln, blen (NN).natAbs = ln := ⟨_, rfl⟩
  have i8 : decide ((67108864 : Int) < (ln : Int)) = false := decide_eq_false (by have := HF1.out; omega)
  have i8b : ¬ (67108864 : Int) < (ln : Int) := by have := HF1.out; omega
  have HLN := hide hln
  clear hln
  have C := len_is (.slice az lz kz) _ ln wQ (Zn.dn9 HZN.out).2 HLN.out
  go_wp2_with fail
  refine C.mono ?_
  rintro e wn ⟨rfl, hw⟩; rw [hw]; clear hw wn C
  clear hf5 x3 x4 hwQ
  have C := len_is (.slice a9 n9 k9) 1 1 wQ (HN9.out.below HU3.out) blen_1
  go_wp2_with fail
  refine C.mono ?_
  rintro e wn ⟨rfl, hw⟩; rw [hw]; clear hw wn C
  clear q3 q4
  obtain ⟨s0, s1, s2⟩ := tri8 (block_upW HU3.out Hr.out)
  obtain ⟨q3, q4⟩ := duo HZ3.out
  obtain ⟨hbr, hv1, ht1, hv2, ht2⟩ := HFR.out
  have C := num8_any 0 wQ
  go_wp2_with fail
  refine C.mono ?_
  rintro e wn ⟨rfl, hw⟩; rw [hw]; clear hw wn C
  have HAp := hide Ch.aparts
  have HIS := rzis_any (.agg #[.bool bz, .slice az lz kz]) NN (.slice ar lr kr) rs wQ HZN.out (((HAp.out.row 0 (by simp)).below HU3.out).arg (by have : rs.length ≤ 1048576 := hl1; simp; omega)) ht1 hv1 (by have := HF1.out; omega)
  rw [← hbr] at HIS
  clear hbr
  go_wp2_with fail
  refine HIS.mono ?_
  rintro e t3 ⟨rfl, hb⟩
  have HU4 := hide (bl_trans8 HU3.out hb)
  have HD4 : Num t3 (.slice a9 n9 k9) DD := by rw [← HDD.out]; exact (HN9.out.below HU4.out)
  have HI2 := is_true (.slice a9 n9 k9) (.slice ad ld kd) DD ds t3 HD4 (((HAp.out.row 1 (by simp)).below HU4.out).arg (by have : ds.length ≤ 1048576 := hl2; simp; omega)) ht2 hv2 (by have := HF2.out; omega)
  obtain ⟨s3, s4, s5⟩ := tri8 (block_upW HU4.out Hr.out)
  clear HIS hb s0 s1 s2 q3 q4 hv1 ht1 hv2 ht2 HD4
  go_wp2_with fail
  refine HI2.mono ?_
  rintro e t9 ⟨rfl, g9⟩
  have G9 := bl_trans8 HU4.out g9
  have HC9 := hide (Ch.below G9)
  have HB9 := hide (bl_trans8 HBB.out G9)
  have HOW := own_aparts P4.heap.size [.slice ar lr kr, .slice ad ld kd] [rs, ds] t9 HC9.out.aparts (by simp) (by simp; omega) HB9.out.size
  obtain ⟨o0, o1, o2⟩ := tri8 (block_upW G9 Hr.out)
  clear g9 G9 HI2 s3 s4 s5
  go_wp2_with fail
  refine HOW.mono ?_
  rintro e t10 ⟨rfl, hk⟩
  have G10 : Below P4.heap.size P4 t10 := HB9.out.trans (hk.below)
  have HKE := kept_ok (.slice aw mw nw) (.slice a0 z0.length n0) z0 t10 (HLaB.out.below G10) (HA0B.out.below G10) (by omega)
  obtain ⟨k0, k1, k2⟩ := tri8 (show t10.heap[w.heap.size]? = some (.cells #[.bool b0, .slice a0 z0.length n0, .int .i64 p0] 24) from hk.box _ _ _ (by decide) (by decide) (block_upW HB9.out HAB.out))
  have HAW := awake8_any t10 (HTB.out.below G10)
  have HG10 := hide (bl_trans8 HWB.out G10)
  clear hk HOW G10 o0 o1 o2
  go_wp2_with fail
  refine HKE.mono ?_
  rintro e wn ⟨rfl, hw⟩; rw [hw]; clear hw wn HKE
  go_wp2_with fail
  refine HAW.mono ?_
  rintro e wz ⟨rfl, hbz⟩
  have HZ := hide (bl_trans8 HG10.out hbz)
  clear hbz HAW
  go_wp2
  go_ret
  exact ⟨rfl, HZ.out⟩

set_option maxRecDepth 20000 in
set_option maxHeartbeats 16000000 in
theorem ratios_t5b (b0 : Bool) (v0 : Value) (z0 : List Nat) (p0 : Int) (w : World) (hT : Tab w) (A0 : Arg w v0 z0) (s0 : z0.length ≤ 17592186043904) (_ : -9223372036854775808 ≤ p0) (_ : p0 ≤ 9223372036854775807) (hE0 : fitE p0 = true) (h1 : oe (zz b0 (val z0)) p0 < 0) (h2 : -67108864 ≤ oe (zz b0 (val z0)) p0) (h3 : blen (omz (zz b0 (val z0))).natAbs ≤ 67108864) (h4 : -(oe (zz b0 (val z0)) p0) = 67108864) :
    Calls Tryd.prog 4 #[.agg #[.bool b0, v0, .int .i64 p0]] w fun e w' => e = .returned (.bool true) ∧ Below w.heap.size w w' := by
  obtain ⟨a0, n0, rfl, _, _, _⟩ := A0.form
  obtain ⟨w0, hw0, hb0, h0⟩ := enter1 w (.cells #[.bool b0, .slice a0 z0.length n0, .int .i64 p0] 24)
  have HA := hide h0
  have HA0 := hide (A0.below hb0)
  have HT := hide (hT.below hb0)
  have HW := hide hb0
  clear hT hb0 h0
  have hEr := (fitE_iff p0).1 hE0
  have hbz : blen (zz b0 (val z0)).natAbs ≤ 64 * z0.length := by rw [zz_abs]; exact blen_len8 A0.limbs
  have hOE := oe_range (zz b0 (val z0)) p0 (by omega)
  have hge : -1099511627776 ≤ oe (zz b0 (val z0)) p0 := by unfold oe; split <;> omega
  have hl0 : blen (omz (zz b0 (val z0))).natAbs ≤ 1125899906809900 := by
    have h5 := blen_mono (od_le (zz b0 (val z0)).natAbs)
    rw [omz_abs]; omega
  have hN0 : oe (zz b0 (val z0)) p0 ≠ 0 → omz (zz b0 (val z0)) ≠ 0 := by
    intro h h2
    rcases nr8_of (zz b0 (val z0)) p0 with h3 | h3
    · exact h h3.2
    · rw [h2] at h3; simp at h3
  have HRT := hide (fun (en dn : Nat) (W : World) (a1 : Option Addr) (c1 : Nat) (hA : Arg W (.slice a1 z0.length c1) z0) (hT : Tab W) => yratio_ok b0 a1 c1 z0 p0 en dn W hA hT (by omega) hE0)
  obtain ⟨M0, hM0⟩ : ∃ M0, omz (zz b0 (val z0)) = M0 := ⟨_, rfl⟩
  obtain ⟨E0, hE0v⟩ : ∃ E0, oe (zz b0 (val z0)) p0 = E0 := ⟨_, rfl⟩
  rw [hM0] at hl0 hN0 HRT
  rw [hE0v] at hOE hN0 hge HRT
  have HM0 := hide hM0
  have HV0 := hide hE0v
  have HNZ := hide hN0
  obtain ⟨l, hl⟩ : ∃ l, blen M0.natAbs = l := ⟨_, rfl⟩
  have HLL := hide hl
  rw [hl] at hl0
  clear hN0
  rw [hE0v] at h1 h2
  rw [hM0, hl] at h3
  rw [hE0v] at h4
  obtain ⟨dn, hdn⟩ : ∃ dn : Nat, -E0 = (dn : Int) := ⟨(-E0).toNat, by omega⟩
  have hx1 : max E0 0 = ((0 : Nat) : Int) := by omega
  have hx2 : max (-E0) 0 = (dn : Int) := by omega
  have HBG : Hid (67108864 < blen (M0 * 2 ^ 0).natAbs ∨ 67108864 < blen (2 ^ dn)) := hide (.inr (by rw [blen_two]; omega))
  have i1 : decide (67108864 < E0) = false := decide_eq_false (by omega)
  have i1b : ¬ 67108864 < E0 := by omega
  have i3 : decide (E0 < -67108864) = false := decide_eq_false (by omega)
  have i3b : ¬ E0 < -67108864 := by omega
  have i4 : decide ((67108864 : Int) < (l : Int)) = false := decide_eq_false (by omega)
  have i4b : ¬ (67108864 : Int) < (l : Int) := by omega
  have i5 : decide (0 ≤ E0) = false := decide_eq_false (by omega)
  have i5b : ¬ 0 ≤ E0 := by omega
  have wn : IntKind.i64.wrap (-E0) = (dn : Int) := by rw [IntKind.wrap_i64]; omega
  have HX1 := hide hx1
  have HX2 := hide hx2
  clear hM0 hE0v hl hx1 hx2 hOE hbz hEr hge
  have HDN := hide hdn
  clear hdn h4
  clear A0
  go_enter Tryd.func4, Tryd.ntmps4
  obtain ⟨ca0, cb0, cc0⟩ := tri8 HA.out
  have C := lent8_any b0 a0 n0 z0 p0 w0 HA0.out (by omega)
  go_wp2_with fail
  refine C.mono ?_
  rintro e Q1 ⟨⟨aw, mw, nw, ax, cx, rfl, hL, hP⟩, hb⟩
  clear C ca0 cb0 cc0 hw0
  obtain ⟨P2, hP2, hbP, hx⟩ := enter1 Q1 (.cells #[.bool b0, .slice ax z0.length cx, .int .i64 p0] 29)
  have stp := bl_trans8 hb hbP
  replace HA := hide (block_upW stp HA.out)
  replace HA0 := hide (HA0.out.below stp)
  replace HT := hide (HT.out.below stp)
  replace HW := hid_below HW stp
  have HLa := hide (hL.below hbP)
  have HPx := hide (hP.below hbP)
  have HX := hide hx
  clear hL hP hb hbP hx stp
  obtain ⟨ca0, cb0, cc0⟩ := tri8 HA.out
  have C := of8_ok b0 a0 n0 z0 p0 P2 HA0.out (by omega) hE0
  rw [HM0.out, HV0.out] at C
  go_wp2_with fail
  refine C.mono ?_
  rintro e Q3 ⟨⟨bm, am, lm, km, rfl, hd⟩, hb⟩
  clear C ca0 cb0 cc0 hP2
  obtain ⟨P4, hP4, hbP, hx⟩ := enter1 Q3 (.cells #[.bool bm, .slice am lm km, .int .i64 E0] 36)
  have stp := bl_trans8 hb hbP
  replace HA := hide (block_upW stp HA.out)
  replace HX := hide (block_upW stp HX.out)
  replace HA0 := hide (HA0.out.below stp)
  replace HT := hide (HT.out.below stp)
  replace HLa := hide (HLa.out.below stp)
  replace HPx := hide (HPx.out.below stp)
  replace HW := hid_below HW stp
  have HDm := hide (hd.below hbP)
  have Hm := hide hx
  clear hd hb hbP hx stp
  have HBB : Hid (Below P4.heap.size P4 P4) := hide (Below.refl _ _)
  have HLaB := HLa
  have HA0B := HA0
  have HTB := HT
  have HWB := HW
  have HAB := HA
  obtain ⟨ca0, cb0, cc0⟩ := tri8 HX.out
  have C := (HRT.out 0 dn P4 ax cx HPx.out HT.out HX1.out HX2.out).mono fun _ _ h => h.big HBG.out
  clear HRT
  go_wp2_with fail
  refine C.mono ?_
  rintro e Q5 ⟨he, hb⟩
  clear C ca0 cb0 cc0 hP4
  obtain ⟨br, ar, lr, kr, ad, ld, kd, cr, rfl, hq⟩ : ∃ b a n k a2 n2 k2 c, e = .returned (.tuple #[.agg #[.bool b, .slice a n k, .slice a2 n2 k2], .int .i64 c]) ∧ (b = false ∧ a = none ∧ n = 0 ∧ k = 0 ∧ a2 = none ∧ n2 = 0 ∧ k2 = 0 ∧ c = 3) := ⟨_, _, _, _, _, _, _, _, he, rfl, rfl, rfl, rfl, rfl, rfl, rfl, rfl⟩
  have HQR := hide hq
  clear he hq
  obtain ⟨P6, hP6, hbP, hx⟩ := enter1 Q5 (.cells #[.bool br, .slice ar lr kr, .slice ad ld kd] 57)
  have stp := bl_trans8 hb hbP
  replace HA := hide (block_upW stp HA.out)
  replace HX := hide (block_upW stp HX.out)
  replace Hm := hide (block_upW stp Hm.out)
  replace HA0 := hide (HA0.out.below stp)
  replace HT := hide (HT.out.below stp)
  replace HLa := hide (HLa.out.below stp)
  replace HPx := hide (HPx.out.below stp)
  replace HDm := hide (HDm.out.below stp)
  replace HW := hid_below HW stp
  replace HBB := hid_below HBB stp
  have Hr := hide hx
  clear hb hbP hx stp
  have C := int_one P6
  go_wp2_with fail
  refine C.mono ?_
  rintro e Q7 ⟨⟨a9, n9, k9, rfl, hn9⟩, hb⟩
  clear C hP6
  replace HA := hide (block_upW hb HA.out)
  replace HX := hide (block_upW hb HX.out)
  replace Hm := hide (block_upW hb Hm.out)
  replace Hr := hide (block_upW hb Hr.out)
  replace HA0 := hide (HA0.out.below hb)
  replace HT := hide (HT.out.below hb)
  replace HLa := hide (HLa.out.below hb)
  replace HPx := hide (HPx.out.below hb)
  replace HDm := hide (HDm.out.below hb)
  replace HW := hid_below HW hb
  replace HBB := hid_below HBB hb
  have HN9 := hide hn9
  clear hb hn9
  obtain ⟨w7, w8, hw7, hw8, h7, h8, hb8⟩ := zero_box3 Q7 34
  have HU := hide hb8
  have HZZ := hide h8
  have hf7 := duof h7
  obtain ⟨y0, y1⟩ := duo h7
  clear h7 h8 hb8
  obtain ⟨v0, v1, v2⟩ := tri8 (block_upW HU.out Hm.out)
  have C := len_is (.slice am lm km) M0.natAbs l w8 (HDm.out.below HU.out).2 HLL.out
  go_wp2_with fail
  refine C.mono ?_
  rintro e wn ⟨rfl, hw⟩; rw [hw]; clear hw wn C hf7 y0 y1 hw7 hw8
  have SHL := (by have h := rshl_any (.slice a9 n9 k9) 1 dn w8.drew ((HN9.out.below HU.out).below (Below.refl _ _).drew) (by rw [blen_1]; have := HDN.out; omega); rw [Nat.one_mul] at h; exact h : Calls Tryd.prog 26 #[.slice a9 n9 k9, .int .i64 (dn : Int)] w8.drew _)
  have hneM : Q3.heap.size ≠ Q7.heap.size := by
    have h9 := lt_of_block Hm.out
    omega
  have gd : Below Q7.heap.size Q7 w8.drew := HU.out.drew
  have g0 : Below w8.drew.heap.size w8.drew w8.drew := Below.refl _ _
  have KS := hide (fun (W : World) (hg : Below w8.drew.heap.size w8.drew W) => show W.cell? ⟨Q3.heap.size, 0, none⟩ = some (.bool bm) ∧ W.cell? ⟨Q3.heap.size, 1, none⟩ = some (.slice am lm km) ∧ W.cell? ⟨Q3.heap.size, 2, none⟩ = some (.int .i64 E0) from tri8 (block_upW (bl_trans8 gd hg) Hm.out))
  have so : ∀ (W : World) (k : Nat) (u : Value) (k' : Nat), (W.setCell ⟨Q7.heap.size, k, none⟩ u).cell? ⟨Q3.heap.size, k', none⟩ = W.cell? ⟨Q3.heap.size, k', none⟩ := fun W k u k' => cell_other8 (by omega)
  have HZd := hide (show w8.drew.heap[Q7.heap.size]? = some (.cells #[.bool false, .slice none 0 0] 34) from HZZ.out)
  go_upto_region 20 with fail
  clear v0 v1 v2
  go_region_held3 (fun w' => w'.cell? ⟨Q3.heap.size, 0, none⟩ = some (.bool bm) ∧ w'.cell? ⟨Q3.heap.size, 1, none⟩ = some (.slice am lm km) ∧ w'.cell? ⟨Q3.heap.size, 2, none⟩ = some (.int .i64 E0)) (first | with_reducible exact KS.out _ g1 | with_reducible exact KS.out _ g0 | (refine ⟨?_, ?_, ?_⟩ <;> (rw [so, so]; first | exact (KS.out _ g1).1 | exact (KS.out _ g1).2.1 | exact (KS.out _ g1).2.2))) (first
    | (go_at_call 26; refine SHL.mono ?_; rintro e' t1 ⟨⟨v6, rfl, A6⟩, g1⟩; have hz := block_upW g1 HZd.out; have hfz := duof hz; obtain ⟨m0, m1⟩ := duo hz; obtain ⟨a6, n6, k6, rfl⟩ := A6.sl))
  have HU3 := hide (below_duo (bl_trans8 gd g1) (g := Q7.heap.size) (u0 := .bool bm) (u1 := .slice am lm km) (Nat.le_refl _))
  have HZ3 := hide (duo_all hz (a' := .bool bm) (b' := .slice am lm km))
  have HN6 := hide (A6.duo (p1 := bm) (r1 := .slice am lm km) hz)
  clear gd g0 g1 KS so HZd SHL hneM hz hfz m0 m1 A6
  generalize (t1.setCell ⟨Q7.heap.size, 0, none⟩ (.bool bm)).setCell ⟨Q7.heap.size, 1, none⟩ (.slice am lm km) = wc at *
  obtain ⟨q3, q4⟩ := duo HZ3.out
  have C := len_is (.slice am lm km) M0.natAbs l wc (HDm.out.below HU3.out).2 HLL.out
  go_wp2_with fail
  refine C.mono ?_
  rintro e wn ⟨rfl, hw⟩; rw [hw]; clear hw wn C
  have hdl : blen (2 ^ dn) = dn + 1 := blen_two dn
  have h9 : 67108864 < dn + 1 := by
    rcases HBG.out with h | h
    · rw [Int.pow_zero, Int.mul_one, HLL.out] at h; omega
    · rw [blen_two] at h; omega
  have i8 : decide ((67108864 : Int) < ((dn + 1 : Nat) : Int)) = true := decide_eq_true (by omega)
  have i8b : (67108864 : Int) < ((dn + 1 : Nat) : Int) := by omega
  clear h9
  generalize hd1 : dn + 1 = dl1 at *
  clear hd1
  have C := len_is (.slice a6 n6 k6) _ dl1 wc HN6.out hdl
  go_wp2_with fail
  refine C.mono ?_
  rintro e wn ⟨rfl, hw⟩; rw [hw]; clear hw wn C
  clear hdl
  clear q3 q4
  obtain ⟨s0, s1, s2⟩ := tri8 (block_upW HU3.out Hr.out)
  have C := num8_any cr wc
  go_wp2_with fail
  refine C.mono ?_
  rintro e wn ⟨rfl, hw⟩; rw [hw]; clear hw wn C
  obtain ⟨q1, q2, q3, q4, q5, q6, q7, q8⟩ := HQR.out
  subst q8 q1 q3 q6
  clear q2 q4 q5 q7
  have AW := awake8_any wc (HT.out.below HU3.out)
  go_wp2_with fail
  refine AW.mono ?_
  rintro e t9 ⟨rfl, hb9⟩
  have HFIN := hide (bl_trans8 (bl_trans8 HW.out HU3.out) hb9)
  clear AW hb9
  go_wp2
  go_ret
  exact ⟨rfl, HFIN.out⟩

set_option maxRecDepth 20000 in
set_option maxHeartbeats 16000000 in
theorem ratios_t5f (b0 : Bool) (v0 : Value) (z0 : List Nat) (p0 : Int) (w : World) (hT : Tab w) (A0 : Arg w v0 z0) (s0 : z0.length ≤ 17592186043904) (_ : -9223372036854775808 ≤ p0) (_ : p0 ≤ 9223372036854775807) (hE0 : fitE p0 = true) (h1 : oe (zz b0 (val z0)) p0 < 0) (h2 : -67108864 ≤ oe (zz b0 (val z0)) p0) (h3 : blen (omz (zz b0 (val z0))).natAbs ≤ 67108864) (h4 : -(oe (zz b0 (val z0)) p0) < 67108864) :
    Calls Tryd.prog 4 #[.agg #[.bool b0, v0, .int .i64 p0]] w fun e w' => e = .returned (.bool true) ∧ Below w.heap.size w w' := by
  obtain ⟨a0, n0, rfl, _, _, _⟩ := A0.form
  obtain ⟨w0, hw0, hb0, h0⟩ := enter1 w (.cells #[.bool b0, .slice a0 z0.length n0, .int .i64 p0] 24)
  have HA := hide h0
  have HA0 := hide (A0.below hb0)
  have HT := hide (hT.below hb0)
  have HW := hide hb0
  clear hT hb0 h0
  have hEr := (fitE_iff p0).1 hE0
  have hbz : blen (zz b0 (val z0)).natAbs ≤ 64 * z0.length := by rw [zz_abs]; exact blen_len8 A0.limbs
  have hOE := oe_range (zz b0 (val z0)) p0 (by omega)
  have hge : -1099511627776 ≤ oe (zz b0 (val z0)) p0 := by unfold oe; split <;> omega
  have hl0 : blen (omz (zz b0 (val z0))).natAbs ≤ 1125899906809900 := by
    have h5 := blen_mono (od_le (zz b0 (val z0)).natAbs)
    rw [omz_abs]; omega
  have hN0 : oe (zz b0 (val z0)) p0 ≠ 0 → omz (zz b0 (val z0)) ≠ 0 := by
    intro h h2
    rcases nr8_of (zz b0 (val z0)) p0 with h3 | h3
    · exact h h3.2
    · rw [h2] at h3; simp at h3
  have HRT := hide (fun (en dn : Nat) (W : World) (a1 : Option Addr) (c1 : Nat) (hA : Arg W (.slice a1 z0.length c1) z0) (hT : Tab W) => yratio_ok b0 a1 c1 z0 p0 en dn W hA hT (by omega) hE0)
  obtain ⟨M0, hM0⟩ : ∃ M0, omz (zz b0 (val z0)) = M0 := ⟨_, rfl⟩
  obtain ⟨E0, hE0v⟩ : ∃ E0, oe (zz b0 (val z0)) p0 = E0 := ⟨_, rfl⟩
  rw [hM0] at hl0 hN0 HRT
  rw [hE0v] at hOE hN0 hge HRT
  have HM0 := hide hM0
  have HV0 := hide hE0v
  have HNZ := hide hN0
  obtain ⟨l, hl⟩ : ∃ l, blen M0.natAbs = l := ⟨_, rfl⟩
  have HLL := hide hl
  rw [hl] at hl0
  clear hN0
  rw [hE0v] at h1 h2
  rw [hM0, hl] at h3
  rw [hE0v] at h4
  obtain ⟨dn, hdn⟩ : ∃ dn : Nat, -E0 = (dn : Int) := ⟨(-E0).toNat, by omega⟩
  have hx1 : max E0 0 = ((0 : Nat) : Int) := by omega
  have hx2 : max (-E0) 0 = (dn : Int) := by omega
  have HF1 : Hid (blen (M0 * 2 ^ 0).natAbs ≤ 67108864) := hide (by rw [Int.pow_zero, Int.mul_one, hl]; exact h3)
  have HF2 : Hid (blen (2 ^ dn) ≤ 67108864) := hide (by rw [blen_two]; omega)
  have i1 : decide (67108864 < E0) = false := decide_eq_false (by omega)
  have i1b : ¬ 67108864 < E0 := by omega
  have i3 : decide (E0 < -67108864) = false := decide_eq_false (by omega)
  have i3b : ¬ E0 < -67108864 := by omega
  have i4 : decide ((67108864 : Int) < (l : Int)) = false := decide_eq_false (by omega)
  have i4b : ¬ (67108864 : Int) < (l : Int) := by omega
  have i5 : decide (0 ≤ E0) = false := decide_eq_false (by omega)
  have i5b : ¬ 0 ≤ E0 := by omega
  have wn : IntKind.i64.wrap (-E0) = (dn : Int) := by rw [IntKind.wrap_i64]; omega
  have HX1 := hide hx1
  have HX2 := hide hx2
  clear hM0 hE0v hl hx1 hx2 hOE hbz hEr hge
  have HDN := hide hdn
  clear hdn h4
  clear A0
  go_enter Tryd.func4, Tryd.ntmps4
  obtain ⟨ca0, cb0, cc0⟩ := tri8 HA.out
  have C := lent8_any b0 a0 n0 z0 p0 w0 HA0.out (by omega)
  go_wp2_with fail
  refine C.mono ?_
  rintro e Q1 ⟨⟨aw, mw, nw, ax, cx, rfl, hL, hP⟩, hb⟩
  clear C ca0 cb0 cc0 hw0
  obtain ⟨P2, hP2, hbP, hx⟩ := enter1 Q1 (.cells #[.bool b0, .slice ax z0.length cx, .int .i64 p0] 29)
  have stp := bl_trans8 hb hbP
  replace HA := hide (block_upW stp HA.out)
  replace HA0 := hide (HA0.out.below stp)
  replace HT := hide (HT.out.below stp)
  replace HW := hid_below HW stp
  have HLa := hide (hL.below hbP)
  have HPx := hide (hP.below hbP)
  have HX := hide hx
  clear hL hP hb hbP hx stp
  obtain ⟨ca0, cb0, cc0⟩ := tri8 HA.out
  have C := of8_ok b0 a0 n0 z0 p0 P2 HA0.out (by omega) hE0
  rw [HM0.out, HV0.out] at C
  go_wp2_with fail
  refine C.mono ?_
  rintro e Q3 ⟨⟨bm, am, lm, km, rfl, hd⟩, hb⟩
  clear C ca0 cb0 cc0 hP2
  obtain ⟨P4, hP4, hbP, hx⟩ := enter1 Q3 (.cells #[.bool bm, .slice am lm km, .int .i64 E0] 36)
  have stp := bl_trans8 hb hbP
  replace HA := hide (block_upW stp HA.out)
  replace HX := hide (block_upW stp HX.out)
  replace HA0 := hide (HA0.out.below stp)
  replace HT := hide (HT.out.below stp)
  replace HLa := hide (HLa.out.below stp)
  replace HPx := hide (HPx.out.below stp)
  replace HW := hid_below HW stp
  have HDm := hide (hd.below hbP)
  have Hm := hide hx
  clear hd hb hbP hx stp
  have HBB : Hid (Below P4.heap.size P4 P4) := hide (Below.refl _ _)
  have HLaB := HLa
  have HA0B := HA0
  have HTB := HT
  have HWB := HW
  have HAB := HA
  obtain ⟨ca0, cb0, cc0⟩ := tri8 HX.out
  have C := (HRT.out 0 dn P4 ax cx HPx.out HT.out HX1.out HX2.out).mono fun _ _ h => h.fits HF1.out HF2.out
  clear HRT
  generalize hNN : M0 * 2 ^ 0 = NN at *
  generalize hDD : 2 ^ dn = DD at *
  have HNN := hide hNN
  have HDD := hide hDD
  clear hNN hDD
  go_wp2_with fail
  refine C.mono ?_
  rintro e Q5 ⟨⟨br, ar, lr, kr, ad, ld, kd, rfl, hbr, rs, ds, hch, hv1, ht1, hv2, ht2, hl1, hl2⟩, hb⟩
  clear C ca0 cb0 cc0 hP4
  have HFR := hide (And.intro hbr (And.intro hv1 (And.intro ht1 (And.intro hv2 ht2))))
  clear hbr hv1 ht1 hv2 ht2
  obtain ⟨P6, hP6, hbP, hx⟩ := enter1 Q5 (.cells #[.bool br, .slice ar lr kr, .slice ad ld kd] 57)
  have stp := bl_trans8 hb hbP
  have Ch := hch.below hbP
  replace HA := hide (block_upW stp HA.out)
  replace HX := hide (block_upW stp HX.out)
  replace Hm := hide (block_upW stp Hm.out)
  replace HA0 := hide (HA0.out.below stp)
  replace HT := hide (HT.out.below stp)
  replace HLa := hide (HLa.out.below stp)
  replace HPx := hide (HPx.out.below stp)
  replace HDm := hide (HDm.out.below stp)
  replace HW := hid_below HW stp
  replace HBB := hid_below HBB stp
  have Hr := hide hx
  clear hb hbP hx stp hch
  have C := int_one P6
  go_wp2_with fail
  refine C.mono ?_
  rintro e Q7 ⟨⟨a9, n9, k9, rfl, hn9⟩, hb⟩
  clear C hP6
  replace HA := hide (block_upW hb HA.out)
  replace HX := hide (block_upW hb HX.out)
  replace Hm := hide (block_upW hb Hm.out)
  replace Hr := hide (block_upW hb Hr.out)
  replace HA0 := hide (HA0.out.below hb)
  replace HT := hide (HT.out.below hb)
  replace HLa := hide (HLa.out.below hb)
  replace HPx := hide (HPx.out.below hb)
  replace HDm := hide (HDm.out.below hb)
  replace HW := hid_below HW hb
  replace HBB := hid_below HBB hb
  replace Ch := Ch.below hb
  have HN9 := hide hn9
  clear hb hn9
  obtain ⟨w7, w8, hw7, hw8, h7, h8, hb8⟩ := zero_box3 Q7 34
  have HU := hide hb8
  have HZZ := hide h8
  have hf7 := duof h7
  obtain ⟨y0, y1⟩ := duo h7
  clear h7 h8 hb8
  obtain ⟨v0, v1, v2⟩ := tri8 (block_upW HU.out Hm.out)
  have C := len_is (.slice am lm km) M0.natAbs l w8 (HDm.out.below HU.out).2 HLL.out
  go_wp2_with fail
  refine C.mono ?_
  rintro e wn ⟨rfl, hw⟩; rw [hw]; clear hw wn C hf7 y0 y1 hw7 hw8
  have SHL := (by have h := rshl_any (.slice a9 n9 k9) 1 dn w8.drew ((HN9.out.below HU.out).below (Below.refl _ _).drew) (by rw [blen_1]; have := HDN.out; omega); rw [Nat.one_mul] at h; exact h : Calls Tryd.prog 26 #[.slice a9 n9 k9, .int .i64 (dn : Int)] w8.drew _)
  rw [HDD.out] at SHL
  have hneM : Q3.heap.size ≠ Q7.heap.size := by
    have h9 := lt_of_block Hm.out
    omega
  have gd : Below Q7.heap.size Q7 w8.drew := HU.out.drew
  have g0 : Below w8.drew.heap.size w8.drew w8.drew := Below.refl _ _
  have KS := hide (fun (W : World) (hg : Below w8.drew.heap.size w8.drew W) => show W.cell? ⟨Q3.heap.size, 0, none⟩ = some (.bool bm) ∧ W.cell? ⟨Q3.heap.size, 1, none⟩ = some (.slice am lm km) ∧ W.cell? ⟨Q3.heap.size, 2, none⟩ = some (.int .i64 E0) from tri8 (block_upW (bl_trans8 gd hg) Hm.out))
  have so : ∀ (W : World) (k : Nat) (u : Value) (k' : Nat), (W.setCell ⟨Q7.heap.size, k, none⟩ u).cell? ⟨Q3.heap.size, k', none⟩ = W.cell? ⟨Q3.heap.size, k', none⟩ := fun W k u k' => cell_other8 (by omega)
  have HZd := hide (show w8.drew.heap[Q7.heap.size]? = some (.cells #[.bool false, .slice none 0 0] 34) from HZZ.out)
  go_upto_region 20 with fail
  clear v0 v1 v2
  go_region_held3 (fun w' => w'.cell? ⟨Q3.heap.size, 0, none⟩ = some (.bool bm) ∧ w'.cell? ⟨Q3.heap.size, 1, none⟩ = some (.slice am lm km) ∧ w'.cell? ⟨Q3.heap.size, 2, none⟩ = some (.int .i64 E0)) (first | with_reducible exact KS.out _ g1 | with_reducible exact KS.out _ g0 | (refine ⟨?_, ?_, ?_⟩ <;> (rw [so, so]; first | exact (KS.out _ g1).1 | exact (KS.out _ g1).2.1 | exact (KS.out _ g1).2.2))) (first
    | (go_at_call 26; refine SHL.mono ?_; rintro e' t1 ⟨⟨v6, rfl, A6⟩, g1⟩; have hz := block_upW g1 HZd.out; have hfz := duof hz; obtain ⟨m0, m1⟩ := duo hz; obtain ⟨a6, n6, k6, rfl⟩ := A6.sl))
  have HU3 := hide (below_duo (bl_trans8 gd g1) (g := Q7.heap.size) (u0 := .bool bm) (u1 := .slice am lm km) (Nat.le_refl _))
  have HZ3 := hide (duo_all hz (a' := .bool bm) (b' := .slice am lm km))
  have HN6 := hide (A6.duo (p1 := bm) (r1 := .slice am lm km) hz)
  clear gd g0 g1 KS so HZd SHL hneM hz hfz m0 m1 A6
  generalize (t1.setCell ⟨Q7.heap.size, 0, none⟩ (.bool bm)).setCell ⟨Q7.heap.size, 1, none⟩ (.slice am lm km) = wc at *
  obtain ⟨q3, q4⟩ := duo HZ3.out
  have C := len_is (.slice am lm km) M0.natAbs l wc (HDm.out.below HU3.out).2 HLL.out
  go_wp2_with fail
  refine C.mono ?_
  rintro e wn ⟨rfl, hw⟩; rw [hw]; clear hw wn C
  have hdl : blen DD = dn + 1 := by rw [← HDD.out, blen_two]
  have i8 : decide ((67108864 : Int) < ((dn + 1 : Nat) : Int)) = false := decide_eq_false (by have := HF2.out; omega)
  have i8b : ¬ (67108864 : Int) < ((dn + 1 : Nat) : Int) := by have := HF2.out; omega
  generalize hd1 : dn + 1 = dl1 at *
  clear hd1
  have C := len_is (.slice a6 n6 k6) _ dl1 wc HN6.out hdl
  go_wp2_with fail
  refine C.mono ?_
  rintro e wn ⟨rfl, hw⟩; rw [hw]; clear hw wn C
  clear hdl
  clear q3 q4
  obtain ⟨s0, s1, s2⟩ := tri8 (block_upW HU3.out Hr.out)
  obtain ⟨q3, q4⟩ := duo HZ3.out
  obtain ⟨hbr, hv1, ht1, hv2, ht2⟩ := HFR.out
  have C := num8_any 0 wc
  go_wp2_with fail
  refine C.mono ?_
  rintro e wn ⟨rfl, hw⟩; rw [hw]; clear hw wn C
  have HAp := hide Ch.aparts
  have HIS := rzis_any (.agg #[.bool bm, .slice am lm km]) NN (.slice ar lr kr) rs wc (show Zn wc (.agg #[.bool bm, .slice am lm km]) NN from (by rw [← HNN.out, Int.pow_zero, Int.mul_one]; exact (HDm.out.below HU3.out).zn)) (((HAp.out.row 0 (by simp)).below HU3.out).arg (by have : rs.length ≤ 1048576 := hl1; simp; omega)) ht1 hv1 (by have := HF1.out; omega)
  rw [← hbr] at HIS
  clear hbr
  go_wp2_with fail
  refine HIS.mono ?_
  rintro e t3 ⟨rfl, hb⟩
  have HU4 := hide (bl_trans8 HU3.out hb)
  have HD4 : Num t3 (.slice a6 n6 k6) DD := HN6.out.below hb
  have HI2 := is_true (.slice a6 n6 k6) (.slice ad ld kd) DD ds t3 HD4 (((HAp.out.row 1 (by simp)).below HU4.out).arg (by have : ds.length ≤ 1048576 := hl2; simp; omega)) ht2 hv2 (by have := HF2.out; omega)
  obtain ⟨s3, s4, s5⟩ := tri8 (block_upW HU4.out Hr.out)
  clear HIS hb s0 s1 s2 q3 q4 hv1 ht1 hv2 ht2 HD4
  go_wp2_with fail
  refine HI2.mono ?_
  rintro e t9 ⟨rfl, g9⟩
  have G9 := bl_trans8 HU4.out g9
  have HC9 := hide (Ch.below G9)
  have HB9 := hide (bl_trans8 HBB.out G9)
  have HOW := own_aparts P4.heap.size [.slice ar lr kr, .slice ad ld kd] [rs, ds] t9 HC9.out.aparts (by simp) (by simp; omega) HB9.out.size
  obtain ⟨o0, o1, o2⟩ := tri8 (block_upW G9 Hr.out)
  clear g9 G9 HI2 s3 s4 s5
  go_wp2_with fail
  refine HOW.mono ?_
  rintro e t10 ⟨rfl, hk⟩
  have G10 : Below P4.heap.size P4 t10 := HB9.out.trans (hk.below)
  have HKE := kept_ok (.slice aw mw nw) (.slice a0 z0.length n0) z0 t10 (HLaB.out.below G10) (HA0B.out.below G10) (by omega)
  obtain ⟨k0, k1, k2⟩ := tri8 (show t10.heap[w.heap.size]? = some (.cells #[.bool b0, .slice a0 z0.length n0, .int .i64 p0] 24) from hk.box _ _ _ (by decide) (by decide) (block_upW HB9.out HAB.out))
  have HAW := awake8_any t10 (HTB.out.below G10)
  have HG10 := hide (bl_trans8 HWB.out G10)
  clear hk HOW G10 o0 o1 o2
  go_wp2_with fail
  refine HKE.mono ?_
  rintro e wn ⟨rfl, hw⟩; rw [hw]; clear hw wn HKE
  go_wp2_with fail
  refine HAW.mono ?_
  rintro e wz ⟨rfl, hbz⟩
  have HZ := hide (bl_trans8 HG10.out hbz)
  clear hbz HAW
  go_wp2
  go_ret
  exact ⟨rfl, HZ.out⟩

set_option maxRecDepth 20000 in
set_option maxHeartbeats 16000000 in
theorem dyadicRatios_walk (b0 : Bool) (v0 : Value) (z0 : List Nat) (p0 : Int) (w : World) (hT : Tab w) (A0 : Arg w v0 z0) (s0 : z0.length ≤ 17592186043904) (lo : -9223372036854775808 ≤ p0) (hi : p0 ≤ 9223372036854775807) :
    Calls Tryd.prog 4 #[.agg #[.bool b0, v0, .int .i64 p0]] w fun e w' => e = .returned (.bool true) ∧ Below w.heap.size w w' := by
  cases hE : fitE p0
  · exact ratios_no b0 v0 z0 p0 w hT A0 s0 lo hi hE
  · by_cases h1 : 67108864 < oe (zz b0 (val z0)) p0
    · exact ratios_t1 b0 v0 z0 p0 w hT A0 s0 lo hi hE h1
    by_cases h2 : oe (zz b0 (val z0)) p0 < -67108864
    · exact ratios_t2 b0 v0 z0 p0 w hT A0 s0 lo hi hE h2
    by_cases h3 : 67108864 < blen (omz (zz b0 (val z0))).natAbs
    · exact ratios_t3 b0 v0 z0 p0 w hT A0 s0 lo hi hE (by omega) (by omega) h3
    by_cases h4 : 0 ≤ oe (zz b0 (val z0)) p0
    · by_cases h5 : blen (omz (zz b0 (val z0)) * 2 ^ (oe (zz b0 (val z0)) p0).toNat).natAbs ≤ 67108864
      · exact ratios_t4f b0 v0 z0 p0 w hT A0 s0 lo hi hE (by omega) h4 (by omega) h5
      · exact ratios_t4b b0 v0 z0 p0 w hT A0 s0 lo hi hE (by omega) h4 (by omega) (by omega)
    · by_cases h5 : -(oe (zz b0 (val z0)) p0) < 67108864
      · exact ratios_t5f b0 v0 z0 p0 w hT A0 s0 lo hi hE (by omega) (by omega) (by omega) h5
      · exact ratios_t5b b0 v0 z0 p0 w hT A0 s0 lo hi hE (by omega) (by omega) (by omega) (by omega)

end Go.Proofs.YtemajaclpkgpbaaDoor
