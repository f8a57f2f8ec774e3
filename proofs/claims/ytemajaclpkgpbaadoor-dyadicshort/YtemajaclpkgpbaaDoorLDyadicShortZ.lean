/- The walk of the law DyadicShort. -/
import Derived.Test.YtemajaclpkgpbaaDoorDyDmZ
import Derived.Test.YtemajaclpkgpbaaDoorDyJZ
namespace Go.Proofs.YtemajaclpkgpbaaDoor
open Go.RowKit
open Lm
attribute [local go_sem ↓] Go.wp_at_zero Go.wp_at_succ

theorem T8.mk8 {w : World} {b : Bool} {a : Option Addr} {n c : Nat} {M E : Int} {L : Nat} {V : Int} (h : Dn w b (.slice a n c) M) (hr : Rp L M E V) (hn : Nr8 M E) (hb : blen M.natAbs ≤ 4000000000000) (h1 : -1125899906842624 * 4 ≤ E) (h2 : E ≤ 1125899906842624 * 4) : T8 w b a n c E L V := ⟨M, h, hr, hn, hb, by omega, by omega⟩

theorem cmpZ_self (z : Int) : cmpZ z z = 0 := by unfold cmpZ; rw [if_neg (by omega), if_neg (by omega)]

theorem G8.fit8 {w : World} {b : Bool} {a : Option Addr} {n k : Nat} {ex : Int} {L : Nat} {V : Int} (h : G8 w b a n k ex L V) : -1099511627776 ≤ ex ∧ ex ≤ 1099511627776 := by
  obtain ⟨_, _, _, _, _, _, _, _, hf⟩ := h
  exact (fitE_iff ex).1 hf

theorem Rp.fine9 {L : Nat} {M E V : Int} (h : Rp L M E V) (s : Nat) : Rp (L + s) M (E - (s : Int)) V := by
  obtain ⟨h1, h2⟩ := h
  refine ⟨by omega, ?_⟩
  rw [← h2]
  congr 2
  omega

set_option maxRecDepth 20000 in
set_option maxHeartbeats 16000000 in
theorem short_no (b0 : Bool) (v0 : Value) (z0 : List Nat) (p0 : Int) (bits m : Int) (w : World) (hT : Tab w) (A0 : Arg w v0 z0) (_ : z0.length ≤ 17592186043904) (_ : -9223372036854775808 ≤ p0) (_ : p0 ≤ 9223372036854775807) (_ : -9223372036854775808 ≤ bits) (_ : bits ≤ 9223372036854775807) (_ : -9223372036854775808 ≤ m) (_ : m ≤ 9223372036854775807) (hE0 : fitE p0 = false) :
    Calls Tryd.prog 6 #[.agg #[.bool b0, v0, .int .i64 p0], .int .i64 bits, .int .i64 m] w fun e w' => e = .returned (.bool true) ∧ Below w.heap.size w w' := by
  obtain ⟨a0, n0, rfl, _, _, _⟩ := A0.form
  obtain ⟨w0, hw0, hb0, h0⟩ := enter1 w (.cells #[.bool b0, .slice a0 z0.length n0, .int .i64 p0] 24)
  have HA := hide h0
  have HA0 := hide (A0.below hb0)
  have HT := hide (hT.below hb0)
  have HW := hide hb0
  clear hT hb0 h0
  clear A0
  go_enter Tryd.func6, Tryd.ntmps6
  obtain ⟨ca0, cb0, cc0⟩ := tri8 HA.out
  have C := of8_no b0 a0 z0.length n0 p0 w0 hE0
  go_wp2_with fail
  refine C.mono ?_
  rintro e Q1 ⟨he, hb⟩
  clear C ca0 cb0 cc0 hw0
  obtain ⟨bm, am, lm, km, em, rfl⟩ : ∃ b a n k ex, e = .returned (.tuple #[.agg #[.bool b, .slice a n k, .int .i64 ex], .bool false]) := ⟨_, _, _, _, _, he⟩
  clear he
  obtain ⟨P2, hP2, hbP, hx⟩ := enter1 Q1 (.cells #[.bool bm, .slice am lm km, .int .i64 em] 36)
  have stp := bl_trans8 hb hbP
  replace HA := hide (block_upW stp HA.out)
  replace HA0 := hide (HA0.out.below stp)
  replace HT := hide (HT.out.below stp)
  replace HW := hid_below HW stp
  have Hm := hide hx
  clear hb hbP hx stp
  have AW := awake8_any P2 HT.out
  go_wp2_with fail
  refine AW.mono ?_
  rintro e t9 ⟨rfl, hb9⟩
  have HFIN := hide (bl_trans8 HW.out hb9)
  clear AW hb9 hP2
  go_wp2
  go_ret
  exact ⟨rfl, HFIN.out⟩

set_option maxRecDepth 20000 in
set_option maxHeartbeats 16000000 in
theorem short_b1 (b0 : Bool) (v0 : Value) (z0 : List Nat) (p0 : Int) (bits m : Int) (w : World) (hT : Tab w) (A0 : Arg w v0 z0) (s0 : z0.length ≤ 17592186043904) (_ : -9223372036854775808 ≤ p0) (_ : p0 ≤ 9223372036854775807) (_ : -9223372036854775808 ≤ bits) (_ : bits ≤ 9223372036854775807) (_ : -9223372036854775808 ≤ m) (_ : m ≤ 9223372036854775807) (hE0 : fitE p0 = true) (hd : bits < 1) :
    Calls Tryd.prog 6 #[.agg #[.bool b0, v0, .int .i64 p0], .int .i64 bits, .int .i64 m] w fun e w' => e = .returned (.bool true) ∧ Below w.heap.size w w' := by
  obtain ⟨a0, n0, rfl, _, _, _⟩ := A0.form
  obtain ⟨w0, hw0, hb0, h0⟩ := enter1 w (.cells #[.bool b0, .slice a0 z0.length n0, .int .i64 p0] 24)
  have HA := hide h0
  have HA0 := hide (A0.below hb0)
  have HT := hide (hT.below hb0)
  have HW := hide hb0
  clear hT hb0 h0
  obtain ⟨M0, hM0⟩ : ∃ M0, omz (zz b0 (val z0)) = M0 := ⟨_, rfl⟩
  obtain ⟨E0, hE0v⟩ : ∃ E0, oe (zz b0 (val z0)) p0 = E0 := ⟨_, rfl⟩
  have HM0 := hide hM0
  have HV0 := hide hE0v
  clear hM0 hE0v
  clear A0
  have i1 : decide (bits < 1) = true := decide_eq_true hd
  go_enter Tryd.func6, Tryd.ntmps6
  obtain ⟨ca0, cb0, cc0⟩ := tri8 HA.out
  have C := of8_ok b0 a0 n0 z0 p0 w0 HA0.out (by omega) hE0
  rw [HM0.out, HV0.out] at C
  go_wp2_with fail
  refine C.mono ?_
  rintro e Q1 ⟨⟨bm, am, lm, km, rfl, hd0⟩, hb⟩
  clear C ca0 cb0 cc0 hw0
  obtain ⟨P2, hP2, hbP, hx⟩ := enter1 Q1 (.cells #[.bool bm, .slice am lm km, .int .i64 E0] 36)
  have stp := bl_trans8 hb hbP
  replace HA := hide (block_upW stp HA.out)
  replace HA0 := hide (HA0.out.below stp)
  replace HT := hide (HT.out.below stp)
  replace HW := hid_below HW stp
  have HDm := hide (hd0.below hbP)
  have Hm := hide hx
  clear hd0 hb hbP hx stp
  have AW := awake8_any P2 HT.out
  go_wp2_with fail
  refine AW.mono ?_
  rintro e t9 ⟨rfl, hb9⟩
  have HFIN := hide (bl_trans8 HW.out hb9)
  clear AW hb9 hP2
  go_wp2
  go_ret
  exact ⟨rfl, HFIN.out⟩

set_option maxRecDepth 20000 in
set_option maxHeartbeats 16000000 in
theorem short_b2 (b0 : Bool) (v0 : Value) (z0 : List Nat) (p0 : Int) (bits m : Int) (w : World) (hT : Tab w) (A0 : Arg w v0 z0) (s0 : z0.length ≤ 17592186043904) (_ : -9223372036854775808 ≤ p0) (_ : p0 ≤ 9223372036854775807) (_ : -9223372036854775808 ≤ bits) (_ : bits ≤ 9223372036854775807) (_ : -9223372036854775808 ≤ m) (_ : m ≤ 9223372036854775807) (hE0 : fitE p0 = true) (hK : 1 ≤ bits) (hd : 1048576 < bits) :
    Calls Tryd.prog 6 #[.agg #[.bool b0, v0, .int .i64 p0], .int .i64 bits, .int .i64 m] w fun e w' => e = .returned (.bool true) ∧ Below w.heap.size w w' := by
  obtain ⟨a0, n0, rfl, _, _, _⟩ := A0.form
  obtain ⟨w0, hw0, hb0, h0⟩ := enter1 w (.cells #[.bool b0, .slice a0 z0.length n0, .int .i64 p0] 24)
  have HA := hide h0
  have HA0 := hide (A0.below hb0)
  have HT := hide (hT.below hb0)
  have HW := hide hb0
  clear hT hb0 h0
  obtain ⟨M0, hM0⟩ : ∃ M0, omz (zz b0 (val z0)) = M0 := ⟨_, rfl⟩
  obtain ⟨E0, hE0v⟩ : ∃ E0, oe (zz b0 (val z0)) p0 = E0 := ⟨_, rfl⟩
  have HM0 := hide hM0
  have HV0 := hide hE0v
  clear hM0 hE0v
  clear A0
  have i1 : decide (bits < 1) = false := decide_eq_false (by omega)
  have i1b : ¬ bits < 1 := by omega
  have i2 : decide (1048576 < bits) = true := decide_eq_true hd
  go_enter Tryd.func6, Tryd.ntmps6
  obtain ⟨ca0, cb0, cc0⟩ := tri8 HA.out
  have C := of8_ok b0 a0 n0 z0 p0 w0 HA0.out (by omega) hE0
  rw [HM0.out, HV0.out] at C
  go_wp2_with fail
  refine C.mono ?_
  rintro e Q1 ⟨⟨bm, am, lm, km, rfl, hd0⟩, hb⟩
  clear C ca0 cb0 cc0 hw0
  obtain ⟨P2, hP2, hbP, hx⟩ := enter1 Q1 (.cells #[.bool bm, .slice am lm km, .int .i64 E0] 36)
  have stp := bl_trans8 hb hbP
  replace HA := hide (block_upW stp HA.out)
  replace HA0 := hide (HA0.out.below stp)
  replace HT := hide (HT.out.below stp)
  replace HW := hid_below HW stp
  have HDm := hide (hd0.below hbP)
  have Hm := hide hx
  clear hd0 hb hbP hx stp
  have AW := awake8_any P2 HT.out
  go_wp2_with fail
  refine AW.mono ?_
  rintro e t9 ⟨rfl, hb9⟩
  have HFIN := hide (bl_trans8 HW.out hb9)
  clear AW hb9 hP2
  go_wp2
  go_ret
  exact ⟨rfl, HFIN.out⟩

set_option maxRecDepth 20000 in
set_option maxHeartbeats 16000000 in
theorem short_m (b0 : Bool) (v0 : Value) (z0 : List Nat) (p0 : Int) (bits m : Int) (w : World) (hT : Tab w) (A0 : Arg w v0 z0) (s0 : z0.length ≤ 17592186043904) (_ : -9223372036854775808 ≤ p0) (_ : p0 ≤ 9223372036854775807) (_ : -9223372036854775808 ≤ bits) (_ : bits ≤ 9223372036854775807) (_ : -9223372036854775808 ≤ m) (_ : m ≤ 9223372036854775807) (hE0 : fitE p0 = true) (hK : 1 ≤ bits) (hK2 : bits ≤ 1048576) (hM : isM m = false) :
    Calls Tryd.prog 6 #[.agg #[.bool b0, v0, .int .i64 p0], .int .i64 bits, .int .i64 m] w fun e w' => e = .returned (.bool true) ∧ Below w.heap.size w w' := by
  obtain ⟨a0, n0, rfl, _, _, _⟩ := A0.form
  obtain ⟨w0, hw0, hb0, h0⟩ := enter1 w (.cells #[.bool b0, .slice a0 z0.length n0, .int .i64 p0] 24)
  have HA := hide h0
  have HA0 := hide (A0.below hb0)
  have HT := hide (hT.below hb0)
  have HW := hide hb0
  clear hT hb0 h0
  obtain ⟨M0, hM0⟩ : ∃ M0, omz (zz b0 (val z0)) = M0 := ⟨_, rfl⟩
  obtain ⟨E0, hE0v⟩ : ∃ E0, oe (zz b0 (val z0)) p0 = E0 := ⟨_, rfl⟩
  have HM0 := hide hM0
  have HV0 := hide hE0v
  clear hM0 hE0v
  clear A0
  have i1 : decide (bits < 1) = false := decide_eq_false (by omega)
  have i1b : ¬ bits < 1 := by omega
  have i2 : decide (1048576 < bits) = false := decide_eq_false (by omega)
  have i2b : ¬ 1048576 < bits := by omega
  go_enter Tryd.func6, Tryd.ntmps6
  obtain ⟨ca0, cb0, cc0⟩ := tri8 HA.out
  have C := of8_ok b0 a0 n0 z0 p0 w0 HA0.out (by omega) hE0
  rw [HM0.out, HV0.out] at C
  go_wp2_with fail
  refine C.mono ?_
  rintro e Q1 ⟨⟨bm, am, lm, km, rfl, hd0⟩, hb⟩
  clear C ca0 cb0 cc0 hw0
  obtain ⟨P2, hP2, hbP, hx⟩ := enter1 Q1 (.cells #[.bool bm, .slice am lm km, .int .i64 E0] 36)
  have stp := bl_trans8 hb hbP
  replace HA := hide (block_upW stp HA.out)
  replace HA0 := hide (HA0.out.below stp)
  replace HT := hide (HT.out.below stp)
  replace HW := hid_below HW stp
  have HDm := hide (hd0.below hbP)
  have Hm := hide hx
  clear hd0 hb hbP hx stp
  have C := mode8_any m P2
  rw [hM] at C
  go_wp2_with fail
  refine C.mono ?_
  rintro e wn ⟨rfl, hw⟩; rw [hw]; clear hw wn C hP2
  have AW := awake8_any P2 HT.out
  go_wp2_with fail
  refine AW.mono ?_
  rintro e t9 ⟨rfl, hb9⟩
  have HFIN := hide (bl_trans8 HW.out hb9)
  clear AW hb9
  go_wp2
  go_ret
  exact ⟨rfl, HFIN.out⟩

set_option maxRecDepth 20000 in
set_option maxHeartbeats 16000000 in
theorem short_few (b0 : Bool) (v0 : Value) (z0 : List Nat) (p0 : Int) (bits m : Int) (w : World) (hT : Tab w) (A0 : Arg w v0 z0) (s0 : z0.length ≤ 17592186043904) (_ : -9223372036854775808 ≤ p0) (_ : p0 ≤ 9223372036854775807) (_ : -9223372036854775808 ≤ bits) (_ : bits ≤ 9223372036854775807) (_ : -9223372036854775808 ≤ m) (_ : m ≤ 9223372036854775807) (hE0 : fitE p0 = true) (hK : 1 ≤ bits) (hK2 : bits ≤ 1048576) (hM : isM m = true) (hlen : ((blen (omz (zz b0 (val z0))).natAbs : Nat) : Int) ≤ bits) :
    Calls Tryd.prog 6 #[.agg #[.bool b0, v0, .int .i64 p0], .int .i64 bits, .int .i64 m] w fun e w' => e = .returned (.bool true) ∧ Below w.heap.size w w' := by
  obtain ⟨a0, n0, rfl, _, _, _⟩ := A0.form
  obtain ⟨w0, hw0, hb0, h0⟩ := enter1 w (.cells #[.bool b0, .slice a0 z0.length n0, .int .i64 p0] 24)
  have HA := hide h0
  have HA0 := hide (A0.below hb0)
  have HT := hide (hT.below hb0)
  have HW := hide hb0
  clear hT hb0 h0
  obtain ⟨L, hL⟩ : ∃ L : Nat, L = 9223372036854775808 := ⟨_, rfl⟩
  have hEr := (fitE_iff p0).1 hE0
  have hbz : blen (zz b0 (val z0)).natAbs ≤ 64 * z0.length := by rw [zz_abs]; exact blen_len8 A0.limbs
  have hOE := oe_range (zz b0 (val z0)) p0 (by omega)
  obtain ⟨V, hX⟩ : ∃ V, Rp L (zz b0 (val z0)) p0 V := ⟨_, Rp.make L _ p0 (by omega)⟩
  have hr := hX.norm
  have hn := nr8_of (zz b0 (val z0)) p0
  have HX := hide hX
  have hL2 : 4611686018427387904 ≤ L := by omega
  have HL := hide hL2
  have HLE := hide hL
  obtain ⟨bn, hbn⟩ : ∃ bn : Nat, bits = (bn : Int) := ⟨bits.toNat, by omega⟩
  have hge : -1099511627776 ≤ oe (zz b0 (val z0)) p0 := by unfold oe; split <;> omega
  obtain ⟨M0, hM0⟩ : ∃ M0, omz (zz b0 (val z0)) = M0 := ⟨_, rfl⟩
  obtain ⟨E0, hE0v⟩ : ∃ E0, oe (zz b0 (val z0)) p0 = E0 := ⟨_, rfl⟩
  rw [hM0, hE0v] at hr hn
  rw [hE0v] at hOE hge
  have HM0 := hide hM0
  have HV0 := hide hE0v
  have HR := hide hr
  have HN := hide hn
  obtain ⟨l, hl⟩ : ∃ l, blen M0.natAbs = l := ⟨_, rfl⟩
  have HLL := hide hl
  have HGE := hide hge
  have HHI := hide (show E0 ≤ 1125899906842624 * 4 by omega)
  obtain ⟨pos, hpos⟩ : ∃ pos, cutP M0 E0 bits = pos := ⟨_, rfl⟩
  have HPO := hide hpos
  have HPE : Hid (pos = E0 + (l : Int) - (bn : Int)) := hide (by rw [← hpos, ← hl, ← hbn]; rfl)
  obtain ⟨P, hP⟩ : ∃ P : Nat, 2 ^ (pos + L).toNat = P := ⟨_, rfl⟩
  have HPP := hide hP
  have HP0 := hide (show 0 < P by rw [← hP]; exact Nat.two_pow_pos _)
  have HPL := hide (show 0 ≤ pos + L by have := HPE.out; omega)
  have hmm := (isM_iff m).1 hM
  have HMM := hide hmm
  rw [hM0, hl] at hlen
  have i4 : decide ((l : Int) ≤ bits) = true := decide_eq_true hlen
  have i1 : decide (bits < 1) = false := decide_eq_false (by omega)
  have i1b : ¬ bits < 1 := by omega
  have i2 : decide (1048576 < bits) = false := decide_eq_false (by omega)
  have i2b : ¬ 1048576 < bits := by omega
  have HLN := hide hlen
  have HBN := hide hbn
  clear A0 hM0 hE0v hr hn hX hl hpos hP hbn hge hOE hEr hbz hL hL2 hmm hlen
  go_enter Tryd.func6, Tryd.ntmps6
  obtain ⟨ca0, cb0, cc0⟩ := tri8 HA.out
  have C := of8_ok b0 a0 n0 z0 p0 w0 HA0.out (by omega) hE0
  rw [HM0.out, HV0.out] at C
  go_wp2_with fail
  refine C.mono ?_
  rintro e Q1 ⟨⟨bm, am, lm, km, rfl, hd0⟩, hb⟩
  clear C ca0 cb0 cc0 hw0
  obtain ⟨P2, hP2, hbP, hx⟩ := enter1 Q1 (.cells #[.bool bm, .slice am lm km, .int .i64 E0] 36)
  have stp := bl_trans8 hb hbP
  replace HA := hide (block_upW stp HA.out)
  replace HA0 := hide (HA0.out.below stp)
  replace HT := hide (HT.out.below stp)
  replace HW := hid_below HW stp
  have HDm := hide (hd0.below hbP)
  have Hm := hide hx
  clear hd0 hb hbP hx stp
  have C := mode8_any m P2
  rw [hM] at C
  go_wp2_with fail
  refine C.mono ?_
  rintro e wn ⟨rfl, hw⟩; rw [hw]; clear hw wn C hP2
  obtain ⟨ca0, cb0, cc0⟩ := tri8 HA.out
  have C := in8_any b0 a0 z0.length n0 p0 P2
  go_wp2_with fail
  refine C.mono ?_
  rintro e Q3 ⟨rfl, hb⟩
  clear C ca0 cb0 cc0
  replace HA := hide (block_upW hb HA.out)
  replace Hm := hide (block_upW hb Hm.out)
  replace HA0 := hide (HA0.out.below hb)
  replace HT := hide (HT.out.below hb)
  replace HDm := hide (HDm.out.below hb)
  replace HW := hid_below HW hb
  clear hb
  have C := ycut8 b0 a0 z0.length n0 p0 z0 L V bits m Q3 HT.out HA0.out rfl s0 HX.out HL.out hE0 hK hK2 hM
  rw [HM0.out, HV0.out, HPO.out, HPP.out] at C
  go_wp2_with fail
  refine C.mono ?_
  rintro e Q4 ⟨⟨bp, ap, lp, kp, ep, cp, rfl, hp⟩, hb⟩
  clear C 
  obtain ⟨P5, hP5, hbP, hx⟩ := enter1 Q4 (.cells #[.bool bp, .slice ap lp kp, .int .i64 ep] 29)
  have stp := bl_trans8 hb hbP
  replace HA := hide (block_upW stp HA.out)
  replace Hm := hide (block_upW stp Hm.out)
  replace HA0 := hide (HA0.out.below stp)
  replace HT := hide (HT.out.below stp)
  replace HDm := hide (HDm.out.below stp)
  replace HW := hid_below HW stp
  have HRp := hide (hp.below hbP)
  have Hp := hide hx
  clear hp hb hbP hx stp
  by_cases hc : cp = 0
  · skip
    subst hc
    have HGp := hide (HRp.out rfl)
    clear HRp
    have C := num8_any 0 P5
    go_wp2_with fail
    refine C.mono ?_
    rintro e wn ⟨rfl, hw⟩; rw [hw]; clear hw wn C hP5
    obtain ⟨Vc, hVc⟩ : ∃ Vc, rv m V P = Vc := ⟨_, rfl⟩
    have HVc := hide hVc
    rw [hVc] at HGp
    have hmult : Vc % (P : Int) = 0 := by rw [← hVc]; exact rv_rest m V P
    have HMU := hide hmult
    have HEP := hide HGp.out.fit8
    clear hVc hmult
    have hsame : Vc = V := by
      rw [← HVc.out]
      refine rv_mult HP0.out ?_
      rw [← HPP.out]
      refine (at_iff HR.out HN.out HPL.out).1 (.inr ?_)
      have := HPE.out
      have := HLN.out
      have := HBN.out
      omega
    subst hsame
    have hl4 : l ≤ 4000000000000 := by have := HLN.out; omega
    obtain ⟨ca0, cb0, cc0⟩ := tri8 Hp.out
    have C := tread8 bp ap lp kp ep L Vc P5 HGp.out
    go_wp2_with fail
    refine C.mono ?_
    rintro e Q6 ⟨⟨bc, ac, lc, kc, rfl, hc8⟩, hb⟩
    clear C ca0 cb0 cc0
    obtain ⟨P7, hP7, hbP, hx⟩ := enter1 Q6 (.cells #[.bool bc, .slice ac lc kc, .int .i64 ep] 36)
    have stp := bl_trans8 hb hbP
    replace HA := hide (block_upW stp HA.out)
    replace Hm := hide (block_upW stp Hm.out)
    replace Hp := hide (block_upW stp Hp.out)
    replace HA0 := hide (HA0.out.below stp)
    replace HT := hide (HT.out.below stp)
    replace HDm := hide (HDm.out.below stp)
    replace HGp := hide (HGp.out.below stp)
    replace HW := hid_below HW stp
    have HTc := hide (hc8.below hbP)
    have Hc := hide hx
    clear hc8 hb hbP hx stp
    have HTm := hide (T8.mk8 HDm.out HR.out HN.out (by rw [HLL.out]; exact hl4) (by have := HGE.out; omega) HHI.out)
    obtain ⟨Mc, dc, rc, qc, _⟩ := HTc.out
    have hlc : blen Mc.natAbs ≤ bn := by
      obtain ⟨rfl, _⟩ := Rp.one rc HR.out qc HN.out
      have := HLL.out
      have := HLN.out
      have := HBN.out
      omega
    have CL := len_any (.slice ac lc kc) Mc.natAbs P7 dc.2
    generalize blen Mc.natAbs = lcc at *
    have i6 : decide (bits < (lcc : Int)) = false := decide_eq_false (by have := HBN.out; omega)
    have i6b : ¬ bits < (lcc : Int) := by have := HBN.out; omega
    clear dc rc qc hlc 
    obtain ⟨ca0, cb0, cc0⟩ := tri8 Hc.out
    go_wp2_with fail
    refine CL.mono ?_
    rintro e wn ⟨rfl, hw⟩; rw [hw]; clear hw wn CL ca0 cb0 cc0 hP7
    have CL := len_any (.slice am lm km) M0.natAbs P7 HDm.out.2
    rw [HLL.out] at CL
    obtain ⟨ca0, cb0, cc0⟩ := tri8 Hm.out
    go_wp2_with fail
    refine CL.mono ?_
    rintro e wn ⟨rfl, hw⟩; rw [hw]; clear hw wn CL ca0 cb0 cc0
    obtain ⟨ca0, cb0, cc0⟩ := tri8 Hc.out
    obtain ⟨ca1, cb1, cc1⟩ := tri8 Hm.out
    have C := tcmp8 bc ac lc kc ep bm am lm km E0 L Vc Vc P7 HTc.out HTm.out
    rw [cmpZ_self] at C
    go_wp2_with fail
    refine C.mono ?_
    rintro e Q8 ⟨rfl, hb⟩
    clear C ca0 cb0 cc0 ca1 cb1 cc1
    replace HA := hide (block_upW hb HA.out)
    replace Hm := hide (block_upW hb Hm.out)
    replace Hp := hide (block_upW hb Hp.out)
    replace Hc := hide (block_upW hb Hc.out)
    replace HA0 := hide (HA0.out.below hb)
    replace HT := hide (HT.out.below hb)
    replace HDm := hide (HDm.out.below hb)
    replace HGp := hide (HGp.out.below hb)
    replace HTc := hide (HTc.out.below hb)
    replace HTm := hide (HTm.out.below hb)
    replace HW := hid_below HW hb
    clear hb
    have AW := awake8_any Q8 HT.out
    go_wp2_with fail
    refine AW.mono ?_
    rintro e t9 ⟨rfl, hb9⟩
    have HFIN := hide (bl_trans8 HW.out hb9)
    clear AW hb9
    go_wp2
    go_ret
    exact ⟨rfl, HFIN.out⟩
  · skip
    have ic : (cp == 0) = false := by rw [beq_eq_false_iff_ne]; exact hc
    have ic2 : (cp != 0) = true := by rw [bne, ic]; rfl
    have C := num8_any cp P5
    go_wp2_with fail
    refine C.mono ?_
    rintro e wn ⟨rfl, hw⟩; rw [hw]; clear hw wn C hP5
    have AW := awake8_any P5 HT.out
    go_wp2_with fail
    refine AW.mono ?_
    rintro e t9 ⟨rfl, hb9⟩
    have HFIN := hide (bl_trans8 HW.out hb9)
    clear AW hb9
    go_wp2
    go_ret
    exact ⟨rfl, HFIN.out⟩

set_option maxRecDepth 20000 in
set_option maxHeartbeats 16000000 in
theorem short_side (b0 : Bool) (v0 : Value) (z0 : List Nat) (p0 : Int) (bits m : Int) (w : World) (hT : Tab w) (A0 : Arg w v0 z0) (s0 : z0.length ≤ 17592186043904) (_ : -9223372036854775808 ≤ p0) (_ : p0 ≤ 9223372036854775807) (_ : -9223372036854775808 ≤ bits) (_ : bits ≤ 9223372036854775807) (_ : -9223372036854775808 ≤ m) (_ : m ≤ 9223372036854775807) (hE0 : fitE p0 = true) (hK : 1 ≤ bits) (hK2 : bits ≤ 1048576) (hM : isM m = true) (hlen : bits < ((blen (omz (zz b0 (val z0))).natAbs : Nat) : Int)) (h2 : m ≠ 2) :
    Calls Tryd.prog 6 #[.agg #[.bool b0, v0, .int .i64 p0], .int .i64 bits, .int .i64 m] w fun e w' => e = .returned (.bool true) ∧ Below w.heap.size w w' := by
  obtain ⟨a0, n0, rfl, _, _, _⟩ := A0.form
  obtain ⟨w0, hw0, hb0, h0⟩ := enter1 w (.cells #[.bool b0, .slice a0 z0.length n0, .int .i64 p0] 24)
  have HA := hide h0
  have HA0 := hide (A0.below hb0)
  have HT := hide (hT.below hb0)
  have HW := hide hb0
  clear hT hb0 h0
  obtain ⟨L, hL⟩ : ∃ L : Nat, L = 9223372036854775808 := ⟨_, rfl⟩
  have hEr := (fitE_iff p0).1 hE0
  have hbz : blen (zz b0 (val z0)).natAbs ≤ 64 * z0.length := by rw [zz_abs]; exact blen_len8 A0.limbs
  have hOE := oe_range (zz b0 (val z0)) p0 (by omega)
  obtain ⟨V, hX⟩ : ∃ V, Rp L (zz b0 (val z0)) p0 V := ⟨_, Rp.make L _ p0 (by omega)⟩
  have hr := hX.norm
  have hn := nr8_of (zz b0 (val z0)) p0
  have HX := hide hX
  have hL2 : 4611686018427387904 ≤ L := by omega
  have HL := hide hL2
  have HLE := hide hL
  obtain ⟨bn, hbn⟩ : ∃ bn : Nat, bits = (bn : Int) := ⟨bits.toNat, by omega⟩
  have hge : -1099511627776 ≤ oe (zz b0 (val z0)) p0 := by unfold oe; split <;> omega
  obtain ⟨M0, hM0⟩ : ∃ M0, omz (zz b0 (val z0)) = M0 := ⟨_, rfl⟩
  obtain ⟨E0, hE0v⟩ : ∃ E0, oe (zz b0 (val z0)) p0 = E0 := ⟨_, rfl⟩
  rw [hM0, hE0v] at hr hn
  rw [hE0v] at hOE hge
  have HM0 := hide hM0
  have HV0 := hide hE0v
  have HR := hide hr
  have HN := hide hn
  obtain ⟨l, hl⟩ : ∃ l, blen M0.natAbs = l := ⟨_, rfl⟩
  have HLL := hide hl
  have HGE := hide hge
  have HHI := hide (show E0 ≤ 1125899906842624 * 4 by omega)
  obtain ⟨pos, hpos⟩ : ∃ pos, cutP M0 E0 bits = pos := ⟨_, rfl⟩
  have HPO := hide hpos
  have HPE : Hid (pos = E0 + (l : Int) - (bn : Int)) := hide (by rw [← hpos, ← hl, ← hbn]; rfl)
  obtain ⟨P, hP⟩ : ∃ P : Nat, 2 ^ (pos + L).toNat = P := ⟨_, rfl⟩
  have HPP := hide hP
  have HP0 := hide (show 0 < P by rw [← hP]; exact Nat.two_pow_pos _)
  have HPL := hide (show 0 ≤ pos + L by have := HPE.out; omega)
  have hmm := (isM_iff m).1 hM
  have HMM := hide hmm
  rw [hM0, hl] at hlen
  have i4 : decide ((l : Int) ≤ bits) = false := decide_eq_false (by omega)
  have i4b : ¬ (l : Int) ≤ bits := by omega
  have i5 : (m == 2) = false := by rw [beq_eq_false_iff_ne]; exact h2
  have i1 : decide (bits < 1) = false := decide_eq_false (by omega)
  have i1b : ¬ bits < 1 := by omega
  have i2 : decide (1048576 < bits) = false := decide_eq_false (by omega)
  have i2b : ¬ 1048576 < bits := by omega
  have HLN := hide hlen
  have HBN := hide hbn
  clear A0 hM0 hE0v hr hn hX hl hpos hP hbn hge hOE hEr hbz hL hL2 hmm hlen h2
  go_enter Tryd.func6, Tryd.ntmps6
  obtain ⟨ca0, cb0, cc0⟩ := tri8 HA.out
  have C := of8_ok b0 a0 n0 z0 p0 w0 HA0.out (by omega) hE0
  rw [HM0.out, HV0.out] at C
  go_wp2_with fail
  refine C.mono ?_
  rintro e Q1 ⟨⟨bm, am, lm, km, rfl, hd0⟩, hb⟩
  clear C ca0 cb0 cc0 hw0
  obtain ⟨P2, hP2, hbP, hx⟩ := enter1 Q1 (.cells #[.bool bm, .slice am lm km, .int .i64 E0] 36)
  have stp := bl_trans8 hb hbP
  replace HA := hide (block_upW stp HA.out)
  replace HA0 := hide (HA0.out.below stp)
  replace HT := hide (HT.out.below stp)
  replace HW := hid_below HW stp
  have HDm := hide (hd0.below hbP)
  have Hm := hide hx
  clear hd0 hb hbP hx stp
  have C := mode8_any m P2
  rw [hM] at C
  go_wp2_with fail
  refine C.mono ?_
  rintro e wn ⟨rfl, hw⟩; rw [hw]; clear hw wn C hP2
  obtain ⟨ca0, cb0, cc0⟩ := tri8 HA.out
  have C := in8_any b0 a0 z0.length n0 p0 P2
  go_wp2_with fail
  refine C.mono ?_
  rintro e Q3 ⟨rfl, hb⟩
  clear C ca0 cb0 cc0
  replace HA := hide (block_upW hb HA.out)
  replace Hm := hide (block_upW hb Hm.out)
  replace HA0 := hide (HA0.out.below hb)
  replace HT := hide (HT.out.below hb)
  replace HDm := hide (HDm.out.below hb)
  replace HW := hid_below HW hb
  clear hb
  have C := ycut8 b0 a0 z0.length n0 p0 z0 L V bits m Q3 HT.out HA0.out rfl s0 HX.out HL.out hE0 hK hK2 hM
  rw [HM0.out, HV0.out, HPO.out, HPP.out] at C
  go_wp2_with fail
  refine C.mono ?_
  rintro e Q4 ⟨⟨bp, ap, lp, kp, ep, cp, rfl, hp⟩, hb⟩
  clear C 
  obtain ⟨P5, hP5, hbP, hx⟩ := enter1 Q4 (.cells #[.bool bp, .slice ap lp kp, .int .i64 ep] 29)
  have stp := bl_trans8 hb hbP
  replace HA := hide (block_upW stp HA.out)
  replace Hm := hide (block_upW stp Hm.out)
  replace HA0 := hide (HA0.out.below stp)
  replace HT := hide (HT.out.below stp)
  replace HDm := hide (HDm.out.below stp)
  replace HW := hid_below HW stp
  have HRp := hide (hp.below hbP)
  have Hp := hide hx
  clear hp hb hbP hx stp
  by_cases hc : cp = 0
  · skip
    subst hc
    have HGp := hide (HRp.out rfl)
    clear HRp
    have C := num8_any 0 P5
    go_wp2_with fail
    refine C.mono ?_
    rintro e wn ⟨rfl, hw⟩; rw [hw]; clear hw wn C hP5
    obtain ⟨Vc, hVc⟩ : ∃ Vc, rv m V P = Vc := ⟨_, rfl⟩
    have HVc := hide hVc
    rw [hVc] at HGp
    have hmult : Vc % (P : Int) = 0 := by rw [← hVc]; exact rv_rest m V P
    have HMU := hide hmult
    have HEP := hide HGp.out.fit8
    clear hVc hmult
    have hb1 : 1 ≤ bn := by have := HBN.out; omega
    have hb2 : bn < l := by have := HBN.out; have := HLN.out; omega
    have hcf := cut_facts HR.out HLL.out hb1 hb2 HPE.out
    rw [HPP.out] at hcf
    have hl4 : l ≤ 4000000000000 := by
      refine cut_room (m := m) HR.out HLL.out hb1 hb2 HPE.out HGE.out ?_
      rw [HPP.out, HVc.out]; exact HGp.out.ok8
    have hsz : Vc.natAbs ≤ P * 2 ^ bn := by rw [← HVc.out]; exact cut_size m HP0.out hcf.2.1
    have hlo : P * 2 ^ (bn - 1) ≤ Vc.natAbs := by rw [← HVc.out]; exact cut_low m HP0.out hcf.1
    have hof := rv_off m V P HP0.out HMM.out
    rw [HVc.out] at hof
    have hvc0 : Vc ≠ 0 := by
      intro h
      rw [h] at hlo
      have : 0 < P * 2 ^ (bn - 1) := Nat.mul_pos HP0.out (Nat.two_pow_pos _)
      simp at hlo
      omega
    have HCF := hide hcf
    have HOF := hide hof
    have HV0c := hide hvc0
    have HSZ := hide hsz
    clear hcf hsz hlo hof hvc0
    obtain ⟨ca0, cb0, cc0⟩ := tri8 Hp.out
    have C := tread8 bp ap lp kp ep L Vc P5 HGp.out
    go_wp2_with fail
    refine C.mono ?_
    rintro e Q6 ⟨⟨bc, ac, lc, kc, rfl, hc8⟩, hb⟩
    clear C ca0 cb0 cc0
    obtain ⟨P7, hP7, hbP, hx⟩ := enter1 Q6 (.cells #[.bool bc, .slice ac lc kc, .int .i64 ep] 36)
    have stp := bl_trans8 hb hbP
    replace HA := hide (block_upW stp HA.out)
    replace Hm := hide (block_upW stp Hm.out)
    replace Hp := hide (block_upW stp Hp.out)
    replace HA0 := hide (HA0.out.below stp)
    replace HT := hide (HT.out.below stp)
    replace HDm := hide (HDm.out.below stp)
    replace HGp := hide (HGp.out.below stp)
    replace HW := hid_below HW stp
    have HTc := hide (hc8.below hbP)
    have Hc := hide hx
    clear hc8 hb hbP hx stp
    have HTm := hide (T8.mk8 HDm.out HR.out HN.out (by rw [HLL.out]; exact hl4) (by have := HGE.out; omega) HHI.out)
    obtain ⟨Mc, dc, rc, qc, _⟩ := HTc.out
    have hlc : blen Mc.natAbs ≤ bn := cut_blen rc qc HPL.out (by rw [HPP.out]; exact HMU.out) (by rw [HPP.out]; exact HSZ.out) hb1
    have HEC := hide (show E0 < ep by
      have h1 := (at_iff rc qc HPL.out).2 (by rw [HPP.out]; exact HMU.out)
      have h2 : Mc ≠ 0 := fun h => HV0c.out (rc.pos.2.2 h)
      have h3 := h1.resolve_left h2
      have := HPE.out
      omega)
    have CL := len_any (.slice ac lc kc) Mc.natAbs P7 dc.2
    generalize blen Mc.natAbs = lcc at *
    have i6 : decide (bits < (lcc : Int)) = false := decide_eq_false (by have := HBN.out; omega)
    have i6b : ¬ bits < (lcc : Int) := by have := HBN.out; omega
    clear dc rc qc hlc hb1 hb2
    obtain ⟨ca0, cb0, cc0⟩ := tri8 Hc.out
    go_wp2_with fail
    refine CL.mono ?_
    rintro e wn ⟨rfl, hw⟩; rw [hw]; clear hw wn CL ca0 cb0 cc0 hP7
    have CL := len_any (.slice am lm km) M0.natAbs P7 HDm.out.2
    rw [HLL.out] at CL
    obtain ⟨ca0, cb0, cc0⟩ := tri8 Hm.out
    go_wp2_with fail
    refine CL.mono ?_
    rintro e wn ⟨rfl, hw⟩; rw [hw]; clear hw wn CL ca0 cb0 cc0
    have HHS := hide (show (Vc + -V).natAbs < 2 ^ ((min ep E0 + L).toNat + 4000000000000) by
      have h1 := HOF.out.1
      have h2 := HCF.out.2.2.2
      have e1 : Vc + -V = Vc - V := by omega
      have e2 : min ep E0 = E0 := by have := HEC.out; omega
      rw [e1, e2]
      exact Nat.lt_trans h1 (Nat.lt_of_lt_of_le h2 (Nat.pow_le_pow_right (by omega) (by omega))))
    have HNF := hide (show ¬ (if E0 ≤ ep then (-V).natAbs else Vc.natAbs) < (Vc + -V).natAbs by
      rw [if_pos (by have := HEC.out; omega)]
      have h1 := HOF.out.1
      have h2 := HCF.out.2.2.1
      omega)
    have NEG := hide (fun (W : World) (hg : Below P7.heap.size P7 W) => tneg8 bm am lm km E0 L V W (HTm.out.below hg))
    have SUM := hide (fun (W : World) (b5 : Bool) (a5 : Option Addr) (n5 k5 : Nat) (h5 : T8 W b5 a5 n5 k5 E0 L (-V)) (hg : Below P7.heap.size P7 W) => ((tadd8 bc ac lc kc ep b5 a5 n5 k5 E0 L Vc (-V) W (HTc.out.below hg) h5 (by have := HEP.out; omega) (by have := HGE.out; have := HHI.out; omega) (fun _ _ => HHS.out)).mono fun e w' h => (show (∃ b a n k E' ok, e = .returned (.tuple #[.agg #[.bool b, .slice a n k, .int .i64 E'], .bool ok]) ∧ ((ok = true → T8 w' b a n k E' L (Vc + -V)) ∧ (ok = false → False))) ∧ Below W.heap.size W w' from by
      obtain ⟨⟨b, a, n, k, E', ok, h1, h2, h3⟩, h4⟩ := h
      exact ⟨⟨b, a, n, k, E', ok, h1, h2, fun h => HNF.out (h3 h)⟩, h4⟩)))
    have KS := hide (fun (W : World) (hg : Below P7.heap.size P7 W) => show W.cell? ⟨Q6.heap.size, 0, none⟩ = some (.bool bc) ∧ W.cell? ⟨Q6.heap.size, 1, none⟩ = some (.slice ac lc kc) ∧ W.cell? ⟨Q6.heap.size, 2, none⟩ = some (.int .i64 ep) ∧ W.cell? ⟨Q1.heap.size, 0, none⟩ = some (.bool bm) ∧ W.cell? ⟨Q1.heap.size, 1, none⟩ = some (.slice am lm km) ∧ W.cell? ⟨Q1.heap.size, 2, none⟩ = some (.int .i64 E0) from ⟨(tri8 (block_upW hg Hc.out)).1, (tri8 (block_upW hg Hc.out)).2.1, (tri8 (block_upW hg Hc.out)).2.2, (tri8 (block_upW hg Hm.out)).1, (tri8 (block_upW hg Hm.out)).2.1, (tri8 (block_upW hg Hm.out)).2.2⟩)
    have g0 : Below P7.heap.size P7 P7 := Below.refl _ _
    go_upto_region 20 with fail
    skip
    go_cut [12, 13] from 69 to 75 (fun s t wx => OneT P7 L (Vc + -V) (False) s t wx)
    case first =>
      skip
      go_region_held3 (fun w' => w'.cell? ⟨Q6.heap.size, 0, none⟩ = some (.bool bc) ∧ w'.cell? ⟨Q6.heap.size, 1, none⟩ = some (.slice ac lc kc) ∧ w'.cell? ⟨Q6.heap.size, 2, none⟩ = some (.int .i64 ep) ∧ w'.cell? ⟨Q1.heap.size, 0, none⟩ = some (.bool bm) ∧ w'.cell? ⟨Q1.heap.size, 1, none⟩ = some (.slice am lm km) ∧ w'.cell? ⟨Q1.heap.size, 2, none⟩ = some (.int .i64 E0)) (first | (refine KS.out _ ?_; repeat (first | with_reducible assumption | with_reducible exact Below.refl _ _ | with_reducible apply bl_allocT | with_reducible apply bl_drewT | (with_reducible refine below_tri8 ?_ (by omega) _ _ _)))) (first
        | (go_at_call 38; refine (SUM.out _ b5 a5 n5 k5 (y5.below (by repeat (first | with_reducible exact Below.refl _ _ | with_reducible apply bl_allocT))) (by repeat (first | with_reducible exact g1 | with_reducible apply bl_allocT))).mono ?_; rintro e' t2 ⟨⟨bd, ad, ld, kd, ed, okd, rfl, hs⟩, hb2⟩; have g2 : Below P7.heap.size P7 t2 := bl_trans8 (by repeat (first | with_reducible exact g1 | with_reducible apply bl_allocT)) hb2; have hle1 := g1.size; (first | (with_reducible have hq := made1T hb2; obtain ⟨z0c, z1c, z2c⟩ := tri8 hq; have zf := tri8f hq) | (with_reducible have hq := block_upW hb2 hpA; obtain ⟨z0c, z1c, z2c⟩ := tri8 hq; have zf := tri8f hq) | skip))
        | (go_at_call 39; refine (NEG.out _ (by repeat (first | with_reducible exact Below.refl _ _ | with_reducible apply bl_allocT | with_reducible apply bl_drewT))).mono ?_; rintro e' t1 ⟨⟨b5, a5, n5, k5, rfl, y5⟩, hb1⟩; have g1 : Below P7.heap.size P7 t1 := bl_trans8 (by repeat (first | with_reducible exact Below.refl _ _ | with_reducible apply bl_allocT | with_reducible apply bl_drewT)) hb1; (first | (with_reducible have hpA := made1dT hb1) | (with_reducible have hpA := made1T hb1) | skip)))
      all_goals (go_wp2_with fail; go_meet; first
        | with_reducible exact one_t hs g2
        | with_reducible exact one_ts hq hle1 hs g2
        | with_reducible exact one_ts hq (Nat.le_refl _) hs g2)
    case rest =>
      obtain ⟨go, bo, aox, lo, ko, eo, oko, rfl, rfl, hX, hS, hC, hbx⟩ := hcut
      clear NEG SUM KS g0
      replace HA := hide (block_upW hbx HA.out)
      replace Hm := hide (block_upW hbx Hm.out)
      replace Hp := hide (block_upW hbx Hp.out)
      replace Hc := hide (block_upW hbx Hc.out)
      replace HA0 := hide (HA0.out.below hbx)
      replace HT := hide (HT.out.below hbx)
      replace HDm := hide (HDm.out.below hbx)
      replace HGp := hide (HGp.out.below hbx)
      replace HTc := hide (HTc.out.below hbx)
      replace HTm := hide (HTm.out.below hbx)
      replace HW := hid_below HW hbx
      have Ho := hide hX
      have HSo := hide hS
      have HCo := hide hC
      clear hX hS hC hbx
      obtain rfl : oko = true := by
        cases oko
        · exact (HCo.out rfl).elim
        · rfl
      have HTo := hide (HSo.out rfl)
      clear HSo HCo HNF HHS
      obtain ⟨ca0, cb0, cc0⟩ := tri8 Hm.out
      have C := tabs8 bm am lm km E0 L V wc HTm.out
      go_wp2_with fail
      refine C.mono ?_
      rintro e Q8 ⟨⟨bv, av, lv, kv, rfl, hv8⟩, hb⟩
      clear C ca0 cb0 cc0
      replace HA := hide (block_upW hb HA.out)
      replace Hm := hide (block_upW hb Hm.out)
      replace Hp := hide (block_upW hb Hp.out)
      replace Hc := hide (block_upW hb Hc.out)
      replace Ho := hide (block_upW hb Ho.out)
      replace HA0 := hide (HA0.out.below hb)
      replace HT := hide (HT.out.below hb)
      replace HDm := hide (HDm.out.below hb)
      replace HGp := hide (HGp.out.below hb)
      replace HTc := hide (HTc.out.below hb)
      replace HTm := hide (HTm.out.below hb)
      replace HTo := hide (HTo.out.below hb)
      replace HW := hid_below HW hb
      have HTv := hide hv8
      clear hb hv8
      obtain ⟨s, hs⟩ : ∃ s : Nat, bits = (s : Int) + 1 := ⟨(bits - 1).toNat, by omega⟩
      have ws : IntKind.i64.wrap (1 - bits) = -(s : Int) := by rw [IntKind.wrap_i64]; omega
      have HSB := hide (show bn = s + 1 by have := HBN.out; omega)
      have HS8 := hide (show s ≤ 1048577 by omega)
      clear hs
      have C := tscale8 bv av lv kv E0 L s (V.natAbs : Int) Q8 HTv.out HS8.out (by have := HGE.out; omega)
      go_wp2_with fail
      refine C.mono ?_
      rintro e Q9 ⟨⟨br, ar, lr, kr, er, rfl, hr8⟩, hb⟩
      clear C 
      obtain ⟨P10, hP10, hbP, hx⟩ := enter1 Q9 (.cells #[.bool br, .slice ar lr kr, .int .i64 er] 36)
      have stp := bl_trans8 hb hbP
      replace HA := hide (block_upW stp HA.out)
      replace Hm := hide (block_upW stp Hm.out)
      replace Hp := hide (block_upW stp Hp.out)
      replace Hc := hide (block_upW stp Hc.out)
      replace Ho := hide (block_upW stp Ho.out)
      replace HA0 := hide (HA0.out.below stp)
      replace HT := hide (HT.out.below stp)
      replace HDm := hide (HDm.out.below stp)
      replace HGp := hide (HGp.out.below stp)
      replace HTc := hide (HTc.out.below stp)
      replace HTm := hide (HTm.out.below stp)
      replace HTo := hide (HTo.out.below stp)
      replace HTv := hide (HTv.out.below stp)
      replace HW := hid_below HW stp
      have HTr := hide (hr8.below hbP)
      have Hr := hide hx
      clear hr8 hb hbP hx stp ws
      obtain ⟨kc9, hkc⟩ : ∃ k, cmpZ (((Vc + -V).natAbs : Int) * 2 ^ s) (V.natAbs : Int) = k := ⟨_, rfl⟩
      have i7 : decide (kc9 < 0) = true := decide_eq_true (by
        rw [← hkc]
        have h1 := HOF.out.1
        have h2 := HCF.out.1
        rw [HSB.out, Nat.add_sub_cancel] at h2
        have e1 : Vc + -V = Vc - V := by omega
        rw [e1]
        have h3 : (Vc - V).natAbs * 2 ^ s < V.natAbs := Nat.lt_of_lt_of_le (Nat.mul_lt_mul_of_pos_right h1 (Nat.two_pow_pos _)) h2
        have h4 : ((Vc - V).natAbs : Int) * 2 ^ s < (V.natAbs : Int) := by
          have := Int.ofNat_lt.2 h3
          rw [Int.natCast_mul, Int.natCast_pow] at this
          exact this
        unfold cmpZ
        rw [if_pos h4]; omega)
      have i7b : kc9 < 0 := of_decide_eq_true i7
      have HKC := hide hkc
      clear hkc
      have gd : Below P10.heap.size P10 P10.drew := (Below.refl _ _).drew
      have HWD := hide (bl_trans8 HW.out gd)
      have g0 : Below P10.drew.heap.size P10.drew P10.drew := Below.refl _ _
      have KS := hide (fun (W : World) (hg : Below P10.drew.heap.size P10.drew W) => show W.cell? ⟨go, 0, none⟩ = some (.bool bo) ∧ W.cell? ⟨go, 1, none⟩ = some (.slice aox lo ko) ∧ W.cell? ⟨go, 2, none⟩ = some (.int .i64 eo) ∧ W.cell? ⟨Q9.heap.size, 0, none⟩ = some (.bool br) ∧ W.cell? ⟨Q9.heap.size, 1, none⟩ = some (.slice ar lr kr) ∧ W.cell? ⟨Q9.heap.size, 2, none⟩ = some (.int .i64 er) from ⟨(tri8 (block_upW (bl_trans8 gd hg) Ho.out)).1, (tri8 (block_upW (bl_trans8 gd hg) Ho.out)).2.1, (tri8 (block_upW (bl_trans8 gd hg) Ho.out)).2.2, (tri8 (block_upW (bl_trans8 gd hg) Hr.out)).1, (tri8 (block_upW (bl_trans8 gd hg) Hr.out)).2.1, (tri8 (block_upW (bl_trans8 gd hg) Hr.out)).2.2⟩)
      have KA := hide (fun (W : World) (hg : Below P10.drew.heap.size P10.drew W) => tabs8 bo aox lo ko eo L (Vc + -V) W (HTo.out.below (bl_trans8 gd hg)))
      have KT := hide (fun (W : World) (hg : Below P10.drew.heap.size P10.drew W) => awake8_any W (HT.out.below (bl_trans8 gd hg)))
      have HTR := hide (fun (W : World) (hg : Below P10.drew.heap.size P10.drew W) => HTr.out.below (bl_trans8 gd hg))
      clear gd
      go_wp2_with fail
      go_region_held3 (fun w' => w'.cell? ⟨go, 0, none⟩ = some (.bool bo) ∧ w'.cell? ⟨go, 1, none⟩ = some (.slice aox lo ko) ∧ w'.cell? ⟨go, 2, none⟩ = some (.int .i64 eo) ∧ w'.cell? ⟨Q9.heap.size, 0, none⟩ = some (.bool br) ∧ w'.cell? ⟨Q9.heap.size, 1, none⟩ = some (.slice ar lr kr) ∧ w'.cell? ⟨Q9.heap.size, 2, none⟩ = some (.int .i64 er)) (first | with_reducible exact KS.out _ g3 | with_reducible exact KS.out _ g2 | with_reducible exact KS.out _ g1 | with_reducible exact KS.out _ g0) (first
        | (go_at_call 41; refine (KA.out _ g0).mono ?_; rintro e' t1 ⟨⟨b6, a6, n6, k6, rfl, y6⟩, hb1⟩; have g1 := bl_trans8 g0 hb1)
        | (go_at_call 34; refine (tcmp8 b6 a6 n6 k6 eo br ar lr kr er (L + s) _ (V.natAbs : Int) t1 (y6.fine s) (HTR.out t1 g1)).mono ?_; rw [HKC.out]; rintro e' t2 ⟨rfl, hb2⟩; have g2 := bl_trans8 g1 hb2)
        | (go_at_call 20; refine (KT.out t2 g2).mono ?_; rintro e' t3 ⟨rfl, hb3⟩; have g3 := bl_trans8 g2 hb3))
      have HFIN := hide (bl_trans8 HWD.out g3)
      clear g0 g1 g2 g3 hb1 hb2 hb3 KS KA KT
      go_wp2
      go_ret
      exact ⟨rfl, HFIN.out⟩
  · skip
    have ic : (cp == 0) = false := by rw [beq_eq_false_iff_ne]; exact hc
    have ic2 : (cp != 0) = true := by rw [bne, ic]; rfl
    have C := num8_any cp P5
    go_wp2_with fail
    refine C.mono ?_
    rintro e wn ⟨rfl, hw⟩; rw [hw]; clear hw wn C hP5
    have AW := awake8_any P5 HT.out
    go_wp2_with fail
    refine AW.mono ?_
    rintro e t9 ⟨rfl, hb9⟩
    have HFIN := hide (bl_trans8 HW.out hb9)
    clear AW hb9
    go_wp2
    go_ret
    exact ⟨rfl, HFIN.out⟩

set_option maxRecDepth 20000 in
set_option maxHeartbeats 16000000 in
theorem short_near (b0 : Bool) (v0 : Value) (z0 : List Nat) (p0 : Int) (bits m : Int) (w : World) (hT : Tab w) (A0 : Arg w v0 z0) (s0 : z0.length ≤ 17592186043904) (_ : -9223372036854775808 ≤ p0) (_ : p0 ≤ 9223372036854775807) (_ : -9223372036854775808 ≤ bits) (_ : bits ≤ 9223372036854775807) (_ : -9223372036854775808 ≤ m) (_ : m ≤ 9223372036854775807) (hE0 : fitE p0 = true) (hK : 1 ≤ bits) (hK2 : bits ≤ 1048576) (hM : isM m = true) (hlen : bits < ((blen (omz (zz b0 (val z0))).natAbs : Nat) : Int)) (h2 : m = 2) :
    Calls Tryd.prog 6 #[.agg #[.bool b0, v0, .int .i64 p0], .int .i64 bits, .int .i64 m] w fun e w' => e = .returned (.bool true) ∧ Below w.heap.size w w' := by
  obtain ⟨a0, n0, rfl, _, _, _⟩ := A0.form
  obtain ⟨w0, hw0, hb0, h0⟩ := enter1 w (.cells #[.bool b0, .slice a0 z0.length n0, .int .i64 p0] 24)
  have HA := hide h0
  have HA0 := hide (A0.below hb0)
  have HT := hide (hT.below hb0)
  have HW := hide hb0
  clear hT hb0 h0
  obtain ⟨L, hL⟩ : ∃ L : Nat, L = 9223372036854775808 := ⟨_, rfl⟩
  have hEr := (fitE_iff p0).1 hE0
  have hbz : blen (zz b0 (val z0)).natAbs ≤ 64 * z0.length := by rw [zz_abs]; exact blen_len8 A0.limbs
  have hOE := oe_range (zz b0 (val z0)) p0 (by omega)
  obtain ⟨V, hX⟩ : ∃ V, Rp L (zz b0 (val z0)) p0 V := ⟨_, Rp.make L _ p0 (by omega)⟩
  have hr := hX.norm
  have hn := nr8_of (zz b0 (val z0)) p0
  have HX := hide hX
  have hL2 : 4611686018427387904 ≤ L := by omega
  have HL := hide hL2
  have HLE := hide hL
  obtain ⟨bn, hbn⟩ : ∃ bn : Nat, bits = (bn : Int) := ⟨bits.toNat, by omega⟩
  have hge : -1099511627776 ≤ oe (zz b0 (val z0)) p0 := by unfold oe; split <;> omega
  obtain ⟨M0, hM0⟩ : ∃ M0, omz (zz b0 (val z0)) = M0 := ⟨_, rfl⟩
  obtain ⟨E0, hE0v⟩ : ∃ E0, oe (zz b0 (val z0)) p0 = E0 := ⟨_, rfl⟩
  rw [hM0, hE0v] at hr hn
  rw [hE0v] at hOE hge
  have HM0 := hide hM0
  have HV0 := hide hE0v
  have HR := hide hr
  have HN := hide hn
  obtain ⟨l, hl⟩ : ∃ l, blen M0.natAbs = l := ⟨_, rfl⟩
  have HLL := hide hl
  have HGE := hide hge
  have HHI := hide (show E0 ≤ 1125899906842624 * 4 by omega)
  obtain ⟨pos, hpos⟩ : ∃ pos, cutP M0 E0 bits = pos := ⟨_, rfl⟩
  have HPO := hide hpos
  have HPE : Hid (pos = E0 + (l : Int) - (bn : Int)) := hide (by rw [← hpos, ← hl, ← hbn]; rfl)
  obtain ⟨P, hP⟩ : ∃ P : Nat, 2 ^ (pos + L).toNat = P := ⟨_, rfl⟩
  have HPP := hide hP
  have HP0 := hide (show 0 < P by rw [← hP]; exact Nat.two_pow_pos _)
  have HPL := hide (show 0 ≤ pos + L by have := HPE.out; omega)
  have hmm := (isM_iff m).1 hM
  have HMM := hide hmm
  rw [hM0, hl] at hlen
  have i4 : decide ((l : Int) ≤ bits) = false := decide_eq_false (by omega)
  have i4b : ¬ (l : Int) ≤ bits := by omega
  have i5 : (m == 2) = true := by rw [h2]; rfl
  have i1 : decide (bits < 1) = false := decide_eq_false (by omega)
  have i1b : ¬ bits < 1 := by omega
  have i2 : decide (1048576 < bits) = false := decide_eq_false (by omega)
  have i2b : ¬ 1048576 < bits := by omega
  have HLN := hide hlen
  have HBN := hide hbn
  clear A0 hM0 hE0v hr hn hX hl hpos hP hbn hge hOE hEr hbz hL hL2 hmm hlen
  have HM2 := hide h2
  clear h2
  go_enter Tryd.func6, Tryd.ntmps6
  obtain ⟨ca0, cb0, cc0⟩ := tri8 HA.out
  have C := of8_ok b0 a0 n0 z0 p0 w0 HA0.out (by omega) hE0
  rw [HM0.out, HV0.out] at C
  go_wp2_with fail
  refine C.mono ?_
  rintro e Q1 ⟨⟨bm, am, lm, km, rfl, hd0⟩, hb⟩
  clear C ca0 cb0 cc0 hw0
  obtain ⟨P2, hP2, hbP, hx⟩ := enter1 Q1 (.cells #[.bool bm, .slice am lm km, .int .i64 E0] 36)
  have stp := bl_trans8 hb hbP
  replace HA := hide (block_upW stp HA.out)
  replace HA0 := hide (HA0.out.below stp)
  replace HT := hide (HT.out.below stp)
  replace HW := hid_below HW stp
  have HDm := hide (hd0.below hbP)
  have Hm := hide hx
  clear hd0 hb hbP hx stp
  have C := mode8_any m P2
  rw [hM] at C
  go_wp2_with fail
  refine C.mono ?_
  rintro e wn ⟨rfl, hw⟩; rw [hw]; clear hw wn C hP2
  obtain ⟨ca0, cb0, cc0⟩ := tri8 HA.out
  have C := in8_any b0 a0 z0.length n0 p0 P2
  go_wp2_with fail
  refine C.mono ?_
  rintro e Q3 ⟨rfl, hb⟩
  clear C ca0 cb0 cc0
  replace HA := hide (block_upW hb HA.out)
  replace Hm := hide (block_upW hb Hm.out)
  replace HA0 := hide (HA0.out.below hb)
  replace HT := hide (HT.out.below hb)
  replace HDm := hide (HDm.out.below hb)
  replace HW := hid_below HW hb
  clear hb
  have C := ycut8 b0 a0 z0.length n0 p0 z0 L V bits m Q3 HT.out HA0.out rfl s0 HX.out HL.out hE0 hK hK2 hM
  rw [HM0.out, HV0.out, HPO.out, HPP.out] at C
  go_wp2_with fail
  refine C.mono ?_
  rintro e Q4 ⟨⟨bp, ap, lp, kp, ep, cp, rfl, hp⟩, hb⟩
  clear C 
  obtain ⟨P5, hP5, hbP, hx⟩ := enter1 Q4 (.cells #[.bool bp, .slice ap lp kp, .int .i64 ep] 29)
  have stp := bl_trans8 hb hbP
  replace HA := hide (block_upW stp HA.out)
  replace Hm := hide (block_upW stp Hm.out)
  replace HA0 := hide (HA0.out.below stp)
  replace HT := hide (HT.out.below stp)
  replace HDm := hide (HDm.out.below stp)
  replace HW := hid_below HW stp
  have HRp := hide (hp.below hbP)
  have Hp := hide hx
  clear hp hb hbP hx stp
  by_cases hc : cp = 0
  · skip
    subst hc
    have HGp := hide (HRp.out rfl)
    clear HRp
    have C := num8_any 0 P5
    go_wp2_with fail
    refine C.mono ?_
    rintro e wn ⟨rfl, hw⟩; rw [hw]; clear hw wn C hP5
    obtain ⟨Vc, hVc⟩ : ∃ Vc, rv m V P = Vc := ⟨_, rfl⟩
    have HVc := hide hVc
    rw [hVc] at HGp
    have hmult : Vc % (P : Int) = 0 := by rw [← hVc]; exact rv_rest m V P
    have HMU := hide hmult
    have HEP := hide HGp.out.fit8
    clear hVc hmult
    have hb1 : 1 ≤ bn := by have := HBN.out; omega
    have hb2 : bn < l := by have := HBN.out; have := HLN.out; omega
    have hcf := cut_facts HR.out HLL.out hb1 hb2 HPE.out
    rw [HPP.out] at hcf
    have hl4 : l ≤ 4000000000000 := by
      refine cut_room (m := m) HR.out HLL.out hb1 hb2 HPE.out HGE.out ?_
      rw [HPP.out, HVc.out]; exact HGp.out.ok8
    have hsz : Vc.natAbs ≤ P * 2 ^ bn := by rw [← HVc.out]; exact cut_size m HP0.out hcf.2.1
    have hlo : P * 2 ^ (bn - 1) ≤ Vc.natAbs := by rw [← HVc.out]; exact cut_low m HP0.out hcf.1
    have hof := rv_off m V P HP0.out HMM.out
    rw [HVc.out] at hof
    have hvc0 : Vc ≠ 0 := by
      intro h
      rw [h] at hlo
      have : 0 < P * 2 ^ (bn - 1) := Nat.mul_pos HP0.out (Nat.two_pow_pos _)
      simp at hlo
      omega
    have HCF := hide hcf
    have HOF := hide hof
    have HV0c := hide hvc0
    have HSZ := hide hsz
    clear hcf hsz hlo hof hvc0
    obtain ⟨ca0, cb0, cc0⟩ := tri8 Hp.out
    have C := tread8 bp ap lp kp ep L Vc P5 HGp.out
    go_wp2_with fail
    refine C.mono ?_
    rintro e Q6 ⟨⟨bc, ac, lc, kc, rfl, hc8⟩, hb⟩
    clear C ca0 cb0 cc0
    obtain ⟨P7, hP7, hbP, hx⟩ := enter1 Q6 (.cells #[.bool bc, .slice ac lc kc, .int .i64 ep] 36)
    have stp := bl_trans8 hb hbP
    replace HA := hide (block_upW stp HA.out)
    replace Hm := hide (block_upW stp Hm.out)
    replace Hp := hide (block_upW stp Hp.out)
    replace HA0 := hide (HA0.out.below stp)
    replace HT := hide (HT.out.below stp)
    replace HDm := hide (HDm.out.below stp)
    replace HGp := hide (HGp.out.below stp)
    replace HW := hid_below HW stp
    have HTc := hide (hc8.below hbP)
    have Hc := hide hx
    clear hc8 hb hbP hx stp
    have HTm := hide (T8.mk8 HDm.out HR.out HN.out (by rw [HLL.out]; exact hl4) (by have := HGE.out; omega) HHI.out)
    obtain ⟨Mc, dc, rc, qc, _⟩ := HTc.out
    have hlc : blen Mc.natAbs ≤ bn := cut_blen rc qc HPL.out (by rw [HPP.out]; exact HMU.out) (by rw [HPP.out]; exact HSZ.out) hb1
    have HEC := hide (show E0 < ep by
      have h1 := (at_iff rc qc HPL.out).2 (by rw [HPP.out]; exact HMU.out)
      have h2 : Mc ≠ 0 := fun h => HV0c.out (rc.pos.2.2 h)
      have h3 := h1.resolve_left h2
      have := HPE.out
      omega)
    have CL := len_any (.slice ac lc kc) Mc.natAbs P7 dc.2
    generalize blen Mc.natAbs = lcc at *
    have i6 : decide (bits < (lcc : Int)) = false := decide_eq_false (by have := HBN.out; omega)
    have i6b : ¬ bits < (lcc : Int) := by have := HBN.out; omega
    clear dc rc qc hlc hb1 hb2
    obtain ⟨ca0, cb0, cc0⟩ := tri8 Hc.out
    go_wp2_with fail
    refine CL.mono ?_
    rintro e wn ⟨rfl, hw⟩; rw [hw]; clear hw wn CL ca0 cb0 cc0 hP7
    have CL := len_any (.slice am lm km) M0.natAbs P7 HDm.out.2
    rw [HLL.out] at CL
    obtain ⟨ca0, cb0, cc0⟩ := tri8 Hm.out
    go_wp2_with fail
    refine CL.mono ?_
    rintro e wn ⟨rfl, hw⟩; rw [hw]; clear hw wn CL ca0 cb0 cc0
    have HHS := hide (show (Vc + -V).natAbs < 2 ^ ((min ep E0 + L).toNat + 4000000000000) by
      have h1 := HOF.out.1
      have h2 := HCF.out.2.2.2
      have e1 : Vc + -V = Vc - V := by omega
      have e2 : min ep E0 = E0 := by have := HEC.out; omega
      rw [e1, e2]
      exact Nat.lt_trans h1 (Nat.lt_of_lt_of_le h2 (Nat.pow_le_pow_right (by omega) (by omega))))
    have HNF := hide (show ¬ (if E0 ≤ ep then (-V).natAbs else Vc.natAbs) < (Vc + -V).natAbs by
      rw [if_pos (by have := HEC.out; omega)]
      have h1 := HOF.out.1
      have h2 := HCF.out.2.2.1
      omega)
    have NEG := hide (fun (W : World) (hg : Below P7.heap.size P7 W) => tneg8 bm am lm km E0 L V W (HTm.out.below hg))
    have SUM := hide (fun (W : World) (b5 : Bool) (a5 : Option Addr) (n5 k5 : Nat) (h5 : T8 W b5 a5 n5 k5 E0 L (-V)) (hg : Below P7.heap.size P7 W) => ((tadd8 bc ac lc kc ep b5 a5 n5 k5 E0 L Vc (-V) W (HTc.out.below hg) h5 (by have := HEP.out; omega) (by have := HGE.out; have := HHI.out; omega) (fun _ _ => HHS.out)).mono fun e w' h => (show (∃ b a n k E' ok, e = .returned (.tuple #[.agg #[.bool b, .slice a n k, .int .i64 E'], .bool ok]) ∧ ((ok = true → T8 w' b a n k E' L (Vc + -V)) ∧ (ok = false → False))) ∧ Below W.heap.size W w' from by
      obtain ⟨⟨b, a, n, k, E', ok, h1, h2, h3⟩, h4⟩ := h
      exact ⟨⟨b, a, n, k, E', ok, h1, h2, fun h => HNF.out (h3 h)⟩, h4⟩)))
    have KS := hide (fun (W : World) (hg : Below P7.heap.size P7 W) => show W.cell? ⟨Q6.heap.size, 0, none⟩ = some (.bool bc) ∧ W.cell? ⟨Q6.heap.size, 1, none⟩ = some (.slice ac lc kc) ∧ W.cell? ⟨Q6.heap.size, 2, none⟩ = some (.int .i64 ep) ∧ W.cell? ⟨Q1.heap.size, 0, none⟩ = some (.bool bm) ∧ W.cell? ⟨Q1.heap.size, 1, none⟩ = some (.slice am lm km) ∧ W.cell? ⟨Q1.heap.size, 2, none⟩ = some (.int .i64 E0) from ⟨(tri8 (block_upW hg Hc.out)).1, (tri8 (block_upW hg Hc.out)).2.1, (tri8 (block_upW hg Hc.out)).2.2, (tri8 (block_upW hg Hm.out)).1, (tri8 (block_upW hg Hm.out)).2.1, (tri8 (block_upW hg Hm.out)).2.2⟩)
    have g0 : Below P7.heap.size P7 P7 := Below.refl _ _
    go_upto_region 20 with fail
    skip
    go_cut [12, 13] from 69 to 75 (fun s t wx => OneT P7 L (Vc + -V) (False) s t wx)
    case first =>
      skip
      go_region_held3 (fun w' => w'.cell? ⟨Q6.heap.size, 0, none⟩ = some (.bool bc) ∧ w'.cell? ⟨Q6.heap.size, 1, none⟩ = some (.slice ac lc kc) ∧ w'.cell? ⟨Q6.heap.size, 2, none⟩ = some (.int .i64 ep) ∧ w'.cell? ⟨Q1.heap.size, 0, none⟩ = some (.bool bm) ∧ w'.cell? ⟨Q1.heap.size, 1, none⟩ = some (.slice am lm km) ∧ w'.cell? ⟨Q1.heap.size, 2, none⟩ = some (.int .i64 E0)) (first | (refine KS.out _ ?_; repeat (first | with_reducible assumption | with_reducible exact Below.refl _ _ | with_reducible apply bl_allocT | with_reducible apply bl_drewT | (with_reducible refine below_tri8 ?_ (by omega) _ _ _)))) (first
        | (go_at_call 38; refine (SUM.out _ b5 a5 n5 k5 (y5.below (by repeat (first | with_reducible exact Below.refl _ _ | with_reducible apply bl_allocT))) (by repeat (first | with_reducible exact g1 | with_reducible apply bl_allocT))).mono ?_; rintro e' t2 ⟨⟨bd, ad, ld, kd, ed, okd, rfl, hs⟩, hb2⟩; have g2 : Below P7.heap.size P7 t2 := bl_trans8 (by repeat (first | with_reducible exact g1 | with_reducible apply bl_allocT)) hb2; have hle1 := g1.size; (first | (with_reducible have hq := made1T hb2; obtain ⟨z0c, z1c, z2c⟩ := tri8 hq; have zf := tri8f hq) | (with_reducible have hq := block_upW hb2 hpA; obtain ⟨z0c, z1c, z2c⟩ := tri8 hq; have zf := tri8f hq) | skip))
        | (go_at_call 39; refine (NEG.out _ (by repeat (first | with_reducible exact Below.refl _ _ | with_reducible apply bl_allocT | with_reducible apply bl_drewT))).mono ?_; rintro e' t1 ⟨⟨b5, a5, n5, k5, rfl, y5⟩, hb1⟩; have g1 : Below P7.heap.size P7 t1 := bl_trans8 (by repeat (first | with_reducible exact Below.refl _ _ | with_reducible apply bl_allocT | with_reducible apply bl_drewT)) hb1; (first | (with_reducible have hpA := made1dT hb1) | (with_reducible have hpA := made1T hb1) | skip)))
      all_goals (go_wp2_with fail; go_meet; first
        | with_reducible exact one_t hs g2
        | with_reducible exact one_ts hq hle1 hs g2
        | with_reducible exact one_ts hq (Nat.le_refl _) hs g2)
    case rest =>
      obtain ⟨go, bo, aox, lo, ko, eo, oko, rfl, rfl, hX, hS, hC, hbx⟩ := hcut
      clear NEG SUM KS g0
      replace HA := hide (block_upW hbx HA.out)
      replace Hm := hide (block_upW hbx Hm.out)
      replace Hp := hide (block_upW hbx Hp.out)
      replace Hc := hide (block_upW hbx Hc.out)
      replace HA0 := hide (HA0.out.below hbx)
      replace HT := hide (HT.out.below hbx)
      replace HDm := hide (HDm.out.below hbx)
      replace HGp := hide (HGp.out.below hbx)
      replace HTc := hide (HTc.out.below hbx)
      replace HTm := hide (HTm.out.below hbx)
      replace HW := hid_below HW hbx
      have Ho := hide hX
      have HSo := hide hS
      have HCo := hide hC
      clear hX hS hC hbx
      obtain rfl : oko = true := by
        cases oko
        · exact (HCo.out rfl).elim
        · rfl
      have HTo := hide (HSo.out rfl)
      clear HSo HCo HNF HHS
      obtain ⟨ca0, cb0, cc0⟩ := tri8 Hm.out
      have C := tabs8 bm am lm km E0 L V wc HTm.out
      go_wp2_with fail
      refine C.mono ?_
      rintro e Q8 ⟨⟨bv, av, lv, kv, rfl, hv8⟩, hb⟩
      clear C ca0 cb0 cc0
      replace HA := hide (block_upW hb HA.out)
      replace Hm := hide (block_upW hb Hm.out)
      replace Hp := hide (block_upW hb Hp.out)
      replace Hc := hide (block_upW hb Hc.out)
      replace Ho := hide (block_upW hb Ho.out)
      replace HA0 := hide (HA0.out.below hb)
      replace HT := hide (HT.out.below hb)
      replace HDm := hide (HDm.out.below hb)
      replace HGp := hide (HGp.out.below hb)
      replace HTc := hide (HTc.out.below hb)
      replace HTm := hide (HTm.out.below hb)
      replace HTo := hide (HTo.out.below hb)
      replace HW := hid_below HW hb
      have HTv := hide hv8
      clear hb hv8
      obtain ⟨s, hs⟩ : ∃ s : Nat, bits = (s : Int) + 1 := ⟨(bits - 1).toNat, by omega⟩
      have ws : IntKind.i64.wrap (1 - bits) = -(s : Int) := by rw [IntKind.wrap_i64]; omega
      have HSB := hide (show bn = s + 1 by have := HBN.out; omega)
      have HS8 := hide (show s ≤ 1048577 by omega)
      clear hs
      have C := tscale8 bv av lv kv E0 L s (V.natAbs : Int) Q8 HTv.out HS8.out (by have := HGE.out; omega)
      go_wp2_with fail
      refine C.mono ?_
      rintro e Q9 ⟨⟨br, ar, lr, kr, er, rfl, hr8⟩, hb⟩
      clear C 
      obtain ⟨P10, hP10, hbP, hx⟩ := enter1 Q9 (.cells #[.bool br, .slice ar lr kr, .int .i64 er] 36)
      have stp := bl_trans8 hb hbP
      replace HA := hide (block_upW stp HA.out)
      replace Hm := hide (block_upW stp Hm.out)
      replace Hp := hide (block_upW stp Hp.out)
      replace Hc := hide (block_upW stp Hc.out)
      replace Ho := hide (block_upW stp Ho.out)
      replace HA0 := hide (HA0.out.below stp)
      replace HT := hide (HT.out.below stp)
      replace HDm := hide (HDm.out.below stp)
      replace HGp := hide (HGp.out.below stp)
      replace HTc := hide (HTc.out.below stp)
      replace HTm := hide (HTm.out.below stp)
      replace HTo := hide (HTo.out.below stp)
      replace HTv := hide (HTv.out.below stp)
      replace HW := hid_below HW stp
      have HTr := hide (hr8.below hbP)
      have Hr := hide hx
      clear hr8 hb hbP hx stp ws
      obtain ⟨kc9, hkc⟩ : ∃ k, cmpZ (((Vc + -V).natAbs : Int) * 2 ^ (s + 1)) (V.natAbs : Int) = k := ⟨_, rfl⟩
      have i7 : decide (kc9 ≤ 0) = true := decide_eq_true (by
        rw [← hkc]
        have h1 := HOF.out.2 HM2.out
        have h2 := HCF.out.1
        rw [HSB.out, Nat.add_sub_cancel] at h2
        have e1 : Vc + -V = Vc - V := by omega
        rw [e1]
        have h3 : (Vc - V).natAbs * 2 ^ (s + 1) ≤ V.natAbs := by
          rw [Nat.pow_succ, Nat.mul_comm (2 ^ s), ← Nat.mul_assoc]
          exact Nat.le_trans (Nat.mul_le_mul_right _ h1) h2
        have h4 : ((Vc - V).natAbs : Int) * 2 ^ (s + 1) ≤ (V.natAbs : Int) := by
          have := Int.ofNat_le.2 h3
          rw [Int.natCast_mul, Int.natCast_pow] at this
          exact this
        unfold cmpZ
        split
        · omega
        · rw [if_neg (by omega)]; omega)
      have i7b : kc9 ≤ 0 := of_decide_eq_true i7
      have HKC := hide hkc
      clear hkc
      have gd : Below P10.heap.size P10 P10.drew := (Below.refl _ _).drew
      have HWD := hide (bl_trans8 HW.out gd)
      have g0 : Below P10.drew.heap.size P10.drew P10.drew := Below.refl _ _
      have KS := hide (fun (W : World) (hg : Below P10.drew.heap.size P10.drew W) => show W.cell? ⟨go, 0, none⟩ = some (.bool bo) ∧ W.cell? ⟨go, 1, none⟩ = some (.slice aox lo ko) ∧ W.cell? ⟨go, 2, none⟩ = some (.int .i64 eo) ∧ W.cell? ⟨Q9.heap.size, 0, none⟩ = some (.bool br) ∧ W.cell? ⟨Q9.heap.size, 1, none⟩ = some (.slice ar lr kr) ∧ W.cell? ⟨Q9.heap.size, 2, none⟩ = some (.int .i64 er) from ⟨(tri8 (block_upW (bl_trans8 gd hg) Ho.out)).1, (tri8 (block_upW (bl_trans8 gd hg) Ho.out)).2.1, (tri8 (block_upW (bl_trans8 gd hg) Ho.out)).2.2, (tri8 (block_upW (bl_trans8 gd hg) Hr.out)).1, (tri8 (block_upW (bl_trans8 gd hg) Hr.out)).2.1, (tri8 (block_upW (bl_trans8 gd hg) Hr.out)).2.2⟩)
      have KA := hide (fun (W : World) (hg : Below P10.drew.heap.size P10.drew W) => tabs8 bo aox lo ko eo L (Vc + -V) W (HTo.out.below (bl_trans8 gd hg)))
      have KT := hide (fun (W : World) (hg : Below P10.drew.heap.size P10.drew W) => awake8_any W (HT.out.below (bl_trans8 gd hg)))
      have HER : Hid (-288230376151711744 ≤ er) := hide (by
        obtain ⟨Mr, _, rr, qr, _⟩ := HTr.out
        obtain ⟨Mv, _, rv9, qv, _⟩ := HTv.out
        have h1 := rv9.fine9 s
        by_cases h0 : V = 0
        · have h5 : Mr = 0 := rr.pos.2.1 (by rw [h0]; rfl)
          rcases qr with q | q
          · omega
          · rw [h5] at q; simp at q
        · obtain ⟨_, h6⟩ := Rp.one rr h1 qr (by
            rcases qv with q | q
            · exact absurd (rv9.pos.2.2 q.1) (by omega)
            · exact .inr q)
          have := HGE.out
          have := HS8.out
          omega)
      have KSC := hide (fun (W : World) (hg : Below P10.drew.heap.size P10.drew W) => show Calls Tryd.prog 40 #[.agg #[.bool br, .slice ar lr kr, .int .i64 er], .int .i64 (-1)] W (TDone W (L + s + 1) (V.natAbs : Int)) from tscale8 br ar lr kr er (L + s) 1 (V.natAbs : Int) W (HTr.out.below (bl_trans8 gd hg)) (by omega) HER.out)
      clear gd
      go_wp2_with fail
      go_region_held3 (fun w' => w'.cell? ⟨go, 0, none⟩ = some (.bool bo) ∧ w'.cell? ⟨go, 1, none⟩ = some (.slice aox lo ko) ∧ w'.cell? ⟨go, 2, none⟩ = some (.int .i64 eo) ∧ w'.cell? ⟨Q9.heap.size, 0, none⟩ = some (.bool br) ∧ w'.cell? ⟨Q9.heap.size, 1, none⟩ = some (.slice ar lr kr) ∧ w'.cell? ⟨Q9.heap.size, 2, none⟩ = some (.int .i64 er)) (first | with_reducible exact KS.out _ g4 | with_reducible exact KS.out _ g3 | with_reducible exact KS.out _ g2 | with_reducible exact KS.out _ g1 | with_reducible exact KS.out _ g0) (first
        | (go_at_call 41; refine (KA.out _ g0).mono ?_; rintro e' t1 ⟨⟨b6, a6, n6, k6, rfl, y6⟩, hb1⟩; have g1 := bl_trans8 g0 hb1)
        | (go_at_call 40; refine (KSC.out t1 g1).mono ?_; rintro e' t2 ⟨⟨b7, a7, n7, k7, e7, rfl, y7⟩, hb2⟩; have g2 := bl_trans8 g1 hb2)
        | (go_at_call 34; refine (tcmp8 b6 a6 n6 k6 eo b7 a7 n7 k7 e7 (L + s + 1) _ (V.natAbs : Int) t2 ((y6.below hb2).fine (s + 1)) y7).mono ?_; rw [HKC.out]; rintro e' t3 ⟨rfl, hb3⟩; have g3 := bl_trans8 g2 hb3)
        | (go_at_call 20; refine (KT.out t3 g3).mono ?_; rintro e' t4 ⟨rfl, hb4⟩; have g4 := bl_trans8 g3 hb4))
      have HFIN := hide (bl_trans8 HWD.out g4)
      clear g0 g1 g2 g3 g4 hb1 hb2 hb3 hb4 KS KA KT KSC
      go_wp2
      go_ret
      exact ⟨rfl, HFIN.out⟩
  · skip
    have ic : (cp == 0) = false := by rw [beq_eq_false_iff_ne]; exact hc
    have ic2 : (cp != 0) = true := by rw [bne, ic]; rfl
    have C := num8_any cp P5
    go_wp2_with fail
    refine C.mono ?_
    rintro e wn ⟨rfl, hw⟩; rw [hw]; clear hw wn C hP5
    have AW := awake8_any P5 HT.out
    go_wp2_with fail
    refine AW.mono ?_
    rintro e t9 ⟨rfl, hb9⟩
    have HFIN := hide (bl_trans8 HW.out hb9)
    clear AW hb9
    go_wp2
    go_ret
    exact ⟨rfl, HFIN.out⟩

set_option maxRecDepth 20000 in
set_option maxHeartbeats 16000000 in
theorem dyadicShort_walk (b0 : Bool) (v0 : Value) (z0 : List Nat) (p0 : Int) (bits m : Int) (w : World) (hT : Tab w) (A0 : Arg w v0 z0) (s0 : z0.length ≤ 17592186043904) (lo : -9223372036854775808 ≤ p0) (hi : p0 ≤ 9223372036854775807) (l1 : -9223372036854775808 ≤ bits) (h1 : bits ≤ 9223372036854775807) (l2 : -9223372036854775808 ≤ m) (h2 : m ≤ 9223372036854775807) :
    Calls Tryd.prog 6 #[.agg #[.bool b0, v0, .int .i64 p0], .int .i64 bits, .int .i64 m] w fun e w' => e = .returned (.bool true) ∧ Below w.heap.size w w' := by
  cases hE : fitE p0
  · exact short_no b0 v0 z0 p0 bits m w hT A0 s0 lo hi l1 h1 l2 h2 hE
  · by_cases hb1 : bits < 1
    · exact short_b1 b0 v0 z0 p0 bits m w hT A0 s0 lo hi l1 h1 l2 h2 hE hb1
    by_cases hb2 : 1048576 < bits
    · exact short_b2 b0 v0 z0 p0 bits m w hT A0 s0 lo hi l1 h1 l2 h2 hE (by omega) hb2
    cases hM : isM m
    · exact short_m b0 v0 z0 p0 bits m w hT A0 s0 lo hi l1 h1 l2 h2 hE (by omega) (by omega) hM
    · by_cases hl : ((blen (omz (zz b0 (val z0))).natAbs : Nat) : Int) ≤ bits
      · exact short_few b0 v0 z0 p0 bits m w hT A0 s0 lo hi l1 h1 l2 h2 hE (by omega) (by omega) hM hl
      · by_cases h9 : m = 2
        · exact short_near b0 v0 z0 p0 bits m w hT A0 s0 lo hi l1 h1 l2 h2 hE (by omega) (by omega) hM (by omega) h9
        · exact short_side b0 v0 z0 p0 bits m w hT A0 s0 lo hi l1 h1 l2 h2 hE (by omega) (by omega) hM (by omega) h9

end Go.Proofs.YtemajaclpkgpbaaDoor
