/- The walk of the law DyadicNear. -/
import Derived.Test.YtemajaclpkgpbaaDoorDp3tZ
import Derived.Test.YtemajaclpkgpbaaDoorDyS9Z
import Derived.Test.YtemajaclpkgpbaaDoorDyAllZ
namespace Go.Proofs.YtemajaclpkgpbaaDoor
open Go.RowKit
open Lm
attribute [local go_sem ↓] Go.wp_at_zero Go.wp_at_succ

theorem cmpZ_self9 (z : Int) : cmpZ z z = 0 := by unfold cmpZ; rw [if_neg (by omega), if_neg (by omega)]

theorem near_facts (V : Int) (P : Nat) (hP : 0 < P) (h : V % (P : Int) ≠ 0) : rv 1 V P = rv 0 V P + (P : Int) ∧ (2 * (V % (P : Int)) < (P : Int) → rv 2 V P = rv 0 V P) ∧ ((P : Int) < 2 * (V % (P : Int)) → rv 2 V P = rv 1 V P) ∧ (2 * (V % (P : Int)) = (P : Int) → rv 2 V P % ((2 * P : Nat) : Int) = 0) ∧ (rv 2 V P = rv 0 V P ∨ rv 2 V P = rv 1 V P) := by
  have h1 := Int.emod_nonneg V (show (P : Int) ≠ 0 by omega)
  have h2 := Int.emod_lt_of_pos V (show (0 : Int) < (P : Int) by omega)
  have hu := rv_up V P
  have hd := rv_down V P
  have hne : -V % (P : Int) = (P : Int) - V % (P : Int) := by
    have h5 := Int.mul_ediv_add_emod V (P : Int)
    have e : -V = ((P : Int) - V % (P : Int)) + (-(V / (P : Int)) - 1) * (P : Int) := by
      rw [Int.sub_mul, Int.neg_mul, Int.one_mul, Int.mul_comm]; omega
    rw [e, Int.add_mul_emod_self_right, Int.emod_eq_of_lt (by omega) (by omega)]
  have e1 : rv 1 V P = rv 0 V P + (P : Int) := by omega
  have e2 : rv 2 V P = if (P : Int) < 2 * (V % (P : Int)) ∨ (2 * (V % (P : Int)) = (P : Int) ∧ V / (P : Int) % 2 = 1) then rv 0 V P + (P : Int) else rv 0 V P := by
    unfold rv rvQ
    rw [if_neg (by decide), if_neg (by decide), if_pos rfl]
    split
    · rw [Int.add_mul, Int.one_mul]
    · rfl
  refine ⟨e1, fun h => ?_, fun h => ?_, fun h => ?_, ?_⟩
  · rw [e2, if_neg (by omega)]
  · rw [e2, if_pos (.inl h), e1]
  · have e0 : rv 0 V P = V / (P : Int) * (P : Int) := by unfold rv rvQ; rw [if_pos rfl]
    have hc : ((2 * P : Nat) : Int) = 2 * (P : Int) := by omega
    rw [e2, hc]
    by_cases ho : V / (P : Int) % 2 = 1
    · rw [if_pos (.inr ⟨h, ho⟩), e0]
      obtain ⟨k, hk⟩ : ∃ k, V / (P : Int) = 2 * k + 1 := ⟨V / (P : Int) / 2, by omega⟩
      rw [hk, show (2 * k + 1) * (P : Int) + (P : Int) = (k + 1) * (2 * (P : Int)) by rw [Int.add_mul, Int.add_mul, Int.one_mul, Int.one_mul, Int.mul_comm 2 k, Int.mul_assoc]; omega]
      exact Int.mul_emod_left _ _
    · rw [if_neg (by omega), e0]
      obtain ⟨k, hk⟩ : ∃ k, V / (P : Int) = 2 * k := ⟨V / (P : Int) / 2, by omega⟩
      rw [hk, show 2 * k * (P : Int) = k * (2 * (P : Int)) by rw [Int.mul_comm 2 k, Int.mul_assoc]]
      exact Int.mul_emod_left _ _
  · rw [e2]
    split
    · exact .inr e1.symm
    · exact .inl rfl

theorem near_room {L P : Nat} {M0 E0 V : Int} (hP : 0 < P) (hr : Rp L M0 E0 V) (hE : -1099511627776 ≤ E0) (hE2 : E0 ≤ 1125899906842624 * 4) (o1 : Ok8 L (rv 0 V P)) (o2 : Ok8 L (rv 1 V P)) : blen M0.natAbs ≤ 4000000000000 := by
  have bd : ∀ {X : Int}, Ok8 L X → X.natAbs < 2 ^ (1099578736640 + L) := by
    rintro X ⟨M, E, r, _, hb, hf⟩
    have hEr := (fitE_iff E).1 hf
    have := r.1
    exact Nat.lt_of_lt_of_le (r.small8 hb) (Nat.pow_le_pow_right (by omega) (by omega))
  have b1 := bd o1
  have b2 := bd o2
  have h1 := Int.emod_nonneg V (show (P : Int) ≠ 0 by omega)
  have h2 := Int.emod_nonneg (-V) (show (P : Int) ≠ 0 by omega)
  have hu := rv_up V P
  have hd := rv_down V P
  have hV : V.natAbs < 2 ^ (1099578736640 + L) := by omega
  by_cases hv0 : V = 0
  · rw [hr.pos.2.1 hv0]; exact Nat.zero_le _
  have hx := hr.exp8 hv0 hV
  have := hr.1
  refine Nat.le_trans (hr.blen8 (k := 1099578736640 + L - (E0 + L).toNat) ?_) (by omega)
  rw [show (E0 + L).toNat + (1099578736640 + L - (E0 + L).toNat) = 1099578736640 + L by omega]
  exact hV

theorem T8.mk9 {w : World} {b : Bool} {a : Option Addr} {n c : Nat} {M E : Int} {L : Nat} {V : Int} (h : Dn w b (.slice a n c) M) (hr : Rp L M E V) (hn : Nr8 M E) (hb : blen M.natAbs ≤ 4000000000000) (h1 : -1125899906842624 * 4 ≤ E) (h2 : E ≤ 1125899906842624 * 4) : T8 w b a n c E L V := ⟨M, h, hr, hn, hb, by omega, by omega⟩

theorem G8.fit9 {w : World} {b : Bool} {a : Option Addr} {n k : Nat} {ex : Int} {L : Nat} {V : Int} (h : G8 w b a n k ex L V) : -1099511627776 ≤ ex ∧ ex ≤ 1099511627776 := by
  obtain ⟨_, _, _, _, _, _, _, _, hf⟩ := h
  exact (fitE_iff ex).1 hf

theorem T8.far {w : World} {b : Bool} {a : Option Addr} {n c : Nat} {E : Int} {L : Nat} {V pos : Int} (h : T8 w b a n c E L V) (hp : 0 ≤ pos + L) (h0 : V ≠ 0) : V % ((2 ^ (pos + L).toNat : Nat) : Int) = 0 ↔ pos ≤ E := by
  obtain ⟨M, _, r, q, _⟩ := h
  rw [← at_iff r q hp]
  have : M ≠ 0 := fun h => h0 (r.pos.2.2 h)
  exact ⟨fun h => h.resolve_left this, .inr⟩

theorem mult_big {V : Int} {P : Nat} (h : V % (P : Int) = 0) (h0 : V ≠ 0) : P ≤ V.natAbs := by
  obtain ⟨k, rfl⟩ := Int.dvd_of_emod_eq_zero h
  rw [Int.natAbs_mul, Int.natAbs_natCast]
  have : k ≠ 0 := by rintro rfl; simp at h0
  exact Nat.le_mul_of_pos_right _ (by omega)

set_option maxRecDepth 20000 in
set_option maxHeartbeats 16000000 in
theorem near_far (b0 : Bool) (v0 : Value) (z0 : List Nat) (p0 : Int) (pos : Int) (w : World) (hT : Tab w) (A0 : Arg w v0 z0) (s0 : z0.length ≤ 17592186043904) (_ : -9223372036854775808 ≤ p0) (_ : p0 ≤ 9223372036854775807) (_ : -9223372036854775808 ≤ pos) (_ : pos ≤ 9223372036854775807) (hE0 : fitE p0 = true) (hK : fitE pos = true) (hat : ¬ (omz (zz b0 (val z0)) = 0 ∨ pos ≤ oe (zz b0 (val z0)) p0)) :
    Calls Tryd.prog 5 #[.agg #[.bool b0, v0, .int .i64 p0], .int .i64 pos] w fun e w' => e = .returned (.bool true) ∧ Below w.heap.size w w' := by
  obtain ⟨a0, n0, rfl, _, _, _⟩ := A0.form
  obtain ⟨w0, hw0, hb0, h0⟩ := enter1 w (.cells #[.bool b0, .slice a0 z0.length n0, .int .i64 p0] 24)
  have HA := hide h0
  have HA0 := hide (A0.below hb0)
  have HT := hide (hT.below hb0)
  have HW := hide hb0
  clear hT hb0 h0
  obtain ⟨L, hL⟩ : ∃ L : Nat, L = 9223372036854775808 := ⟨_, rfl⟩
  have hEr := (fitE_iff p0).1 hE0
  have hKr := (fitE_iff pos).1 hK
  have hbz : blen (zz b0 (val z0)).natAbs ≤ 64 * z0.length := by rw [zz_abs]; exact blen_len8 A0.limbs
  have hOE := oe_range (zz b0 (val z0)) p0 (by omega)
  obtain ⟨V, hX⟩ : ∃ V, Rp L (zz b0 (val z0)) p0 V := ⟨_, Rp.make L _ p0 (by omega)⟩
  have hr := hX.norm
  have hn := nr8_of (zz b0 (val z0)) p0
  have HI0 : Hid (I8 w0 b0 a0 z0.length n0 p0 L V) := hide ⟨z0, rfl, HA0.out, s0, hX⟩
  have HL := hide (show 4611686018427387904 ≤ L by omega)
  have hge : -1099511627776 ≤ oe (zz b0 (val z0)) p0 := by unfold oe; split <;> omega
  obtain ⟨M0, hM0⟩ : ∃ M0, omz (zz b0 (val z0)) = M0 := ⟨_, rfl⟩
  obtain ⟨E0, hE0v⟩ : ∃ E0, oe (zz b0 (val z0)) p0 = E0 := ⟨_, rfl⟩
  rw [hM0, hE0v] at hr hn
  rw [hE0v] at hOE hge
  have HM0 := hide hM0
  have HV0 := hide hE0v
  have HR := hide hr
  have HN := hide hn
  have HGE := hide hge
  have HHI := hide (show E0 ≤ 1125899906842624 * 4 by omega)
  obtain ⟨P, hP⟩ : ∃ P : Nat, 2 ^ (pos + L).toNat = P := ⟨_, rfl⟩
  have HPP := hide hP
  have HP0 := hide (show 0 < P by rw [← hP]; exact Nat.two_pow_pos _)
  have HPL := hide (show 0 ≤ pos + L by omega)
  have HKR := hide hKr
  have HLE := hide hL
  clear A0 hM0 hE0v hr hn hX hP hge hOE hEr hbz hL hKr
  go_enter Tryd.func5, Tryd.ntmps5
  obtain ⟨ca0, cb0, cc0⟩ := tri8 HA.out
  have C := in8_any b0 a0 z0.length n0 p0 w0
  go_wp2_with fail
  refine C.mono ?_
  rintro e Q1 ⟨rfl, hb⟩
  clear C ca0 cb0 cc0 hw0
  obtain ⟨P2, hP2, hbP, hx⟩ := enter1 Q1 (.cells #[.bool b0, .slice a0 z0.length n0, .int .i64 p0] 29)
  have stp := bl_trans8 hb hbP
  replace HA := hide (block_upW stp HA.out)
  replace HA0 := hide (HA0.out.below stp)
  replace HT := hide (HT.out.below stp)
  replace HI0 := hide (HI0.out.below stp)
  replace HW := hid_below HW stp
  have HX := hide hx
  clear hb hbP hx stp
  obtain ⟨ca0, cb0, cc0⟩ := tri8 HA.out
  have C := of8_ok b0 a0 n0 z0 p0 P2 HA0.out (by omega) hE0
  rw [HM0.out, HV0.out] at C
  go_wp2_with fail
  refine C.mono ?_
  rintro e Q3 ⟨⟨bm, am, lm, km, rfl, hd0⟩, hb⟩
  clear C ca0 cb0 cc0 hP2
  obtain ⟨P4, hP4, hbP, hx⟩ := enter1 Q3 (.cells #[.bool bm, .slice am lm km, .int .i64 E0] 36)
  have stp := bl_trans8 hb hbP
  replace HA := hide (block_upW stp HA.out)
  replace HX := hide (block_upW stp HX.out)
  replace HA0 := hide (HA0.out.below stp)
  replace HT := hide (HT.out.below stp)
  replace HI0 := hide (HI0.out.below stp)
  replace HW := hid_below HW stp
  have HDm := hide (hd0.below hbP)
  have Hm := hide hx
  clear hd0 hb hbP hx stp
  have C := fit8_any pos P4
  rw [hK] at C
  go_wp2_with fail
  refine C.mono ?_
  rintro e wn ⟨rfl, hw⟩; rw [hw]; clear hw wn C hP4
  obtain ⟨ca0, cb0, cc0⟩ := tri8 HX.out
  have C := yround8 b0 a0 z0.length n0 p0 L V pos 0 P4 HT.out HI0.out HL.out hK (by decide)
  rw [HPP.out] at C
  go_wp2_with fail
  refine C.mono ?_
  rintro e Q5 ⟨⟨bp, apx, lp, kp, ep, cp, rfl, hp⟩, hb⟩
  clear C ca0 cb0 cc0
  obtain ⟨P6, hP6, hbP, hx⟩ := enter1 Q5 (.cells #[.bool bp, .slice apx lp kp, .int .i64 ep] 29)
  have stp := bl_trans8 hb hbP
  replace HA := hide (block_upW stp HA.out)
  replace HX := hide (block_upW stp HX.out)
  replace Hm := hide (block_upW stp Hm.out)
  replace HA0 := hide (HA0.out.below stp)
  replace HT := hide (HT.out.below stp)
  replace HI0 := hide (HI0.out.below stp)
  replace HDm := hide (HDm.out.below stp)
  replace HW := hid_below HW stp
  have HRp := hide (hp.below hbP)
  have Hp := hide hx
  clear hp hb hbP hx stp
  obtain ⟨ca0, cb0, cc0⟩ := tri8 HX.out
  have C := yround8 b0 a0 z0.length n0 p0 L V pos 1 P6 HT.out HI0.out HL.out hK (by decide)
  rw [HPP.out] at C
  go_wp2_with fail
  refine C.mono ?_
  rintro e Q7 ⟨⟨bq, aqx, lq, kq, eq, cq, rfl, hp⟩, hb⟩
  clear C ca0 cb0 cc0 hP6
  obtain ⟨P8, hP8, hbP, hx⟩ := enter1 Q7 (.cells #[.bool bq, .slice aqx lq kq, .int .i64 eq] 29)
  have stp := bl_trans8 hb hbP
  replace HA := hide (block_upW stp HA.out)
  replace HX := hide (block_upW stp HX.out)
  replace Hm := hide (block_upW stp Hm.out)
  replace Hp := hide (block_upW stp Hp.out)
  replace HA0 := hide (HA0.out.below stp)
  replace HT := hide (HT.out.below stp)
  replace HI0 := hide (HI0.out.below stp)
  replace HDm := hide (HDm.out.below stp)
  replace HRp := hide (HRp.out.below stp)
  replace HW := hid_below HW stp
  have HRq := hide (hp.below hbP)
  have Hq := hide hx
  clear hp hb hbP hx stp
  obtain ⟨ca0, cb0, cc0⟩ := tri8 HX.out
  have C := yround8 b0 a0 z0.length n0 p0 L V pos 2 P8 HT.out HI0.out HL.out hK (by decide)
  rw [HPP.out] at C
  go_wp2_with fail
  refine C.mono ?_
  rintro e Q9 ⟨⟨br, arx, lr, kr, er, cr, rfl, hp⟩, hb⟩
  clear C ca0 cb0 cc0 hP8
  obtain ⟨P10, hP10, hbP, hx⟩ := enter1 Q9 (.cells #[.bool br, .slice arx lr kr, .int .i64 er] 29)
  have stp := bl_trans8 hb hbP
  replace HA := hide (block_upW stp HA.out)
  replace HX := hide (block_upW stp HX.out)
  replace Hm := hide (block_upW stp Hm.out)
  replace Hp := hide (block_upW stp Hp.out)
  replace Hq := hide (block_upW stp Hq.out)
  replace HA0 := hide (HA0.out.below stp)
  replace HT := hide (HT.out.below stp)
  replace HI0 := hide (HI0.out.below stp)
  replace HDm := hide (HDm.out.below stp)
  replace HRp := hide (HRp.out.below stp)
  replace HRq := hide (HRq.out.below stp)
  replace HW := hid_below HW stp
  have HRr := hide (hp.below hbP)
  have Hr := hide hx
  clear hp hb hbP hx stp
  obtain ⟨ca0, cb0, cc0⟩ := tri8 HX.out
  have C := yneg8 b0 a0 z0.length n0 p0 L V P10 HT.out HI0.out
  go_wp2_with fail
  refine C.mono ?_
  rintro e Q11 ⟨⟨bn, anx, ln, kn, en, cn, rfl, hp⟩, hb⟩
  clear C ca0 cb0 cc0 hP10
  obtain ⟨P12, hP12, hbP, hx⟩ := enter1 Q11 (.cells #[.bool bn, .slice anx ln kn, .int .i64 en] 29)
  have stp := bl_trans8 hb hbP
  replace HA := hide (block_upW stp HA.out)
  replace HX := hide (block_upW stp HX.out)
  replace Hm := hide (block_upW stp Hm.out)
  replace Hp := hide (block_upW stp Hp.out)
  replace Hq := hide (block_upW stp Hq.out)
  replace Hr := hide (block_upW stp Hr.out)
  replace HA0 := hide (HA0.out.below stp)
  replace HT := hide (HT.out.below stp)
  replace HI0 := hide (HI0.out.below stp)
  replace HDm := hide (HDm.out.below stp)
  replace HRp := hide (HRp.out.below stp)
  replace HRq := hide (HRq.out.below stp)
  replace HRr := hide (HRr.out.below stp)
  replace HW := hid_below HW stp
  have HRn := hide (hp.below hbP)
  have Hn := hide hx
  clear hp hb hbP hx stp
  obtain ⟨U13, hU13, hst, hLb⟩ := enter1 P12 (.cells #[.int .i64 cp, .int .i64 cq, .int .i64 cr, .int .i64 cn] 39)
  have AL := yall_any P12.heap.size 4 [cp, cq, cr, cn] U13 rfl (by omega) hLb
  replace HA := hide (block_upW hst HA.out)
  replace HX := hide (block_upW hst HX.out)
  replace Hm := hide (block_upW hst Hm.out)
  replace Hp := hide (block_upW hst Hp.out)
  replace Hq := hide (block_upW hst Hq.out)
  replace Hr := hide (block_upW hst Hr.out)
  replace Hn := hide (block_upW hst Hn.out)
  replace HA0 := hide (HA0.out.below hst)
  replace HT := hide (HT.out.below hst)
  replace HI0 := hide (HI0.out.below hst)
  replace HDm := hide (HDm.out.below hst)
  replace HRp := hide (HRp.out.below hst)
  replace HRq := hide (HRq.out.below hst)
  replace HRr := hide (HRr.out.below hst)
  replace HRn := hide (HRn.out.below hst)
  replace HW := hid_below HW hst
  clear hst hLb
  by_cases hc : cp = 0 ∧ cq = 0 ∧ cr = 0 ∧ cn = 0
  · skip
    obtain ⟨rfl, rfl, rfl, rfl⟩ := hc
    have hyes : (([0, 0, 0, 0] : List Int).all (· == 0)) = true := by decide
    rw [hyes] at AL
    clear hyes
    go_wp2_with fail
    refine AL.mono ?_
    rintro e wn ⟨rfl, hw⟩; rw [hw]; clear hw wn AL hP12 hU13
    have HGp := hide (HRp.out rfl)
    have HGq := hide (HRq.out rfl)
    have HGr := hide (HRr.out rfl)
    have HGn := hide (HRn.out rfl)
    clear HRp HRq HRr HRn
    have hl4 := near_room HP0.out HR.out HGE.out HHI.out HGp.out.ok8 HGq.out.ok8
    have HL4 := hide hl4
    have HN1 := hide (rv_neg01 V P)
    have HN2 := hide (rv_neg2 V P HP0.out)
    have HO1 : Hid (Ok8 L (rv 0 (-V) P)) := hide (by rw [HN1.out]; exact HGq.out.ok8.neg)
    have HO2 : Hid (Ok8 L (rv 2 (-V) P)) := hide (by rw [HN2.out]; exact HGr.out.ok8.neg)
    have HDN := hide (rv_down V P)
    have HUP := hide (rv_up V P)
    have HM1 := hide (Int.emod_nonneg V (show (P : Int) ≠ 0 by have := HP0.out; omega))
    have HM2 := hide (Int.emod_nonneg (-V) (show (P : Int) ≠ 0 by have := HP0.out; omega))
    have HML := hide (Int.emod_lt_of_pos V (show (0 : Int) < (P : Int) by have := HP0.out; omega))
    have HXd := hide (rv_rest 0 V P)
    have HXu := hide (rv_rest 1 V P)
    clear hl4
    obtain ⟨ca0, cb0, cc0⟩ := tri8 Hn.out
    have C := yround8s bn anx ln kn en L (-V) pos 0 U13 HT.out HGn.out HL.out hK (by decide) (by rw [HPP.out]; exact HO1.out)
    rw [HPP.out, HN1.out] at C
    go_wp2_with fail
    refine C.mono ?_
    rintro e Q14 ⟨⟨bs, asx, ls, ks, es, rfl, hp⟩, hb⟩
    clear C ca0 cb0 cc0
    obtain ⟨P15, hP15, hbP, hx⟩ := enter1 Q14 (.cells #[.bool bs, .slice asx ls ks, .int .i64 es] 29)
    have stp := bl_trans8 hb hbP
    replace HA := hide (block_upW stp HA.out)
    replace HX := hide (block_upW stp HX.out)
    replace Hm := hide (block_upW stp Hm.out)
    replace Hp := hide (block_upW stp Hp.out)
    replace Hq := hide (block_upW stp Hq.out)
    replace Hr := hide (block_upW stp Hr.out)
    replace Hn := hide (block_upW stp Hn.out)
    replace HA0 := hide (HA0.out.below stp)
    replace HT := hide (HT.out.below stp)
    replace HI0 := hide (HI0.out.below stp)
    replace HDm := hide (HDm.out.below stp)
    replace HGp := hide (HGp.out.below stp)
    replace HGq := hide (HGq.out.below stp)
    replace HGr := hide (HGr.out.below stp)
    replace HGn := hide (HGn.out.below stp)
    replace HW := hid_below HW stp
    have HGs := hide (hp.below hbP)
    have Hs := hide hx
    clear hp hb hbP hx stp
    obtain ⟨ca0, cb0, cc0⟩ := tri8 Hn.out
    have C := yround8s bn anx ln kn en L (-V) pos 2 P15 HT.out HGn.out HL.out hK (by decide) (by rw [HPP.out]; exact HO2.out)
    rw [HPP.out, HN2.out] at C
    go_wp2_with fail
    refine C.mono ?_
    rintro e Q16 ⟨⟨bt, atx, lt, kt, et, rfl, hp⟩, hb⟩
    clear C ca0 cb0 cc0 hP15
    obtain ⟨P17, hP17, hbP, hx⟩ := enter1 Q16 (.cells #[.bool bt, .slice atx lt kt, .int .i64 et] 29)
    have stp := bl_trans8 hb hbP
    replace HA := hide (block_upW stp HA.out)
    replace HX := hide (block_upW stp HX.out)
    replace Hm := hide (block_upW stp Hm.out)
    replace Hp := hide (block_upW stp Hp.out)
    replace Hq := hide (block_upW stp Hq.out)
    replace Hr := hide (block_upW stp Hr.out)
    replace Hn := hide (block_upW stp Hn.out)
    replace Hs := hide (block_upW stp Hs.out)
    replace HA0 := hide (HA0.out.below stp)
    replace HT := hide (HT.out.below stp)
    replace HI0 := hide (HI0.out.below stp)
    replace HDm := hide (HDm.out.below stp)
    replace HGp := hide (HGp.out.below stp)
    replace HGq := hide (HGq.out.below stp)
    replace HGr := hide (HGr.out.below stp)
    replace HGn := hide (HGn.out.below stp)
    replace HGs := hide (HGs.out.below stp)
    replace HW := hid_below HW stp
    have HGt := hide (hp.below hbP)
    have Ht := hide hx
    clear hp hb hbP hx stp
    obtain ⟨U18, hU18, hst, hLb⟩ := enter1 P17 (.cells #[.int .i64 0, .int .i64 0] 39)
    have AL := yall_any P17.heap.size 2 [0, 0] U18 rfl (by omega) hLb
    replace HA := hide (block_upW hst HA.out)
    replace HX := hide (block_upW hst HX.out)
    replace Hm := hide (block_upW hst Hm.out)
    replace Hp := hide (block_upW hst Hp.out)
    replace Hq := hide (block_upW hst Hq.out)
    replace Hr := hide (block_upW hst Hr.out)
    replace Hn := hide (block_upW hst Hn.out)
    replace Hs := hide (block_upW hst Hs.out)
    replace Ht := hide (block_upW hst Ht.out)
    replace HA0 := hide (HA0.out.below hst)
    replace HT := hide (HT.out.below hst)
    replace HI0 := hide (HI0.out.below hst)
    replace HDm := hide (HDm.out.below hst)
    replace HGp := hide (HGp.out.below hst)
    replace HGq := hide (HGq.out.below hst)
    replace HGr := hide (HGr.out.below hst)
    replace HGn := hide (HGn.out.below hst)
    replace HGs := hide (HGs.out.below hst)
    replace HGt := hide (HGt.out.below hst)
    replace HW := hid_below HW hst
    clear hst hLb
    have hyes : (([0, 0] : List Int).all (· == 0)) = true := by decide
    rw [hyes] at AL
    clear hyes
    go_wp2_with fail
    refine AL.mono ?_
    rintro e wn ⟨rfl, hw⟩; rw [hw]; clear hw wn AL hP17 hU18
    rw [HM0.out, HV0.out] at hat
    have hmod : V % (P : Int) ≠ 0 := by rw [← HPP.out]; exact fun h => hat ((at_iff HR.out HN.out HPL.out).2 h)
    have HMOD := hide hmod
    have HNF := hide (near_facts V P HP0.out hmod)
    obtain ⟨Vd, hVd⟩ : ∃ x, rv 0 V P = x := ⟨_, rfl⟩
    obtain ⟨Vu, hVu⟩ : ∃ x, rv 1 V P = x := ⟨_, rfl⟩
    obtain ⟨Vn, hVn⟩ : ∃ x, rv 2 V P = x := ⟨_, rfl⟩
    rw [hVd] at HGp HNF HDN HXd
    rw [hVu] at HGq HGs HNF HUP HXu
    rw [hVn] at HGr HGt HNF
    have HE0P := hide (show E0 < pos by omega)
    clear hat hmod hVd hVu hVn HN1 HN2 HO1 HO2
    have HFp := hide HGp.out.fit9
    have HFq := hide HGq.out.fit9
    have HFr := hide HGr.out.fit9
    have KS := hide (fun (W : World) (hg : Below U18.heap.size U18 W) => show W.cell? ⟨Q5.heap.size, 0, none⟩ = some (.bool bp) ∧ W.cell? ⟨Q5.heap.size, 1, none⟩ = some (.slice apx lp kp) ∧ W.cell? ⟨Q5.heap.size, 2, none⟩ = some (.int .i64 ep) ∧ W.cell? ⟨Q7.heap.size, 0, none⟩ = some (.bool bq) ∧ W.cell? ⟨Q7.heap.size, 1, none⟩ = some (.slice aqx lq kq) ∧ W.cell? ⟨Q7.heap.size, 2, none⟩ = some (.int .i64 eq) ∧ W.cell? ⟨Q9.heap.size, 0, none⟩ = some (.bool br) ∧ W.cell? ⟨Q9.heap.size, 1, none⟩ = some (.slice arx lr kr) ∧ W.cell? ⟨Q9.heap.size, 2, none⟩ = some (.int .i64 er) from ⟨(tri8 (block_upW hg Hp.out)).1, (tri8 (block_upW hg Hp.out)).2.1, (tri8 (block_upW hg Hp.out)).2.2, (tri8 (block_upW hg Hq.out)).1, (tri8 (block_upW hg Hq.out)).2.1, (tri8 (block_upW hg Hq.out)).2.2, (tri8 (block_upW hg Hr.out)).1, (tri8 (block_upW hg Hr.out)).2.1, (tri8 (block_upW hg Hr.out)).2.2⟩)
    have IN1 := hide (fun (W : World) (hg : Below U18.heap.size U18 W) => tread8 bp apx lp kp ep L Vd W (HGp.out.below hg))
    have IN2 := hide (fun (W : World) (hg : Below U18.heap.size U18 W) => tread8 bq aqx lq kq eq L Vu W (HGq.out.below hg))
    have IN3 := hide (fun (W : World) (hg : Below U18.heap.size U18 W) => tread8 br arx lr kr er L Vn W (HGr.out.below hg))
    go_upto_region 20 with fail
    go_cut [20, 21, 22] from 93 to 98 (fun s t r wx => ThreeT U18 ep eq er L Vd Vu Vn s t r wx)
    case first =>
      refine wp_region_held_drew (S := fun w' => w'.cell? ⟨Q5.heap.size, 0, none⟩ = some (.bool bp) ∧ w'.cell? ⟨Q5.heap.size, 1, none⟩ = some (.slice apx lp kp) ∧ w'.cell? ⟨Q5.heap.size, 2, none⟩ = some (.int .i64 ep) ∧ w'.cell? ⟨Q7.heap.size, 0, none⟩ = some (.bool bq) ∧ w'.cell? ⟨Q7.heap.size, 1, none⟩ = some (.slice aqx lq kq) ∧ w'.cell? ⟨Q7.heap.size, 2, none⟩ = some (.int .i64 eq) ∧ w'.cell? ⟨Q9.heap.size, 0, none⟩ = some (.bool br) ∧ w'.cell? ⟨Q9.heap.size, 1, none⟩ = some (.slice arx lr kr) ∧ w'.cell? ⟨Q9.heap.size, 2, none⟩ = some (.int .i64 er)) (by kernel_rfl) (KS.out _ (bl_drewT (Below.refl _ _))) (fun hHeld => ?_)
      refine wpAnyH_take (i := 0) (v := .agg #[.bool bp, .slice apx lp kp, .int .i64 ep]) rfl (by kernel_rfl) (by kernel_rfl) (by kernel_rfl) (fun _ _ _ h => h) (Or.inl ⟨by rfl, fun w9 hSw => ?_⟩) hHeld ?_
      · (try dsimp only at hSw); go_simp
      refine wpAnyH_take (i := 2) (v := .agg #[.bool bq, .slice aqx lq kq, .int .i64 eq]) rfl (by kernel_rfl) (by kernel_rfl) (by kernel_rfl) (fun _ _ _ h => h) (Or.inl ⟨by rfl, fun w9 hSw => ?_⟩) hHeld ?_
      · (try dsimp only at hSw); go_simp
      refine wpAnyH_take (i := 4) (v := .agg #[.bool br, .slice arx lr kr, .int .i64 er]) rfl (by kernel_rfl) (by kernel_rfl) (by kernel_rfl) (fun _ _ _ h => h) (Or.inl ⟨by rfl, fun w9 hSw => ?_⟩) hHeld ?_
      · (try dsimp only at hSw); go_simp
      refine dp3t U18 (IsT ep L Vd) (IsT eq L Vu) (IsT er L Vn) (IsT.up _ _ _) (IsT.up _ _ _) (IsT.up _ _ _) (fun x1 x2 x3 y1 y2 y3 => { tmps := #[Value.agg #[Value.bool b0, Value.slice a0 z0.length n0, Value.int IntKind.i64 p0], Value.int IntKind.i64 pos, Value.pointer (some { block := w.heap.size, off := 0 }), undef, Value.bool false, Value.pointer (some { block := Q1.heap.size, off := 0 }), Value.pointer (some { block := Q3.heap.size, off := 0 }), Value.bool true, Value.pointer (some { block := Q5.heap.size, off := 0 }), Value.int IntKind.i64 0, Value.pointer (some { block := Q7.heap.size, off := 0 }), Value.int IntKind.i64 0, Value.pointer (some { block := Q9.heap.size, off := 0 }), Value.int IntKind.i64 0, Value.pointer (some { block := Q11.heap.size, off := 0 }), Value.int IntKind.i64 0, Value.pointer (some { block := Q14.heap.size, off := 0 }), Value.int IntKind.i64 0, Value.pointer (some { block := Q16.heap.size, off := 0 }), Value.int IntKind.i64 0, y1, y2, y3, undef, undef, undef, undef, undef, undef, undef, Value.agg #[Value.bool b0, Value.slice a0 z0.length n0, Value.int IntKind.i64 p0], Value.agg #[Value.bool b0, Value.slice a0 z0.length n0, Value.int IntKind.i64 p0], Value.tuple #[Value.agg #[Value.bool bm, Value.slice am lm km, Value.int IntKind.i64 E0], Value.bool true], Value.agg #[Value.bool b0, Value.slice a0 z0.length n0, Value.int IntKind.i64 p0], Value.tuple #[Value.agg #[Value.bool bm, Value.slice am lm km, Value.int IntKind.i64 E0], Value.bool true], Value.agg #[Value.bool bm, Value.slice am lm km, Value.int IntKind.i64 E0], Value.bool true, Value.bool true, Value.bool false, Value.bool false, Value.int IntKind.i64 pos, Value.bool true, Value.bool false, Value.bool false, undef, Value.tuple #[Value.agg #[Value.bool bp, Value.slice apx lp kp, Value.int IntKind.i64 ep], Value.int IntKind.i64 0], Value.agg #[Value.bool b0, Value.slice a0 z0.length n0, Value.int IntKind.i64 p0], Value.int IntKind.i64 pos, Value.tuple #[Value.agg #[Value.bool bp, Value.slice apx lp kp, Value.int IntKind.i64 ep], Value.int IntKind.i64 0], Value.agg #[Value.bool bp, Value.slice apx lp kp, Value.int IntKind.i64 ep], Value.int IntKind.i64 0, Value.tuple #[Value.agg #[Value.bool bq, Value.slice aqx lq kq, Value.int IntKind.i64 eq], Value.int IntKind.i64 0], Value.agg #[Value.bool b0, Value.slice a0 z0.length n0, Value.int IntKind.i64 p0], Value.int IntKind.i64 pos, Value.tuple #[Value.agg #[Value.bool bq, Value.slice aqx lq kq, Value.int IntKind.i64 eq], Value.int IntKind.i64 0], Value.agg #[Value.bool bq, Value.slice aqx lq kq, Value.int IntKind.i64 eq], Value.int IntKind.i64 0, Value.tuple #[Value.agg #[Value.bool br, Value.slice arx lr kr, Value.int IntKind.i64 er], Value.int IntKind.i64 0], Value.agg #[Value.bool b0, Value.slice a0 z0.length n0, Value.int IntKind.i64 p0], Value.int IntKind.i64 pos, Value.tuple #[Value.agg #[Value.bool br, Value.slice arx lr kr, Value.int IntKind.i64 er], Value.int IntKind.i64 0], Value.agg #[Value.bool br, Value.slice arx lr kr, Value.int IntKind.i64 er], Value.int IntKind.i64 0, Value.tuple #[Value.agg #[Value.bool bn, Value.slice anx ln kn, Value.int IntKind.i64 en], Value.int IntKind.i64 0], Value.agg #[Value.bool b0, Value.slice a0 z0.length n0, Value.int IntKind.i64 p0], Value.tuple #[Value.agg #[Value.bool bn, Value.slice anx ln kn, Value.int IntKind.i64 en], Value.int IntKind.i64 0], Value.agg #[Value.bool bn, Value.slice anx ln kn, Value.int IntKind.i64 en], Value.int IntKind.i64 0, Value.int IntKind.i64 0, Value.int IntKind.i64 0, Value.int IntKind.i64 0, Value.int IntKind.i64 0, Value.slice (some { block := P12.heap.size, off := 0 }) 4 4, Value.bool true, Value.bool false, undef, Value.tuple #[Value.agg #[Value.bool bs, Value.slice asx ls ks, Value.int IntKind.i64 es], Value.int IntKind.i64 0], Value.agg #[Value.bool bn, Value.slice anx ln kn, Value.int IntKind.i64 en], Value.int IntKind.i64 pos, Value.tuple #[Value.agg #[Value.bool bs, Value.slice asx ls ks, Value.int IntKind.i64 es], Value.int IntKind.i64 0], Value.agg #[Value.bool bs, Value.slice asx ls ks, Value.int IntKind.i64 es], Value.int IntKind.i64 0, Value.tuple #[Value.agg #[Value.bool bt, Value.slice atx lt kt, Value.int IntKind.i64 et], Value.int IntKind.i64 0], Value.agg #[Value.bool bn, Value.slice anx ln kn, Value.int IntKind.i64 en], Value.int IntKind.i64 pos, Value.tuple #[Value.agg #[Value.bool bt, Value.slice atx lt kt, Value.int IntKind.i64 et], Value.int IntKind.i64 0], Value.agg #[Value.bool bt, Value.slice atx lt kt, Value.int IntKind.i64 et], Value.int IntKind.i64 0, Value.int IntKind.i64 0, Value.int IntKind.i64 0, Value.slice (some { block := P17.heap.size, off := 0 }) 2 2, Value.bool true, Value.bool false, .agg #[.bool bp, .slice apx lp kp, .int .i64 ep], x1, .agg #[.bool bq, .slice aqx lq kq, .int .i64 eq], x2, .agg #[.bool br, .slice arx lr kr, .int .i64 er], x3, undef, undef, undef, undef, undef, undef, undef, undef, undef, undef, undef, undef, undef, undef, undef, undef, undef, undef, undef, undef, undef, undef, undef, undef, undef, undef, undef, undef, undef, undef, undef, undef, undef, undef, undef, undef, undef, undef, undef, undef, undef, undef, undef, undef, undef, undef, undef, undef, undef, undef, undef, undef, undef, undef, undef, undef, undef, undef, undef, undef, undef, undef, undef, undef, undef, undef, undef, undef, undef, undef, undef, undef, undef, undef, undef, undef, undef, undef, undef, undef, undef, undef, undef, undef, undef, undef, undef, undef, undef, undef, undef, undef, undef, undef, undef, undef, undef, undef, undef, undef, undef, undef, undef, undef, undef, undef, undef, undef, undef, undef, undef, undef, undef, undef, undef, undef, undef, undef, undef, undef, undef, undef, undef, undef, undef, undef, undef, undef, undef, undef, undef, undef], defers := [] }) (fun c1 c2 c3 k1 k2 k3 => #[true, c1, true, c2, true, c3, k1, k2, k3, false, false, false]) (by kernel_rfl) (by kernel_rfl) rfl (bl_drewT (Below.refl _ _)) ?_
      clear hHeld
      intro n
      induction n with
      | zero =>
        intro c1 c2 c3 k1 k2 k3 x1 x2 x3 y1 y2 y3 W hf J
        exact absurd hf (by unfold left6t; omega)
      | succ n ih =>
        intro c1 c2 c3 k1 k2 k3 x1 x2 x3 y1 y2 y3 W hf J
        cases c1
        · skip
          cases c2
          · skip
            cases c3
            · skip
              cases k1
              · skip
                cases k2
                · skip
                  cases k3
                  · skip
                    refine wpAnyH_ready (rs := [1, 6, 7, 8]) (by kernel_rfl) (by simp) ?_
                    refine AllReadyH.cons rfl (fun K hK => ?_) ?_
                    · go_simp
                      refine (IN1.out W J.up).mono ?_
                      rintro e' W2 ⟨⟨b9, a9, n9, k9, rfl, t9⟩, hb⟩
                      refine hK.out _ _ (KS.out _ (bl_trans8 J.up hb)) (fun _ => ?_)
                      simp only [List.setIfInBounds_toArray, List.set_cons_zero, List.set_cons_succ]
                      exact ih _ _ _ _ _ _ _ _ _ _ _ _ _ (by simp [left6t] at hf ⊢; omega) (J.call1 hb ⟨_, _, _, _, rfl, t9⟩)
                    refine AllReadyH.cons rfl (fun K hK => ?_) ?_
                    · go_simp
                      refine hK.out _ _ (KS.out _ (bl_allocT J.up _)) (fun _ => ?_)
                      simp only [List.setIfInBounds_toArray, List.set_cons_zero, List.set_cons_succ]
                      exact ih _ _ _ _ _ _ _ _ _ _ _ _ _ (by simp [left6t] at hf ⊢; omega) J.make1
                    refine AllReadyH.cons rfl (fun K hK => ?_) ?_
                    · go_simp
                      refine hK.out _ _ (KS.out _ (bl_allocT J.up _)) (fun _ => ?_)
                      simp only [List.setIfInBounds_toArray, List.set_cons_zero, List.set_cons_succ]
                      exact ih _ _ _ _ _ _ _ _ _ _ _ _ _ (by simp [left6t] at hf ⊢; omega) J.make2
                    refine AllReadyH.cons rfl (fun K hK => ?_) ?_
                    · go_simp
                      refine hK.out _ _ (KS.out _ (bl_allocT J.up _)) (fun _ => ?_)
                      simp only [List.setIfInBounds_toArray, List.set_cons_zero, List.set_cons_succ]
                      exact ih _ _ _ _ _ _ _ _ _ _ _ _ _ (by simp [left6t] at hf ⊢; omega) J.make3
                    exact AllReadyH.nil
                  · skip
                    refine wpAnyH_ready (rs := [1, 6, 7]) (by kernel_rfl) (by simp) ?_
                    refine AllReadyH.cons rfl (fun K hK => ?_) ?_
                    · go_simp
                      refine (IN1.out W J.up).mono ?_
                      rintro e' W2 ⟨⟨b9, a9, n9, k9, rfl, t9⟩, hb⟩
                      refine hK.out _ _ (KS.out _ (bl_trans8 J.up hb)) (fun _ => ?_)
                      simp only [List.setIfInBounds_toArray, List.set_cons_zero, List.set_cons_succ]
                      exact ih _ _ _ _ _ _ _ _ _ _ _ _ _ (by simp [left6t] at hf ⊢; omega) (J.call1 hb ⟨_, _, _, _, rfl, t9⟩)
                    refine AllReadyH.cons rfl (fun K hK => ?_) ?_
                    · go_simp
                      refine hK.out _ _ (KS.out _ (bl_allocT J.up _)) (fun _ => ?_)
                      simp only [List.setIfInBounds_toArray, List.set_cons_zero, List.set_cons_succ]
                      exact ih _ _ _ _ _ _ _ _ _ _ _ _ _ (by simp [left6t] at hf ⊢; omega) J.make1
                    refine AllReadyH.cons rfl (fun K hK => ?_) ?_
                    · go_simp
                      refine hK.out _ _ (KS.out _ (bl_allocT J.up _)) (fun _ => ?_)
                      simp only [List.setIfInBounds_toArray, List.set_cons_zero, List.set_cons_succ]
                      exact ih _ _ _ _ _ _ _ _ _ _ _ _ _ (by simp [left6t] at hf ⊢; omega) J.make2
                    exact AllReadyH.nil
                · skip
                  cases k3
                  · skip
                    refine wpAnyH_ready (rs := [1, 6, 8]) (by kernel_rfl) (by simp) ?_
                    refine AllReadyH.cons rfl (fun K hK => ?_) ?_
                    · go_simp
                      refine (IN1.out W J.up).mono ?_
                      rintro e' W2 ⟨⟨b9, a9, n9, k9, rfl, t9⟩, hb⟩
                      refine hK.out _ _ (KS.out _ (bl_trans8 J.up hb)) (fun _ => ?_)
                      simp only [List.setIfInBounds_toArray, List.set_cons_zero, List.set_cons_succ]
                      exact ih _ _ _ _ _ _ _ _ _ _ _ _ _ (by simp [left6t] at hf ⊢; omega) (J.call1 hb ⟨_, _, _, _, rfl, t9⟩)
                    refine AllReadyH.cons rfl (fun K hK => ?_) ?_
                    · go_simp
                      refine hK.out _ _ (KS.out _ (bl_allocT J.up _)) (fun _ => ?_)
                      simp only [List.setIfInBounds_toArray, List.set_cons_zero, List.set_cons_succ]
                      exact ih _ _ _ _ _ _ _ _ _ _ _ _ _ (by simp [left6t] at hf ⊢; omega) J.make1
                    refine AllReadyH.cons rfl (fun K hK => ?_) ?_
                    · go_simp
                      refine hK.out _ _ (KS.out _ (bl_allocT J.up _)) (fun _ => ?_)
                      simp only [List.setIfInBounds_toArray, List.set_cons_zero, List.set_cons_succ]
                      exact ih _ _ _ _ _ _ _ _ _ _ _ _ _ (by simp [left6t] at hf ⊢; omega) J.make3
                    exact AllReadyH.nil
                  · skip
                    refine wpAnyH_ready (rs := [1, 6]) (by kernel_rfl) (by simp) ?_
                    refine AllReadyH.cons rfl (fun K hK => ?_) ?_
                    · go_simp
                      refine (IN1.out W J.up).mono ?_
                      rintro e' W2 ⟨⟨b9, a9, n9, k9, rfl, t9⟩, hb⟩
                      refine hK.out _ _ (KS.out _ (bl_trans8 J.up hb)) (fun _ => ?_)
                      simp only [List.setIfInBounds_toArray, List.set_cons_zero, List.set_cons_succ]
                      exact ih _ _ _ _ _ _ _ _ _ _ _ _ _ (by simp [left6t] at hf ⊢; omega) (J.call1 hb ⟨_, _, _, _, rfl, t9⟩)
                    refine AllReadyH.cons rfl (fun K hK => ?_) ?_
                    · go_simp
                      refine hK.out _ _ (KS.out _ (bl_allocT J.up _)) (fun _ => ?_)
                      simp only [List.setIfInBounds_toArray, List.set_cons_zero, List.set_cons_succ]
                      exact ih _ _ _ _ _ _ _ _ _ _ _ _ _ (by simp [left6t] at hf ⊢; omega) J.make1
                    exact AllReadyH.nil
              · skip
                cases k2
                · skip
                  cases k3
                  · skip
                    refine wpAnyH_ready (rs := [1, 7, 8]) (by kernel_rfl) (by simp) ?_
                    refine AllReadyH.cons rfl (fun K hK => ?_) ?_
                    · go_simp
                      refine (IN1.out W J.up).mono ?_
                      rintro e' W2 ⟨⟨b9, a9, n9, k9, rfl, t9⟩, hb⟩
                      refine hK.out _ _ (KS.out _ (bl_trans8 J.up hb)) (fun _ => ?_)
                      simp only [List.setIfInBounds_toArray, List.set_cons_zero, List.set_cons_succ]
                      exact ih _ _ _ _ _ _ _ _ _ _ _ _ _ (by simp [left6t] at hf ⊢; omega) (J.call1 hb ⟨_, _, _, _, rfl, t9⟩)
                    refine AllReadyH.cons rfl (fun K hK => ?_) ?_
                    · go_simp
                      refine hK.out _ _ (KS.out _ (bl_allocT J.up _)) (fun _ => ?_)
                      simp only [List.setIfInBounds_toArray, List.set_cons_zero, List.set_cons_succ]
                      exact ih _ _ _ _ _ _ _ _ _ _ _ _ _ (by simp [left6t] at hf ⊢; omega) J.make2
                    refine AllReadyH.cons rfl (fun K hK => ?_) ?_
                    · go_simp
                      refine hK.out _ _ (KS.out _ (bl_allocT J.up _)) (fun _ => ?_)
                      simp only [List.setIfInBounds_toArray, List.set_cons_zero, List.set_cons_succ]
                      exact ih _ _ _ _ _ _ _ _ _ _ _ _ _ (by simp [left6t] at hf ⊢; omega) J.make3
                    exact AllReadyH.nil
                  · skip
                    refine wpAnyH_ready (rs := [1, 7]) (by kernel_rfl) (by simp) ?_
                    refine AllReadyH.cons rfl (fun K hK => ?_) ?_
                    · go_simp
                      refine (IN1.out W J.up).mono ?_
                      rintro e' W2 ⟨⟨b9, a9, n9, k9, rfl, t9⟩, hb⟩
                      refine hK.out _ _ (KS.out _ (bl_trans8 J.up hb)) (fun _ => ?_)
                      simp only [List.setIfInBounds_toArray, List.set_cons_zero, List.set_cons_succ]
                      exact ih _ _ _ _ _ _ _ _ _ _ _ _ _ (by simp [left6t] at hf ⊢; omega) (J.call1 hb ⟨_, _, _, _, rfl, t9⟩)
                    refine AllReadyH.cons rfl (fun K hK => ?_) ?_
                    · go_simp
                      refine hK.out _ _ (KS.out _ (bl_allocT J.up _)) (fun _ => ?_)
                      simp only [List.setIfInBounds_toArray, List.set_cons_zero, List.set_cons_succ]
                      exact ih _ _ _ _ _ _ _ _ _ _ _ _ _ (by simp [left6t] at hf ⊢; omega) J.make2
                    exact AllReadyH.nil
                · skip
                  cases k3
                  · skip
                    refine wpAnyH_ready (rs := [1, 8]) (by kernel_rfl) (by simp) ?_
                    refine AllReadyH.cons rfl (fun K hK => ?_) ?_
                    · go_simp
                      refine (IN1.out W J.up).mono ?_
                      rintro e' W2 ⟨⟨b9, a9, n9, k9, rfl, t9⟩, hb⟩
                      refine hK.out _ _ (KS.out _ (bl_trans8 J.up hb)) (fun _ => ?_)
                      simp only [List.setIfInBounds_toArray, List.set_cons_zero, List.set_cons_succ]
                      exact ih _ _ _ _ _ _ _ _ _ _ _ _ _ (by simp [left6t] at hf ⊢; omega) (J.call1 hb ⟨_, _, _, _, rfl, t9⟩)
                    refine AllReadyH.cons rfl (fun K hK => ?_) ?_
                    · go_simp
                      refine hK.out _ _ (KS.out _ (bl_allocT J.up _)) (fun _ => ?_)
                      simp only [List.setIfInBounds_toArray, List.set_cons_zero, List.set_cons_succ]
                      exact ih _ _ _ _ _ _ _ _ _ _ _ _ _ (by simp [left6t] at hf ⊢; omega) J.make3
                    exact AllReadyH.nil
                  · skip
                    refine wpAnyH_ready (rs := [1]) (by kernel_rfl) (by simp) ?_
                    refine AllReadyH.cons rfl (fun K hK => ?_) ?_
                    · go_simp
                      refine (IN1.out W J.up).mono ?_
                      rintro e' W2 ⟨⟨b9, a9, n9, k9, rfl, t9⟩, hb⟩
                      refine hK.out _ _ (KS.out _ (bl_trans8 J.up hb)) (fun _ => ?_)
                      simp only [List.setIfInBounds_toArray, List.set_cons_zero, List.set_cons_succ]
                      exact ih _ _ _ _ _ _ _ _ _ _ _ _ _ (by simp [left6t] at hf ⊢; omega) (J.call1 hb ⟨_, _, _, _, rfl, t9⟩)
                    exact AllReadyH.nil
            · skip
              exact absurd (J.ch.2 rfl) (by decide)
          · skip
            exact absurd (J.ch.1 rfl) (by decide)
        · skip
          cases c2
          · skip
            cases c3
            · skip
              cases k1
              · skip
                cases k2
                · skip
                  cases k3
                  · skip
                    refine wpAnyH_ready (rs := [3, 6, 7, 8]) (by kernel_rfl) (by simp) ?_
                    refine AllReadyH.cons rfl (fun K hK => ?_) ?_
                    · go_simp
                      refine (IN2.out W J.up).mono ?_
                      rintro e' W2 ⟨⟨b9, a9, n9, k9, rfl, t9⟩, hb⟩
                      refine hK.out _ _ (KS.out _ (bl_trans8 J.up hb)) (fun _ => ?_)
                      simp only [List.setIfInBounds_toArray, List.set_cons_zero, List.set_cons_succ]
                      exact ih _ _ _ _ _ _ _ _ _ _ _ _ _ (by simp [left6t] at hf ⊢; omega) (J.call2 hb ⟨_, _, _, _, rfl, t9⟩)
                    refine AllReadyH.cons rfl (fun K hK => ?_) ?_
                    · go_simp
                      refine hK.out _ _ (KS.out _ (bl_allocT J.up _)) (fun _ => ?_)
                      simp only [List.setIfInBounds_toArray, List.set_cons_zero, List.set_cons_succ]
                      exact ih _ _ _ _ _ _ _ _ _ _ _ _ _ (by simp [left6t] at hf ⊢; omega) J.make1
                    refine AllReadyH.cons rfl (fun K hK => ?_) ?_
                    · go_simp
                      refine hK.out _ _ (KS.out _ (bl_allocT J.up _)) (fun _ => ?_)
                      simp only [List.setIfInBounds_toArray, List.set_cons_zero, List.set_cons_succ]
                      exact ih _ _ _ _ _ _ _ _ _ _ _ _ _ (by simp [left6t] at hf ⊢; omega) J.make2
                    refine AllReadyH.cons rfl (fun K hK => ?_) ?_
                    · go_simp
                      refine hK.out _ _ (KS.out _ (bl_allocT J.up _)) (fun _ => ?_)
                      simp only [List.setIfInBounds_toArray, List.set_cons_zero, List.set_cons_succ]
                      exact ih _ _ _ _ _ _ _ _ _ _ _ _ _ (by simp [left6t] at hf ⊢; omega) J.make3
                    exact AllReadyH.nil
                  · skip
                    refine wpAnyH_ready (rs := [3, 6, 7]) (by kernel_rfl) (by simp) ?_
                    refine AllReadyH.cons rfl (fun K hK => ?_) ?_
                    · go_simp
                      refine (IN2.out W J.up).mono ?_
                      rintro e' W2 ⟨⟨b9, a9, n9, k9, rfl, t9⟩, hb⟩
                      refine hK.out _ _ (KS.out _ (bl_trans8 J.up hb)) (fun _ => ?_)
                      simp only [List.setIfInBounds_toArray, List.set_cons_zero, List.set_cons_succ]
                      exact ih _ _ _ _ _ _ _ _ _ _ _ _ _ (by simp [left6t] at hf ⊢; omega) (J.call2 hb ⟨_, _, _, _, rfl, t9⟩)
                    refine AllReadyH.cons rfl (fun K hK => ?_) ?_
                    · go_simp
                      refine hK.out _ _ (KS.out _ (bl_allocT J.up _)) (fun _ => ?_)
                      simp only [List.setIfInBounds_toArray, List.set_cons_zero, List.set_cons_succ]
                      exact ih _ _ _ _ _ _ _ _ _ _ _ _ _ (by simp [left6t] at hf ⊢; omega) J.make1
                    refine AllReadyH.cons rfl (fun K hK => ?_) ?_
                    · go_simp
                      refine hK.out _ _ (KS.out _ (bl_allocT J.up _)) (fun _ => ?_)
                      simp only [List.setIfInBounds_toArray, List.set_cons_zero, List.set_cons_succ]
                      exact ih _ _ _ _ _ _ _ _ _ _ _ _ _ (by simp [left6t] at hf ⊢; omega) J.make2
                    exact AllReadyH.nil
                · skip
                  cases k3
                  · skip
                    refine wpAnyH_ready (rs := [3, 6, 8]) (by kernel_rfl) (by simp) ?_
                    refine AllReadyH.cons rfl (fun K hK => ?_) ?_
                    · go_simp
                      refine (IN2.out W J.up).mono ?_
                      rintro e' W2 ⟨⟨b9, a9, n9, k9, rfl, t9⟩, hb⟩
                      refine hK.out _ _ (KS.out _ (bl_trans8 J.up hb)) (fun _ => ?_)
                      simp only [List.setIfInBounds_toArray, List.set_cons_zero, List.set_cons_succ]
                      exact ih _ _ _ _ _ _ _ _ _ _ _ _ _ (by simp [left6t] at hf ⊢; omega) (J.call2 hb ⟨_, _, _, _, rfl, t9⟩)
                    refine AllReadyH.cons rfl (fun K hK => ?_) ?_
                    · go_simp
                      refine hK.out _ _ (KS.out _ (bl_allocT J.up _)) (fun _ => ?_)
                      simp only [List.setIfInBounds_toArray, List.set_cons_zero, List.set_cons_succ]
                      exact ih _ _ _ _ _ _ _ _ _ _ _ _ _ (by simp [left6t] at hf ⊢; omega) J.make1
                    refine AllReadyH.cons rfl (fun K hK => ?_) ?_
                    · go_simp
                      refine hK.out _ _ (KS.out _ (bl_allocT J.up _)) (fun _ => ?_)
                      simp only [List.setIfInBounds_toArray, List.set_cons_zero, List.set_cons_succ]
                      exact ih _ _ _ _ _ _ _ _ _ _ _ _ _ (by simp [left6t] at hf ⊢; omega) J.make3
                    exact AllReadyH.nil
                  · skip
                    refine wpAnyH_ready (rs := [3, 6]) (by kernel_rfl) (by simp) ?_
                    refine AllReadyH.cons rfl (fun K hK => ?_) ?_
                    · go_simp
                      refine (IN2.out W J.up).mono ?_
                      rintro e' W2 ⟨⟨b9, a9, n9, k9, rfl, t9⟩, hb⟩
                      refine hK.out _ _ (KS.out _ (bl_trans8 J.up hb)) (fun _ => ?_)
                      simp only [List.setIfInBounds_toArray, List.set_cons_zero, List.set_cons_succ]
                      exact ih _ _ _ _ _ _ _ _ _ _ _ _ _ (by simp [left6t] at hf ⊢; omega) (J.call2 hb ⟨_, _, _, _, rfl, t9⟩)
                    refine AllReadyH.cons rfl (fun K hK => ?_) ?_
                    · go_simp
                      refine hK.out _ _ (KS.out _ (bl_allocT J.up _)) (fun _ => ?_)
                      simp only [List.setIfInBounds_toArray, List.set_cons_zero, List.set_cons_succ]
                      exact ih _ _ _ _ _ _ _ _ _ _ _ _ _ (by simp [left6t] at hf ⊢; omega) J.make1
                    exact AllReadyH.nil
              · skip
                cases k2
                · skip
                  cases k3
                  · skip
                    refine wpAnyH_ready (rs := [3, 7, 8]) (by kernel_rfl) (by simp) ?_
                    refine AllReadyH.cons rfl (fun K hK => ?_) ?_
                    · go_simp
                      refine (IN2.out W J.up).mono ?_
                      rintro e' W2 ⟨⟨b9, a9, n9, k9, rfl, t9⟩, hb⟩
                      refine hK.out _ _ (KS.out _ (bl_trans8 J.up hb)) (fun _ => ?_)
                      simp only [List.setIfInBounds_toArray, List.set_cons_zero, List.set_cons_succ]
                      exact ih _ _ _ _ _ _ _ _ _ _ _ _ _ (by simp [left6t] at hf ⊢; omega) (J.call2 hb ⟨_, _, _, _, rfl, t9⟩)
                    refine AllReadyH.cons rfl (fun K hK => ?_) ?_
                    · go_simp
                      refine hK.out _ _ (KS.out _ (bl_allocT J.up _)) (fun _ => ?_)
                      simp only [List.setIfInBounds_toArray, List.set_cons_zero, List.set_cons_succ]
                      exact ih _ _ _ _ _ _ _ _ _ _ _ _ _ (by simp [left6t] at hf ⊢; omega) J.make2
                    refine AllReadyH.cons rfl (fun K hK => ?_) ?_
                    · go_simp
                      refine hK.out _ _ (KS.out _ (bl_allocT J.up _)) (fun _ => ?_)
                      simp only [List.setIfInBounds_toArray, List.set_cons_zero, List.set_cons_succ]
                      exact ih _ _ _ _ _ _ _ _ _ _ _ _ _ (by simp [left6t] at hf ⊢; omega) J.make3
                    exact AllReadyH.nil
                  · skip
                    refine wpAnyH_ready (rs := [3, 7]) (by kernel_rfl) (by simp) ?_
                    refine AllReadyH.cons rfl (fun K hK => ?_) ?_
                    · go_simp
                      refine (IN2.out W J.up).mono ?_
                      rintro e' W2 ⟨⟨b9, a9, n9, k9, rfl, t9⟩, hb⟩
                      refine hK.out _ _ (KS.out _ (bl_trans8 J.up hb)) (fun _ => ?_)
                      simp only [List.setIfInBounds_toArray, List.set_cons_zero, List.set_cons_succ]
                      exact ih _ _ _ _ _ _ _ _ _ _ _ _ _ (by simp [left6t] at hf ⊢; omega) (J.call2 hb ⟨_, _, _, _, rfl, t9⟩)
                    refine AllReadyH.cons rfl (fun K hK => ?_) ?_
                    · go_simp
                      refine hK.out _ _ (KS.out _ (bl_allocT J.up _)) (fun _ => ?_)
                      simp only [List.setIfInBounds_toArray, List.set_cons_zero, List.set_cons_succ]
                      exact ih _ _ _ _ _ _ _ _ _ _ _ _ _ (by simp [left6t] at hf ⊢; omega) J.make2
                    exact AllReadyH.nil
                · skip
                  cases k3
                  · skip
                    refine wpAnyH_ready (rs := [3, 8]) (by kernel_rfl) (by simp) ?_
                    refine AllReadyH.cons rfl (fun K hK => ?_) ?_
                    · go_simp
                      refine (IN2.out W J.up).mono ?_
                      rintro e' W2 ⟨⟨b9, a9, n9, k9, rfl, t9⟩, hb⟩
                      refine hK.out _ _ (KS.out _ (bl_trans8 J.up hb)) (fun _ => ?_)
                      simp only [List.setIfInBounds_toArray, List.set_cons_zero, List.set_cons_succ]
                      exact ih _ _ _ _ _ _ _ _ _ _ _ _ _ (by simp [left6t] at hf ⊢; omega) (J.call2 hb ⟨_, _, _, _, rfl, t9⟩)
                    refine AllReadyH.cons rfl (fun K hK => ?_) ?_
                    · go_simp
                      refine hK.out _ _ (KS.out _ (bl_allocT J.up _)) (fun _ => ?_)
                      simp only [List.setIfInBounds_toArray, List.set_cons_zero, List.set_cons_succ]
                      exact ih _ _ _ _ _ _ _ _ _ _ _ _ _ (by simp [left6t] at hf ⊢; omega) J.make3
                    exact AllReadyH.nil
                  · skip
                    refine wpAnyH_ready (rs := [3]) (by kernel_rfl) (by simp) ?_
                    refine AllReadyH.cons rfl (fun K hK => ?_) ?_
                    · go_simp
                      refine (IN2.out W J.up).mono ?_
                      rintro e' W2 ⟨⟨b9, a9, n9, k9, rfl, t9⟩, hb⟩
                      refine hK.out _ _ (KS.out _ (bl_trans8 J.up hb)) (fun _ => ?_)
                      simp only [List.setIfInBounds_toArray, List.set_cons_zero, List.set_cons_succ]
                      exact ih _ _ _ _ _ _ _ _ _ _ _ _ _ (by simp [left6t] at hf ⊢; omega) (J.call2 hb ⟨_, _, _, _, rfl, t9⟩)
                    exact AllReadyH.nil
            · skip
              exact absurd (J.ch.2 rfl) (by decide)
          · skip
            cases c3
            · skip
              cases k1
              · skip
                cases k2
                · skip
                  cases k3
                  · skip
                    refine wpAnyH_ready (rs := [5, 6, 7, 8]) (by kernel_rfl) (by simp) ?_
                    refine AllReadyH.cons rfl (fun K hK => ?_) ?_
                    · go_simp
                      refine (IN3.out W J.up).mono ?_
                      rintro e' W2 ⟨⟨b9, a9, n9, k9, rfl, t9⟩, hb⟩
                      refine hK.out _ _ (KS.out _ (bl_trans8 J.up hb)) (fun _ => ?_)
                      simp only [List.setIfInBounds_toArray, List.set_cons_zero, List.set_cons_succ]
                      exact ih _ _ _ _ _ _ _ _ _ _ _ _ _ (by simp [left6t] at hf ⊢; omega) (J.call3 hb ⟨_, _, _, _, rfl, t9⟩)
                    refine AllReadyH.cons rfl (fun K hK => ?_) ?_
                    · go_simp
                      refine hK.out _ _ (KS.out _ (bl_allocT J.up _)) (fun _ => ?_)
                      simp only [List.setIfInBounds_toArray, List.set_cons_zero, List.set_cons_succ]
                      exact ih _ _ _ _ _ _ _ _ _ _ _ _ _ (by simp [left6t] at hf ⊢; omega) J.make1
                    refine AllReadyH.cons rfl (fun K hK => ?_) ?_
                    · go_simp
                      refine hK.out _ _ (KS.out _ (bl_allocT J.up _)) (fun _ => ?_)
                      simp only [List.setIfInBounds_toArray, List.set_cons_zero, List.set_cons_succ]
                      exact ih _ _ _ _ _ _ _ _ _ _ _ _ _ (by simp [left6t] at hf ⊢; omega) J.make2
                    refine AllReadyH.cons rfl (fun K hK => ?_) ?_
                    · go_simp
                      refine hK.out _ _ (KS.out _ (bl_allocT J.up _)) (fun _ => ?_)
                      simp only [List.setIfInBounds_toArray, List.set_cons_zero, List.set_cons_succ]
                      exact ih _ _ _ _ _ _ _ _ _ _ _ _ _ (by simp [left6t] at hf ⊢; omega) J.make3
                    exact AllReadyH.nil
                  · skip
                    refine wpAnyH_ready (rs := [5, 6, 7]) (by kernel_rfl) (by simp) ?_
                    refine AllReadyH.cons rfl (fun K hK => ?_) ?_
                    · go_simp
                      refine (IN3.out W J.up).mono ?_
                      rintro e' W2 ⟨⟨b9, a9, n9, k9, rfl, t9⟩, hb⟩
                      refine hK.out _ _ (KS.out _ (bl_trans8 J.up hb)) (fun _ => ?_)
                      simp only [List.setIfInBounds_toArray, List.set_cons_zero, List.set_cons_succ]
                      exact ih _ _ _ _ _ _ _ _ _ _ _ _ _ (by simp [left6t] at hf ⊢; omega) (J.call3 hb ⟨_, _, _, _, rfl, t9⟩)
                    refine AllReadyH.cons rfl (fun K hK => ?_) ?_
                    · go_simp
                      refine hK.out _ _ (KS.out _ (bl_allocT J.up _)) (fun _ => ?_)
                      simp only [List.setIfInBounds_toArray, List.set_cons_zero, List.set_cons_succ]
                      exact ih _ _ _ _ _ _ _ _ _ _ _ _ _ (by simp [left6t] at hf ⊢; omega) J.make1
                    refine AllReadyH.cons rfl (fun K hK => ?_) ?_
                    · go_simp
                      refine hK.out _ _ (KS.out _ (bl_allocT J.up _)) (fun _ => ?_)
                      simp only [List.setIfInBounds_toArray, List.set_cons_zero, List.set_cons_succ]
                      exact ih _ _ _ _ _ _ _ _ _ _ _ _ _ (by simp [left6t] at hf ⊢; omega) J.make2
                    exact AllReadyH.nil
                · skip
                  cases k3
                  · skip
                    refine wpAnyH_ready (rs := [5, 6, 8]) (by kernel_rfl) (by simp) ?_
                    refine AllReadyH.cons rfl (fun K hK => ?_) ?_
                    · go_simp
                      refine (IN3.out W J.up).mono ?_
                      rintro e' W2 ⟨⟨b9, a9, n9, k9, rfl, t9⟩, hb⟩
                      refine hK.out _ _ (KS.out _ (bl_trans8 J.up hb)) (fun _ => ?_)
                      simp only [List.setIfInBounds_toArray, List.set_cons_zero, List.set_cons_succ]
                      exact ih _ _ _ _ _ _ _ _ _ _ _ _ _ (by simp [left6t] at hf ⊢; omega) (J.call3 hb ⟨_, _, _, _, rfl, t9⟩)
                    refine AllReadyH.cons rfl (fun K hK => ?_) ?_
                    · go_simp
                      refine hK.out _ _ (KS.out _ (bl_allocT J.up _)) (fun _ => ?_)
                      simp only [List.setIfInBounds_toArray, List.set_cons_zero, List.set_cons_succ]
                      exact ih _ _ _ _ _ _ _ _ _ _ _ _ _ (by simp [left6t] at hf ⊢; omega) J.make1
                    refine AllReadyH.cons rfl (fun K hK => ?_) ?_
                    · go_simp
                      refine hK.out _ _ (KS.out _ (bl_allocT J.up _)) (fun _ => ?_)
                      simp only [List.setIfInBounds_toArray, List.set_cons_zero, List.set_cons_succ]
                      exact ih _ _ _ _ _ _ _ _ _ _ _ _ _ (by simp [left6t] at hf ⊢; omega) J.make3
                    exact AllReadyH.nil
                  · skip
                    refine wpAnyH_ready (rs := [5, 6]) (by kernel_rfl) (by simp) ?_
                    refine AllReadyH.cons rfl (fun K hK => ?_) ?_
                    · go_simp
                      refine (IN3.out W J.up).mono ?_
                      rintro e' W2 ⟨⟨b9, a9, n9, k9, rfl, t9⟩, hb⟩
                      refine hK.out _ _ (KS.out _ (bl_trans8 J.up hb)) (fun _ => ?_)
                      simp only [List.setIfInBounds_toArray, List.set_cons_zero, List.set_cons_succ]
                      exact ih _ _ _ _ _ _ _ _ _ _ _ _ _ (by simp [left6t] at hf ⊢; omega) (J.call3 hb ⟨_, _, _, _, rfl, t9⟩)
                    refine AllReadyH.cons rfl (fun K hK => ?_) ?_
                    · go_simp
                      refine hK.out _ _ (KS.out _ (bl_allocT J.up _)) (fun _ => ?_)
                      simp only [List.setIfInBounds_toArray, List.set_cons_zero, List.set_cons_succ]
                      exact ih _ _ _ _ _ _ _ _ _ _ _ _ _ (by simp [left6t] at hf ⊢; omega) J.make1
                    exact AllReadyH.nil
              · skip
                cases k2
                · skip
                  cases k3
                  · skip
                    refine wpAnyH_ready (rs := [5, 7, 8]) (by kernel_rfl) (by simp) ?_
                    refine AllReadyH.cons rfl (fun K hK => ?_) ?_
                    · go_simp
                      refine (IN3.out W J.up).mono ?_
                      rintro e' W2 ⟨⟨b9, a9, n9, k9, rfl, t9⟩, hb⟩
                      refine hK.out _ _ (KS.out _ (bl_trans8 J.up hb)) (fun _ => ?_)
                      simp only [List.setIfInBounds_toArray, List.set_cons_zero, List.set_cons_succ]
                      exact ih _ _ _ _ _ _ _ _ _ _ _ _ _ (by simp [left6t] at hf ⊢; omega) (J.call3 hb ⟨_, _, _, _, rfl, t9⟩)
                    refine AllReadyH.cons rfl (fun K hK => ?_) ?_
                    · go_simp
                      refine hK.out _ _ (KS.out _ (bl_allocT J.up _)) (fun _ => ?_)
                      simp only [List.setIfInBounds_toArray, List.set_cons_zero, List.set_cons_succ]
                      exact ih _ _ _ _ _ _ _ _ _ _ _ _ _ (by simp [left6t] at hf ⊢; omega) J.make2
                    refine AllReadyH.cons rfl (fun K hK => ?_) ?_
                    · go_simp
                      refine hK.out _ _ (KS.out _ (bl_allocT J.up _)) (fun _ => ?_)
                      simp only [List.setIfInBounds_toArray, List.set_cons_zero, List.set_cons_succ]
                      exact ih _ _ _ _ _ _ _ _ _ _ _ _ _ (by simp [left6t] at hf ⊢; omega) J.make3
                    exact AllReadyH.nil
                  · skip
                    refine wpAnyH_ready (rs := [5, 7]) (by kernel_rfl) (by simp) ?_
                    refine AllReadyH.cons rfl (fun K hK => ?_) ?_
                    · go_simp
                      refine (IN3.out W J.up).mono ?_
                      rintro e' W2 ⟨⟨b9, a9, n9, k9, rfl, t9⟩, hb⟩
                      refine hK.out _ _ (KS.out _ (bl_trans8 J.up hb)) (fun _ => ?_)
                      simp only [List.setIfInBounds_toArray, List.set_cons_zero, List.set_cons_succ]
                      exact ih _ _ _ _ _ _ _ _ _ _ _ _ _ (by simp [left6t] at hf ⊢; omega) (J.call3 hb ⟨_, _, _, _, rfl, t9⟩)
                    refine AllReadyH.cons rfl (fun K hK => ?_) ?_
                    · go_simp
                      refine hK.out _ _ (KS.out _ (bl_allocT J.up _)) (fun _ => ?_)
                      simp only [List.setIfInBounds_toArray, List.set_cons_zero, List.set_cons_succ]
                      exact ih _ _ _ _ _ _ _ _ _ _ _ _ _ (by simp [left6t] at hf ⊢; omega) J.make2
                    exact AllReadyH.nil
                · skip
                  cases k3
                  · skip
                    refine wpAnyH_ready (rs := [5, 8]) (by kernel_rfl) (by simp) ?_
                    refine AllReadyH.cons rfl (fun K hK => ?_) ?_
                    · go_simp
                      refine (IN3.out W J.up).mono ?_
                      rintro e' W2 ⟨⟨b9, a9, n9, k9, rfl, t9⟩, hb⟩
                      refine hK.out _ _ (KS.out _ (bl_trans8 J.up hb)) (fun _ => ?_)
                      simp only [List.setIfInBounds_toArray, List.set_cons_zero, List.set_cons_succ]
                      exact ih _ _ _ _ _ _ _ _ _ _ _ _ _ (by simp [left6t] at hf ⊢; omega) (J.call3 hb ⟨_, _, _, _, rfl, t9⟩)
                    refine AllReadyH.cons rfl (fun K hK => ?_) ?_
                    · go_simp
                      refine hK.out _ _ (KS.out _ (bl_allocT J.up _)) (fun _ => ?_)
                      simp only [List.setIfInBounds_toArray, List.set_cons_zero, List.set_cons_succ]
                      exact ih _ _ _ _ _ _ _ _ _ _ _ _ _ (by simp [left6t] at hf ⊢; omega) J.make3
                    exact AllReadyH.nil
                  · skip
                    refine wpAnyH_ready (rs := [5]) (by kernel_rfl) (by simp) ?_
                    refine AllReadyH.cons rfl (fun K hK => ?_) ?_
                    · go_simp
                      refine (IN3.out W J.up).mono ?_
                      rintro e' W2 ⟨⟨b9, a9, n9, k9, rfl, t9⟩, hb⟩
                      refine hK.out _ _ (KS.out _ (bl_trans8 J.up hb)) (fun _ => ?_)
                      simp only [List.setIfInBounds_toArray, List.set_cons_zero, List.set_cons_succ]
                      exact ih _ _ _ _ _ _ _ _ _ _ _ _ _ (by simp [left6t] at hf ⊢; omega) (J.call3 hb ⟨_, _, _, _, rfl, t9⟩)
                    exact AllReadyH.nil
            · skip
              cases k1
              · skip
                cases k2
                · skip
                  cases k3
                  · skip
                    refine wpAnyH_ready (rs := [6, 7, 8]) (by kernel_rfl) (by simp) ?_
                    refine AllReadyH.cons rfl (fun K hK => ?_) ?_
                    · go_simp
                      refine hK.out _ _ (KS.out _ (bl_allocT J.up _)) (fun _ => ?_)
                      simp only [List.setIfInBounds_toArray, List.set_cons_zero, List.set_cons_succ]
                      exact ih _ _ _ _ _ _ _ _ _ _ _ _ _ (by simp [left6t] at hf ⊢; omega) J.make1
                    refine AllReadyH.cons rfl (fun K hK => ?_) ?_
                    · go_simp
                      refine hK.out _ _ (KS.out _ (bl_allocT J.up _)) (fun _ => ?_)
                      simp only [List.setIfInBounds_toArray, List.set_cons_zero, List.set_cons_succ]
                      exact ih _ _ _ _ _ _ _ _ _ _ _ _ _ (by simp [left6t] at hf ⊢; omega) J.make2
                    refine AllReadyH.cons rfl (fun K hK => ?_) ?_
                    · go_simp
                      refine hK.out _ _ (KS.out _ (bl_allocT J.up _)) (fun _ => ?_)
                      simp only [List.setIfInBounds_toArray, List.set_cons_zero, List.set_cons_succ]
                      exact ih _ _ _ _ _ _ _ _ _ _ _ _ _ (by simp [left6t] at hf ⊢; omega) J.make3
                    exact AllReadyH.nil
                  · skip
                    refine wpAnyH_ready (rs := [6, 7]) (by kernel_rfl) (by simp) ?_
                    refine AllReadyH.cons rfl (fun K hK => ?_) ?_
                    · go_simp
                      refine hK.out _ _ (KS.out _ (bl_allocT J.up _)) (fun _ => ?_)
                      simp only [List.setIfInBounds_toArray, List.set_cons_zero, List.set_cons_succ]
                      exact ih _ _ _ _ _ _ _ _ _ _ _ _ _ (by simp [left6t] at hf ⊢; omega) J.make1
                    refine AllReadyH.cons rfl (fun K hK => ?_) ?_
                    · go_simp
                      refine hK.out _ _ (KS.out _ (bl_allocT J.up _)) (fun _ => ?_)
                      simp only [List.setIfInBounds_toArray, List.set_cons_zero, List.set_cons_succ]
                      exact ih _ _ _ _ _ _ _ _ _ _ _ _ _ (by simp [left6t] at hf ⊢; omega) J.make2
                    exact AllReadyH.nil
                · skip
                  cases k3
                  · skip
                    refine wpAnyH_ready (rs := [6, 8]) (by kernel_rfl) (by simp) ?_
                    refine AllReadyH.cons rfl (fun K hK => ?_) ?_
                    · go_simp
                      refine hK.out _ _ (KS.out _ (bl_allocT J.up _)) (fun _ => ?_)
                      simp only [List.setIfInBounds_toArray, List.set_cons_zero, List.set_cons_succ]
                      exact ih _ _ _ _ _ _ _ _ _ _ _ _ _ (by simp [left6t] at hf ⊢; omega) J.make1
                    refine AllReadyH.cons rfl (fun K hK => ?_) ?_
                    · go_simp
                      refine hK.out _ _ (KS.out _ (bl_allocT J.up _)) (fun _ => ?_)
                      simp only [List.setIfInBounds_toArray, List.set_cons_zero, List.set_cons_succ]
                      exact ih _ _ _ _ _ _ _ _ _ _ _ _ _ (by simp [left6t] at hf ⊢; omega) J.make3
                    exact AllReadyH.nil
                  · skip
                    refine wpAnyH_ready (rs := [6]) (by kernel_rfl) (by simp) ?_
                    refine AllReadyH.cons rfl (fun K hK => ?_) ?_
                    · go_simp
                      refine hK.out _ _ (KS.out _ (bl_allocT J.up _)) (fun _ => ?_)
                      simp only [List.setIfInBounds_toArray, List.set_cons_zero, List.set_cons_succ]
                      exact ih _ _ _ _ _ _ _ _ _ _ _ _ _ (by simp [left6t] at hf ⊢; omega) J.make1
                    exact AllReadyH.nil
              · skip
                cases k2
                · skip
                  cases k3
                  · skip
                    refine wpAnyH_ready (rs := [7, 8]) (by kernel_rfl) (by simp) ?_
                    refine AllReadyH.cons rfl (fun K hK => ?_) ?_
                    · go_simp
                      refine hK.out _ _ (KS.out _ (bl_allocT J.up _)) (fun _ => ?_)
                      simp only [List.setIfInBounds_toArray, List.set_cons_zero, List.set_cons_succ]
                      exact ih _ _ _ _ _ _ _ _ _ _ _ _ _ (by simp [left6t] at hf ⊢; omega) J.make2
                    refine AllReadyH.cons rfl (fun K hK => ?_) ?_
                    · go_simp
                      refine hK.out _ _ (KS.out _ (bl_allocT J.up _)) (fun _ => ?_)
                      simp only [List.setIfInBounds_toArray, List.set_cons_zero, List.set_cons_succ]
                      exact ih _ _ _ _ _ _ _ _ _ _ _ _ _ (by simp [left6t] at hf ⊢; omega) J.make3
                    exact AllReadyH.nil
                  · skip
                    refine wpAnyH_ready (rs := [7]) (by kernel_rfl) (by simp) ?_
                    refine AllReadyH.cons rfl (fun K hK => ?_) ?_
                    · go_simp
                      refine hK.out _ _ (KS.out _ (bl_allocT J.up _)) (fun _ => ?_)
                      simp only [List.setIfInBounds_toArray, List.set_cons_zero, List.set_cons_succ]
                      exact ih _ _ _ _ _ _ _ _ _ _ _ _ _ (by simp [left6t] at hf ⊢; omega) J.make2
                    exact AllReadyH.nil
                · skip
                  cases k3
                  · skip
                    refine wpAnyH_ready (rs := [8]) (by kernel_rfl) (by simp) ?_
                    refine AllReadyH.cons rfl (fun K hK => ?_) ?_
                    · go_simp
                      refine hK.out _ _ (KS.out _ (bl_allocT J.up _)) (fun _ => ?_)
                      simp only [List.setIfInBounds_toArray, List.set_cons_zero, List.set_cons_succ]
                      exact ih _ _ _ _ _ _ _ _ _ _ _ _ _ (by simp [left6t] at hf ⊢; omega) J.make3
                    exact AllReadyH.nil
                  · skip
                    obtain ⟨b1x, a1x, n1x, k1x, rfl, t1x⟩ := J.q1 rfl
                    obtain ⟨b2x, a2x, n2x, k2x, rfl, t2x⟩ := J.q2 rfl
                    obtain ⟨b3x, a3x, n3x, k3x, rfl, t3x⟩ := J.q3 rfl
                    have D12 := J.d12 rfl rfl
                    have D13 := J.d13 rfl rfl
                    have D23 := J.d23 rfl rfl
                    obtain ⟨g1, rfl, l1, e1⟩ := J.r1 rfl
                    obtain ⟨g2, rfl, l2, e2⟩ := J.r2 rfl
                    obtain ⟨g3, rfl, l3, e3⟩ := J.r3 rfl
                    have HU := hide J.up
                    obtain rfl : n = 2 := by simp [left6t] at hf; omega
                    clear J ih hf
                    obtain ⟨m0, m1, m1c⟩ := tri8 e1
                    have hf1 := tri8f e1
                    have D12g : g1 ≠ g2 := fun e => D12 (by rw [e])
                    have D13g : g1 ≠ g3 := fun e => D13 (by rw [e])
                    have D23g : g2 ≠ g3 := fun e => D23 (by rw [e])
                    have HFIN := hide (three_t e1 e2 e3 l1 l2 l3 D12g D13g D23g HU.out t1x t2x t3x)
                    clear D12 D13 D23 t1x t2x t3x
                    have t2 := tri9_other (u0 := .bool b1x) (u1 := .slice a1x n1x k1x) (u2 := .int .i64 ep) e2 (Ne.symm D12g)
                    have t3 := tri9_other (u0 := .bool b2x) (u1 := .slice a2x n2x k2x) (u2 := .int .i64 eq) (tri9_other (u0 := .bool b1x) (u1 := .slice a1x n1x k1x) (u2 := .int .i64 ep) e3 (Ne.symm D13g)) (Ne.symm D23g)
                    obtain ⟨m2, m3, m3c⟩ := tri8 t2
                    have hf2 := tri8f t2
                    obtain ⟨m4, m5, m5c⟩ := tri8 t3
                    have hf3 := tri8f t3
                    have HB1 := hide (below_tri8 HU.out l1 (.bool b1x) (.slice a1x n1x k1x) (.int .i64 ep))
                    have HB2 := hide (below_tri8 HB1.out l2 (.bool b2x) (.slice a2x n2x k2x) (.int .i64 eq))
                    have HB3 := hide (below_tri8 HB2.out l3 (.bool b3x) (.slice a3x n3x k3x) (.int .i64 er))
                    clear t2 t3 e1 e2 e3
                    refine wpAnyH_ready (rs := [9]) (by kernel_rfl) (by simp) ?_
                    refine AllReadyH.cons rfl (fun K hK => ?_) AllReadyH.nil
                    go_simp
                    refine hK.out _ _ (KS.out _ HB1.out) (fun _ => ?_)
                    clear hK K
                    try simp only [List.setIfInBounds_toArray, List.set_cons_zero, List.set_cons_succ]
                    refine wpAnyH_ready (rs := [10]) (by kernel_rfl) (by simp) ?_
                    refine AllReadyH.cons rfl (fun K hK => ?_) AllReadyH.nil
                    go_simp
                    refine hK.out _ _ (KS.out _ HB2.out) (fun _ => ?_)
                    clear hK K
                    try simp only [List.setIfInBounds_toArray, List.set_cons_zero, List.set_cons_succ]
                    refine wpAnyH_ready (rs := [11]) (by kernel_rfl) (by simp) ?_
                    refine AllReadyH.cons rfl (fun K hK => ?_) AllReadyH.nil
                    go_simp
                    refine hK.out _ _ (KS.out _ HB3.out) (fun _ => ?_)
                    clear hK K
                    try simp only [List.setIfInBounds_toArray, List.set_cons_zero, List.set_cons_succ]
                    refine wpAnyH_done (by kernel_rfl) ?_ _
                    clear m0 m1 m1c m2 m3 m3c m4 m5 m5c hf1 hf2 hf3 HB1 HB2 HB3
                    go_wp2_with fail
                    go_meet
                    exact HFIN.out
    case rest =>
      obtain ⟨gd, gu, gk, bd, ad9, ld, kd, bu, au9, lu, ku, bk, ak9, lk, kk, rfl, rfl, rfl, hX1, hX2, hX3, hY1, hY2, hY3, hbx⟩ := hcut
      clear KS IN1 IN2 IN3
      replace HA := hide (block_upW hbx HA.out)
      replace HX := hide (block_upW hbx HX.out)
      replace Hm := hide (block_upW hbx Hm.out)
      replace Hp := hide (block_upW hbx Hp.out)
      replace Hq := hide (block_upW hbx Hq.out)
      replace Hr := hide (block_upW hbx Hr.out)
      replace Hn := hide (block_upW hbx Hn.out)
      replace Hs := hide (block_upW hbx Hs.out)
      replace Ht := hide (block_upW hbx Ht.out)
      replace HA0 := hide (HA0.out.below hbx)
      replace HT := hide (HT.out.below hbx)
      replace HI0 := hide (HI0.out.below hbx)
      replace HDm := hide (HDm.out.below hbx)
      replace HGp := hide (HGp.out.below hbx)
      replace HGq := hide (HGq.out.below hbx)
      replace HGr := hide (HGr.out.below hbx)
      replace HGn := hide (HGn.out.below hbx)
      replace HGs := hide (HGs.out.below hbx)
      replace HGt := hide (HGt.out.below hbx)
      replace HW := hid_below HW hbx
      have Hd := hide hX1
      have Hu := hide hX2
      have Hk := hide hX3
      have HTd := hide hY1
      have HTu := hide hY2
      have HTk := hide hY3
      clear hX1 hX2 hX3 hY1 hY2 hY3 hbx
      have HTm := hide (T8.mk9 HDm.out HR.out HN.out HL4.out (by have := HGE.out; omega) HHI.out)
      obtain ⟨c1, hc1⟩ : ∃ c, cmpZ Vd V = c := ⟨_, rfl⟩
      obtain ⟨c2, hc2⟩ : ∃ c, cmpZ Vu V = c := ⟨_, rfl⟩
      have j1 : decide (0 < c1) = false := decide_eq_false (by
        rw [← hc1]; unfold cmpZ
        have h1 := HDN.out
        have h2 := HM1.out
        split
        · omega
        · rw [if_neg (by omega)]; omega)
      have j1b : ¬ 0 < c1 := of_decide_eq_false j1
      have j2 : decide (c2 < 0) = false := decide_eq_false (by
        rw [← hc2]; unfold cmpZ
        have h1 := HUP.out
        have h2 := HM2.out
        rw [if_neg (by omega)]
        split <;> omega)
      have j2b : ¬ c2 < 0 := of_decide_eq_false j2
      have HC1 := hide hc1
      have HC2 := hide hc2
      clear hc1 hc2
      go_upto_region 16 with fail
      go_cut [132] from 99 to 131 (fun s wx => s = .bool false ∧ Below wc.heap.size wc wx)
      case first =>
        have HU2 : Hid (Below wc.heap.size wc wc) := hide (Below.refl _ _)
        obtain ⟨ca0, cb0, cc0⟩ := tri8 Hd.out
        obtain ⟨ca1, cb1, cc1⟩ := tri8 Hm.out
        have C := tcmp8 bd ad9 ld kd ep bm am lm km E0 L Vd V wc HTd.out HTm.out
        rw [HC1.out] at C
        go_wp2_with fail
        refine C.mono ?_
        rintro e Q19 ⟨rfl, hb⟩
        clear C ca0 cb0 cc0 ca1 cb1 cc1
        replace HA := hide (block_upW hb HA.out)
        replace HX := hide (block_upW hb HX.out)
        replace Hm := hide (block_upW hb Hm.out)
        replace Hp := hide (block_upW hb Hp.out)
        replace Hq := hide (block_upW hb Hq.out)
        replace Hr := hide (block_upW hb Hr.out)
        replace Hn := hide (block_upW hb Hn.out)
        replace Hs := hide (block_upW hb Hs.out)
        replace Ht := hide (block_upW hb Ht.out)
        replace Hd := hide (block_upW hb Hd.out)
        replace Hu := hide (block_upW hb Hu.out)
        replace Hk := hide (block_upW hb Hk.out)
        replace HA0 := hide (HA0.out.below hb)
        replace HT := hide (HT.out.below hb)
        replace HI0 := hide (HI0.out.below hb)
        replace HDm := hide (HDm.out.below hb)
        replace HGp := hide (HGp.out.below hb)
        replace HGq := hide (HGq.out.below hb)
        replace HGr := hide (HGr.out.below hb)
        replace HGn := hide (HGn.out.below hb)
        replace HGs := hide (HGs.out.below hb)
        replace HGt := hide (HGt.out.below hb)
        replace HTd := hide (HTd.out.below hb)
        replace HTu := hide (HTu.out.below hb)
        replace HTk := hide (HTk.out.below hb)
        replace HTm := hide (HTm.out.below hb)
        replace HW := hid_below HW hb
        replace HU2 := hid_below HU2 hb
        clear hb
        obtain ⟨ca0, cb0, cc0⟩ := tri8 Hu.out
        obtain ⟨ca1, cb1, cc1⟩ := tri8 Hm.out
        have C := tcmp8 bu au9 lu ku eq bm am lm km E0 L Vu V Q19 HTu.out HTm.out
        rw [HC2.out] at C
        go_wp2_with fail
        refine C.mono ?_
        rintro e Q20 ⟨rfl, hb⟩
        clear C ca0 cb0 cc0 ca1 cb1 cc1
        replace HA := hide (block_upW hb HA.out)
        replace HX := hide (block_upW hb HX.out)
        replace Hm := hide (block_upW hb Hm.out)
        replace Hp := hide (block_upW hb Hp.out)
        replace Hq := hide (block_upW hb Hq.out)
        replace Hr := hide (block_upW hb Hr.out)
        replace Hn := hide (block_upW hb Hn.out)
        replace Hs := hide (block_upW hb Hs.out)
        replace Ht := hide (block_upW hb Ht.out)
        replace Hd := hide (block_upW hb Hd.out)
        replace Hu := hide (block_upW hb Hu.out)
        replace Hk := hide (block_upW hb Hk.out)
        replace HA0 := hide (HA0.out.below hb)
        replace HT := hide (HT.out.below hb)
        replace HI0 := hide (HI0.out.below hb)
        replace HDm := hide (HDm.out.below hb)
        replace HGp := hide (HGp.out.below hb)
        replace HGq := hide (HGq.out.below hb)
        replace HGr := hide (HGr.out.below hb)
        replace HGn := hide (HGn.out.below hb)
        replace HGs := hide (HGs.out.below hb)
        replace HGt := hide (HGt.out.below hb)
        replace HTd := hide (HTd.out.below hb)
        replace HTu := hide (HTu.out.below hb)
        replace HTk := hide (HTk.out.below hb)
        replace HTm := hide (HTm.out.below hb)
        replace HW := hid_below HW hb
        replace HU2 := hid_below HU2 hb
        clear hb
        rcases HNF.out.2.2.2.2 with hnd | hnu
        · skip
          have HGr2 := HGr
          rw [hnd] at HGr2
          clear hnd
          obtain ⟨ca0, cb0, cc0⟩ := tri8 Hr.out
          obtain ⟨ca1, cb1, cc1⟩ := tri8 Hp.out
          have C := ysame8 br arx lr kr er bp apx lp kp ep L Vd Q20 HGr2.out HGp.out
          go_wp2_with fail
          refine C.mono ?_
          rintro e Q21 ⟨rfl, hb⟩
          clear C ca0 cb0 cc0 ca1 cb1 cc1
          replace HA := hide (block_upW hb HA.out)
          replace HX := hide (block_upW hb HX.out)
          replace Hm := hide (block_upW hb Hm.out)
          replace Hp := hide (block_upW hb Hp.out)
          replace Hq := hide (block_upW hb Hq.out)
          replace Hr := hide (block_upW hb Hr.out)
          replace Hn := hide (block_upW hb Hn.out)
          replace Hs := hide (block_upW hb Hs.out)
          replace Ht := hide (block_upW hb Ht.out)
          replace Hd := hide (block_upW hb Hd.out)
          replace Hu := hide (block_upW hb Hu.out)
          replace Hk := hide (block_upW hb Hk.out)
          replace HA0 := hide (HA0.out.below hb)
          replace HT := hide (HT.out.below hb)
          replace HI0 := hide (HI0.out.below hb)
          replace HDm := hide (HDm.out.below hb)
          replace HGp := hide (HGp.out.below hb)
          replace HGq := hide (HGq.out.below hb)
          replace HGr := hide (HGr.out.below hb)
          replace HGn := hide (HGn.out.below hb)
          replace HGs := hide (HGs.out.below hb)
          replace HGt := hide (HGt.out.below hb)
          replace HTd := hide (HTd.out.below hb)
          replace HTu := hide (HTu.out.below hb)
          replace HTk := hide (HTk.out.below hb)
          replace HTm := hide (HTm.out.below hb)
          replace HW := hid_below HW hb
          replace HU2 := hid_below HU2 hb
          clear hb
          obtain ⟨ca0, cb0, cc0⟩ := tri8 Hd.out
          have C := tat8 bd ad9 ld kd ep L Vd pos Q21 HTd.out HPL.out
          rw [HPP.out] at C
          rw [decide_eq_true HXd.out] at C
          go_wp2_with fail
          refine C.mono ?_
          rintro e Q22 ⟨rfl, hb⟩
          clear C ca0 cb0 cc0
          replace HA := hide (block_upW hb HA.out)
          replace HX := hide (block_upW hb HX.out)
          replace Hm := hide (block_upW hb Hm.out)
          replace Hp := hide (block_upW hb Hp.out)
          replace Hq := hide (block_upW hb Hq.out)
          replace Hr := hide (block_upW hb Hr.out)
          replace Hn := hide (block_upW hb Hn.out)
          replace Hs := hide (block_upW hb Hs.out)
          replace Ht := hide (block_upW hb Ht.out)
          replace Hd := hide (block_upW hb Hd.out)
          replace Hu := hide (block_upW hb Hu.out)
          replace Hk := hide (block_upW hb Hk.out)
          replace HA0 := hide (HA0.out.below hb)
          replace HT := hide (HT.out.below hb)
          replace HI0 := hide (HI0.out.below hb)
          replace HDm := hide (HDm.out.below hb)
          replace HGp := hide (HGp.out.below hb)
          replace HGq := hide (HGq.out.below hb)
          replace HGr := hide (HGr.out.below hb)
          replace HGn := hide (HGn.out.below hb)
          replace HGs := hide (HGs.out.below hb)
          replace HGt := hide (HGt.out.below hb)
          replace HTd := hide (HTd.out.below hb)
          replace HTu := hide (HTu.out.below hb)
          replace HTk := hide (HTk.out.below hb)
          replace HTm := hide (HTm.out.below hb)
          replace HW := hid_below HW hb
          replace HU2 := hid_below HU2 hb
          clear hb
          obtain ⟨ca0, cb0, cc0⟩ := tri8 Hu.out
          have C := tat8 bu au9 lu ku eq L Vu pos Q22 HTu.out HPL.out
          rw [HPP.out] at C
          rw [decide_eq_true HXu.out] at C
          go_wp2_with fail
          refine C.mono ?_
          rintro e Q23 ⟨rfl, hb⟩
          clear C ca0 cb0 cc0
          replace HA := hide (block_upW hb HA.out)
          replace HX := hide (block_upW hb HX.out)
          replace Hm := hide (block_upW hb Hm.out)
          replace Hp := hide (block_upW hb Hp.out)
          replace Hq := hide (block_upW hb Hq.out)
          replace Hr := hide (block_upW hb Hr.out)
          replace Hn := hide (block_upW hb Hn.out)
          replace Hs := hide (block_upW hb Hs.out)
          replace Ht := hide (block_upW hb Ht.out)
          replace Hd := hide (block_upW hb Hd.out)
          replace Hu := hide (block_upW hb Hu.out)
          replace Hk := hide (block_upW hb Hk.out)
          replace HA0 := hide (HA0.out.below hb)
          replace HT := hide (HT.out.below hb)
          replace HI0 := hide (HI0.out.below hb)
          replace HDm := hide (HDm.out.below hb)
          replace HGp := hide (HGp.out.below hb)
          replace HGq := hide (HGq.out.below hb)
          replace HGr := hide (HGr.out.below hb)
          replace HGn := hide (HGn.out.below hb)
          replace HGs := hide (HGs.out.below hb)
          replace HGt := hide (HGt.out.below hb)
          replace HTd := hide (HTd.out.below hb)
          replace HTu := hide (HTu.out.below hb)
          replace HTk := hide (HTk.out.below hb)
          replace HTm := hide (HTm.out.below hb)
          replace HW := hid_below HW hb
          replace HU2 := hid_below HU2 hb
          clear hb
          go_wp2_with fail
          go_meet
          exact ⟨rfl, HU2.out⟩
        · skip
          have HGr2 := HGr
          rw [hnu] at HGr2
          clear hnu
          obtain ⟨ca0, cb0, cc0⟩ := tri8 Hr.out
          obtain ⟨ca1, cb1, cc1⟩ := tri8 Hp.out
          have C := same8_some br arx lr kr er bp apx lp kp ep L Vn Vd Q20 HGr.out HGp.out
          go_wp2_with fail
          refine C.mono ?_
          rintro e Q24 ⟨⟨c9, rfl⟩, hb⟩
          clear C ca0 cb0 cc0 ca1 cb1 cc1
          replace HA := hide (block_upW hb HA.out)
          replace HX := hide (block_upW hb HX.out)
          replace Hm := hide (block_upW hb Hm.out)
          replace Hp := hide (block_upW hb Hp.out)
          replace Hq := hide (block_upW hb Hq.out)
          replace Hr := hide (block_upW hb Hr.out)
          replace Hn := hide (block_upW hb Hn.out)
          replace Hs := hide (block_upW hb Hs.out)
          replace Ht := hide (block_upW hb Ht.out)
          replace Hd := hide (block_upW hb Hd.out)
          replace Hu := hide (block_upW hb Hu.out)
          replace Hk := hide (block_upW hb Hk.out)
          replace HA0 := hide (HA0.out.below hb)
          replace HT := hide (HT.out.below hb)
          replace HI0 := hide (HI0.out.below hb)
          replace HDm := hide (HDm.out.below hb)
          replace HGp := hide (HGp.out.below hb)
          replace HGq := hide (HGq.out.below hb)
          replace HGr := hide (HGr.out.below hb)
          replace HGn := hide (HGn.out.below hb)
          replace HGs := hide (HGs.out.below hb)
          replace HGt := hide (HGt.out.below hb)
          replace HTd := hide (HTd.out.below hb)
          replace HTu := hide (HTu.out.below hb)
          replace HTk := hide (HTk.out.below hb)
          replace HTm := hide (HTm.out.below hb)
          replace HGr2 := hide (HGr2.out.below hb)
          replace HW := hid_below HW hb
          replace HU2 := hid_below HU2 hb
          clear hb
          cases c9
          · skip
            obtain ⟨ca0, cb0, cc0⟩ := tri8 Hr.out
            obtain ⟨ca1, cb1, cc1⟩ := tri8 Hq.out
            have C := ysame8 br arx lr kr er bq aqx lq kq eq L Vu Q24 HGr2.out HGq.out
            go_wp2_with fail
            refine C.mono ?_
            rintro e Q25 ⟨rfl, hb⟩
            clear C ca0 cb0 cc0 ca1 cb1 cc1
            replace HA := hide (block_upW hb HA.out)
            replace HX := hide (block_upW hb HX.out)
            replace Hm := hide (block_upW hb Hm.out)
            replace Hp := hide (block_upW hb Hp.out)
            replace Hq := hide (block_upW hb Hq.out)
            replace Hr := hide (block_upW hb Hr.out)
            replace Hn := hide (block_upW hb Hn.out)
            replace Hs := hide (block_upW hb Hs.out)
            replace Ht := hide (block_upW hb Ht.out)
            replace Hd := hide (block_upW hb Hd.out)
            replace Hu := hide (block_upW hb Hu.out)
            replace Hk := hide (block_upW hb Hk.out)
            replace HA0 := hide (HA0.out.below hb)
            replace HT := hide (HT.out.below hb)
            replace HI0 := hide (HI0.out.below hb)
            replace HDm := hide (HDm.out.below hb)
            replace HGp := hide (HGp.out.below hb)
            replace HGq := hide (HGq.out.below hb)
            replace HGr := hide (HGr.out.below hb)
            replace HGn := hide (HGn.out.below hb)
            replace HGs := hide (HGs.out.below hb)
            replace HGt := hide (HGt.out.below hb)
            replace HTd := hide (HTd.out.below hb)
            replace HTu := hide (HTu.out.below hb)
            replace HTk := hide (HTk.out.below hb)
            replace HTm := hide (HTm.out.below hb)
            replace HGr2 := hide (HGr2.out.below hb)
            replace HW := hid_below HW hb
            replace HU2 := hid_below HU2 hb
            clear hb
            obtain ⟨ca0, cb0, cc0⟩ := tri8 Hd.out
            have C := tat8 bd ad9 ld kd ep L Vd pos Q25 HTd.out HPL.out
            rw [HPP.out] at C
            rw [decide_eq_true HXd.out] at C
            go_wp2_with fail
            refine C.mono ?_
            rintro e Q26 ⟨rfl, hb⟩
            clear C ca0 cb0 cc0
            replace HA := hide (block_upW hb HA.out)
            replace HX := hide (block_upW hb HX.out)
            replace Hm := hide (block_upW hb Hm.out)
            replace Hp := hide (block_upW hb Hp.out)
            replace Hq := hide (block_upW hb Hq.out)
            replace Hr := hide (block_upW hb Hr.out)
            replace Hn := hide (block_upW hb Hn.out)
            replace Hs := hide (block_upW hb Hs.out)
            replace Ht := hide (block_upW hb Ht.out)
            replace Hd := hide (block_upW hb Hd.out)
            replace Hu := hide (block_upW hb Hu.out)
            replace Hk := hide (block_upW hb Hk.out)
            replace HA0 := hide (HA0.out.below hb)
            replace HT := hide (HT.out.below hb)
            replace HI0 := hide (HI0.out.below hb)
            replace HDm := hide (HDm.out.below hb)
            replace HGp := hide (HGp.out.below hb)
            replace HGq := hide (HGq.out.below hb)
            replace HGr := hide (HGr.out.below hb)
            replace HGn := hide (HGn.out.below hb)
            replace HGs := hide (HGs.out.below hb)
            replace HGt := hide (HGt.out.below hb)
            replace HTd := hide (HTd.out.below hb)
            replace HTu := hide (HTu.out.below hb)
            replace HTk := hide (HTk.out.below hb)
            replace HTm := hide (HTm.out.below hb)
            replace HGr2 := hide (HGr2.out.below hb)
            replace HW := hid_below HW hb
            replace HU2 := hid_below HU2 hb
            clear hb
            obtain ⟨ca0, cb0, cc0⟩ := tri8 Hu.out
            have C := tat8 bu au9 lu ku eq L Vu pos Q26 HTu.out HPL.out
            rw [HPP.out] at C
            rw [decide_eq_true HXu.out] at C
            go_wp2_with fail
            refine C.mono ?_
            rintro e Q27 ⟨rfl, hb⟩
            clear C ca0 cb0 cc0
            replace HA := hide (block_upW hb HA.out)
            replace HX := hide (block_upW hb HX.out)
            replace Hm := hide (block_upW hb Hm.out)
            replace Hp := hide (block_upW hb Hp.out)
            replace Hq := hide (block_upW hb Hq.out)
            replace Hr := hide (block_upW hb Hr.out)
            replace Hn := hide (block_upW hb Hn.out)
            replace Hs := hide (block_upW hb Hs.out)
            replace Ht := hide (block_upW hb Ht.out)
            replace Hd := hide (block_upW hb Hd.out)
            replace Hu := hide (block_upW hb Hu.out)
            replace Hk := hide (block_upW hb Hk.out)
            replace HA0 := hide (HA0.out.below hb)
            replace HT := hide (HT.out.below hb)
            replace HI0 := hide (HI0.out.below hb)
            replace HDm := hide (HDm.out.below hb)
            replace HGp := hide (HGp.out.below hb)
            replace HGq := hide (HGq.out.below hb)
            replace HGr := hide (HGr.out.below hb)
            replace HGn := hide (HGn.out.below hb)
            replace HGs := hide (HGs.out.below hb)
            replace HGt := hide (HGt.out.below hb)
            replace HTd := hide (HTd.out.below hb)
            replace HTu := hide (HTu.out.below hb)
            replace HTk := hide (HTk.out.below hb)
            replace HTm := hide (HTm.out.below hb)
            replace HGr2 := hide (HGr2.out.below hb)
            replace HW := hid_below HW hb
            replace HU2 := hid_below HU2 hb
            clear hb
            go_wp2_with fail
            go_meet
            exact ⟨rfl, HU2.out⟩
          · skip
            obtain ⟨ca0, cb0, cc0⟩ := tri8 Hd.out
            have C := tat8 bd ad9 ld kd ep L Vd pos Q24 HTd.out HPL.out
            rw [HPP.out] at C
            rw [decide_eq_true HXd.out] at C
            go_wp2_with fail
            refine C.mono ?_
            rintro e Q28 ⟨rfl, hb⟩
            clear C ca0 cb0 cc0
            replace HA := hide (block_upW hb HA.out)
            replace HX := hide (block_upW hb HX.out)
            replace Hm := hide (block_upW hb Hm.out)
            replace Hp := hide (block_upW hb Hp.out)
            replace Hq := hide (block_upW hb Hq.out)
            replace Hr := hide (block_upW hb Hr.out)
            replace Hn := hide (block_upW hb Hn.out)
            replace Hs := hide (block_upW hb Hs.out)
            replace Ht := hide (block_upW hb Ht.out)
            replace Hd := hide (block_upW hb Hd.out)
            replace Hu := hide (block_upW hb Hu.out)
            replace Hk := hide (block_upW hb Hk.out)
            replace HA0 := hide (HA0.out.below hb)
            replace HT := hide (HT.out.below hb)
            replace HI0 := hide (HI0.out.below hb)
            replace HDm := hide (HDm.out.below hb)
            replace HGp := hide (HGp.out.below hb)
            replace HGq := hide (HGq.out.below hb)
            replace HGr := hide (HGr.out.below hb)
            replace HGn := hide (HGn.out.below hb)
            replace HGs := hide (HGs.out.below hb)
            replace HGt := hide (HGt.out.below hb)
            replace HTd := hide (HTd.out.below hb)
            replace HTu := hide (HTu.out.below hb)
            replace HTk := hide (HTk.out.below hb)
            replace HTm := hide (HTm.out.below hb)
            replace HGr2 := hide (HGr2.out.below hb)
            replace HW := hid_below HW hb
            replace HU2 := hid_below HU2 hb
            clear hb
            obtain ⟨ca0, cb0, cc0⟩ := tri8 Hu.out
            have C := tat8 bu au9 lu ku eq L Vu pos Q28 HTu.out HPL.out
            rw [HPP.out] at C
            rw [decide_eq_true HXu.out] at C
            go_wp2_with fail
            refine C.mono ?_
            rintro e Q29 ⟨rfl, hb⟩
            clear C ca0 cb0 cc0
            replace HA := hide (block_upW hb HA.out)
            replace HX := hide (block_upW hb HX.out)
            replace Hm := hide (block_upW hb Hm.out)
            replace Hp := hide (block_upW hb Hp.out)
            replace Hq := hide (block_upW hb Hq.out)
            replace Hr := hide (block_upW hb Hr.out)
            replace Hn := hide (block_upW hb Hn.out)
            replace Hs := hide (block_upW hb Hs.out)
            replace Ht := hide (block_upW hb Ht.out)
            replace Hd := hide (block_upW hb Hd.out)
            replace Hu := hide (block_upW hb Hu.out)
            replace Hk := hide (block_upW hb Hk.out)
            replace HA0 := hide (HA0.out.below hb)
            replace HT := hide (HT.out.below hb)
            replace HI0 := hide (HI0.out.below hb)
            replace HDm := hide (HDm.out.below hb)
            replace HGp := hide (HGp.out.below hb)
            replace HGq := hide (HGq.out.below hb)
            replace HGr := hide (HGr.out.below hb)
            replace HGn := hide (HGn.out.below hb)
            replace HGs := hide (HGs.out.below hb)
            replace HGt := hide (HGt.out.below hb)
            replace HTd := hide (HTd.out.below hb)
            replace HTu := hide (HTu.out.below hb)
            replace HTk := hide (HTk.out.below hb)
            replace HTm := hide (HTm.out.below hb)
            replace HGr2 := hide (HGr2.out.below hb)
            replace HW := hid_below HW hb
            replace HU2 := hid_below HU2 hb
            clear hb
            go_wp2_with fail
            go_meet
            exact ⟨rfl, HU2.out⟩
      case rest =>
        obtain ⟨rfl, hbx⟩ := hcut
        replace HA := hide (block_upW hbx HA.out)
        replace HX := hide (block_upW hbx HX.out)
        replace Hm := hide (block_upW hbx Hm.out)
        replace Hp := hide (block_upW hbx Hp.out)
        replace Hq := hide (block_upW hbx Hq.out)
        replace Hr := hide (block_upW hbx Hr.out)
        replace Hn := hide (block_upW hbx Hn.out)
        replace Hs := hide (block_upW hbx Hs.out)
        replace Ht := hide (block_upW hbx Ht.out)
        replace Hd := hide (block_upW hbx Hd.out)
        replace Hu := hide (block_upW hbx Hu.out)
        replace Hk := hide (block_upW hbx Hk.out)
        replace HA0 := hide (HA0.out.below hbx)
        replace HT := hide (HT.out.below hbx)
        replace HI0 := hide (HI0.out.below hbx)
        replace HDm := hide (HDm.out.below hbx)
        replace HGp := hide (HGp.out.below hbx)
        replace HGq := hide (HGq.out.below hbx)
        replace HGr := hide (HGr.out.below hbx)
        replace HGn := hide (HGn.out.below hbx)
        replace HGs := hide (HGs.out.below hbx)
        replace HGt := hide (HGt.out.below hbx)
        replace HTd := hide (HTd.out.below hbx)
        replace HTu := hide (HTu.out.below hbx)
        replace HTk := hide (HTk.out.below hbx)
        replace HTm := hide (HTm.out.below hbx)
        replace HW := hid_below HW hbx
        clear hbx
        obtain ⟨ca0, cb0, cc0⟩ := tri8 Hm.out
        have C := tat8 bm am lm km E0 L V pos wc HTm.out HPL.out
        rw [HPP.out] at C
        rw [decide_eq_false HMOD.out] at C
        go_wp2_with fail
        refine C.mono ?_
        rintro e Q30 ⟨rfl, hb⟩
        clear C ca0 cb0 cc0
        replace HA := hide (block_upW hb HA.out)
        replace HX := hide (block_upW hb HX.out)
        replace Hm := hide (block_upW hb Hm.out)
        replace Hp := hide (block_upW hb Hp.out)
        replace Hq := hide (block_upW hb Hq.out)
        replace Hr := hide (block_upW hb Hr.out)
        replace Hn := hide (block_upW hb Hn.out)
        replace Hs := hide (block_upW hb Hs.out)
        replace Ht := hide (block_upW hb Ht.out)
        replace Hd := hide (block_upW hb Hd.out)
        replace Hu := hide (block_upW hb Hu.out)
        replace Hk := hide (block_upW hb Hk.out)
        replace HA0 := hide (HA0.out.below hb)
        replace HT := hide (HT.out.below hb)
        replace HI0 := hide (HI0.out.below hb)
        replace HDm := hide (HDm.out.below hb)
        replace HGp := hide (HGp.out.below hb)
        replace HGq := hide (HGq.out.below hb)
        replace HGr := hide (HGr.out.below hb)
        replace HGn := hide (HGn.out.below hb)
        replace HGs := hide (HGs.out.below hb)
        replace HGt := hide (HGt.out.below hb)
        replace HTd := hide (HTd.out.below hb)
        replace HTu := hide (HTu.out.below hb)
        replace HTk := hide (HTk.out.below hb)
        replace HTm := hide (HTm.out.below hb)
        replace HW := hid_below HW hb
        clear hb
        have C := tint8 pos L Q30 HKR.out.1 HKR.out.2 HPL.out
        rw [HPP.out] at C
        go_wp2_with fail
        refine C.mono ?_
        rintro e Q31 ⟨⟨bs9, as9, ls9, ks9, rfl, hs8⟩, hb⟩
        clear C 
        obtain ⟨P32, hP32, hbP, hx⟩ := enter1 Q31 (.cells #[.bool bs9, .slice as9 ls9 ks9, .int .i64 pos] 36)
        have stp := bl_trans8 hb hbP
        replace HA := hide (block_upW stp HA.out)
        replace HX := hide (block_upW stp HX.out)
        replace Hm := hide (block_upW stp Hm.out)
        replace Hp := hide (block_upW stp Hp.out)
        replace Hq := hide (block_upW stp Hq.out)
        replace Hr := hide (block_upW stp Hr.out)
        replace Hn := hide (block_upW stp Hn.out)
        replace Hs := hide (block_upW stp Hs.out)
        replace Ht := hide (block_upW stp Ht.out)
        replace Hd := hide (block_upW stp Hd.out)
        replace Hu := hide (block_upW stp Hu.out)
        replace Hk := hide (block_upW stp Hk.out)
        replace HA0 := hide (HA0.out.below stp)
        replace HT := hide (HT.out.below stp)
        replace HI0 := hide (HI0.out.below stp)
        replace HDm := hide (HDm.out.below stp)
        replace HGp := hide (HGp.out.below stp)
        replace HGq := hide (HGq.out.below stp)
        replace HGr := hide (HGr.out.below stp)
        replace HGn := hide (HGn.out.below stp)
        replace HGs := hide (HGs.out.below stp)
        replace HGt := hide (HGt.out.below stp)
        replace HTd := hide (HTd.out.below stp)
        replace HTu := hide (HTu.out.below stp)
        replace HTk := hide (HTk.out.below stp)
        replace HTm := hide (HTm.out.below stp)
        replace HW := hid_below HW stp
        have HTg := hide (hs8.below hbP)
        have Hg := hide hx
        clear hs8 hb hbP hx stp
        have HED : Hid (Vd ≠ 0 → pos ≤ ep) := hide (fun h => (HTd.out.far HPL.out h).1 (by rw [HPP.out]; exact HXd.out))
        have HEU : Hid (Vu ≠ 0 → pos ≤ eq) := hide (fun h => (HTu.out.far HPL.out h).1 (by rw [HPP.out]; exact HXu.out))
        have hLL : L = 9223372036854775808 := HLE.out
        have HRA := hide (And.intro HFp.out (And.intro HFq.out (And.intro HGE.out HHI.out)))
        have HB1 : Hid (Vu ≠ 0 → -Vd ≠ 0 → (Vu + -Vd).natAbs < 2 ^ ((min eq ep + L).toNat + 4000000000000)) := hide (fun h1 h2 => by
          have a1 := HEU.out h1
          have a2 := HED.out (by omega)
          have a3 := HNF.out.1
          have a4 : (Vu + -Vd).natAbs = P := by omega
          have a5 := HRA.out
          have a6 := HPL.out
          rw [a4, ← HPP.out]
          exact Nat.pow_lt_pow_right (by omega) (by omega))
        have HB2 : Hid (V ≠ 0 → -Vd ≠ 0 → (V + -Vd).natAbs < 2 ^ ((min E0 ep + L).toNat + 4000000000000)) := hide (fun h1 h2 => by
          have a2 := HED.out (by omega)
          have a3 := HDN.out
          have a4 := HML.out
          have a7 := HM1.out
          have a5 := HRA.out
          have a6 := HPL.out
          have a8 := HE0P.out
          have a9 := HKR.out
          refine Nat.lt_of_lt_of_le (show (V + -Vd).natAbs < P by omega) ?_
          rw [← HPP.out]
          exact Nat.pow_le_pow_right (by omega) (by omega))
        have HB3 : Hid (Vu ≠ 0 → -V ≠ 0 → (Vu + -V).natAbs < 2 ^ ((min eq E0 + L).toNat + 4000000000000)) := hide (fun h1 h2 => by
          have a2 := HEU.out h1
          have a3 := HDN.out
          have a0 := HNF.out.1
          have a4 := HML.out
          have a7 := HM1.out
          have a5 := HRA.out
          have a6 := HPL.out
          have a8 := HE0P.out
          have a9 := HKR.out
          have a10 := HMOD.out
          refine Nat.lt_of_lt_of_le (show (Vu + -V).natAbs < P by omega) ?_
          rw [← HPP.out]
          exact Nat.pow_le_pow_right (by omega) (by omega))
        have HNG : Hid (¬ (Vu ≠ 0 ∧ -Vd ≠ 0 ∧ (if ep ≤ eq then (-Vd).natAbs else Vu.natAbs) < (Vu + -Vd).natAbs)) := hide (by
          rintro ⟨h1, h2, h3⟩
          have a1 := mult_big HXu.out h1
          have a2 := mult_big HXd.out (by omega)
          have a3 := HNF.out.1
          split at h3 <;> omega)
        clear hLL
        have NEG := hide (fun (W : World) (hg : Below P32.heap.size P32 W) => tneg8 bd ad9 ld kd ep L Vd W (HTd.out.below hg))
        have SUM := hide (fun (W : World) (b5 : Bool) (a5 : Option Addr) (n5 k5 : Nat) (h5 : T8 W b5 a5 n5 k5 ep L (-Vd)) (hg : Below P32.heap.size P32 W) => ((tadd8 bu au9 lu ku eq b5 a5 n5 k5 ep L Vu (-Vd) W (HTu.out.below hg) h5 (by have := HRA.out; omega) (by have := HRA.out; omega) HB1.out).mono fun e w' h => (show (∃ b a n k E' ok, e = .returned (.tuple #[.agg #[.bool b, .slice a n k, .int .i64 E'], .bool ok]) ∧ ((ok = true → T8 w' b a n k E' L (Vu + -Vd)) ∧ (ok = false → False))) ∧ Below W.heap.size W w' from by
          obtain ⟨⟨b, a, n, k, E', ok, h1, h2, h3⟩, h4⟩ := h
          exact ⟨⟨b, a, n, k, E', ok, h1, h2, fun h => HNG.out (h3 h)⟩, h4⟩)))
        have KS := hide (fun (W : World) (hg : Below P32.heap.size P32 W) => show W.cell? ⟨gu, 0, none⟩ = some (.bool bu) ∧ W.cell? ⟨gu, 1, none⟩ = some (.slice au9 lu ku) ∧ W.cell? ⟨gu, 2, none⟩ = some (.int .i64 eq) ∧ W.cell? ⟨gd, 0, none⟩ = some (.bool bd) ∧ W.cell? ⟨gd, 1, none⟩ = some (.slice ad9 ld kd) ∧ W.cell? ⟨gd, 2, none⟩ = some (.int .i64 ep) from ⟨(tri8 (block_upW hg Hu.out)).1, (tri8 (block_upW hg Hu.out)).2.1, (tri8 (block_upW hg Hu.out)).2.2, (tri8 (block_upW hg Hd.out)).1, (tri8 (block_upW hg Hd.out)).2.1, (tri8 (block_upW hg Hd.out)).2.2⟩)
        have g0 : Below P32.heap.size P32 P32 := Below.refl _ _
        go_upto_region 20 with fail
        skip
        go_cut [24, 7] from 150 to 156 (fun s t wx => OneT P32 L (Vu + -Vd) (False) s t wx)
        case first =>
          skip
          go_region_held3 (fun w' => w'.cell? ⟨gu, 0, none⟩ = some (.bool bu) ∧ w'.cell? ⟨gu, 1, none⟩ = some (.slice au9 lu ku) ∧ w'.cell? ⟨gu, 2, none⟩ = some (.int .i64 eq) ∧ w'.cell? ⟨gd, 0, none⟩ = some (.bool bd) ∧ w'.cell? ⟨gd, 1, none⟩ = some (.slice ad9 ld kd) ∧ w'.cell? ⟨gd, 2, none⟩ = some (.int .i64 ep)) (first | (refine KS.out _ ?_; repeat (first | with_reducible assumption | with_reducible exact Below.refl _ _ | with_reducible apply bl_allocT | with_reducible apply bl_drewT | (with_reducible refine below_tri8 ?_ (by omega) _ _ _)))) (first
            | (go_at_call 38; refine (SUM.out _ b5 a5 n5 k5 (y5.below (by repeat (first | with_reducible exact Below.refl _ _ | with_reducible apply bl_allocT))) (by repeat (first | with_reducible exact g1 | with_reducible apply bl_allocT))).mono ?_; rintro e' t2 ⟨⟨bd, ad, ld, kd, ed, okd, rfl, hs⟩, hb2⟩; have g2 : Below P32.heap.size P32 t2 := bl_trans8 (by repeat (first | with_reducible exact g1 | with_reducible apply bl_allocT)) hb2; have hle1 := g1.size; (first | (with_reducible have hq := made1T hb2; obtain ⟨z0c, z1c, z2c⟩ := tri8 hq; have zf := tri8f hq) | (with_reducible have hq := block_upW hb2 hpA; obtain ⟨z0c, z1c, z2c⟩ := tri8 hq; have zf := tri8f hq) | skip))
            | (go_at_call 39; refine (NEG.out _ (by repeat (first | with_reducible exact Below.refl _ _ | with_reducible apply bl_allocT | with_reducible apply bl_drewT))).mono ?_; rintro e' t1 ⟨⟨b5, a5, n5, k5, rfl, y5⟩, hb1⟩; have g1 : Below P32.heap.size P32 t1 := bl_trans8 (by repeat (first | with_reducible exact Below.refl _ _ | with_reducible apply bl_allocT | with_reducible apply bl_drewT)) hb1; (first | (with_reducible have hpA := made1dT hb1) | (with_reducible have hpA := made1T hb1) | skip)))
          all_goals (go_wp2_with fail; go_meet; first
            | with_reducible exact one_t hs g2
            | with_reducible exact one_ts hq hle1 hs g2
            | with_reducible exact one_ts hq (Nat.le_refl _) hs g2)
        case rest =>
          obtain ⟨gi, bi, aix, li, ki, ei, oki, rfl, rfl, hX, hS, hC, hbx⟩ := hcut
          clear NEG SUM KS g0
          replace HA := hide (block_upW hbx HA.out)
          replace HX := hide (block_upW hbx HX.out)
          replace Hm := hide (block_upW hbx Hm.out)
          replace Hp := hide (block_upW hbx Hp.out)
          replace Hq := hide (block_upW hbx Hq.out)
          replace Hr := hide (block_upW hbx Hr.out)
          replace Hn := hide (block_upW hbx Hn.out)
          replace Hs := hide (block_upW hbx Hs.out)
          replace Ht := hide (block_upW hbx Ht.out)
          replace Hd := hide (block_upW hbx Hd.out)
          replace Hu := hide (block_upW hbx Hu.out)
          replace Hk := hide (block_upW hbx Hk.out)
          replace Hg := hide (block_upW hbx Hg.out)
          replace HA0 := hide (HA0.out.below hbx)
          replace HT := hide (HT.out.below hbx)
          replace HI0 := hide (HI0.out.below hbx)
          replace HDm := hide (HDm.out.below hbx)
          replace HGp := hide (HGp.out.below hbx)
          replace HGq := hide (HGq.out.below hbx)
          replace HGr := hide (HGr.out.below hbx)
          replace HGn := hide (HGn.out.below hbx)
          replace HGs := hide (HGs.out.below hbx)
          replace HGt := hide (HGt.out.below hbx)
          replace HTd := hide (HTd.out.below hbx)
          replace HTu := hide (HTu.out.below hbx)
          replace HTk := hide (HTk.out.below hbx)
          replace HTm := hide (HTm.out.below hbx)
          replace HTg := hide (HTg.out.below hbx)
          replace HW := hid_below HW hbx
          have Hi := hide hX
          have HSi := hide hS
          have HCi := hide hC
          clear hX hS hC hbx hP32
          obtain rfl : oki = true := by
            cases oki
            · exact (HCi.out rfl).elim
            · rfl
          have HTi := hide (HSi.out rfl)
          clear HSi HCi HNG HB1
          have NEG := hide (fun (W : World) (hg : Below wc.heap.size wc W) => tneg8 bd ad9 ld kd ep L Vd W (HTd.out.below hg))
          have SUM := hide (fun (W : World) (b5 : Bool) (a5 : Option Addr) (n5 k5 : Nat) (h5 : T8 W b5 a5 n5 k5 ep L (-Vd)) (hg : Below wc.heap.size wc W) => ((tadd8 bm am lm km E0 b5 a5 n5 k5 ep L V (-Vd) W (HTm.out.below hg) h5 (by have := HRA.out; omega) (by have := HRA.out; omega) HB2.out).mono fun e w' h => (show (∃ b a n k E' ok, e = .returned (.tuple #[.agg #[.bool b, .slice a n k, .int .i64 E'], .bool ok]) ∧ ((ok = true → T8 w' b a n k E' L (V + -Vd)) ∧ (ok = false → True))) ∧ Below W.heap.size W w' from by
            obtain ⟨⟨b, a, n, k, E', ok, h1, h2, h3⟩, h4⟩ := h
            exact ⟨⟨b, a, n, k, E', ok, h1, h2, fun _ => trivial⟩, h4⟩)))
          have KS := hide (fun (W : World) (hg : Below wc.heap.size wc W) => show W.cell? ⟨Q3.heap.size, 0, none⟩ = some (.bool bm) ∧ W.cell? ⟨Q3.heap.size, 1, none⟩ = some (.slice am lm km) ∧ W.cell? ⟨Q3.heap.size, 2, none⟩ = some (.int .i64 E0) ∧ W.cell? ⟨gd, 0, none⟩ = some (.bool bd) ∧ W.cell? ⟨gd, 1, none⟩ = some (.slice ad9 ld kd) ∧ W.cell? ⟨gd, 2, none⟩ = some (.int .i64 ep) from ⟨(tri8 (block_upW hg Hm.out)).1, (tri8 (block_upW hg Hm.out)).2.1, (tri8 (block_upW hg Hm.out)).2.2, (tri8 (block_upW hg Hd.out)).1, (tri8 (block_upW hg Hd.out)).2.1, (tri8 (block_upW hg Hd.out)).2.2⟩)
          have g0 : Below wc.heap.size wc wc := Below.refl _ _
          go_upto_region 20 with fail
          skip
          go_cut [25, 26] from 157 to 163 (fun s t wx => OneT wc L (V + -Vd) (True) s t wx)
          case first =>
            skip
            go_region_held3 (fun w' => w'.cell? ⟨Q3.heap.size, 0, none⟩ = some (.bool bm) ∧ w'.cell? ⟨Q3.heap.size, 1, none⟩ = some (.slice am lm km) ∧ w'.cell? ⟨Q3.heap.size, 2, none⟩ = some (.int .i64 E0) ∧ w'.cell? ⟨gd, 0, none⟩ = some (.bool bd) ∧ w'.cell? ⟨gd, 1, none⟩ = some (.slice ad9 ld kd) ∧ w'.cell? ⟨gd, 2, none⟩ = some (.int .i64 ep)) (first | (refine KS.out _ ?_; repeat (first | with_reducible assumption | with_reducible exact Below.refl _ _ | with_reducible apply bl_allocT | with_reducible apply bl_drewT | (with_reducible refine below_tri8 ?_ (by omega) _ _ _)))) (first
              | (go_at_call 38; refine (SUM.out _ b5 a5 n5 k5 (y5.below (by repeat (first | with_reducible exact Below.refl _ _ | with_reducible apply bl_allocT))) (by repeat (first | with_reducible exact g1 | with_reducible apply bl_allocT))).mono ?_; rintro e' t2 ⟨⟨bd, ad, ld, kd, ed, okd, rfl, hs⟩, hb2⟩; have g2 : Below wc.heap.size wc t2 := bl_trans8 (by repeat (first | with_reducible exact g1 | with_reducible apply bl_allocT)) hb2; have hle1 := g1.size; (first | (with_reducible have hq := made1T hb2; obtain ⟨z0c, z1c, z2c⟩ := tri8 hq; have zf := tri8f hq) | (with_reducible have hq := block_upW hb2 hpA; obtain ⟨z0c, z1c, z2c⟩ := tri8 hq; have zf := tri8f hq) | skip))
              | (go_at_call 39; refine (NEG.out _ (by repeat (first | with_reducible exact Below.refl _ _ | with_reducible apply bl_allocT | with_reducible apply bl_drewT))).mono ?_; rintro e' t1 ⟨⟨b5, a5, n5, k5, rfl, y5⟩, hb1⟩; have g1 : Below wc.heap.size wc t1 := bl_trans8 (by repeat (first | with_reducible exact Below.refl _ _ | with_reducible apply bl_allocT | with_reducible apply bl_drewT)) hb1; (first | (with_reducible have hpA := made1dT hb1) | (with_reducible have hpA := made1T hb1) | skip)))
            all_goals (go_wp2_with fail; go_meet; first
              | with_reducible exact one_t hs g2
              | with_reducible exact one_ts hq hle1 hs g2
              | with_reducible exact one_ts hq (Nat.le_refl _) hs g2)
          case rest =>
            obtain ⟨go, bo, aox, lo, ko, eo, oko, rfl, rfl, hX, hS, hC, hbx⟩ := hcut
            clear NEG SUM KS g0
            replace HA := hide (block_upW hbx HA.out)
            replace HX := hide (block_upW hbx HX.out)
            replace Hm := hide (block_upW hbx Hm.out)
            replace Hp := hide (block_upW hbx Hp.out)
            replace Hq := hide (block_upW hbx Hq.out)
            replace Hr := hide (block_upW hbx Hr.out)
            replace Hn := hide (block_upW hbx Hn.out)
            replace Hs := hide (block_upW hbx Hs.out)
            replace Ht := hide (block_upW hbx Ht.out)
            replace Hd := hide (block_upW hbx Hd.out)
            replace Hu := hide (block_upW hbx Hu.out)
            replace Hk := hide (block_upW hbx Hk.out)
            replace Hg := hide (block_upW hbx Hg.out)
            replace Hi := hide (block_upW hbx Hi.out)
            replace HA0 := hide (HA0.out.below hbx)
            replace HT := hide (HT.out.below hbx)
            replace HI0 := hide (HI0.out.below hbx)
            replace HDm := hide (HDm.out.below hbx)
            replace HGp := hide (HGp.out.below hbx)
            replace HGq := hide (HGq.out.below hbx)
            replace HGr := hide (HGr.out.below hbx)
            replace HGn := hide (HGn.out.below hbx)
            replace HGs := hide (HGs.out.below hbx)
            replace HGt := hide (HGt.out.below hbx)
            replace HTd := hide (HTd.out.below hbx)
            replace HTu := hide (HTu.out.below hbx)
            replace HTk := hide (HTk.out.below hbx)
            replace HTm := hide (HTm.out.below hbx)
            replace HTg := hide (HTg.out.below hbx)
            replace HTi := hide (HTi.out.below hbx)
            replace HW := hid_below HW hbx
            have Ho := hide hX
            have HSo := hide hS
            have HCo := hide hC
            clear hX hS hC hbx
            clear HCo HB2
            have HTo : Hid (oko = true → T8 wc bo aox lo ko eo L (V + -Vd)) := HSo
            clear HSo
            have NEG := hide (fun (W : World) (hg : Below wc.heap.size wc W) => tneg8 bm am lm km E0 L V W (HTm.out.below hg))
            have SUM := hide (fun (W : World) (b5 : Bool) (a5 : Option Addr) (n5 k5 : Nat) (h5 : T8 W b5 a5 n5 k5 E0 L (-V)) (hg : Below wc.heap.size wc W) => ((tadd8 bu au9 lu ku eq b5 a5 n5 k5 E0 L Vu (-V) W (HTu.out.below hg) h5 (by have := HRA.out; omega) (by have := HRA.out; omega) HB3.out).mono fun e w' h => (show (∃ b a n k E' ok, e = .returned (.tuple #[.agg #[.bool b, .slice a n k, .int .i64 E'], .bool ok]) ∧ ((ok = true → T8 w' b a n k E' L (Vu + -V)) ∧ (ok = false → True))) ∧ Below W.heap.size W w' from by
              obtain ⟨⟨b, a, n, k, E', ok, h1, h2, h3⟩, h4⟩ := h
              exact ⟨⟨b, a, n, k, E', ok, h1, h2, fun _ => trivial⟩, h4⟩)))
            have KS := hide (fun (W : World) (hg : Below wc.heap.size wc W) => show W.cell? ⟨gu, 0, none⟩ = some (.bool bu) ∧ W.cell? ⟨gu, 1, none⟩ = some (.slice au9 lu ku) ∧ W.cell? ⟨gu, 2, none⟩ = some (.int .i64 eq) ∧ W.cell? ⟨Q3.heap.size, 0, none⟩ = some (.bool bm) ∧ W.cell? ⟨Q3.heap.size, 1, none⟩ = some (.slice am lm km) ∧ W.cell? ⟨Q3.heap.size, 2, none⟩ = some (.int .i64 E0) from ⟨(tri8 (block_upW hg Hu.out)).1, (tri8 (block_upW hg Hu.out)).2.1, (tri8 (block_upW hg Hu.out)).2.2, (tri8 (block_upW hg Hm.out)).1, (tri8 (block_upW hg Hm.out)).2.1, (tri8 (block_upW hg Hm.out)).2.2⟩)
            have g0 : Below wc.heap.size wc wc := Below.refl _ _
            go_upto_region 20 with fail
            skip
            go_cut [27, 28] from 164 to 170 (fun s t wx => OneT wc L (Vu + -V) (True) s t wx)
            case first =>
              skip
              go_region_held3 (fun w' => w'.cell? ⟨gu, 0, none⟩ = some (.bool bu) ∧ w'.cell? ⟨gu, 1, none⟩ = some (.slice au9 lu ku) ∧ w'.cell? ⟨gu, 2, none⟩ = some (.int .i64 eq) ∧ w'.cell? ⟨Q3.heap.size, 0, none⟩ = some (.bool bm) ∧ w'.cell? ⟨Q3.heap.size, 1, none⟩ = some (.slice am lm km) ∧ w'.cell? ⟨Q3.heap.size, 2, none⟩ = some (.int .i64 E0)) (first | (refine KS.out _ ?_; repeat (first | with_reducible assumption | with_reducible exact Below.refl _ _ | with_reducible apply bl_allocT | with_reducible apply bl_drewT | (with_reducible refine below_tri8 ?_ (by omega) _ _ _)))) (first
                | (go_at_call 38; refine (SUM.out _ b5 a5 n5 k5 (y5.below (by repeat (first | with_reducible exact Below.refl _ _ | with_reducible apply bl_allocT))) (by repeat (first | with_reducible exact g1 | with_reducible apply bl_allocT))).mono ?_; rintro e' t2 ⟨⟨bd, ad, ld, kd, ed, okd, rfl, hs⟩, hb2⟩; have g2 : Below wc.heap.size wc t2 := bl_trans8 (by repeat (first | with_reducible exact g1 | with_reducible apply bl_allocT)) hb2; have hle1 := g1.size; (first | (with_reducible have hq := made1T hb2; obtain ⟨z0c, z1c, z2c⟩ := tri8 hq; have zf := tri8f hq) | (with_reducible have hq := block_upW hb2 hpA; obtain ⟨z0c, z1c, z2c⟩ := tri8 hq; have zf := tri8f hq) | skip))
                | (go_at_call 39; refine (NEG.out _ (by repeat (first | with_reducible exact Below.refl _ _ | with_reducible apply bl_allocT | with_reducible apply bl_drewT))).mono ?_; rintro e' t1 ⟨⟨b5, a5, n5, k5, rfl, y5⟩, hb1⟩; have g1 : Below wc.heap.size wc t1 := bl_trans8 (by repeat (first | with_reducible exact Below.refl _ _ | with_reducible apply bl_allocT | with_reducible apply bl_drewT)) hb1; (first | (with_reducible have hpA := made1dT hb1) | (with_reducible have hpA := made1T hb1) | skip)))
              all_goals (go_wp2_with fail; go_meet; first
                | with_reducible exact one_t hs g2
                | with_reducible exact one_ts hq hle1 hs g2
                | with_reducible exact one_ts hq (Nat.le_refl _) hs g2)
            case rest =>
              obtain ⟨gj, bj, ajx, lj, kj, ej, okj, rfl, rfl, hX, hS, hC, hbx⟩ := hcut
              clear NEG SUM KS g0
              replace HA := hide (block_upW hbx HA.out)
              replace HX := hide (block_upW hbx HX.out)
              replace Hm := hide (block_upW hbx Hm.out)
              replace Hp := hide (block_upW hbx Hp.out)
              replace Hq := hide (block_upW hbx Hq.out)
              replace Hr := hide (block_upW hbx Hr.out)
              replace Hn := hide (block_upW hbx Hn.out)
              replace Hs := hide (block_upW hbx Hs.out)
              replace Ht := hide (block_upW hbx Ht.out)
              replace Hd := hide (block_upW hbx Hd.out)
              replace Hu := hide (block_upW hbx Hu.out)
              replace Hk := hide (block_upW hbx Hk.out)
              replace Hg := hide (block_upW hbx Hg.out)
              replace Hi := hide (block_upW hbx Hi.out)
              replace Ho := hide (block_upW hbx Ho.out)
              replace HA0 := hide (HA0.out.below hbx)
              replace HT := hide (HT.out.below hbx)
              replace HI0 := hide (HI0.out.below hbx)
              replace HDm := hide (HDm.out.below hbx)
              replace HGp := hide (HGp.out.below hbx)
              replace HGq := hide (HGq.out.below hbx)
              replace HGr := hide (HGr.out.below hbx)
              replace HGn := hide (HGn.out.below hbx)
              replace HGs := hide (HGs.out.below hbx)
              replace HGt := hide (HGt.out.below hbx)
              replace HTd := hide (HTd.out.below hbx)
              replace HTu := hide (HTu.out.below hbx)
              replace HTk := hide (HTk.out.below hbx)
              replace HTm := hide (HTm.out.below hbx)
              replace HTg := hide (HTg.out.below hbx)
              replace HTi := hide (HTi.out.below hbx)
              replace HW := hid_below HW hbx
              replace HTo := hide (fun h => (HTo.out h).below hbx)
              have Hj := hide hX
              have HSj := hide hS
              have HCj := hide hC
              clear hX hS hC hbx
              clear HCj HB3
              have HTj : Hid (okj = true → T8 wc bj ajx lj kj ej L (Vu + -V)) := HSj
              clear HSj
              have HGP := hide (show Vu + -Vd = (P : Int) by have := HNF.out.1; omega)
              obtain ⟨ca0, cb0, cc0⟩ := tri8 Hi.out
              obtain ⟨ca1, cb1, cc1⟩ := tri8 Hg.out
              have C := tcmp8 bi aix li ki ei bs9 as9 ls9 ks9 pos L (Vu + -Vd) (P : Int) wc HTi.out HTg.out
              rw [HGP.out, cmpZ_self9] at C
              go_wp2_with fail
              refine C.mono ?_
              rintro e Q33 ⟨rfl, hb⟩
              clear C ca0 cb0 cc0 ca1 cb1 cc1
              replace HA := hide (block_upW hb HA.out)
              replace HX := hide (block_upW hb HX.out)
              replace Hm := hide (block_upW hb Hm.out)
              replace Hp := hide (block_upW hb Hp.out)
              replace Hq := hide (block_upW hb Hq.out)
              replace Hr := hide (block_upW hb Hr.out)
              replace Hn := hide (block_upW hb Hn.out)
              replace Hs := hide (block_upW hb Hs.out)
              replace Ht := hide (block_upW hb Ht.out)
              replace Hd := hide (block_upW hb Hd.out)
              replace Hu := hide (block_upW hb Hu.out)
              replace Hk := hide (block_upW hb Hk.out)
              replace Hg := hide (block_upW hb Hg.out)
              replace Hi := hide (block_upW hb Hi.out)
              replace Ho := hide (block_upW hb Ho.out)
              replace Hj := hide (block_upW hb Hj.out)
              replace HA0 := hide (HA0.out.below hb)
              replace HT := hide (HT.out.below hb)
              replace HI0 := hide (HI0.out.below hb)
              replace HDm := hide (HDm.out.below hb)
              replace HGp := hide (HGp.out.below hb)
              replace HGq := hide (HGq.out.below hb)
              replace HGr := hide (HGr.out.below hb)
              replace HGn := hide (HGn.out.below hb)
              replace HGs := hide (HGs.out.below hb)
              replace HGt := hide (HGt.out.below hb)
              replace HTd := hide (HTd.out.below hb)
              replace HTu := hide (HTu.out.below hb)
              replace HTk := hide (HTk.out.below hb)
              replace HTm := hide (HTm.out.below hb)
              replace HTg := hide (HTg.out.below hb)
              replace HTi := hide (HTi.out.below hb)
              replace HW := hid_below HW hb
              replace HTo := hide (fun h => (HTo.out h).below hb)
              replace HTj := hide (fun h => (HTj.out h).below hb)
              clear hb
              cases oko
              · skip
                clear HTo HTj
                have gd9 : Below Q33.heap.size Q33 Q33.drew := (Below.refl _ _).drew
                have HWD := hide (bl_trans8 HW.out gd9)
                have g0 : Below Q33.drew.heap.size Q33.drew Q33.drew := Below.refl _ _
                have KS := hide (fun (W : World) (hg : Below Q33.drew.heap.size Q33.drew W) => show W.cell? ⟨Q14.heap.size, 0, none⟩ = some (.bool bs) ∧ W.cell? ⟨Q14.heap.size, 1, none⟩ = some (.slice asx ls ks) ∧ W.cell? ⟨Q14.heap.size, 2, none⟩ = some (.int .i64 es) ∧ W.cell? ⟨gu, 0, none⟩ = some (.bool bu) ∧ W.cell? ⟨gu, 1, none⟩ = some (.slice au9 lu ku) ∧ W.cell? ⟨gu, 2, none⟩ = some (.int .i64 eq) ∧ W.cell? ⟨Q16.heap.size, 0, none⟩ = some (.bool bt) ∧ W.cell? ⟨Q16.heap.size, 1, none⟩ = some (.slice atx lt kt) ∧ W.cell? ⟨Q16.heap.size, 2, none⟩ = some (.int .i64 et) ∧ W.cell? ⟨gk, 0, none⟩ = some (.bool bk) ∧ W.cell? ⟨gk, 1, none⟩ = some (.slice ak9 lk kk) ∧ W.cell? ⟨gk, 2, none⟩ = some (.int .i64 er) from ⟨(tri8 (block_upW (bl_trans8 gd9 hg) Hs.out)).1, (tri8 (block_upW (bl_trans8 gd9 hg) Hs.out)).2.1, (tri8 (block_upW (bl_trans8 gd9 hg) Hs.out)).2.2, (tri8 (block_upW (bl_trans8 gd9 hg) Hu.out)).1, (tri8 (block_upW (bl_trans8 gd9 hg) Hu.out)).2.1, (tri8 (block_upW (bl_trans8 gd9 hg) Hu.out)).2.2, (tri8 (block_upW (bl_trans8 gd9 hg) Ht.out)).1, (tri8 (block_upW (bl_trans8 gd9 hg) Ht.out)).2.1, (tri8 (block_upW (bl_trans8 gd9 hg) Ht.out)).2.2, (tri8 (block_upW (bl_trans8 gd9 hg) Hk.out)).1, (tri8 (block_upW (bl_trans8 gd9 hg) Hk.out)).2.1, (tri8 (block_upW (bl_trans8 gd9 hg) Hk.out)).2.2⟩)
                have K1 := hide (fun (W : World) (hg : Below Q33.drew.heap.size Q33.drew W) => tread8 bs asx ls ks es L (-Vu) W (HGs.out.below (bl_trans8 gd9 hg)))
                have K2 := hide (fun (W : World) (hg : Below Q33.drew.heap.size Q33.drew W) => tread8 bt atx lt kt et L (-Vn) W (HGt.out.below (bl_trans8 gd9 hg)))
                have KU := hide (fun (W : World) (hg : Below Q33.drew.heap.size Q33.drew W) => HTu.out.below (bl_trans8 gd9 hg))
                have KK := hide (fun (W : World) (hg : Below Q33.drew.heap.size Q33.drew W) => HTk.out.below (bl_trans8 gd9 hg))
                have KT := hide (fun (W : World) (hg : Below Q33.drew.heap.size Q33.drew W) => awake8_any W (HT.out.below (bl_trans8 gd9 hg)))
                have CQ := hide (fun (z : Int) (b1 : Bool) (a1 : Option Addr) (n1 c1 : Nat) (E1 : Int) (b2 : Bool) (a2 : Option Addr) (n2 c2 : Nat) (E2 : Int) (W : World) (h1 : T8 W b1 a1 n1 c1 E1 L (- -z)) (h2 : T8 W b2 a2 n2 c2 E2 L z) => (by have h := tcmp8 b1 a1 n1 c1 E1 b2 a2 n2 c2 E2 L _ _ W h1 h2; rw [Int.neg_neg, cmpZ_self9] at h; exact h : Calls Tryd.prog 34 #[.agg #[.bool b1, .slice a1 n1 c1, .int .i64 E1], .agg #[.bool b2, .slice a2 n2 c2, .int .i64 E2]] W fun e w' => e = .returned (.int .i64 0) ∧ Below W.heap.size W w'))
                clear gd9
                go_wp2_with fail
                go_region_held3 (fun w' => w'.cell? ⟨Q14.heap.size, 0, none⟩ = some (.bool bs) ∧ w'.cell? ⟨Q14.heap.size, 1, none⟩ = some (.slice asx ls ks) ∧ w'.cell? ⟨Q14.heap.size, 2, none⟩ = some (.int .i64 es) ∧ w'.cell? ⟨gu, 0, none⟩ = some (.bool bu) ∧ w'.cell? ⟨gu, 1, none⟩ = some (.slice au9 lu ku) ∧ w'.cell? ⟨gu, 2, none⟩ = some (.int .i64 eq) ∧ w'.cell? ⟨Q16.heap.size, 0, none⟩ = some (.bool bt) ∧ w'.cell? ⟨Q16.heap.size, 1, none⟩ = some (.slice atx lt kt) ∧ w'.cell? ⟨Q16.heap.size, 2, none⟩ = some (.int .i64 et) ∧ w'.cell? ⟨gk, 0, none⟩ = some (.bool bk) ∧ w'.cell? ⟨gk, 1, none⟩ = some (.slice ak9 lk kk) ∧ w'.cell? ⟨gk, 2, none⟩ = some (.int .i64 er)) (first | with_reducible exact KS.out _ g7 | with_reducible exact KS.out _ g6 | with_reducible exact KS.out _ g5 | with_reducible exact KS.out _ g4 | with_reducible exact KS.out _ g3 | with_reducible exact KS.out _ g2 | with_reducible exact KS.out _ g1 | with_reducible exact KS.out _ g0) (first
                  | (go_at_call 20; refine (KT.out u6 g6).mono ?_; rintro e' u7 ⟨rfl, hb7⟩; have g7 := bl_trans8 g6 hb7)
                  | (go_at_call_of 34 a44; refine (CQ.out Vn b44 a44 n44 k44 et bk ak9 lk kk er u5 y44 (KK.out u5 g5)).mono ?_; rintro e' u6 ⟨rfl, hb6⟩; have g6 := bl_trans8 g5 hb6)
                  | (go_at_call_of 39 a33; refine (tneg8 b33 a33 n33 k33 et L (-Vn) u4 y33).mono ?_; rintro e' u5 ⟨⟨b44, a44, n44, k44, rfl, y44⟩, hb5⟩; have g5 := bl_trans8 g4 hb5)
                  | (go_at_call_of 33 atx; refine (K2.out _ g3).mono ?_; rintro e' u4 ⟨⟨b33, a33, n33, k33, rfl, y33⟩, hb4⟩; have g4 := bl_trans8 g3 hb4)
                  | (go_at_call_of 34 a22; refine (CQ.out Vu b22 a22 n22 k22 es bu au9 lu ku eq u2 y22 (KU.out u2 g2)).mono ?_; rintro e' u3 ⟨rfl, hb3⟩; have g3 := bl_trans8 g2 hb3)
                  | (go_at_call_of 39 a11; refine (tneg8 b11 a11 n11 k11 es L (-Vu) u1 y11).mono ?_; rintro e' u2 ⟨⟨b22, a22, n22, k22, rfl, y22⟩, hb2⟩; have g2 := bl_trans8 g1 hb2)
                  | (go_at_call_of 33 asx; refine (K1.out _ g0).mono ?_; rintro e' u1 ⟨⟨b11, a11, n11, k11, rfl, y11⟩, hb1⟩; have g1 := bl_trans8 g0 hb1))
                have HFIN := hide (bl_trans8 HWD.out g7)
                clear g0 g1 g2 g3 g4 g5 g6 g7 hb1 hb2 hb3 hb4 hb5 hb6 hb7 KS K1 K2 KU KK KT CQ
                go_wp2
                go_ret
                exact ⟨rfl, HFIN.out⟩
              · skip
                cases okj
                · skip
                  clear HTo HTj
                  have gd9 : Below Q33.heap.size Q33 Q33.drew := (Below.refl _ _).drew
                  have HWD := hide (bl_trans8 HW.out gd9)
                  have g0 : Below Q33.drew.heap.size Q33.drew Q33.drew := Below.refl _ _
                  have KS := hide (fun (W : World) (hg : Below Q33.drew.heap.size Q33.drew W) => show W.cell? ⟨Q14.heap.size, 0, none⟩ = some (.bool bs) ∧ W.cell? ⟨Q14.heap.size, 1, none⟩ = some (.slice asx ls ks) ∧ W.cell? ⟨Q14.heap.size, 2, none⟩ = some (.int .i64 es) ∧ W.cell? ⟨gu, 0, none⟩ = some (.bool bu) ∧ W.cell? ⟨gu, 1, none⟩ = some (.slice au9 lu ku) ∧ W.cell? ⟨gu, 2, none⟩ = some (.int .i64 eq) ∧ W.cell? ⟨Q16.heap.size, 0, none⟩ = some (.bool bt) ∧ W.cell? ⟨Q16.heap.size, 1, none⟩ = some (.slice atx lt kt) ∧ W.cell? ⟨Q16.heap.size, 2, none⟩ = some (.int .i64 et) ∧ W.cell? ⟨gk, 0, none⟩ = some (.bool bk) ∧ W.cell? ⟨gk, 1, none⟩ = some (.slice ak9 lk kk) ∧ W.cell? ⟨gk, 2, none⟩ = some (.int .i64 er) from ⟨(tri8 (block_upW (bl_trans8 gd9 hg) Hs.out)).1, (tri8 (block_upW (bl_trans8 gd9 hg) Hs.out)).2.1, (tri8 (block_upW (bl_trans8 gd9 hg) Hs.out)).2.2, (tri8 (block_upW (bl_trans8 gd9 hg) Hu.out)).1, (tri8 (block_upW (bl_trans8 gd9 hg) Hu.out)).2.1, (tri8 (block_upW (bl_trans8 gd9 hg) Hu.out)).2.2, (tri8 (block_upW (bl_trans8 gd9 hg) Ht.out)).1, (tri8 (block_upW (bl_trans8 gd9 hg) Ht.out)).2.1, (tri8 (block_upW (bl_trans8 gd9 hg) Ht.out)).2.2, (tri8 (block_upW (bl_trans8 gd9 hg) Hk.out)).1, (tri8 (block_upW (bl_trans8 gd9 hg) Hk.out)).2.1, (tri8 (block_upW (bl_trans8 gd9 hg) Hk.out)).2.2⟩)
                  have K1 := hide (fun (W : World) (hg : Below Q33.drew.heap.size Q33.drew W) => tread8 bs asx ls ks es L (-Vu) W (HGs.out.below (bl_trans8 gd9 hg)))
                  have K2 := hide (fun (W : World) (hg : Below Q33.drew.heap.size Q33.drew W) => tread8 bt atx lt kt et L (-Vn) W (HGt.out.below (bl_trans8 gd9 hg)))
                  have KU := hide (fun (W : World) (hg : Below Q33.drew.heap.size Q33.drew W) => HTu.out.below (bl_trans8 gd9 hg))
                  have KK := hide (fun (W : World) (hg : Below Q33.drew.heap.size Q33.drew W) => HTk.out.below (bl_trans8 gd9 hg))
                  have KT := hide (fun (W : World) (hg : Below Q33.drew.heap.size Q33.drew W) => awake8_any W (HT.out.below (bl_trans8 gd9 hg)))
                  have CQ := hide (fun (z : Int) (b1 : Bool) (a1 : Option Addr) (n1 c1 : Nat) (E1 : Int) (b2 : Bool) (a2 : Option Addr) (n2 c2 : Nat) (E2 : Int) (W : World) (h1 : T8 W b1 a1 n1 c1 E1 L (- -z)) (h2 : T8 W b2 a2 n2 c2 E2 L z) => (by have h := tcmp8 b1 a1 n1 c1 E1 b2 a2 n2 c2 E2 L _ _ W h1 h2; rw [Int.neg_neg, cmpZ_self9] at h; exact h : Calls Tryd.prog 34 #[.agg #[.bool b1, .slice a1 n1 c1, .int .i64 E1], .agg #[.bool b2, .slice a2 n2 c2, .int .i64 E2]] W fun e w' => e = .returned (.int .i64 0) ∧ Below W.heap.size W w'))
                  clear gd9
                  go_wp2_with fail
                  go_region_held3 (fun w' => w'.cell? ⟨Q14.heap.size, 0, none⟩ = some (.bool bs) ∧ w'.cell? ⟨Q14.heap.size, 1, none⟩ = some (.slice asx ls ks) ∧ w'.cell? ⟨Q14.heap.size, 2, none⟩ = some (.int .i64 es) ∧ w'.cell? ⟨gu, 0, none⟩ = some (.bool bu) ∧ w'.cell? ⟨gu, 1, none⟩ = some (.slice au9 lu ku) ∧ w'.cell? ⟨gu, 2, none⟩ = some (.int .i64 eq) ∧ w'.cell? ⟨Q16.heap.size, 0, none⟩ = some (.bool bt) ∧ w'.cell? ⟨Q16.heap.size, 1, none⟩ = some (.slice atx lt kt) ∧ w'.cell? ⟨Q16.heap.size, 2, none⟩ = some (.int .i64 et) ∧ w'.cell? ⟨gk, 0, none⟩ = some (.bool bk) ∧ w'.cell? ⟨gk, 1, none⟩ = some (.slice ak9 lk kk) ∧ w'.cell? ⟨gk, 2, none⟩ = some (.int .i64 er)) (first | with_reducible exact KS.out _ g7 | with_reducible exact KS.out _ g6 | with_reducible exact KS.out _ g5 | with_reducible exact KS.out _ g4 | with_reducible exact KS.out _ g3 | with_reducible exact KS.out _ g2 | with_reducible exact KS.out _ g1 | with_reducible exact KS.out _ g0) (first
                    | (go_at_call 20; refine (KT.out u6 g6).mono ?_; rintro e' u7 ⟨rfl, hb7⟩; have g7 := bl_trans8 g6 hb7)
                    | (go_at_call_of 34 a44; refine (CQ.out Vn b44 a44 n44 k44 et bk ak9 lk kk er u5 y44 (KK.out u5 g5)).mono ?_; rintro e' u6 ⟨rfl, hb6⟩; have g6 := bl_trans8 g5 hb6)
                    | (go_at_call_of 39 a33; refine (tneg8 b33 a33 n33 k33 et L (-Vn) u4 y33).mono ?_; rintro e' u5 ⟨⟨b44, a44, n44, k44, rfl, y44⟩, hb5⟩; have g5 := bl_trans8 g4 hb5)
                    | (go_at_call_of 33 atx; refine (K2.out _ g3).mono ?_; rintro e' u4 ⟨⟨b33, a33, n33, k33, rfl, y33⟩, hb4⟩; have g4 := bl_trans8 g3 hb4)
                    | (go_at_call_of 34 a22; refine (CQ.out Vu b22 a22 n22 k22 es bu au9 lu ku eq u2 y22 (KU.out u2 g2)).mono ?_; rintro e' u3 ⟨rfl, hb3⟩; have g3 := bl_trans8 g2 hb3)
                    | (go_at_call_of 39 a11; refine (tneg8 b11 a11 n11 k11 es L (-Vu) u1 y11).mono ?_; rintro e' u2 ⟨⟨b22, a22, n22, k22, rfl, y22⟩, hb2⟩; have g2 := bl_trans8 g1 hb2)
                    | (go_at_call_of 33 asx; refine (K1.out _ g0).mono ?_; rintro e' u1 ⟨⟨b11, a11, n11, k11, rfl, y11⟩, hb1⟩; have g1 := bl_trans8 g0 hb1))
                  have HFIN := hide (bl_trans8 HWD.out g7)
                  clear g0 g1 g2 g3 g4 g5 g6 g7 hb1 hb2 hb3 hb4 hb5 hb6 hb7 KS K1 K2 KU KK KT CQ
                  go_wp2
                  go_ret
                  exact ⟨rfl, HFIN.out⟩
                · skip
                  replace HTo := hide (HTo.out rfl)
                  replace HTj := hide (HTj.out rfl)
                  obtain ⟨c5, hc5⟩ : ∃ c, cmpZ (V + -Vd) (Vu + -V) = c := ⟨_, rfl⟩
                  have HC5 := hide hc5
                  have hcc : (c5 = -1 ∧ Vn = Vd) ∨ (c5 = 1 ∧ Vn = Vu) ∨ (c5 = 0 ∧ Vn % ((2 * P : Nat) : Int) = 0) := by
                    have a1 := HNF.out
                    have a2 := HDN.out
                    have a3 := HM1.out
                    rw [← hc5]
                    unfold cmpZ
                    rcases Int.lt_trichotomy (V + -Vd) (Vu + -V) with h | h | h
                    · rw [if_pos h]; exact .inl ⟨rfl, a1.2.1 (by omega)⟩
                    · rw [if_neg (by omega), if_neg (by omega)]; exact .inr (.inr ⟨rfl, a1.2.2.2.1 (by omega)⟩)
                    · rw [if_neg (by omega), if_pos h]; exact .inr (.inl ⟨rfl, a1.2.2.1 (by omega)⟩)
                  clear hc5
                  obtain ⟨ca0, cb0, cc0⟩ := tri8 Ho.out
                  obtain ⟨ca1, cb1, cc1⟩ := tri8 Hj.out
                  have C := tcmp8 bo aox lo ko eo bj ajx lj kj ej L (V + -Vd) (Vu + -V) Q33 HTo.out HTj.out
                  rw [HC5.out] at C
                  go_wp2_with fail
                  refine C.mono ?_
                  rintro e Q34 ⟨rfl, hb⟩
                  clear C ca0 cb0 cc0 ca1 cb1 cc1
                  replace HA := hide (block_upW hb HA.out)
                  replace HX := hide (block_upW hb HX.out)
                  replace Hm := hide (block_upW hb Hm.out)
                  replace Hp := hide (block_upW hb Hp.out)
                  replace Hq := hide (block_upW hb Hq.out)
                  replace Hr := hide (block_upW hb Hr.out)
                  replace Hn := hide (block_upW hb Hn.out)
                  replace Hs := hide (block_upW hb Hs.out)
                  replace Ht := hide (block_upW hb Ht.out)
                  replace Hd := hide (block_upW hb Hd.out)
                  replace Hu := hide (block_upW hb Hu.out)
                  replace Hk := hide (block_upW hb Hk.out)
                  replace Hg := hide (block_upW hb Hg.out)
                  replace Hi := hide (block_upW hb Hi.out)
                  replace Ho := hide (block_upW hb Ho.out)
                  replace Hj := hide (block_upW hb Hj.out)
                  replace HA0 := hide (HA0.out.below hb)
                  replace HT := hide (HT.out.below hb)
                  replace HI0 := hide (HI0.out.below hb)
                  replace HDm := hide (HDm.out.below hb)
                  replace HGp := hide (HGp.out.below hb)
                  replace HGq := hide (HGq.out.below hb)
                  replace HGr := hide (HGr.out.below hb)
                  replace HGn := hide (HGn.out.below hb)
                  replace HGs := hide (HGs.out.below hb)
                  replace HGt := hide (HGt.out.below hb)
                  replace HTd := hide (HTd.out.below hb)
                  replace HTu := hide (HTu.out.below hb)
                  replace HTk := hide (HTk.out.below hb)
                  replace HTm := hide (HTm.out.below hb)
                  replace HTg := hide (HTg.out.below hb)
                  replace HTi := hide (HTi.out.below hb)
                  replace HTo := hide (HTo.out.below hb)
                  replace HTj := hide (HTj.out.below hb)
                  replace HW := hid_below HW hb
                  clear hb
                  rcases hcc with ⟨rfl, hn9⟩ | ⟨rfl, hn9⟩ | ⟨rfl, hn9⟩
                  · skip
                    have HGr2 := HGr
                    rw [hn9] at HGr2
                    clear hn9
                    obtain ⟨ca0, cb0, cc0⟩ := tri8 Hr.out
                    obtain ⟨ca1, cb1, cc1⟩ := tri8 Hp.out
                    have C := ysame8 br arx lr kr er bp apx lp kp ep L Vd Q34 HGr2.out HGp.out
                    go_wp2_with fail
                    refine C.mono ?_
                    rintro e Q35 ⟨rfl, hb⟩
                    clear C ca0 cb0 cc0 ca1 cb1 cc1
                    replace HA := hide (block_upW hb HA.out)
                    replace HX := hide (block_upW hb HX.out)
                    replace Hm := hide (block_upW hb Hm.out)
                    replace Hp := hide (block_upW hb Hp.out)
                    replace Hq := hide (block_upW hb Hq.out)
                    replace Hr := hide (block_upW hb Hr.out)
                    replace Hn := hide (block_upW hb Hn.out)
                    replace Hs := hide (block_upW hb Hs.out)
                    replace Ht := hide (block_upW hb Ht.out)
                    replace Hd := hide (block_upW hb Hd.out)
                    replace Hu := hide (block_upW hb Hu.out)
                    replace Hk := hide (block_upW hb Hk.out)
                    replace Hg := hide (block_upW hb Hg.out)
                    replace Hi := hide (block_upW hb Hi.out)
                    replace Ho := hide (block_upW hb Ho.out)
                    replace Hj := hide (block_upW hb Hj.out)
                    replace HA0 := hide (HA0.out.below hb)
                    replace HT := hide (HT.out.below hb)
                    replace HI0 := hide (HI0.out.below hb)
                    replace HDm := hide (HDm.out.below hb)
                    replace HGp := hide (HGp.out.below hb)
                    replace HGq := hide (HGq.out.below hb)
                    replace HGr := hide (HGr.out.below hb)
                    replace HGn := hide (HGn.out.below hb)
                    replace HGs := hide (HGs.out.below hb)
                    replace HGt := hide (HGt.out.below hb)
                    replace HTd := hide (HTd.out.below hb)
                    replace HTu := hide (HTu.out.below hb)
                    replace HTk := hide (HTk.out.below hb)
                    replace HTm := hide (HTm.out.below hb)
                    replace HTg := hide (HTg.out.below hb)
                    replace HTi := hide (HTi.out.below hb)
                    replace HTo := hide (HTo.out.below hb)
                    replace HTj := hide (HTj.out.below hb)
                    replace HW := hid_below HW hb
                    clear hb
                    have gd9 : Below Q35.heap.size Q35 Q35.drew := (Below.refl _ _).drew
                    have HWD := hide (bl_trans8 HW.out gd9)
                    have g0 : Below Q35.drew.heap.size Q35.drew Q35.drew := Below.refl _ _
                    have KS := hide (fun (W : World) (hg : Below Q35.drew.heap.size Q35.drew W) => show W.cell? ⟨Q14.heap.size, 0, none⟩ = some (.bool bs) ∧ W.cell? ⟨Q14.heap.size, 1, none⟩ = some (.slice asx ls ks) ∧ W.cell? ⟨Q14.heap.size, 2, none⟩ = some (.int .i64 es) ∧ W.cell? ⟨gu, 0, none⟩ = some (.bool bu) ∧ W.cell? ⟨gu, 1, none⟩ = some (.slice au9 lu ku) ∧ W.cell? ⟨gu, 2, none⟩ = some (.int .i64 eq) ∧ W.cell? ⟨Q16.heap.size, 0, none⟩ = some (.bool bt) ∧ W.cell? ⟨Q16.heap.size, 1, none⟩ = some (.slice atx lt kt) ∧ W.cell? ⟨Q16.heap.size, 2, none⟩ = some (.int .i64 et) ∧ W.cell? ⟨gk, 0, none⟩ = some (.bool bk) ∧ W.cell? ⟨gk, 1, none⟩ = some (.slice ak9 lk kk) ∧ W.cell? ⟨gk, 2, none⟩ = some (.int .i64 er) from ⟨(tri8 (block_upW (bl_trans8 gd9 hg) Hs.out)).1, (tri8 (block_upW (bl_trans8 gd9 hg) Hs.out)).2.1, (tri8 (block_upW (bl_trans8 gd9 hg) Hs.out)).2.2, (tri8 (block_upW (bl_trans8 gd9 hg) Hu.out)).1, (tri8 (block_upW (bl_trans8 gd9 hg) Hu.out)).2.1, (tri8 (block_upW (bl_trans8 gd9 hg) Hu.out)).2.2, (tri8 (block_upW (bl_trans8 gd9 hg) Ht.out)).1, (tri8 (block_upW (bl_trans8 gd9 hg) Ht.out)).2.1, (tri8 (block_upW (bl_trans8 gd9 hg) Ht.out)).2.2, (tri8 (block_upW (bl_trans8 gd9 hg) Hk.out)).1, (tri8 (block_upW (bl_trans8 gd9 hg) Hk.out)).2.1, (tri8 (block_upW (bl_trans8 gd9 hg) Hk.out)).2.2⟩)
                    have K1 := hide (fun (W : World) (hg : Below Q35.drew.heap.size Q35.drew W) => tread8 bs asx ls ks es L (-Vu) W (HGs.out.below (bl_trans8 gd9 hg)))
                    have K2 := hide (fun (W : World) (hg : Below Q35.drew.heap.size Q35.drew W) => tread8 bt atx lt kt et L (-Vn) W (HGt.out.below (bl_trans8 gd9 hg)))
                    have KU := hide (fun (W : World) (hg : Below Q35.drew.heap.size Q35.drew W) => HTu.out.below (bl_trans8 gd9 hg))
                    have KK := hide (fun (W : World) (hg : Below Q35.drew.heap.size Q35.drew W) => HTk.out.below (bl_trans8 gd9 hg))
                    have KT := hide (fun (W : World) (hg : Below Q35.drew.heap.size Q35.drew W) => awake8_any W (HT.out.below (bl_trans8 gd9 hg)))
                    have CQ := hide (fun (z : Int) (b1 : Bool) (a1 : Option Addr) (n1 c1 : Nat) (E1 : Int) (b2 : Bool) (a2 : Option Addr) (n2 c2 : Nat) (E2 : Int) (W : World) (h1 : T8 W b1 a1 n1 c1 E1 L (- -z)) (h2 : T8 W b2 a2 n2 c2 E2 L z) => (by have h := tcmp8 b1 a1 n1 c1 E1 b2 a2 n2 c2 E2 L _ _ W h1 h2; rw [Int.neg_neg, cmpZ_self9] at h; exact h : Calls Tryd.prog 34 #[.agg #[.bool b1, .slice a1 n1 c1, .int .i64 E1], .agg #[.bool b2, .slice a2 n2 c2, .int .i64 E2]] W fun e w' => e = .returned (.int .i64 0) ∧ Below W.heap.size W w'))
                    clear gd9
                    go_wp2_with fail
                    go_region_held3 (fun w' => w'.cell? ⟨Q14.heap.size, 0, none⟩ = some (.bool bs) ∧ w'.cell? ⟨Q14.heap.size, 1, none⟩ = some (.slice asx ls ks) ∧ w'.cell? ⟨Q14.heap.size, 2, none⟩ = some (.int .i64 es) ∧ w'.cell? ⟨gu, 0, none⟩ = some (.bool bu) ∧ w'.cell? ⟨gu, 1, none⟩ = some (.slice au9 lu ku) ∧ w'.cell? ⟨gu, 2, none⟩ = some (.int .i64 eq) ∧ w'.cell? ⟨Q16.heap.size, 0, none⟩ = some (.bool bt) ∧ w'.cell? ⟨Q16.heap.size, 1, none⟩ = some (.slice atx lt kt) ∧ w'.cell? ⟨Q16.heap.size, 2, none⟩ = some (.int .i64 et) ∧ w'.cell? ⟨gk, 0, none⟩ = some (.bool bk) ∧ w'.cell? ⟨gk, 1, none⟩ = some (.slice ak9 lk kk) ∧ w'.cell? ⟨gk, 2, none⟩ = some (.int .i64 er)) (first | with_reducible exact KS.out _ g7 | with_reducible exact KS.out _ g6 | with_reducible exact KS.out _ g5 | with_reducible exact KS.out _ g4 | with_reducible exact KS.out _ g3 | with_reducible exact KS.out _ g2 | with_reducible exact KS.out _ g1 | with_reducible exact KS.out _ g0) (first
                      | (go_at_call 20; refine (KT.out u6 g6).mono ?_; rintro e' u7 ⟨rfl, hb7⟩; have g7 := bl_trans8 g6 hb7)
                      | (go_at_call_of 34 a44; refine (CQ.out Vn b44 a44 n44 k44 et bk ak9 lk kk er u5 y44 (KK.out u5 g5)).mono ?_; rintro e' u6 ⟨rfl, hb6⟩; have g6 := bl_trans8 g5 hb6)
                      | (go_at_call_of 39 a33; refine (tneg8 b33 a33 n33 k33 et L (-Vn) u4 y33).mono ?_; rintro e' u5 ⟨⟨b44, a44, n44, k44, rfl, y44⟩, hb5⟩; have g5 := bl_trans8 g4 hb5)
                      | (go_at_call_of 33 atx; refine (K2.out _ g3).mono ?_; rintro e' u4 ⟨⟨b33, a33, n33, k33, rfl, y33⟩, hb4⟩; have g4 := bl_trans8 g3 hb4)
                      | (go_at_call_of 34 a22; refine (CQ.out Vu b22 a22 n22 k22 es bu au9 lu ku eq u2 y22 (KU.out u2 g2)).mono ?_; rintro e' u3 ⟨rfl, hb3⟩; have g3 := bl_trans8 g2 hb3)
                      | (go_at_call_of 39 a11; refine (tneg8 b11 a11 n11 k11 es L (-Vu) u1 y11).mono ?_; rintro e' u2 ⟨⟨b22, a22, n22, k22, rfl, y22⟩, hb2⟩; have g2 := bl_trans8 g1 hb2)
                      | (go_at_call_of 33 asx; refine (K1.out _ g0).mono ?_; rintro e' u1 ⟨⟨b11, a11, n11, k11, rfl, y11⟩, hb1⟩; have g1 := bl_trans8 g0 hb1))
                    have HFIN := hide (bl_trans8 HWD.out g7)
                    clear g0 g1 g2 g3 g4 g5 g6 g7 hb1 hb2 hb3 hb4 hb5 hb6 hb7 KS K1 K2 KU KK KT CQ
                    go_wp2
                    go_ret
                    exact ⟨rfl, HFIN.out⟩
                  · skip
                    have HGr2 := HGr
                    rw [hn9] at HGr2
                    clear hn9
                    obtain ⟨ca0, cb0, cc0⟩ := tri8 Hr.out
                    obtain ⟨ca1, cb1, cc1⟩ := tri8 Hq.out
                    have C := ysame8 br arx lr kr er bq aqx lq kq eq L Vu Q34 HGr2.out HGq.out
                    go_wp2_with fail
                    refine C.mono ?_
                    rintro e Q36 ⟨rfl, hb⟩
                    clear C ca0 cb0 cc0 ca1 cb1 cc1
                    replace HA := hide (block_upW hb HA.out)
                    replace HX := hide (block_upW hb HX.out)
                    replace Hm := hide (block_upW hb Hm.out)
                    replace Hp := hide (block_upW hb Hp.out)
                    replace Hq := hide (block_upW hb Hq.out)
                    replace Hr := hide (block_upW hb Hr.out)
                    replace Hn := hide (block_upW hb Hn.out)
                    replace Hs := hide (block_upW hb Hs.out)
                    replace Ht := hide (block_upW hb Ht.out)
                    replace Hd := hide (block_upW hb Hd.out)
                    replace Hu := hide (block_upW hb Hu.out)
                    replace Hk := hide (block_upW hb Hk.out)
                    replace Hg := hide (block_upW hb Hg.out)
                    replace Hi := hide (block_upW hb Hi.out)
                    replace Ho := hide (block_upW hb Ho.out)
                    replace Hj := hide (block_upW hb Hj.out)
                    replace HA0 := hide (HA0.out.below hb)
                    replace HT := hide (HT.out.below hb)
                    replace HI0 := hide (HI0.out.below hb)
                    replace HDm := hide (HDm.out.below hb)
                    replace HGp := hide (HGp.out.below hb)
                    replace HGq := hide (HGq.out.below hb)
                    replace HGr := hide (HGr.out.below hb)
                    replace HGn := hide (HGn.out.below hb)
                    replace HGs := hide (HGs.out.below hb)
                    replace HGt := hide (HGt.out.below hb)
                    replace HTd := hide (HTd.out.below hb)
                    replace HTu := hide (HTu.out.below hb)
                    replace HTk := hide (HTk.out.below hb)
                    replace HTm := hide (HTm.out.below hb)
                    replace HTg := hide (HTg.out.below hb)
                    replace HTi := hide (HTi.out.below hb)
                    replace HTo := hide (HTo.out.below hb)
                    replace HTj := hide (HTj.out.below hb)
                    replace HW := hid_below HW hb
                    clear hb
                    have gd9 : Below Q36.heap.size Q36 Q36.drew := (Below.refl _ _).drew
                    have HWD := hide (bl_trans8 HW.out gd9)
                    have g0 : Below Q36.drew.heap.size Q36.drew Q36.drew := Below.refl _ _
                    have KS := hide (fun (W : World) (hg : Below Q36.drew.heap.size Q36.drew W) => show W.cell? ⟨Q14.heap.size, 0, none⟩ = some (.bool bs) ∧ W.cell? ⟨Q14.heap.size, 1, none⟩ = some (.slice asx ls ks) ∧ W.cell? ⟨Q14.heap.size, 2, none⟩ = some (.int .i64 es) ∧ W.cell? ⟨gu, 0, none⟩ = some (.bool bu) ∧ W.cell? ⟨gu, 1, none⟩ = some (.slice au9 lu ku) ∧ W.cell? ⟨gu, 2, none⟩ = some (.int .i64 eq) ∧ W.cell? ⟨Q16.heap.size, 0, none⟩ = some (.bool bt) ∧ W.cell? ⟨Q16.heap.size, 1, none⟩ = some (.slice atx lt kt) ∧ W.cell? ⟨Q16.heap.size, 2, none⟩ = some (.int .i64 et) ∧ W.cell? ⟨gk, 0, none⟩ = some (.bool bk) ∧ W.cell? ⟨gk, 1, none⟩ = some (.slice ak9 lk kk) ∧ W.cell? ⟨gk, 2, none⟩ = some (.int .i64 er) from ⟨(tri8 (block_upW (bl_trans8 gd9 hg) Hs.out)).1, (tri8 (block_upW (bl_trans8 gd9 hg) Hs.out)).2.1, (tri8 (block_upW (bl_trans8 gd9 hg) Hs.out)).2.2, (tri8 (block_upW (bl_trans8 gd9 hg) Hu.out)).1, (tri8 (block_upW (bl_trans8 gd9 hg) Hu.out)).2.1, (tri8 (block_upW (bl_trans8 gd9 hg) Hu.out)).2.2, (tri8 (block_upW (bl_trans8 gd9 hg) Ht.out)).1, (tri8 (block_upW (bl_trans8 gd9 hg) Ht.out)).2.1, (tri8 (block_upW (bl_trans8 gd9 hg) Ht.out)).2.2, (tri8 (block_upW (bl_trans8 gd9 hg) Hk.out)).1, (tri8 (block_upW (bl_trans8 gd9 hg) Hk.out)).2.1, (tri8 (block_upW (bl_trans8 gd9 hg) Hk.out)).2.2⟩)
                    have K1 := hide (fun (W : World) (hg : Below Q36.drew.heap.size Q36.drew W) => tread8 bs asx ls ks es L (-Vu) W (HGs.out.below (bl_trans8 gd9 hg)))
                    have K2 := hide (fun (W : World) (hg : Below Q36.drew.heap.size Q36.drew W) => tread8 bt atx lt kt et L (-Vn) W (HGt.out.below (bl_trans8 gd9 hg)))
                    have KU := hide (fun (W : World) (hg : Below Q36.drew.heap.size Q36.drew W) => HTu.out.below (bl_trans8 gd9 hg))
                    have KK := hide (fun (W : World) (hg : Below Q36.drew.heap.size Q36.drew W) => HTk.out.below (bl_trans8 gd9 hg))
                    have KT := hide (fun (W : World) (hg : Below Q36.drew.heap.size Q36.drew W) => awake8_any W (HT.out.below (bl_trans8 gd9 hg)))
                    have CQ := hide (fun (z : Int) (b1 : Bool) (a1 : Option Addr) (n1 c1 : Nat) (E1 : Int) (b2 : Bool) (a2 : Option Addr) (n2 c2 : Nat) (E2 : Int) (W : World) (h1 : T8 W b1 a1 n1 c1 E1 L (- -z)) (h2 : T8 W b2 a2 n2 c2 E2 L z) => (by have h := tcmp8 b1 a1 n1 c1 E1 b2 a2 n2 c2 E2 L _ _ W h1 h2; rw [Int.neg_neg, cmpZ_self9] at h; exact h : Calls Tryd.prog 34 #[.agg #[.bool b1, .slice a1 n1 c1, .int .i64 E1], .agg #[.bool b2, .slice a2 n2 c2, .int .i64 E2]] W fun e w' => e = .returned (.int .i64 0) ∧ Below W.heap.size W w'))
                    clear gd9
                    go_wp2_with fail
                    go_region_held3 (fun w' => w'.cell? ⟨Q14.heap.size, 0, none⟩ = some (.bool bs) ∧ w'.cell? ⟨Q14.heap.size, 1, none⟩ = some (.slice asx ls ks) ∧ w'.cell? ⟨Q14.heap.size, 2, none⟩ = some (.int .i64 es) ∧ w'.cell? ⟨gu, 0, none⟩ = some (.bool bu) ∧ w'.cell? ⟨gu, 1, none⟩ = some (.slice au9 lu ku) ∧ w'.cell? ⟨gu, 2, none⟩ = some (.int .i64 eq) ∧ w'.cell? ⟨Q16.heap.size, 0, none⟩ = some (.bool bt) ∧ w'.cell? ⟨Q16.heap.size, 1, none⟩ = some (.slice atx lt kt) ∧ w'.cell? ⟨Q16.heap.size, 2, none⟩ = some (.int .i64 et) ∧ w'.cell? ⟨gk, 0, none⟩ = some (.bool bk) ∧ w'.cell? ⟨gk, 1, none⟩ = some (.slice ak9 lk kk) ∧ w'.cell? ⟨gk, 2, none⟩ = some (.int .i64 er)) (first | with_reducible exact KS.out _ g7 | with_reducible exact KS.out _ g6 | with_reducible exact KS.out _ g5 | with_reducible exact KS.out _ g4 | with_reducible exact KS.out _ g3 | with_reducible exact KS.out _ g2 | with_reducible exact KS.out _ g1 | with_reducible exact KS.out _ g0) (first
                      | (go_at_call 20; refine (KT.out u6 g6).mono ?_; rintro e' u7 ⟨rfl, hb7⟩; have g7 := bl_trans8 g6 hb7)
                      | (go_at_call_of 34 a44; refine (CQ.out Vn b44 a44 n44 k44 et bk ak9 lk kk er u5 y44 (KK.out u5 g5)).mono ?_; rintro e' u6 ⟨rfl, hb6⟩; have g6 := bl_trans8 g5 hb6)
                      | (go_at_call_of 39 a33; refine (tneg8 b33 a33 n33 k33 et L (-Vn) u4 y33).mono ?_; rintro e' u5 ⟨⟨b44, a44, n44, k44, rfl, y44⟩, hb5⟩; have g5 := bl_trans8 g4 hb5)
                      | (go_at_call_of 33 atx; refine (K2.out _ g3).mono ?_; rintro e' u4 ⟨⟨b33, a33, n33, k33, rfl, y33⟩, hb4⟩; have g4 := bl_trans8 g3 hb4)
                      | (go_at_call_of 34 a22; refine (CQ.out Vu b22 a22 n22 k22 es bu au9 lu ku eq u2 y22 (KU.out u2 g2)).mono ?_; rintro e' u3 ⟨rfl, hb3⟩; have g3 := bl_trans8 g2 hb3)
                      | (go_at_call_of 39 a11; refine (tneg8 b11 a11 n11 k11 es L (-Vu) u1 y11).mono ?_; rintro e' u2 ⟨⟨b22, a22, n22, k22, rfl, y22⟩, hb2⟩; have g2 := bl_trans8 g1 hb2)
                      | (go_at_call_of 33 asx; refine (K1.out _ g0).mono ?_; rintro e' u1 ⟨⟨b11, a11, n11, k11, rfl, y11⟩, hb1⟩; have g1 := bl_trans8 g0 hb1))
                    have HFIN := hide (bl_trans8 HWD.out g7)
                    clear g0 g1 g2 g3 g4 g5 g6 g7 hb1 hb2 hb3 hb4 hb5 hb6 hb7 KS K1 K2 KU KK KT CQ
                    go_wp2
                    go_ret
                    exact ⟨rfl, HFIN.out⟩
                  · skip
                    have wp1 : IntKind.i64.wrap (pos + 1) = pos + 1 := by have := HKR.out; rw [IntKind.wrap_i64]; omega
                    have HP2 := hide (show 2 ^ (pos + 1 + L).toNat = 2 * P by rw [show (pos + 1 + L).toNat = (pos + L).toNat + 1 by have := HPL.out; omega, Nat.pow_succ, HPP.out, Nat.mul_comm])
                    have HN9 := hide hn9
                    clear hn9
                    obtain ⟨ca0, cb0, cc0⟩ := tri8 Hk.out
                    have C := tat8 bk ak9 lk kk er L Vn (pos + 1) Q34 HTk.out (by have := HPL.out; omega)
                    rw [HP2.out, decide_eq_true HN9.out] at C
                    go_wp2_with fail
                    refine C.mono ?_
                    rintro e Q37 ⟨rfl, hb⟩
                    clear C ca0 cb0 cc0
                    replace HA := hide (block_upW hb HA.out)
                    replace HX := hide (block_upW hb HX.out)
                    replace Hm := hide (block_upW hb Hm.out)
                    replace Hp := hide (block_upW hb Hp.out)
                    replace Hq := hide (block_upW hb Hq.out)
                    replace Hr := hide (block_upW hb Hr.out)
                    replace Hn := hide (block_upW hb Hn.out)
                    replace Hs := hide (block_upW hb Hs.out)
                    replace Ht := hide (block_upW hb Ht.out)
                    replace Hd := hide (block_upW hb Hd.out)
                    replace Hu := hide (block_upW hb Hu.out)
                    replace Hk := hide (block_upW hb Hk.out)
                    replace Hg := hide (block_upW hb Hg.out)
                    replace Hi := hide (block_upW hb Hi.out)
                    replace Ho := hide (block_upW hb Ho.out)
                    replace Hj := hide (block_upW hb Hj.out)
                    replace HA0 := hide (HA0.out.below hb)
                    replace HT := hide (HT.out.below hb)
                    replace HI0 := hide (HI0.out.below hb)
                    replace HDm := hide (HDm.out.below hb)
                    replace HGp := hide (HGp.out.below hb)
                    replace HGq := hide (HGq.out.below hb)
                    replace HGr := hide (HGr.out.below hb)
                    replace HGn := hide (HGn.out.below hb)
                    replace HGs := hide (HGs.out.below hb)
                    replace HGt := hide (HGt.out.below hb)
                    replace HTd := hide (HTd.out.below hb)
                    replace HTu := hide (HTu.out.below hb)
                    replace HTk := hide (HTk.out.below hb)
                    replace HTm := hide (HTm.out.below hb)
                    replace HTg := hide (HTg.out.below hb)
                    replace HTi := hide (HTi.out.below hb)
                    replace HTo := hide (HTo.out.below hb)
                    replace HTj := hide (HTj.out.below hb)
                    replace HW := hid_below HW hb
                    clear hb
                    have gd9 : Below Q37.heap.size Q37 Q37.drew := (Below.refl _ _).drew
                    have HWD := hide (bl_trans8 HW.out gd9)
                    have g0 : Below Q37.drew.heap.size Q37.drew Q37.drew := Below.refl _ _
                    have KS := hide (fun (W : World) (hg : Below Q37.drew.heap.size Q37.drew W) => show W.cell? ⟨Q14.heap.size, 0, none⟩ = some (.bool bs) ∧ W.cell? ⟨Q14.heap.size, 1, none⟩ = some (.slice asx ls ks) ∧ W.cell? ⟨Q14.heap.size, 2, none⟩ = some (.int .i64 es) ∧ W.cell? ⟨gu, 0, none⟩ = some (.bool bu) ∧ W.cell? ⟨gu, 1, none⟩ = some (.slice au9 lu ku) ∧ W.cell? ⟨gu, 2, none⟩ = some (.int .i64 eq) ∧ W.cell? ⟨Q16.heap.size, 0, none⟩ = some (.bool bt) ∧ W.cell? ⟨Q16.heap.size, 1, none⟩ = some (.slice atx lt kt) ∧ W.cell? ⟨Q16.heap.size, 2, none⟩ = some (.int .i64 et) ∧ W.cell? ⟨gk, 0, none⟩ = some (.bool bk) ∧ W.cell? ⟨gk, 1, none⟩ = some (.slice ak9 lk kk) ∧ W.cell? ⟨gk, 2, none⟩ = some (.int .i64 er) from ⟨(tri8 (block_upW (bl_trans8 gd9 hg) Hs.out)).1, (tri8 (block_upW (bl_trans8 gd9 hg) Hs.out)).2.1, (tri8 (block_upW (bl_trans8 gd9 hg) Hs.out)).2.2, (tri8 (block_upW (bl_trans8 gd9 hg) Hu.out)).1, (tri8 (block_upW (bl_trans8 gd9 hg) Hu.out)).2.1, (tri8 (block_upW (bl_trans8 gd9 hg) Hu.out)).2.2, (tri8 (block_upW (bl_trans8 gd9 hg) Ht.out)).1, (tri8 (block_upW (bl_trans8 gd9 hg) Ht.out)).2.1, (tri8 (block_upW (bl_trans8 gd9 hg) Ht.out)).2.2, (tri8 (block_upW (bl_trans8 gd9 hg) Hk.out)).1, (tri8 (block_upW (bl_trans8 gd9 hg) Hk.out)).2.1, (tri8 (block_upW (bl_trans8 gd9 hg) Hk.out)).2.2⟩)
                    have K1 := hide (fun (W : World) (hg : Below Q37.drew.heap.size Q37.drew W) => tread8 bs asx ls ks es L (-Vu) W (HGs.out.below (bl_trans8 gd9 hg)))
                    have K2 := hide (fun (W : World) (hg : Below Q37.drew.heap.size Q37.drew W) => tread8 bt atx lt kt et L (-Vn) W (HGt.out.below (bl_trans8 gd9 hg)))
                    have KU := hide (fun (W : World) (hg : Below Q37.drew.heap.size Q37.drew W) => HTu.out.below (bl_trans8 gd9 hg))
                    have KK := hide (fun (W : World) (hg : Below Q37.drew.heap.size Q37.drew W) => HTk.out.below (bl_trans8 gd9 hg))
                    have KT := hide (fun (W : World) (hg : Below Q37.drew.heap.size Q37.drew W) => awake8_any W (HT.out.below (bl_trans8 gd9 hg)))
                    have CQ := hide (fun (z : Int) (b1 : Bool) (a1 : Option Addr) (n1 c1 : Nat) (E1 : Int) (b2 : Bool) (a2 : Option Addr) (n2 c2 : Nat) (E2 : Int) (W : World) (h1 : T8 W b1 a1 n1 c1 E1 L (- -z)) (h2 : T8 W b2 a2 n2 c2 E2 L z) => (by have h := tcmp8 b1 a1 n1 c1 E1 b2 a2 n2 c2 E2 L _ _ W h1 h2; rw [Int.neg_neg, cmpZ_self9] at h; exact h : Calls Tryd.prog 34 #[.agg #[.bool b1, .slice a1 n1 c1, .int .i64 E1], .agg #[.bool b2, .slice a2 n2 c2, .int .i64 E2]] W fun e w' => e = .returned (.int .i64 0) ∧ Below W.heap.size W w'))
                    clear gd9
                    go_wp2_with fail
                    go_region_held3 (fun w' => w'.cell? ⟨Q14.heap.size, 0, none⟩ = some (.bool bs) ∧ w'.cell? ⟨Q14.heap.size, 1, none⟩ = some (.slice asx ls ks) ∧ w'.cell? ⟨Q14.heap.size, 2, none⟩ = some (.int .i64 es) ∧ w'.cell? ⟨gu, 0, none⟩ = some (.bool bu) ∧ w'.cell? ⟨gu, 1, none⟩ = some (.slice au9 lu ku) ∧ w'.cell? ⟨gu, 2, none⟩ = some (.int .i64 eq) ∧ w'.cell? ⟨Q16.heap.size, 0, none⟩ = some (.bool bt) ∧ w'.cell? ⟨Q16.heap.size, 1, none⟩ = some (.slice atx lt kt) ∧ w'.cell? ⟨Q16.heap.size, 2, none⟩ = some (.int .i64 et) ∧ w'.cell? ⟨gk, 0, none⟩ = some (.bool bk) ∧ w'.cell? ⟨gk, 1, none⟩ = some (.slice ak9 lk kk) ∧ w'.cell? ⟨gk, 2, none⟩ = some (.int .i64 er)) (first | with_reducible exact KS.out _ g7 | with_reducible exact KS.out _ g6 | with_reducible exact KS.out _ g5 | with_reducible exact KS.out _ g4 | with_reducible exact KS.out _ g3 | with_reducible exact KS.out _ g2 | with_reducible exact KS.out _ g1 | with_reducible exact KS.out _ g0) (first
                      | (go_at_call 20; refine (KT.out u6 g6).mono ?_; rintro e' u7 ⟨rfl, hb7⟩; have g7 := bl_trans8 g6 hb7)
                      | (go_at_call_of 34 a44; refine (CQ.out Vn b44 a44 n44 k44 et bk ak9 lk kk er u5 y44 (KK.out u5 g5)).mono ?_; rintro e' u6 ⟨rfl, hb6⟩; have g6 := bl_trans8 g5 hb6)
                      | (go_at_call_of 39 a33; refine (tneg8 b33 a33 n33 k33 et L (-Vn) u4 y33).mono ?_; rintro e' u5 ⟨⟨b44, a44, n44, k44, rfl, y44⟩, hb5⟩; have g5 := bl_trans8 g4 hb5)
                      | (go_at_call_of 33 atx; refine (K2.out _ g3).mono ?_; rintro e' u4 ⟨⟨b33, a33, n33, k33, rfl, y33⟩, hb4⟩; have g4 := bl_trans8 g3 hb4)
                      | (go_at_call_of 34 a22; refine (CQ.out Vu b22 a22 n22 k22 es bu au9 lu ku eq u2 y22 (KU.out u2 g2)).mono ?_; rintro e' u3 ⟨rfl, hb3⟩; have g3 := bl_trans8 g2 hb3)
                      | (go_at_call_of 39 a11; refine (tneg8 b11 a11 n11 k11 es L (-Vu) u1 y11).mono ?_; rintro e' u2 ⟨⟨b22, a22, n22, k22, rfl, y22⟩, hb2⟩; have g2 := bl_trans8 g1 hb2)
                      | (go_at_call_of 33 asx; refine (K1.out _ g0).mono ?_; rintro e' u1 ⟨⟨b11, a11, n11, k11, rfl, y11⟩, hb1⟩; have g1 := bl_trans8 g0 hb1))
                    have HFIN := hide (bl_trans8 HWD.out g7)
                    clear g0 g1 g2 g3 g4 g5 g6 g7 hb1 hb2 hb3 hb4 hb5 hb6 hb7 KS K1 K2 KU KK KT CQ
                    go_wp2
                    go_ret
                    exact ⟨rfl, HFIN.out⟩
  · skip
    have hno : ([cp, cq, cr, cn].all (· == 0)) = false := by
      rw [Bool.eq_false_iff]
      intro h
      simp only [List.all_cons, List.all_nil, Bool.and_true, Bool.and_eq_true, beq_iff_eq] at h
      exact hc h
    rw [hno] at AL
    clear hno
    go_wp2_with fail
    refine AL.mono ?_
    rintro e wn ⟨rfl, hw⟩; rw [hw]; clear hw wn AL hP12 hU13
    have AW := awake8_any U13 HT.out
    go_wp2_with fail
    refine AW.mono ?_
    rintro e t9 ⟨rfl, hb9⟩
    have HFIN := hide (bl_trans8 HW.out hb9)
    clear AW hb9
    go_wp2
    go_ret
    exact ⟨rfl, HFIN.out⟩

end Go.Proofs.YtemajaclpkgpbaaDoor
