/- The walk of the law DyadicSums. -/
import Derived.Test.YtegbjdjpeblkoaaGreatDoorDySmZ
import Derived.Test.YtegbjdjpeblkoaaGreatDoorDyRnZ
import Derived.Test.YtegbjdjpeblkoaaGreatDoorQ9
namespace Go.Proofs.YtegbjdjpeblkoaaGreatDoor
open Go.RowKit
open Lm
attribute [local go_sem ↓] Go.wp_at_zero Go.wp_at_succ

theorem made1d8 {W t : World} {o : Obj} (h : Below (W.alloc o).drew.heap.size (W.alloc o).drew t) : t.heap[W.heap.size]? = some o := block_upW h (heap_alloc_new W o)

theorem made18 {W t : World} {o : Obj} (h : Below (W.alloc o).heap.size (W.alloc o) t) : t.heap[W.heap.size]? = some o := block_upW h (heap_alloc_new W o)

theorem Says.tri8 {w : World} {b : Bool} {v : Value} {E' f M E : Int} {g : Nat} {p : Bool} {a : Option Addr} {n c : Nat} {e : Int} {t : TypeId} (h : Says w b v E' f M E) (hl : w.heap[g]? = some (.cells #[.bool p, .slice a n c, .int .i64 e] t)) (p1 : Bool) (a1 : Option Addr) (n1 c1 : Nat) (u2 : Value) : Says (((w.setCell ⟨g, 0, none⟩ (.bool p1)).setCell ⟨g, 1, none⟩ (.slice a1 n1 c1)).setCell ⟨g, 2, none⟩ u2) b v E' f M E := by
  rcases h with ⟨h1, h2, h3⟩ | h | h
  · exact .inl ⟨h1, h2.tri8 hl p1 a1 n1 c1 u2, h3⟩
  · exact .inr (.inl h)
  · exact .inr (.inr h)

/-- A box with what the document says. -/
def OneD (U : World) (M E : Int) (s f : Value) (wx : World) : Prop :=
  ∃ (g : Nat) (b : Bool) (a : Option Addr) (n k : Nat) (e' f' : Int), s = .pointer (some ⟨g, 0, none⟩) ∧ f = .int .i64 f' ∧ wx.heap[g]? = some (.cells #[.bool b, .slice a n k, .int .i64 e'] 36) ∧ Says wx b (.slice a n k) e' f' M E ∧ Below U.heap.size U wx

theorem one_d {U t : World} {M E : Int} {b : Bool} {a : Option Addr} {n k : Nat} {e' f' : Int} (hs : Says t b (.slice a n k) e' f' M E) (g : Below U.heap.size U t) : OneD U M E (.pointer (some ⟨t.heap.size, 0, none⟩)) (.int .i64 f') (t.alloc (.cells #[.bool b, .slice a n k, .int .i64 e'] 36)) :=
  ⟨_, b, a, n, k, e', f', rfl, rfl, heap_alloc_new _ _, hs.below (below_one6 _ _), bl_alloc8 g _⟩

theorem one_ds {U t : World} {M E : Int} {b : Bool} {a : Option Addr} {n k : Nat} {e' f' : Int} {gg : Nat} (hq : t.heap[gg]? = some (.cells #[.bool false, .slice none 0 0, .int .i64 0] 36)) (hge : U.heap.size ≤ gg) (hs : Says t b (.slice a n k) e' f' M E) (g : Below U.heap.size U t) : OneD U M E (.pointer (some ⟨gg, 0, none⟩)) (.int .i64 f') (((t.setCell ⟨gg, 0, none⟩ (.bool b)).setCell ⟨gg, 1, none⟩ (.slice a n k)).setCell ⟨gg, 2, none⟩ (.int .i64 e')) :=
  ⟨_, b, a, n, k, e', f', rfl, rfl, tri8_all hq _ _ _, hs.tri8 hq b a n k (.int .i64 e'), below_tri8 g hge _ _ _⟩

set_option maxRecDepth 20000 in
set_option maxHeartbeats 16000000 in
theorem sums8_yes (b0 : Bool) (v0 : Value) (z0 : List Nat) (p0 : Int) (b1 : Bool) (v1 : Value) (z1 : List Nat) (p1 : Int) (w : World) (hT : Tab w) (A0 : Arg w v0 z0) (s0 : z0.length ≤ 1048576) (_ : -9223372036854775808 ≤ p0) (_ : p0 ≤ 9223372036854775807) (A1 : Arg w v1 z1) (s1 : z1.length ≤ 1048576) (_ : -9223372036854775808 ≤ p1) (_ : p1 ≤ 9223372036854775807) (hE0 : fitE p0 = true) (hE1 : fitE p1 = true) :
    Calls Tryz.prog 3 #[.agg #[.bool b0, v0, .int .i64 p0], .agg #[.bool b1, v1, .int .i64 p1]] w fun e w' => e = .returned (.bool true) ∧ Below w.heap.size w w' := by
  obtain ⟨a0, n0, rfl, _, _, _⟩ := A0.form
  obtain ⟨a1, n1, rfl, _, _, _⟩ := A1.form
  obtain ⟨w0, hw0, hb0, h0, h1⟩ := enter2 w (.cells #[.bool b0, .slice a0 z0.length n0, .int .i64 p0] 24) (.cells #[.bool b1, .slice a1 z1.length n1, .int .i64 p1] 24)
  have HA := hide h0
  have HB := hide h1
  have HA0 := hide (A0.below hb0)
  have HA1 := hide (A1.below hb0)
  have HT := hide (hT.below hb0)
  have HW := hide hb0
  clear hT hb0 h0 h1
  have F0 := read_facts (b := b0) (ex := p0) A0 (by omega) hE0
  have hl0 : blen (omz (zz b0 (val z0))).natAbs ≤ 67108864 := by
    have h5 := blen_mono (od_le (zz b0 (val z0)).natAbs)
    have h6 := blen_len8 A0.limbs
    rw [zz_abs] at h5
    rw [omz_abs, zz_abs]; omega
  obtain ⟨M0, hM0⟩ : ∃ M0, omz (zz b0 (val z0)) = M0 := ⟨_, rfl⟩
  obtain ⟨E0, hE0v⟩ : ∃ E0, oe (zz b0 (val z0)) p0 = E0 := ⟨_, rfl⟩
  rw [hM0, hE0v] at F0
  rw [hM0] at hl0
  have HM0 := hide hM0
  have HV0 := hide hE0v
  have HN0 := hide F0.2.2.2
  have e01 := F0.2.1
  have e02 := F0.2.2.1
  clear F0 hM0 hE0v
  have F1 := read_facts (b := b1) (ex := p1) A1 (by omega) hE1
  have hl1 : blen (omz (zz b1 (val z1))).natAbs ≤ 67108864 := by
    have h5 := blen_mono (od_le (zz b1 (val z1)).natAbs)
    have h6 := blen_len8 A1.limbs
    rw [zz_abs] at h5
    rw [omz_abs, zz_abs]; omega
  obtain ⟨M1, hM1⟩ : ∃ M1, omz (zz b1 (val z1)) = M1 := ⟨_, rfl⟩
  obtain ⟨E1, hE1v⟩ : ∃ E1, oe (zz b1 (val z1)) p1 = E1 := ⟨_, rfl⟩
  rw [hM1, hE1v] at F1
  rw [hM1] at hl1
  have HM1 := hide hM1
  have HV1 := hide hE1v
  have HN1 := hide F1.2.2.2
  have e11 := F1.2.1
  have e12 := F1.2.2.1
  clear F1 hM1 hE1v
  clear A0 A1
  go_enter Tryz.func3, Tryz.ntmps3
  obtain ⟨ca0, cb0, cc0⟩ := tri8 HA.out
  have C := lent8_any b0 a0 n0 z0 p0 w0 HA0.out (by omega)
  go_wp2_with fail
  refine C.mono ?_
  rintro e Q1 ⟨⟨aw, mw, nw, ax, cx, rfl, hL, hP⟩, hb⟩
  clear C ca0 cb0 cc0 hw0
  obtain ⟨P2, hP2, hbP, hx⟩ := enter1 Q1 (.cells #[.bool b0, .slice ax z0.length cx, .int .i64 p0] 29)
  have stp := bl_trans8 hb hbP
  replace HA := hide (block_upW stp HA.out)
  replace HB := hide (block_upW stp HB.out)
  replace HA0 := hide (HA0.out.below stp)
  replace HA1 := hide (HA1.out.below stp)
  replace HT := hide (HT.out.below stp)
  replace HW := hid_below HW stp
  have HLa := hide (hL.below hbP)
  have HPx := hide (hP.below hbP)
  have HX := hide hx
  clear hL hP hb hbP hx stp
  obtain ⟨ca0, cb0, cc0⟩ := tri8 HB.out
  have C := lent8_any b1 a1 n1 z1 p1 P2 HA1.out (by omega)
  go_wp2_with fail
  refine C.mono ?_
  rintro e Q3 ⟨⟨bw, mv, nv, ay, cy, rfl, hL, hP⟩, hb⟩
  clear C ca0 cb0 cc0 hP2
  obtain ⟨P4, hP4, hbP, hx⟩ := enter1 Q3 (.cells #[.bool b1, .slice ay z1.length cy, .int .i64 p1] 29)
  have stp := bl_trans8 hb hbP
  replace HA := hide (block_upW stp HA.out)
  replace HB := hide (block_upW stp HB.out)
  replace HX := hide (block_upW stp HX.out)
  replace HA0 := hide (HA0.out.below stp)
  replace HA1 := hide (HA1.out.below stp)
  replace HT := hide (HT.out.below stp)
  replace HLa := hide (HLa.out.below stp)
  replace HPx := hide (HPx.out.below stp)
  replace HW := hid_below HW stp
  have HLb := hide (hL.below hbP)
  have HPy := hide (hP.below hbP)
  have HY := hide hx
  clear hL hP hb hbP hx stp
  obtain ⟨ca0, cb0, cc0⟩ := tri8 HA.out
  have C := of8_ok b0 a0 n0 z0 p0 P4 HA0.out (by omega) hE0
  rw [HM0.out, HV0.out] at C
  go_wp2_with fail
  refine C.mono ?_
  rintro e Q5 ⟨⟨bm, am, lm, km, rfl, hd⟩, hb⟩
  clear C ca0 cb0 cc0 hP4
  obtain ⟨P6, hP6, hbP, hx⟩ := enter1 Q5 (.cells #[.bool bm, .slice am lm km, .int .i64 E0] 36)
  have stp := bl_trans8 hb hbP
  replace HA := hide (block_upW stp HA.out)
  replace HB := hide (block_upW stp HB.out)
  replace HX := hide (block_upW stp HX.out)
  replace HY := hide (block_upW stp HY.out)
  replace HA0 := hide (HA0.out.below stp)
  replace HA1 := hide (HA1.out.below stp)
  replace HT := hide (HT.out.below stp)
  replace HLa := hide (HLa.out.below stp)
  replace HPx := hide (HPx.out.below stp)
  replace HLb := hide (HLb.out.below stp)
  replace HPy := hide (HPy.out.below stp)
  replace HW := hid_below HW stp
  have HDm := hide (hd.below hbP)
  have Hm := hide hx
  clear hd hb hbP hx stp
  obtain ⟨ca0, cb0, cc0⟩ := tri8 HB.out
  have C := of8_ok b1 a1 n1 z1 p1 P6 HA1.out (by omega) hE1
  rw [HM1.out, HV1.out] at C
  go_wp2_with fail
  refine C.mono ?_
  rintro e Q7 ⟨⟨bn, an, ln, kn, rfl, hd⟩, hb⟩
  clear C ca0 cb0 cc0 hP6
  obtain ⟨P8, hP8, hbP, hx⟩ := enter1 Q7 (.cells #[.bool bn, .slice an ln kn, .int .i64 E1] 36)
  have stp := bl_trans8 hb hbP
  replace HA := hide (block_upW stp HA.out)
  replace HB := hide (block_upW stp HB.out)
  replace HX := hide (block_upW stp HX.out)
  replace HY := hide (block_upW stp HY.out)
  replace Hm := hide (block_upW stp Hm.out)
  replace HA0 := hide (HA0.out.below stp)
  replace HA1 := hide (HA1.out.below stp)
  replace HT := hide (HT.out.below stp)
  replace HLa := hide (HLa.out.below stp)
  replace HPx := hide (HPx.out.below stp)
  replace HLb := hide (HLb.out.below stp)
  replace HPy := hide (HPy.out.below stp)
  replace HDm := hide (HDm.out.below stp)
  replace HW := hid_below HW stp
  have HDn := hide (hd.below hbP)
  have Hn := hide hx
  clear hd hb hbP hx stp
  have HBB : Hid (Below P8.heap.size P8 P8) := hide (Below.refl _ _)
  have HLaB := HLa
  have HLbB := HLb
  have HA0B := HA0
  have HA1B := HA1
  have HTB := HT
  have HWB := HW
  obtain ⟨ca0, cb0, cc0⟩ := tri8 HX.out
  have C := yneg_ok b0 ax cx z0 p0 P8 HPx.out HT.out (by omega) hE0
  rw [HM0.out, HV0.out] at C
  go_wp2_with fail
  refine C.mono ?_
  rintro e Q9 ⟨⟨bu, au, lu, ku, eu, cu, rfl, hd⟩, hb⟩
  clear C ca0 cb0 cc0 hP8
  obtain ⟨ru, hans, hlu⟩ := hd.own9
  have Ch := Chain.one hans hb.size
  obtain ⟨P10, hP10, hbP, hx⟩ := enter1 Q9 (.cells #[.bool bu, .slice au lu ku, .int .i64 eu] 29)
  have stp := bl_trans8 hb hbP
  replace HA := hide (block_upW stp HA.out)
  replace HB := hide (block_upW stp HB.out)
  replace HX := hide (block_upW stp HX.out)
  replace HY := hide (block_upW stp HY.out)
  replace Hm := hide (block_upW stp Hm.out)
  replace Hn := hide (block_upW stp Hn.out)
  replace HA0 := hide (HA0.out.below stp)
  replace HA1 := hide (HA1.out.below stp)
  replace HT := hide (HT.out.below stp)
  replace HLa := hide (HLa.out.below stp)
  replace HPx := hide (HPx.out.below stp)
  replace HLb := hide (HLb.out.below stp)
  replace HPy := hide (HPy.out.below stp)
  replace HDm := hide (HDm.out.below stp)
  replace HDn := hide (HDn.out.below stp)
  replace HW := hid_below HW stp
  replace HBB := hid_below HBB stp
  have HDu := hide (hd.below hbP)
  have Hu := hide hx
  replace Ch := Ch.below hbP
  clear hans hd hb hbP hx stp
  obtain ⟨ca0, cb0, cc0⟩ := tri8 HX.out
  have C := yabs_ok b0 ax cx z0 p0 P10 HPx.out HT.out (by omega) hE0
  rw [HM0.out, HV0.out] at C
  go_wp2_with fail
  refine C.mono ?_
  rintro e Q11 ⟨⟨bv, av, lv, kv, ev, cv, rfl, hd⟩, hb⟩
  clear C ca0 cb0 cc0 hP10
  obtain ⟨rv, hans, hlv⟩ := hd.own9
  replace Ch := Ch.snoc hb hans HBB.out.size
  obtain ⟨P12, hP12, hbP, hx⟩ := enter1 Q11 (.cells #[.bool bv, .slice av lv kv, .int .i64 ev] 29)
  have stp := bl_trans8 hb hbP
  replace HA := hide (block_upW stp HA.out)
  replace HB := hide (block_upW stp HB.out)
  replace HX := hide (block_upW stp HX.out)
  replace HY := hide (block_upW stp HY.out)
  replace Hm := hide (block_upW stp Hm.out)
  replace Hn := hide (block_upW stp Hn.out)
  replace Hu := hide (block_upW stp Hu.out)
  replace HA0 := hide (HA0.out.below stp)
  replace HA1 := hide (HA1.out.below stp)
  replace HT := hide (HT.out.below stp)
  replace HLa := hide (HLa.out.below stp)
  replace HPx := hide (HPx.out.below stp)
  replace HLb := hide (HLb.out.below stp)
  replace HPy := hide (HPy.out.below stp)
  replace HDm := hide (HDm.out.below stp)
  replace HDn := hide (HDn.out.below stp)
  replace HDu := hide (HDu.out.below stp)
  replace HW := hid_below HW stp
  replace HBB := hid_below HBB stp
  have HDv := hide (hd.below hbP)
  have Hv := hide hx
  replace Ch := Ch.below hbP
  clear hans hd hb hbP hx stp
  obtain ⟨ca0, cb0, cc0⟩ := tri8 HX.out
  obtain ⟨ca1, cb1, cc1⟩ := tri8 HY.out
  have C := yadd_full b0 ax cx z0 p0 b1 ay cy z1 p1 P12 HT.out HPx.out HPy.out (by omega) (by omega) hE0 hE1
  rw [HM0.out, HV0.out, HM1.out, HV1.out] at C
  go_wp2_with fail
  refine C.mono ?_
  rintro e Q13 ⟨⟨bp, ap, lp, kp, ep, cp, rfl, hd⟩, hb⟩
  clear C ca0 cb0 cc0 ca1 cb1 cc1 hP12
  obtain ⟨rp, hans, hlp⟩ := hd.own9
  replace Ch := Ch.snoc hb hans HBB.out.size
  obtain ⟨P14, hP14, hbP, hx⟩ := enter1 Q13 (.cells #[.bool bp, .slice ap lp kp, .int .i64 ep] 29)
  have stp := bl_trans8 hb hbP
  replace HA := hide (block_upW stp HA.out)
  replace HB := hide (block_upW stp HB.out)
  replace HX := hide (block_upW stp HX.out)
  replace HY := hide (block_upW stp HY.out)
  replace Hm := hide (block_upW stp Hm.out)
  replace Hn := hide (block_upW stp Hn.out)
  replace Hu := hide (block_upW stp Hu.out)
  replace Hv := hide (block_upW stp Hv.out)
  replace HA0 := hide (HA0.out.below stp)
  replace HA1 := hide (HA1.out.below stp)
  replace HT := hide (HT.out.below stp)
  replace HLa := hide (HLa.out.below stp)
  replace HPx := hide (HPx.out.below stp)
  replace HLb := hide (HLb.out.below stp)
  replace HPy := hide (HPy.out.below stp)
  replace HDm := hide (HDm.out.below stp)
  replace HDn := hide (HDn.out.below stp)
  replace HDu := hide (HDu.out.below stp)
  replace HDv := hide (HDv.out.below stp)
  replace HW := hid_below HW stp
  replace HBB := hid_below HBB stp
  have HDp := hide (hd.below hbP)
  have Hp := hide hx
  replace Ch := Ch.below hbP
  clear hans hd hb hbP hx stp
  obtain ⟨ca0, cb0, cc0⟩ := tri8 HX.out
  obtain ⟨ca1, cb1, cc1⟩ := tri8 HY.out
  have C := ysub_full b0 ax cx z0 p0 b1 ay cy z1 p1 P14 HT.out HPx.out HPy.out (by omega) (by omega) hE0 hE1
  rw [HM0.out, HV0.out, HM1.out, HV1.out] at C
  go_wp2_with fail
  refine C.mono ?_
  rintro e Q15 ⟨⟨bq, aq, lq, kq, eq, cq, rfl, hd⟩, hb⟩
  clear C ca0 cb0 cc0 ca1 cb1 cc1 hP14
  obtain ⟨rq, hans, hlq⟩ := hd.own9
  replace Ch := Ch.snoc hb hans HBB.out.size
  obtain ⟨P16, hP16, hbP, hx⟩ := enter1 Q15 (.cells #[.bool bq, .slice aq lq kq, .int .i64 eq] 29)
  have stp := bl_trans8 hb hbP
  replace HA := hide (block_upW stp HA.out)
  replace HB := hide (block_upW stp HB.out)
  replace HX := hide (block_upW stp HX.out)
  replace HY := hide (block_upW stp HY.out)
  replace Hm := hide (block_upW stp Hm.out)
  replace Hn := hide (block_upW stp Hn.out)
  replace Hu := hide (block_upW stp Hu.out)
  replace Hv := hide (block_upW stp Hv.out)
  replace Hp := hide (block_upW stp Hp.out)
  replace HA0 := hide (HA0.out.below stp)
  replace HA1 := hide (HA1.out.below stp)
  replace HT := hide (HT.out.below stp)
  replace HLa := hide (HLa.out.below stp)
  replace HPx := hide (HPx.out.below stp)
  replace HLb := hide (HLb.out.below stp)
  replace HPy := hide (HPy.out.below stp)
  replace HDm := hide (HDm.out.below stp)
  replace HDn := hide (HDn.out.below stp)
  replace HDu := hide (HDu.out.below stp)
  replace HDv := hide (HDv.out.below stp)
  replace HDp := hide (HDp.out.below stp)
  replace HW := hid_below HW stp
  replace HBB := hid_below HBB stp
  have HDq := hide (hd.below hbP)
  have Hq := hide hx
  replace Ch := Ch.below hbP
  clear hans hd hb hbP hx stp
  obtain ⟨ca0, cb0, cc0⟩ := tri8 HX.out
  obtain ⟨ca1, cb1, cc1⟩ := tri8 HY.out
  have C := ymul_full b0 ax cx z0 p0 b1 ay cy z1 p1 P16 HT.out HPx.out HPy.out (by omega) (by omega) hE0 hE1
  rw [HM0.out, HV0.out, HM1.out, HV1.out] at C
  go_wp2_with fail
  refine C.mono ?_
  rintro e Q17 ⟨⟨br, ar, lr, kr, er, cr, rfl, hd⟩, hb⟩
  clear C ca0 cb0 cc0 ca1 cb1 cc1 hP16
  obtain ⟨rr, hans, hlr⟩ := hd.own9
  replace Ch := Ch.snoc hb hans HBB.out.size
  obtain ⟨P18, hP18, hbP, hx⟩ := enter1 Q17 (.cells #[.bool br, .slice ar lr kr, .int .i64 er] 29)
  have stp := bl_trans8 hb hbP
  replace HA := hide (block_upW stp HA.out)
  replace HB := hide (block_upW stp HB.out)
  replace HX := hide (block_upW stp HX.out)
  replace HY := hide (block_upW stp HY.out)
  replace Hm := hide (block_upW stp Hm.out)
  replace Hn := hide (block_upW stp Hn.out)
  replace Hu := hide (block_upW stp Hu.out)
  replace Hv := hide (block_upW stp Hv.out)
  replace Hp := hide (block_upW stp Hp.out)
  replace Hq := hide (block_upW stp Hq.out)
  replace HA0 := hide (HA0.out.below stp)
  replace HA1 := hide (HA1.out.below stp)
  replace HT := hide (HT.out.below stp)
  replace HLa := hide (HLa.out.below stp)
  replace HPx := hide (HPx.out.below stp)
  replace HLb := hide (HLb.out.below stp)
  replace HPy := hide (HPy.out.below stp)
  replace HDm := hide (HDm.out.below stp)
  replace HDn := hide (HDn.out.below stp)
  replace HDu := hide (HDu.out.below stp)
  replace HDv := hide (HDv.out.below stp)
  replace HDp := hide (HDp.out.below stp)
  replace HDq := hide (HDq.out.below stp)
  replace HW := hid_below HW stp
  replace HBB := hid_below HBB stp
  have HDr := hide (hd.below hbP)
  have Hr := hide hx
  replace Ch := Ch.below hbP
  clear hans hd hb hbP hx stp
  obtain ⟨ca0, cb0, cc0⟩ := tri8 Hm.out
  obtain ⟨ca1, cb1, cc1⟩ := tri8 Hn.out
  have C := rdSum_full bm am lm km M0 E0 bn an ln kn M1 E1 P18 HDm.out HDn.out HN0.out HN1.out (by omega) (by omega) e01 e02 e11 e12
  go_wp2_with fail
  refine C.mono ?_
  rintro e Q19 ⟨⟨bs, as2, ls, ks, es, fs, rfl, hs⟩, hb⟩
  clear C ca0 cb0 cc0 ca1 cb1 cc1 hP18
  obtain ⟨P20, hP20, hbP, hx⟩ := enter1 Q19 (.cells #[.bool bs, .slice as2 ls ks, .int .i64 es] 36)
  have stp := bl_trans8 hb hbP
  replace HA := hide (block_upW stp HA.out)
  replace HB := hide (block_upW stp HB.out)
  replace HX := hide (block_upW stp HX.out)
  replace HY := hide (block_upW stp HY.out)
  replace Hm := hide (block_upW stp Hm.out)
  replace Hn := hide (block_upW stp Hn.out)
  replace Hu := hide (block_upW stp Hu.out)
  replace Hv := hide (block_upW stp Hv.out)
  replace Hp := hide (block_upW stp Hp.out)
  replace Hq := hide (block_upW stp Hq.out)
  replace Hr := hide (block_upW stp Hr.out)
  replace HA0 := hide (HA0.out.below stp)
  replace HA1 := hide (HA1.out.below stp)
  replace HT := hide (HT.out.below stp)
  replace HLa := hide (HLa.out.below stp)
  replace HPx := hide (HPx.out.below stp)
  replace HLb := hide (HLb.out.below stp)
  replace HPy := hide (HPy.out.below stp)
  replace HDm := hide (HDm.out.below stp)
  replace HDn := hide (HDn.out.below stp)
  replace HDu := hide (HDu.out.below stp)
  replace HDv := hide (HDv.out.below stp)
  replace HDp := hide (HDp.out.below stp)
  replace HDq := hide (HDq.out.below stp)
  replace HDr := hide (HDr.out.below stp)
  replace HW := hid_below HW stp
  replace HBB := hid_below HBB stp
  have HSs := hide (hs.below hbP)
  have Hs := hide hx
  replace Ch := Ch.below stp
  clear hs hb hbP hx stp
  have NEG := hide (fun (W : World) (hg : Below P20.heap.size P20 W) => rdNeg_any bn an ln kn M1 E1 W (HDn.out.below hg))
  have SUM := hide (fun (W : World) (b5 : Bool) (a5 : Option Addr) (n5 k5 : Nat) (h5 : Dn W b5 (.slice a5 n5 k5) (-M1)) (hg : Below P20.heap.size P20 W) => rdSum_full bm am lm km M0 E0 b5 a5 n5 k5 (-M1) E1 W (HDm.out.below hg) h5 HN0.out HN1.out.neg (by omega) (by rw [Int.natAbs_neg]; omega) e01 e02 e11 e12)
  have KS := hide (fun (W : World) (hg : Below P20.heap.size P20 W) => show W.cell? ⟨Q5.heap.size, 0, none⟩ = some (.bool bm) ∧ W.cell? ⟨Q5.heap.size, 1, none⟩ = some (.slice am lm km) ∧ W.cell? ⟨Q5.heap.size, 2, none⟩ = some (.int .i64 E0) ∧ W.cell? ⟨Q7.heap.size, 0, none⟩ = some (.bool bn) ∧ W.cell? ⟨Q7.heap.size, 1, none⟩ = some (.slice an ln kn) ∧ W.cell? ⟨Q7.heap.size, 2, none⟩ = some (.int .i64 E1) from ⟨(tri8 (block_upW hg Hm.out)).1, (tri8 (block_upW hg Hm.out)).2.1, (tri8 (block_upW hg Hm.out)).2.2, (tri8 (block_upW hg Hn.out)).1, (tri8 (block_upW hg Hn.out)).2.1, (tri8 (block_upW hg Hn.out)).2.2⟩)
  have g0 : Below P20.heap.size P20 P20 := Below.refl _ _
  go_upto_region 20 with fail
  go_cut [27, 28] from 137 to 143 (fun s t wx => OneD P20 (omz (sm M0 E0 (-M1) E1)) (oe (sm M0 E0 (-M1) E1) (min E0 E1)) s t wx)
  case first =>
    generalize omz (sm M0 E0 (-M1) E1) = MS at *
    generalize oe (sm M0 E0 (-M1) E1) (min E0 E1) = ES at *
    go_region_held3 (fun w' => w'.cell? ⟨Q5.heap.size, 0, none⟩ = some (.bool bm) ∧ w'.cell? ⟨Q5.heap.size, 1, none⟩ = some (.slice am lm km) ∧ w'.cell? ⟨Q5.heap.size, 2, none⟩ = some (.int .i64 E0) ∧ w'.cell? ⟨Q7.heap.size, 0, none⟩ = some (.bool bn) ∧ w'.cell? ⟨Q7.heap.size, 1, none⟩ = some (.slice an ln kn) ∧ w'.cell? ⟨Q7.heap.size, 2, none⟩ = some (.int .i64 E1)) (first | (refine KS.out _ ?_; repeat (first | with_reducible assumption | with_reducible exact Below.refl _ _ | with_reducible apply bl_alloc8 | with_reducible apply bl_drew8 | (with_reducible refine below_tri8 ?_ (by omega) _ _ _)))) (first
      | (go_at_call 15; refine (SUM.out _ b5 a5 n5 k5 (y5.below (by repeat (first | with_reducible exact Below.refl _ _ | with_reducible apply bl_alloc8))) (by repeat (first | with_reducible exact g1 | with_reducible apply bl_alloc8))).mono ?_; rintro e' t2 ⟨⟨bd, ad, ld, kd, ed, fd, rfl, hs⟩, hb2⟩; have g2 : Below P20.heap.size P20 t2 := bl_trans8 (by repeat (first | with_reducible exact g1 | with_reducible apply bl_alloc8)) hb2; have hle1 := g1.size; (first | (with_reducible have hq := made18 hb2; obtain ⟨z0c, z1c, z2c⟩ := tri8 hq; have zf := tri8f hq) | (with_reducible have hq := block_upW hb2 hpA; obtain ⟨z0c, z1c, z2c⟩ := tri8 hq; have zf := tri8f hq) | skip))
      | (go_at_call 12; refine (NEG.out _ (by repeat (first | with_reducible exact Below.refl _ _ | with_reducible apply bl_alloc8 | with_reducible apply bl_drew8))).mono ?_; rintro e' t1 ⟨⟨b5, a5, n5, k5, rfl, y5⟩, hb1⟩; have g1 : Below P20.heap.size P20 t1 := bl_trans8 (by repeat (first | with_reducible exact Below.refl _ _ | with_reducible apply bl_alloc8 | with_reducible apply bl_drew8)) hb1; (first | (with_reducible have hpA := made1d8 hb1) | (with_reducible have hpA := made18 hb1) | skip)))
    all_goals (go_wp2_with fail; go_meet; first
      | with_reducible exact one_d hs g2
      | with_reducible exact one_ds hq hle1 hs g2
      | with_reducible exact one_ds hq (Nat.le_refl _) hs g2)
  case rest =>
    obtain ⟨gd, bd, ad, ld, kd, ed, fd, rfl, rfl, hX, hS, hbx⟩ := hcut
    clear NEG SUM KS g0
    replace HA := hide (block_upW hbx HA.out)
    replace HB := hide (block_upW hbx HB.out)
    replace HX := hide (block_upW hbx HX.out)
    replace HY := hide (block_upW hbx HY.out)
    replace Hm := hide (block_upW hbx Hm.out)
    replace Hn := hide (block_upW hbx Hn.out)
    replace Hu := hide (block_upW hbx Hu.out)
    replace Hv := hide (block_upW hbx Hv.out)
    replace Hp := hide (block_upW hbx Hp.out)
    replace Hq := hide (block_upW hbx Hq.out)
    replace Hr := hide (block_upW hbx Hr.out)
    replace Hs := hide (block_upW hbx Hs.out)
    replace HA0 := hide (HA0.out.below hbx)
    replace HA1 := hide (HA1.out.below hbx)
    replace HT := hide (HT.out.below hbx)
    replace HLa := hide (HLa.out.below hbx)
    replace HPx := hide (HPx.out.below hbx)
    replace HLb := hide (HLb.out.below hbx)
    replace HPy := hide (HPy.out.below hbx)
    replace HDm := hide (HDm.out.below hbx)
    replace HDn := hide (HDn.out.below hbx)
    replace HDu := hide (HDu.out.below hbx)
    replace HDv := hide (HDv.out.below hbx)
    replace HDp := hide (HDp.out.below hbx)
    replace HDq := hide (HDq.out.below hbx)
    replace HDr := hide (HDr.out.below hbx)
    replace HSs := hide (HSs.out.below hbx)
    replace HW := hid_below HW hbx
    replace HBB := hid_below HBB hbx
    replace Ch := Ch.below hbx
    have Hd := hide hX
    have HSd := hide hS
    clear hX hS hbx hP20
    have stp : Below wc.heap.size wc wc.drew := (Below.refl _ _).drew
    replace HA := hide (block_upW stp HA.out)
    replace HB := hide (block_upW stp HB.out)
    replace HX := hide (block_upW stp HX.out)
    replace HY := hide (block_upW stp HY.out)
    replace Hm := hide (block_upW stp Hm.out)
    replace Hn := hide (block_upW stp Hn.out)
    replace Hu := hide (block_upW stp Hu.out)
    replace Hv := hide (block_upW stp Hv.out)
    replace Hp := hide (block_upW stp Hp.out)
    replace Hq := hide (block_upW stp Hq.out)
    replace Hr := hide (block_upW stp Hr.out)
    replace Hs := hide (block_upW stp Hs.out)
    replace Hd := hide (block_upW stp Hd.out)
    replace HA0 := hide (HA0.out.below stp)
    replace HA1 := hide (HA1.out.below stp)
    replace HT := hide (HT.out.below stp)
    replace HLa := hide (HLa.out.below stp)
    replace HPx := hide (HPx.out.below stp)
    replace HLb := hide (HLb.out.below stp)
    replace HPy := hide (HPy.out.below stp)
    replace HDm := hide (HDm.out.below stp)
    replace HDn := hide (HDn.out.below stp)
    replace HDu := hide (HDu.out.below stp)
    replace HDv := hide (HDv.out.below stp)
    replace HDp := hide (HDp.out.below stp)
    replace HDq := hide (HDq.out.below stp)
    replace HDr := hide (HDr.out.below stp)
    replace HSs := hide (HSs.out.below stp)
    replace HSd := hide (HSd.out.below stp)
    replace HW := hid_below HW stp
    replace HBB := hid_below HBB stp
    replace Ch := Ch.below stp
    clear stp
    obtain ⟨LS, hLS⟩ : ∃ LS : List (Nat × Obj), LS = [(Q9.heap.size, .cells #[.bool bu, .slice au lu ku, .int .i64 eu] 29), (Q11.heap.size, .cells #[.bool bv, .slice av lv kv, .int .i64 ev] 29), (Q13.heap.size, .cells #[.bool bp, .slice ap lp kp, .int .i64 ep] 29), (Q15.heap.size, .cells #[.bool bq, .slice aq lq kq, .int .i64 eq] 29), (Q17.heap.size, .cells #[.bool br, .slice ar lr kr, .int .i64 er] 29), (Q5.heap.size, .cells #[.bool bm, .slice am lm km, .int .i64 E0] 36), (Q7.heap.size, .cells #[.bool bn, .slice an ln kn, .int .i64 E1] 36), (Q19.heap.size, .cells #[.bool bs, .slice as2 ls ks, .int .i64 es] 36), (gd, .cells #[.bool bd, .slice ad ld kd, .int .i64 ed] 36), (w.heap.size, .cells #[.bool b0, .slice a0 z0.length n0, .int .i64 p0] 24), (w.heap.size + 1, .cells #[.bool b1, .slice a1 z1.length n1, .int .i64 p1] 24)] := ⟨_, rfl⟩
    have s0 : Bx wc.drew LS := by rw [hLS]; exact Bx.cons Hu.out (Bx.cons Hv.out (Bx.cons Hp.out (Bx.cons Hq.out (Bx.cons Hr.out (Bx.cons Hm.out (Bx.cons Hn.out (Bx.cons Hs.out (Bx.cons Hd.out (Bx.cons HA.out (Bx.cons HB.out (Bx.nil _)))))))))))
    have HPL : Hid ((LS.all fun p => plainBox p.2) = true) := by rw [hLS]; exact hide rfl
    have KS := hide (fun (W : World) (h : Bx W LS) => show W.cell? ⟨Q9.heap.size, 0, none⟩ = some (.bool bu) ∧ W.cell? ⟨Q9.heap.size, 1, none⟩ = some (.slice au lu ku) ∧ W.cell? ⟨Q9.heap.size, 2, none⟩ = some (.int .i64 eu) ∧ W.cell? ⟨Q11.heap.size, 0, none⟩ = some (.bool bv) ∧ W.cell? ⟨Q11.heap.size, 1, none⟩ = some (.slice av lv kv) ∧ W.cell? ⟨Q11.heap.size, 2, none⟩ = some (.int .i64 ev) ∧ W.cell? ⟨Q13.heap.size, 0, none⟩ = some (.bool bp) ∧ W.cell? ⟨Q13.heap.size, 1, none⟩ = some (.slice ap lp kp) ∧ W.cell? ⟨Q13.heap.size, 2, none⟩ = some (.int .i64 ep) ∧ W.cell? ⟨Q15.heap.size, 0, none⟩ = some (.bool bq) ∧ W.cell? ⟨Q15.heap.size, 1, none⟩ = some (.slice aq lq kq) ∧ W.cell? ⟨Q15.heap.size, 2, none⟩ = some (.int .i64 eq) ∧ W.cell? ⟨Q17.heap.size, 0, none⟩ = some (.bool br) ∧ W.cell? ⟨Q17.heap.size, 1, none⟩ = some (.slice ar lr kr) ∧ W.cell? ⟨Q17.heap.size, 2, none⟩ = some (.int .i64 er) ∧ W.cell? ⟨Q5.heap.size, 0, none⟩ = some (.bool bm) ∧ W.cell? ⟨Q5.heap.size, 1, none⟩ = some (.slice am lm km) ∧ W.cell? ⟨Q5.heap.size, 2, none⟩ = some (.int .i64 E0) ∧ W.cell? ⟨Q7.heap.size, 0, none⟩ = some (.bool bn) ∧ W.cell? ⟨Q7.heap.size, 1, none⟩ = some (.slice an ln kn) ∧ W.cell? ⟨Q7.heap.size, 2, none⟩ = some (.int .i64 E1) ∧ W.cell? ⟨Q19.heap.size, 0, none⟩ = some (.bool bs) ∧ W.cell? ⟨Q19.heap.size, 1, none⟩ = some (.slice as2 ls ks) ∧ W.cell? ⟨Q19.heap.size, 2, none⟩ = some (.int .i64 es) ∧ W.cell? ⟨gd, 0, none⟩ = some (.bool bd) ∧ W.cell? ⟨gd, 1, none⟩ = some (.slice ad ld kd) ∧ W.cell? ⟨gd, 2, none⟩ = some (.int .i64 ed) ∧ W.cell? ⟨w.heap.size, 0, none⟩ = some (.bool b0) ∧ W.cell? ⟨w.heap.size, 1, none⟩ = some (.slice a0 z0.length n0) ∧ W.cell? ⟨w.heap.size, 2, none⟩ = some (.int .i64 p0) ∧ W.cell? ⟨w.heap.size + 1, 0, none⟩ = some (.bool b1) ∧ W.cell? ⟨w.heap.size + 1, 1, none⟩ = some (.slice a1 z1.length n1) ∧ W.cell? ⟨w.heap.size + 1, 2, none⟩ = some (.int .i64 p1) by rw [hLS] at h; exact ⟨(tri8 (h 0 _ _ rfl)).1, (tri8 (h 0 _ _ rfl)).2.1, (tri8 (h 0 _ _ rfl)).2.2, (tri8 (h 1 _ _ rfl)).1, (tri8 (h 1 _ _ rfl)).2.1, (tri8 (h 1 _ _ rfl)).2.2, (tri8 (h 2 _ _ rfl)).1, (tri8 (h 2 _ _ rfl)).2.1, (tri8 (h 2 _ _ rfl)).2.2, (tri8 (h 3 _ _ rfl)).1, (tri8 (h 3 _ _ rfl)).2.1, (tri8 (h 3 _ _ rfl)).2.2, (tri8 (h 4 _ _ rfl)).1, (tri8 (h 4 _ _ rfl)).2.1, (tri8 (h 4 _ _ rfl)).2.2, (tri8 (h 5 _ _ rfl)).1, (tri8 (h 5 _ _ rfl)).2.1, (tri8 (h 5 _ _ rfl)).2.2, (tri8 (h 6 _ _ rfl)).1, (tri8 (h 6 _ _ rfl)).2.1, (tri8 (h 6 _ _ rfl)).2.2, (tri8 (h 7 _ _ rfl)).1, (tri8 (h 7 _ _ rfl)).2.1, (tri8 (h 7 _ _ rfl)).2.2, (tri8 (h 8 _ _ rfl)).1, (tri8 (h 8 _ _ rfl)).2.1, (tri8 (h 8 _ _ rfl)).2.2, (tri8 (h 9 _ _ rfl)).1, (tri8 (h 9 _ _ rfl)).2.1, (tri8 (h 9 _ _ rfl)).2.2, (tri8 (h 10 _ _ rfl)).1, (tri8 (h 10 _ _ rfl)).2.1, (tri8 (h 10 _ _ rfl)).2.2⟩)
    have g0 : Below wc.drew.heap.size wc.drew wc.drew := Below.refl _ _
    have K1 := hide (fun (W : World) (hg : Below wc.drew.heap.size wc.drew W) => rdNeg_any bm am lm km M0 E0 W (HDm.out.below hg))
    have K3 := hide (fun (W : World) (hg : Below wc.drew.heap.size wc.drew W) => rdAbs_any bm am lm km M0 E0 W (HDm.out.below hg))
    have K7 := hide (fun (W : World) (hg : Below wc.drew.heap.size wc.drew W) => rdMul_any bm am lm km M0 E0 bn an ln kn M1 E1 W (HDm.out.below hg) (HDn.out.below hg) (by omega) (by omega) (by omega) (by omega) (by omega))
    generalize omz (sm M0 E0 M1 E1) = MP at *
    generalize oe (sm M0 E0 M1 E1) (min E0 E1) = EP at *
    generalize omz (sm M0 E0 (-M1) E1) = MQ at *
    generalize oe (sm M0 E0 (-M1) E1) (min E0 E1) = EQ at *
    generalize omz (M0 * M1) = MR at *
    generalize oe (M0 * M1) (E0 + E1) = ER at *
    have HCH := hide Ch
    have hbase : P8.heap.size ≤ wc.drew.heap.size := HBB.out.size
    have HLs := hide (And.intro hlu (And.intro hlv (And.intro hlp (And.intro hlq hlr))))
    have HOW := hide (fun (W : World) (hg : Below wc.drew.heap.size wc.drew W) => own_aparts P8.heap.size [.slice au lu ku, .slice av lv kv, .slice ap lp kp, .slice aq lq kq, .slice ar lr kr] [ru, rv, rp, rq, rr] W (HCH.out.below hg).aparts (by simp) (by have := HLs.out; simp; omega) (Nat.le_trans hbase hg.size))
    have HKA := hide (fun (W : World) (hg : Below P8.heap.size P8 W) => kept_ok (.slice aw mw nw) (.slice a0 z0.length n0) z0 W (HLaB.out.below hg) (HA0B.out.below hg) (by omega))
    have HKB := hide (fun (W : World) (hg : Below P8.heap.size P8 W) => kept_ok (.slice bw mv nv) (.slice a1 z1.length n1) z1 W (HLbB.out.below hg) (HA1B.out.below hg) (by omega))
    have HAW := hide (fun (W : World) (hg : Below P8.heap.size P8 W) => awake8_any W (HTB.out.below hg))
    clear Ch hLS HA HB HX HY Hm Hn Hu Hv Hp Hq Hr Hs Hd
    go_wp2_with fail
    dsimp only [List.append]
    go_region_held3 (fun w' => w'.cell? ⟨Q9.heap.size, 0, none⟩ = some (.bool bu) ∧ w'.cell? ⟨Q9.heap.size, 1, none⟩ = some (.slice au lu ku) ∧ w'.cell? ⟨Q9.heap.size, 2, none⟩ = some (.int .i64 eu) ∧ w'.cell? ⟨Q11.heap.size, 0, none⟩ = some (.bool bv) ∧ w'.cell? ⟨Q11.heap.size, 1, none⟩ = some (.slice av lv kv) ∧ w'.cell? ⟨Q11.heap.size, 2, none⟩ = some (.int .i64 ev) ∧ w'.cell? ⟨Q13.heap.size, 0, none⟩ = some (.bool bp) ∧ w'.cell? ⟨Q13.heap.size, 1, none⟩ = some (.slice ap lp kp) ∧ w'.cell? ⟨Q13.heap.size, 2, none⟩ = some (.int .i64 ep) ∧ w'.cell? ⟨Q15.heap.size, 0, none⟩ = some (.bool bq) ∧ w'.cell? ⟨Q15.heap.size, 1, none⟩ = some (.slice aq lq kq) ∧ w'.cell? ⟨Q15.heap.size, 2, none⟩ = some (.int .i64 eq) ∧ w'.cell? ⟨Q17.heap.size, 0, none⟩ = some (.bool br) ∧ w'.cell? ⟨Q17.heap.size, 1, none⟩ = some (.slice ar lr kr) ∧ w'.cell? ⟨Q17.heap.size, 2, none⟩ = some (.int .i64 er) ∧ w'.cell? ⟨Q5.heap.size, 0, none⟩ = some (.bool bm) ∧ w'.cell? ⟨Q5.heap.size, 1, none⟩ = some (.slice am lm km) ∧ w'.cell? ⟨Q5.heap.size, 2, none⟩ = some (.int .i64 E0) ∧ w'.cell? ⟨Q7.heap.size, 0, none⟩ = some (.bool bn) ∧ w'.cell? ⟨Q7.heap.size, 1, none⟩ = some (.slice an ln kn) ∧ w'.cell? ⟨Q7.heap.size, 2, none⟩ = some (.int .i64 E1) ∧ w'.cell? ⟨Q19.heap.size, 0, none⟩ = some (.bool bs) ∧ w'.cell? ⟨Q19.heap.size, 1, none⟩ = some (.slice as2 ls ks) ∧ w'.cell? ⟨Q19.heap.size, 2, none⟩ = some (.int .i64 es) ∧ w'.cell? ⟨gd, 0, none⟩ = some (.bool bd) ∧ w'.cell? ⟨gd, 1, none⟩ = some (.slice ad ld kd) ∧ w'.cell? ⟨gd, 2, none⟩ = some (.int .i64 ed) ∧ w'.cell? ⟨w.heap.size, 0, none⟩ = some (.bool b0) ∧ w'.cell? ⟨w.heap.size, 1, none⟩ = some (.slice a0 z0.length n0) ∧ w'.cell? ⟨w.heap.size, 2, none⟩ = some (.int .i64 p0) ∧ w'.cell? ⟨w.heap.size + 1, 0, none⟩ = some (.bool b1) ∧ w'.cell? ⟨w.heap.size + 1, 1, none⟩ = some (.slice a1 z1.length n1) ∧ w'.cell? ⟨w.heap.size + 1, 2, none⟩ = some (.int .i64 p1)) (first | with_reducible exact KS.out _ s10 | with_reducible exact KS.out _ s9 | with_reducible exact KS.out _ s8 | with_reducible exact KS.out _ s7 | with_reducible exact KS.out _ s6 | with_reducible exact KS.out _ s5 | with_reducible exact KS.out _ s4 | with_reducible exact KS.out _ s3 | with_reducible exact KS.out _ s2 | with_reducible exact KS.out _ s1 | with_reducible exact KS.out _ s0 | with_reducible exact KS.out _ (Bx.alloc s8 _)) (first
      | (go_at_call 14; refine (HAW.out t9 G9).mono ?_; rintro e' t10 ⟨rfl, hb10⟩; have s10 := s9.below hb10)
      | (go_at_call_of 18 bw; refine (HKB.out t9 G9).mono ?_; rintro e' wn ⟨rfl, hw⟩; rw [hw]; clear hw wn)
      | (go_at_call_of 18 aw; refine (HKA.out t9 G9).mono ?_; rintro e' wn ⟨rfl, hw⟩; rw [hw]; clear hw wn)
      | (go_at_call 17; refine (HOW.out t8 g8).mono ?_; rintro e' t9 ⟨rfl, hk9⟩; have s9 := s8.bk hk9 HPL.out; have G9 := (HBB.out.trans (g8.mono HBB.out.size)).trans hk9.below; clear s8)
      | (go_at_call_of 11 ar; refine (alike8_ok br ar lr kr er cr b27 a27 n27 k27 MR ER _ t7 (HDr.out.below g7) y7).mono ?_; rintro e' t8 ⟨rfl, hb8⟩; have g8 := bl_trans8 g7 hb8; have s8 := s7.below hb8; clear s7)
      | (go_at_call 16; refine (K7.out _ g6).mono ?_; rintro e' t7 ⟨⟨b27, a27, n27, k27, rfl, y7⟩, hb7⟩; have g7 := bl_trans8 g6 hb7; have s7 := s6.below hb7; clear s6)
      | (go_at_call_of 11 aq; refine (alike8_says bq aq lq kq eq cq bd ad ld kd ed fd MQ EQ _ t5 (HDq.out.below g5) (HSd.out.below g5)).mono ?_; rintro e' t6 ⟨rfl, hb6⟩; have g6 := bl_trans8 g5 hb6; have s6 := s5.below hb6; clear s5)
      | (go_at_call_of 11 ap; refine (alike8_says bp ap lp kp ep cp bs as2 ls ks es fs MP EP _ t4 (HDp.out.below g4) (HSs.out.below g4)).mono ?_; rintro e' t5 ⟨rfl, hb5⟩; have g5 := bl_trans8 g4 hb5; have s5 := s4.below hb5; clear s4)
      | (go_at_call_of 11 av; refine (alike8_ok bv av lv kv ev cv b23 a23 n23 k23 _ E0 _ t3 (HDv.out.below g3) y3).mono ?_; rintro e' t4 ⟨rfl, hb4⟩; have g4 := bl_trans8 g3 hb4; have s4 := s3.below hb4; clear s3)
      | (go_at_call 13; refine (K3.out _ g2).mono ?_; rintro e' t3 ⟨⟨b23, a23, n23, k23, rfl, y3⟩, hb3⟩; have g3 := bl_trans8 g2 hb3; have s3 := s2.below hb3; clear s2)
      | (go_at_call_of 11 au; refine (alike8_ok bu au lu ku eu cu b21 a21 n21 k21 (-M0) E0 _ t1 (HDu.out.below g1) y1).mono ?_; rintro e' t2 ⟨rfl, hb2⟩; have g2 := bl_trans8 g1 hb2; have s2 := s1.below hb2; clear s1)
      | (go_at_call 12; refine (K1.out _ g0).mono ?_; rintro e' t1 ⟨⟨b21, a21, n21, k21, rfl, y1⟩, hb1⟩; have g1 := bl_trans8 g0 hb1; have s1 := s0.below hb1; clear s0))
    have HFIN := hide (HWB.out.trans ((G9.trans (hb10.mono G9.size)).mono HWB.out.size))
    clear hb1 hb2 hb3 hb4 hb5 hb6 hb7 hb8 hb10 g0 g1 g2 g3 g4 g5 g6 g7 g8 hk9 G9
    go_wp2
    go_ret
    exact ⟨rfl, HFIN.out⟩

end Go.Proofs.YtegbjdjpeblkoaaGreatDoor
