/- The walk of the law WholeQuos: a divisor that is not 0. -/
import Derived.Test.YtfgcngndiblpmaaGreatDoorQ8
import Derived.Test.YtfgcngndiblpmaaGreatDoorLWholeSumsZ
import Derived.Test.YtfgcngndiblpmaaGreatDoorQ6
import Derived.Test.YtfgcngndiblpmaaGreatDoorQ4
namespace Go.Proofs.YtfgcngndiblpmaaGreatDoor
open Go.RowKit
open Lm
attribute [local go_sem ↓] Go.wp_at_zero Go.wp_at_succ

set_option maxRecDepth 20000 in
set_option maxHeartbeats 16000000 in
theorem wholeQuos_nz (b0 : Bool) (v0 : Value) (z0 : List Nat) (b1 : Bool) (v1 : Value) (z1 : List Nat) (w : World) (hT : Tab w) (A0 : Arg w v0 z0) (s0 : z0.length ≤ 17592186043904) (A1 : Arg w v1 z1) (s1 : z1.length ≤ 17592186043904) (hy0 : 0 < val z1) :
    Calls Tryz.prog 3 #[.agg #[.bool b0, v0], .agg #[.bool b1, v1]] w fun e w' => e = .returned (.bool true) ∧ Below w.heap.size w w' := by
  obtain ⟨a0, n0, rfl, _, _, _⟩ := A0.form
  obtain ⟨a1, n1, rfl, _, _, _⟩ := A1.form
  obtain ⟨w0, hw0, hb0, h0, h1⟩ := enter2 w (.cells #[.bool b0, .slice a0 z0.length n0] 24) (.cells #[.bool b1, .slice a1 z1.length n1] 24)
  have HA := hide h0
  have HBb := hide h1
  have HA0 := hide (A0.below hb0)
  have HA1 := hide (A1.below hb0)
  have HT := hide (hT.below hb0)
  have HW := hide hb0
  have hbl0 := blen_val_le z0 A0.limbs
  have hbl1 := blen_val_le z1 A1.limbs
  have HY0 := hide hy0
  clear A0 A1 hT hb0 h0 h1 hy0
  obtain ⟨ca0, cb0⟩ := duo HA.out
  go_enter Tryz.func3, Tryz.ntmps3
  have C1 := wlent_any b0 _ z0 w0 HA0.out (by omega)
  go_wp2_with fail
  refine C1.mono ?_
  rintro e w1 ⟨⟨aw, mw, nw, ax, mx, nx, rfl, hL, hP⟩, hb⟩
  clear ca0 cb0
  replace HA := hide (block_upW hb HA.out)
  replace HBb := hide (block_upW hb HBb.out)
  replace HA0 := hide (HA0.out.below hb)
  replace HA1 := hide (HA1.out.below hb)
  replace HT := hide (HT.out.below hb)
  replace HW := hid_below HW hb
  have HLa := hide hL
  have HPx := hide hP
  clear hb hL hP C1 hw0
  obtain ⟨u1, hu1, hbu1, hxu1⟩ := enter1 w1 (.cells #[.bool b0, .slice ax mx nx] 27)
  replace HA := hide (block_upW hbu1 HA.out)
  replace HBb := hide (block_upW hbu1 HBb.out)
  replace HA0 := hide (HA0.out.below hbu1)
  replace HA1 := hide (HA1.out.below hbu1)
  replace HT := hide (HT.out.below hbu1)
  replace HLa := hide (HLa.out.below hbu1)
  replace HPx := hide (HPx.out.below hbu1)
  replace HW := hid_below HW hbu1
  have HX := hide hxu1
  clear hbu1 hxu1
  obtain ⟨ca1, cb1⟩ := duo HBb.out
  have C2 := wlent_any b1 _ z1 u1 HA1.out (by omega)
  go_wp2_with fail
  refine C2.mono ?_
  rintro e w2 ⟨⟨bw, mv, nv, ay, my, ny, rfl, hL, hP⟩, hb⟩
  clear ca1 cb1
  replace HA := hide (block_upW hb HA.out)
  replace HBb := hide (block_upW hb HBb.out)
  replace HA0 := hide (HA0.out.below hb)
  replace HA1 := hide (HA1.out.below hb)
  replace HT := hide (HT.out.below hb)
  replace HLa := hide (HLa.out.below hb)
  replace HPx := hide (HPx.out.below hb)
  replace HX := hide (block_upW hb HX.out)
  replace HW := hid_below HW hb
  have HLb := hide hL
  have HPy := hide hP
  clear hb hL hP C2
  obtain ⟨u2, hu2, hbu2, hxu2⟩ := enter1 w2 (.cells #[.bool b1, .slice ay my ny] 27)
  replace HA := hide (block_upW hbu2 HA.out)
  replace HBb := hide (block_upW hbu2 HBb.out)
  replace HA0 := hide (HA0.out.below hbu2)
  replace HA1 := hide (HA1.out.below hbu2)
  replace HT := hide (HT.out.below hbu2)
  replace HLa := hide (HLa.out.below hbu2)
  replace HPx := hide (HPx.out.below hbu2)
  replace HX := hide (block_upW hbu2 HX.out)
  replace HLb := hide (HLb.out.below hbu2)
  replace HPy := hide (HPy.out.below hbu2)
  replace HW := hid_below HW hbu2
  have HY := hide hxu2
  clear hbu2 hxu2
  clear hu1
  generalize hzA : zz b0 (val z0) = zA at *
  generalize hzB : zz b1 (val z1) = zB at *
  have hbA : blen zA.natAbs ≤ 1125899906809856 := by rw [← hzA, zz_abs]; omega
  have hbB : blen zB.natAbs ≤ 1125899906809856 := by rw [← hzB, zz_abs]; omega
  have hzB0 : zB ≠ 0 := by
    rw [← hzB]
    intro h
    have := zz_eq_zero.1 h
    have := HY0.out
    omega
  have HQ1 := hide (show quq zA zB = zz (b0 != b1) (val z0 / val z1 + if false && decide (0 < val z0 % val z1) then 1 else 0) by rw [← hzA, ← hzB, quq_zz b0 b1 _ _ HY0.out]; simp)
  have HQ2 := hide (show flq zA zB = zz (b0 != b1) (val z0 / val z1 + if (b0 != b1) && decide (0 < val z0 % val z1) then 1 else 0) by rw [← hzA, ← hzB]; exact flq_zz b0 b1 _ _ HY0.out)
  have HQ3 := hide (show ceq zA zB = zz (b0 != b1) (val z0 / val z1 + if (!(b0 != b1)) && decide (0 < val z0 % val z1) then 1 else 0) by rw [← hzA, ← hzB]; exact ceq_zz b0 b1 _ _ HY0.out)
  have HQ4 := hide (show neq zA zB = zz (b0 != b1) (val z0 / val z1 + if nearB (val z0 / val z1) (val z0 % val z1) (val z1 - val z0 % val z1) && decide (0 < val z0 % val z1) then 1 else 0) by rw [← hzA, ← hzB]; exact neq_zz b0 b1 _ _ HY0.out)
  have HQ5 := hide (show euq zA zB = zz (b0 != b1) (val z0 / val z1 + if b0 && decide (0 < val z0 % val z1) then 1 else 0) by rw [← hzA, ← hzB]; exact euq_zz b0 b1 _ _ HY0.out)
  have HR1 := hide (quo_both b0 b1 _ _ _ HY0.out _ HQ1.out)
  have HR2 := hide (quo_both b0 b1 _ _ _ HY0.out _ HQ2.out)
  have HR3 := hide (quo_both b0 b1 _ _ _ HY0.out _ HQ3.out)
  have HR4 := hide (quo_both b0 b1 _ _ _ HY0.out _ HQ4.out)
  have HR5 := hide (quo_both b0 b1 _ _ _ HY0.out _ HQ5.out)
  rw [hzA, hzB] at HR1 HR2 HR3 HR4 HR5
  have OF0 := hide (fun (W : World) (hg : Below u2.heap.size u2 W) => show Calls Tryz.prog 9 #[.agg #[.bool b0, .slice a0 z0.length n0]] W (ZnDone W zA) by
      have h := wlawOf_any b0 _ z0 W (HA0.out.below hg) (by omega)
      rw [hzA] at h
      exact h)
  have OF1 := hide (fun (W : World) (hg : Below u2.heap.size u2 W) => show Calls Tryz.prog 9 #[.agg #[.bool b1, .slice a1 z1.length n1]] W (ZnDone W zB) by
      have h := wlawOf_any b1 _ z1 W (HA1.out.below hg) (by omega)
      rw [hzB] at h
      exact h)
  have HZB0 := hide hzB0
  have HBA := hide hbA
  have HBB := hide hbB
  clear hzA hzB hzB0 hbA hbB
  obtain ⟨da0, da1⟩ := duo HA.out
  obtain ⟨db0, db1⟩ := duo HBb.out
  go_upto_region 3 with fail
  go_cut [9, 10] from 38 to 42 (fun s t wx => TwoBox u2 zA zB s t wx)
  case first =>
    have hlt5 : w.heap.size + 1 < u2.heap.size := lt_of_block HBb.out
    go_region_held3 (fun w' => w'.cell? ⟨w.heap.size, 0, none⟩ = some (.bool b0) ∧ w'.cell? ⟨w.heap.size, 1, none⟩ = some (.slice a0 z0.length n0) ∧ w'.cell? ⟨w.heap.size + 1, 0, none⟩ = some (.bool b1) ∧ w'.cell? ⟨w.heap.size + 1, 1, none⟩ = some (.slice a1 z1.length n1)) (first | (refine ⟨?_, ?_, ?_, ?_⟩ <;> (repeat' (first | with_reducible assumption | with_reducible apply cell_keep | with_reducible apply cell_drew6 | with_reducible apply cell_set_keep | omega))) | go_keep) (first
      | (go_at_call_of 9 a0; refine (OF0.out _ (by repeat (first | with_reducible exact Below.refl _ _ | with_reducible apply bl_alloc | with_reducible apply bl_drew))).mono ?_; rintro e' tm ⟨⟨bm, am, nm, km, rfl, ym⟩, hbm⟩; have gm : Below u2.heap.size u2 tm := bl_trans (by repeat (first | with_reducible exact Below.refl _ _ | with_reducible apply bl_alloc | with_reducible apply bl_drew)) hbm; have xa0 := cell_up6 hbm (by repeat (first | with_reducible exact da0 | with_reducible apply cell_keep | with_reducible apply cell_drew6)); have xa1 := cell_up6 hbm (by repeat (first | with_reducible exact da1 | with_reducible apply cell_keep | with_reducible apply cell_drew6)); have xb0 := cell_up6 hbm (by repeat (first | with_reducible exact db0 | with_reducible apply cell_keep | with_reducible apply cell_drew6)); have xb1 := cell_up6 hbm (by repeat (first | with_reducible exact db1 | with_reducible apply cell_keep | with_reducible apply cell_drew6)); have hltm := lt_of_cell xb0; (first | (with_reducible have hpB := made2d hbm; with_reducible have hpA := made21d hbm) | (with_reducible have hpA := made1d hbm) | skip))
      | (go_at_call_of 9 a1; refine (OF1.out _ (by repeat (first | with_reducible exact gm | with_reducible apply bl_alloc))).mono ?_; rintro e' tn ⟨⟨bn, an, nn, kn, rfl, yn⟩, hbn⟩; have ya0 := cell_up6 hbn (by repeat (first | with_reducible exact xa0 | with_reducible apply cell_keep)); have ya1 := cell_up6 hbn (by repeat (first | with_reducible exact xa1 | with_reducible apply cell_keep)); have yb0 := cell_up6 hbn (by repeat (first | with_reducible exact xb0 | with_reducible apply cell_keep)); have yb1 := cell_up6 hbn (by repeat (first | with_reducible exact xb1 | with_reducible apply cell_keep)); have hltn := lt_of_cell yb0; have gtm : Below tm.heap.size tm tn := bl_trans (by repeat (first | with_reducible exact Below.refl _ _ | with_reducible apply bl_alloc)) hbn; have ym2 := ym.below gtm; have gn := bl_trans gm gtm; (first | (with_reducible have hqD := made2 hbn; with_reducible have hqC := made21 hbn; obtain ⟨zC0, zC1⟩ := duo hqC; have zCf := duof hqC; have zCc := fun (o : Obj) => cell_keep zC0 o; have zCd := fun (o : Obj) => cell_keep zC1 o; have zCg := fun (o : Obj) => frozen_alloc hqC o; have hlC := lt_of_block hqC; obtain ⟨zD0, zD1⟩ := duo hqD; have zDf := duof hqD; have zDc := fun (o : Obj) => cell_keep zD0 o; have zDd := fun (o : Obj) => cell_keep zD1 o; have zDg := fun (o : Obj) => frozen_alloc hqD o; have hlD := lt_of_block hqD; have sDC := fun (W : World) (k : Nat) (u : Value) (k' : Nat) => cell_otherW (w := W) (g := tm.heap.size + 1) (k := k) (g' := tm.heap.size) (k' := k') (u := u) (Nat.ne_of_gt (Nat.lt_succ_self _)); have sCD := fun (W : World) (k : Nat) (u : Value) (k' : Nat) => cell_otherW (w := W) (g := tm.heap.size) (k := k) (g' := tm.heap.size + 1) (k' := k') (u := u) (Nat.ne_of_lt (Nat.lt_succ_self _))) | (with_reducible have hqC := made1 hbn; obtain ⟨zC0, zC1⟩ := duo hqC; have zCf := duof hqC; have zCc := fun (o : Obj) => cell_keep zC0 o; have zCd := fun (o : Obj) => cell_keep zC1 o; have zCg := fun (o : Obj) => frozen_alloc hqC o; have hlC := lt_of_block hqC; have sCn := fun (W : World) (k : Nat) (u : Value) (k' : Nat) => cell_otherW (w := W) (g := tm.heap.size) (k := k) (g' := tn.heap.size) (k' := k') (u := u) (Nat.ne_of_lt hlC)) | skip); (first | (with_reducible have hqA := up0 hbn hpA; obtain ⟨zA0, zA1⟩ := duo hqA; have zAf := duof hqA; have zAc := fun (o : Obj) => cell_keep zA0 o; have zAd := fun (o : Obj) => cell_keep zA1 o; have zAg := fun (o : Obj) => frozen_alloc hqA o; have hlA := lt_of_block hqA; have sAn := fun (W : World) (k : Nat) (u : Value) (k' : Nat) => cell_otherW (w := W) (g := u2.heap.size) (k := k) (g' := tn.heap.size) (k' := k') (u := u) (Nat.ne_of_lt hlA); have sAC := fun (W : World) (k : Nat) (u : Value) (k' : Nat) => cell_otherW (w := W) (g := u2.heap.size) (k := k) (g' := tm.heap.size) (k' := k') (u := u) (Nat.ne_of_lt (lt_of_block hpA)); have sBA := fun (W : World) (k : Nat) (u : Value) (k' : Nat) => cell_otherW (w := W) (g := u2.heap.size + 1) (k := k) (g' := u2.heap.size) (k' := k') (u := u) (Nat.ne_of_gt (Nat.lt_succ_self _)); have sCA := fun (W : World) (k : Nat) (u : Value) (k' : Nat) => cell_otherW (w := W) (g := tm.heap.size) (k := k) (g' := u2.heap.size) (k' := k') (u := u) (Nat.ne_of_gt (lt_of_block hpA)); have sAB := fun (W : World) (k : Nat) (u : Value) (k' : Nat) => cell_otherW (w := W) (g := u2.heap.size) (k := k) (g' := u2.heap.size + 1) (k' := k') (u := u) (Nat.ne_of_lt (Nat.lt_succ_self _))) | (with_reducible have hqA := up1 hbn hpA; obtain ⟨zA0, zA1⟩ := duo hqA; have zAf := duof hqA; have zAc := fun (o : Obj) => cell_keep zA0 o; have zAd := fun (o : Obj) => cell_keep zA1 o; have zAg := fun (o : Obj) => frozen_alloc hqA o; have hlA := lt_of_block hqA; have sAn := fun (W : World) (k : Nat) (u : Value) (k' : Nat) => cell_otherW (w := W) (g := u2.heap.size) (k := k) (g' := tn.heap.size) (k' := k') (u := u) (Nat.ne_of_lt hlA); have sAC := fun (W : World) (k : Nat) (u : Value) (k' : Nat) => cell_otherW (w := W) (g := u2.heap.size) (k := k) (g' := tm.heap.size) (k' := k') (u := u) (Nat.ne_of_lt (lt_of_block hpA)); have sBA := fun (W : World) (k : Nat) (u : Value) (k' : Nat) => cell_otherW (w := W) (g := u2.heap.size + 1) (k := k) (g' := u2.heap.size) (k' := k') (u := u) (Nat.ne_of_gt (Nat.lt_succ_self _)); have sCA := fun (W : World) (k : Nat) (u : Value) (k' : Nat) => cell_otherW (w := W) (g := tm.heap.size) (k := k) (g' := u2.heap.size) (k' := k') (u := u) (Nat.ne_of_gt (lt_of_block hpA)); have sAB := fun (W : World) (k : Nat) (u : Value) (k' : Nat) => cell_otherW (w := W) (g := u2.heap.size) (k := k) (g' := u2.heap.size + 1) (k' := k') (u := u) (Nat.ne_of_lt (Nat.lt_succ_self _))) | skip); (first | (with_reducible have hqB := up0 hbn hpB; obtain ⟨zB0, zB1⟩ := duo hqB; have zBf := duof hqB; have zBc := fun (o : Obj) => cell_keep zB0 o; have zBd := fun (o : Obj) => cell_keep zB1 o; have zBg := fun (o : Obj) => frozen_alloc hqB o; have hlB := lt_of_block hqB) | skip)))
    all_goals (go_wp2_with fail; go_meet; first
      | with_reducible exact two_aa ym2 yn gn
      | with_reducible exact two_aa2 ym2 yn gn
      | with_reducible exact two_sa hqC ym2 yn gn gm.size
      | with_reducible exact two_sa hqA ym2 yn gn (Nat.le_refl _)
      | with_reducible exact two_sa2 hqC ym2 yn gn gm.size
      | with_reducible exact two_sa2 hqA ym2 yn gn (Nat.le_refl _)
      | with_reducible exact two_ss hqC hqD ym2 yn gn gm.size (Nat.le_succ_of_le gm.size) (Nat.ne_of_lt (Nat.lt_succ_self _))
      | with_reducible exact two_ss hqD hqC ym2 yn gn (Nat.le_succ_of_le gm.size) gm.size (Nat.ne_of_gt (Nat.lt_succ_self _))
      | with_reducible exact two_ss hqA hqC ym2 yn gn (Nat.le_refl _) gm.size (Nat.ne_of_lt (lt_of_block hpA))
      | with_reducible exact two_ss hqC hqA ym2 yn gn gm.size (Nat.le_refl _) (Nat.ne_of_gt (lt_of_block hpA))
      | with_reducible exact two_ss hqA hqB ym2 yn gn (Nat.le_refl _) (Nat.le_succ _) (Nat.ne_of_lt (Nat.lt_succ_self _))
      | with_reducible exact two_ss hqB hqA ym2 yn gn (Nat.le_succ _) (Nat.le_refl _) (Nat.ne_of_gt (Nat.lt_succ_self _)))
  case rest =>
    obtain ⟨gm1, gn1, bm, am, nm, km, bn, an, nn, kn, rfl, rfl, hG, hH, ym, yn, hbx⟩ := hcut
    replace HA := hide (block_upW hbx HA.out)
    replace HBb := hide (block_upW hbx HBb.out)
    replace HA0 := hide (HA0.out.below hbx)
    replace HA1 := hide (HA1.out.below hbx)
    replace HT := hide (HT.out.below hbx)
    replace HLa := hide (HLa.out.below hbx)
    replace HPx := hide (HPx.out.below hbx)
    replace HX := hide (block_upW hbx HX.out)
    replace HLb := hide (HLb.out.below hbx)
    replace HPy := hide (HPy.out.below hbx)
    replace HY := hide (block_upW hbx HY.out)
    replace HW := hid_below HW hbx
    have HM := hide hG
    have HN := hide hH
    have HZm := hide ym
    have HZn := hide yn
    clear hG hH ym yn hbx OF0 OF1 da0 da1 db0 db1 hu2
    have hltM : gm1 < wc.heap.size := lt_of_block HM.out
    have hltN : gn1 < wc.heap.size := lt_of_block HN.out
    have hltX : w1.heap.size < wc.heap.size := lt_of_block HX.out
    have hltY : w2.heap.size < wc.heap.size := lt_of_block HY.out
    obtain ⟨cn0, cn1⟩ := duo HN.out
    have SG := rzsign_any _ zB wc HZn.out
    obtain ⟨rs, hrs, hrs0⟩ : ∃ rs : Int, zB.sign = rs ∧ (rs == 0) = false := ⟨_, rfl, by
      rw [beq_eq_false_iff_ne]
      exact fun h => HZB0.out (Int.sign_eq_zero_iff_zero.1 h)⟩
    rw [hrs] at SG
    clear hrs
    go_wp2_with fail
    refine SG.mono ?_
    rintro e x0 ⟨rfl, gs0⟩
    obtain ⟨y0, hyz, hby0, hZ0⟩ := enter1 x0 (.cells #[.bool false, .slice none 0 0, .bool false, .slice none 0 0, .bool false, .slice none 0 0, .bool false, .slice none 0 0, .bool false, .slice none 0 0, .bool false, .slice none 0 0, .bool false, .slice none 0 0, .bool false, .slice none 0 0, .bool false, .slice none 0 0, .bool false, .slice none 0 0] 35)
    have hlg : wc.heap.size ≤ x0.heap.size := gs0.size
    have HG := hide (bl_trans gs0 hby0)
    have HZB := hide (show ZB y0 x0.heap.size #[.bool false, .slice none 0 0, .bool false, .slice none 0 0, .bool false, .slice none 0 0, .bool false, .slice none 0 0, .bool false, .slice none 0 0, .bool false, .slice none 0 0, .bool false, .slice none 0 0, .bool false, .slice none 0 0, .bool false, .slice none 0 0, .bool false, .slice none 0 0] from ⟨hZ0, noInt_ten⟩)
    have sM : ∀ (W : World) (k : Nat) (u : Value) (k' : Nat), (W.setCell ⟨x0.heap.size, k, none⟩ u).cell? ⟨gm1, k', none⟩ = W.cell? ⟨gm1, k', none⟩ := fun W k u k' => cell_otherW (by omega)
    have sN : ∀ (W : World) (k : Nat) (u : Value) (k' : Nat), (W.setCell ⟨x0.heap.size, k, none⟩ u).cell? ⟨gn1, k', none⟩ = W.cell? ⟨gn1, k', none⟩ := fun W k u k' => cell_otherW (by omega)
    have sX : ∀ (W : World) (k : Nat) (u : Value) (k' : Nat), (W.setCell ⟨x0.heap.size, k, none⟩ u).cell? ⟨w1.heap.size, k', none⟩ = W.cell? ⟨w1.heap.size, k', none⟩ := fun W k u k' => cell_otherW (by omega)
    have sY : ∀ (W : World) (k : Nat) (u : Value) (k' : Nat), (W.setCell ⟨x0.heap.size, k, none⟩ u).cell? ⟨w2.heap.size, k', none⟩ = W.cell? ⟨w2.heap.size, k', none⟩ := fun W k u k' => cell_otherW (by omega)
    clear SG cn0 cn1 gs0 hby0 hZ0
    obtain ⟨cm0, cm1⟩ := duo (block_upW HG.out HM.out)
    obtain ⟨cn0, cn1⟩ := duo (block_upW HG.out HN.out)
    go_wp2_with fail
    clear cm0 cm1 cn0 cn1
    have K := rzquo_any (.agg #[.bool bm, .slice am nm km]) (.agg #[.bool bn, .slice an nn kn]) zA zB y0 (HZm.out.below HG.out) (HZn.out.below HG.out) HZB0.out HBA.out HBB.out
    refine K.mono ?_
    rintro e V1 ⟨⟨bq1, aq1, nq1, kq1, br1, ar1, nr1, kr1, rfl, yq, yr⟩, hv⟩
    have hg1 := bl_trans HG.out hv
    have hzb := HZB.out.below hv
    have hfz := hzb.frozen
    have cz0 : V1.cell? ⟨x0.heap.size, 0, none⟩ = some (.bool false) := hzb.cell 0
    have cz1 : V1.cell? ⟨x0.heap.size, 1, none⟩ = some (.slice none 0 0) := hzb.cell 1
    have cz2 : V1.cell? ⟨x0.heap.size, 2, none⟩ = some (.bool false) := hzb.cell 2
    have cz3 : V1.cell? ⟨x0.heap.size, 3, none⟩ = some (.slice none 0 0) := hzb.cell 3
    obtain ⟨cm0, cm1⟩ := duo (block_upW hg1 HM.out)
    obtain ⟨cn0, cn1⟩ := duo (block_upW hg1 HN.out)
    have F := hzb.four 0 1 2 3 bq1 aq1 nq1 kq1 br1 ar1 nr1 kr1
    have HF := hide F
    have HE := hide (And.intro (F.2.2 _ _ hg1 hlg) (And.intro F.1 (And.intro (F.2.1 _ _ yq) (And.intro (F.2.1 _ _ yr) trivial))))
    clear F HF K hv hzb yq yr HG HZB   hg1
    go_wp2_with fail
    clear hfz cz0 cz1 cz2 cz3 cm0 cm1 cn0 cn1
    generalize (((V1.setCell ⟨x0.heap.size, 0, none⟩ (.bool bq1)).setCell ⟨x0.heap.size, 1, none⟩ (.slice aq1 nq1 kq1)).setCell ⟨x0.heap.size, 2, none⟩ (.bool br1)).setCell ⟨x0.heap.size, 3, none⟩ (.slice ar1 nr1 kr1) = y1 at HE ⊢
    obtain ⟨e1, e2, e3, e4, _⟩ := HE.out
    have HG := hide e1
    have HZB := hide (show ZB y1 x0.heap.size #[.bool bq1, .slice aq1 nq1 kq1, .bool br1, .slice ar1 nr1 kr1, .bool false, .slice none 0 0, .bool false, .slice none 0 0, .bool false, .slice none 0 0, .bool false, .slice none 0 0, .bool false, .slice none 0 0, .bool false, .slice none 0 0, .bool false, .slice none 0 0, .bool false, .slice none 0 0] from e2)
    have HZ1q := hide e3
    have HZ1r := hide e4
    clear HE e1 e2 e3 e4
    have K := rzfloor_any (.agg #[.bool bm, .slice am nm km]) (.agg #[.bool bn, .slice an nn kn]) zA zB y1 (HZm.out.below HG.out) (HZn.out.below HG.out) HZB0.out HBA.out HBB.out
    refine K.mono ?_
    rintro e V2 ⟨⟨bq2, aq2, nq2, kq2, br2, ar2, nr2, kr2, rfl, yq, yr⟩, hv⟩
    have hg2 := bl_trans HG.out hv
    have hzb := HZB.out.below hv
    have hfz := hzb.frozen
    have cz0 : V2.cell? ⟨x0.heap.size, 4, none⟩ = some (.bool false) := hzb.cell 4
    have cz1 : V2.cell? ⟨x0.heap.size, 5, none⟩ = some (.slice none 0 0) := hzb.cell 5
    have cz2 : V2.cell? ⟨x0.heap.size, 6, none⟩ = some (.bool false) := hzb.cell 6
    have cz3 : V2.cell? ⟨x0.heap.size, 7, none⟩ = some (.slice none 0 0) := hzb.cell 7
    obtain ⟨cm0, cm1⟩ := duo (block_upW hg2 HM.out)
    obtain ⟨cn0, cn1⟩ := duo (block_upW hg2 HN.out)
    have F := hzb.four 4 5 6 7 bq2 aq2 nq2 kq2 br2 ar2 nr2 kr2
    have HF := hide F
    have tHZ1q := HZ1q.out.below hv
    have tHZ1r := HZ1r.out.below hv
    have HE := hide (And.intro (F.2.2 _ _ hg2 hlg) (And.intro F.1 (And.intro (F.2.1 _ _ yq) (And.intro (F.2.1 _ _ yr) (And.intro (F.2.1 _ _ tHZ1q) (And.intro (F.2.1 _ _ tHZ1r) trivial))))))
    clear F HF K hv hzb yq yr HG HZB HZ1q HZ1r tHZ1q tHZ1r hg2
    go_wp2_with fail
    clear hfz cz0 cz1 cz2 cz3 cm0 cm1 cn0 cn1
    generalize (((V2.setCell ⟨x0.heap.size, 4, none⟩ (.bool bq2)).setCell ⟨x0.heap.size, 5, none⟩ (.slice aq2 nq2 kq2)).setCell ⟨x0.heap.size, 6, none⟩ (.bool br2)).setCell ⟨x0.heap.size, 7, none⟩ (.slice ar2 nr2 kr2) = y2 at HE ⊢
    obtain ⟨e1, e2, e3, e4, e5, e6, _⟩ := HE.out
    have HG := hide e1
    have HZB := hide (show ZB y2 x0.heap.size #[.bool bq1, .slice aq1 nq1 kq1, .bool br1, .slice ar1 nr1 kr1, .bool bq2, .slice aq2 nq2 kq2, .bool br2, .slice ar2 nr2 kr2, .bool false, .slice none 0 0, .bool false, .slice none 0 0, .bool false, .slice none 0 0, .bool false, .slice none 0 0, .bool false, .slice none 0 0, .bool false, .slice none 0 0] from e2)
    have HZ2q := hide e3
    have HZ2r := hide e4
    have HZ1q := hide e5
    have HZ1r := hide e6
    clear HE e1 e2 e3 e4 e5 e6
    have K := rzceil_any (.agg #[.bool bm, .slice am nm km]) (.agg #[.bool bn, .slice an nn kn]) zA zB y2 (HZm.out.below HG.out) (HZn.out.below HG.out) HZB0.out HBA.out HBB.out
    refine K.mono ?_
    rintro e V3 ⟨⟨bq3, aq3, nq3, kq3, br3, ar3, nr3, kr3, rfl, yq, yr⟩, hv⟩
    have hg3 := bl_trans HG.out hv
    have hzb := HZB.out.below hv
    have hfz := hzb.frozen
    have cz0 : V3.cell? ⟨x0.heap.size, 8, none⟩ = some (.bool false) := hzb.cell 8
    have cz1 : V3.cell? ⟨x0.heap.size, 9, none⟩ = some (.slice none 0 0) := hzb.cell 9
    have cz2 : V3.cell? ⟨x0.heap.size, 10, none⟩ = some (.bool false) := hzb.cell 10
    have cz3 : V3.cell? ⟨x0.heap.size, 11, none⟩ = some (.slice none 0 0) := hzb.cell 11
    obtain ⟨cm0, cm1⟩ := duo (block_upW hg3 HM.out)
    obtain ⟨cn0, cn1⟩ := duo (block_upW hg3 HN.out)
    have F := hzb.four 8 9 10 11 bq3 aq3 nq3 kq3 br3 ar3 nr3 kr3
    have HF := hide F
    have tHZ1q := HZ1q.out.below hv
    have tHZ1r := HZ1r.out.below hv
    have tHZ2q := HZ2q.out.below hv
    have tHZ2r := HZ2r.out.below hv
    have HE := hide (And.intro (F.2.2 _ _ hg3 hlg) (And.intro F.1 (And.intro (F.2.1 _ _ yq) (And.intro (F.2.1 _ _ yr) (And.intro (F.2.1 _ _ tHZ1q) (And.intro (F.2.1 _ _ tHZ1r) (And.intro (F.2.1 _ _ tHZ2q) (And.intro (F.2.1 _ _ tHZ2r) trivial))))))))
    clear F HF K hv hzb yq yr HG HZB HZ1q HZ1r HZ2q HZ2r tHZ1q tHZ1r tHZ2q tHZ2r hg3
    go_wp2_with fail
    clear hfz cz0 cz1 cz2 cz3 cm0 cm1 cn0 cn1
    generalize (((V3.setCell ⟨x0.heap.size, 8, none⟩ (.bool bq3)).setCell ⟨x0.heap.size, 9, none⟩ (.slice aq3 nq3 kq3)).setCell ⟨x0.heap.size, 10, none⟩ (.bool br3)).setCell ⟨x0.heap.size, 11, none⟩ (.slice ar3 nr3 kr3) = y3 at HE ⊢
    obtain ⟨e1, e2, e3, e4, e5, e6, e7, e8, _⟩ := HE.out
    have HG := hide e1
    have HZB := hide (show ZB y3 x0.heap.size #[.bool bq1, .slice aq1 nq1 kq1, .bool br1, .slice ar1 nr1 kr1, .bool bq2, .slice aq2 nq2 kq2, .bool br2, .slice ar2 nr2 kr2, .bool bq3, .slice aq3 nq3 kq3, .bool br3, .slice ar3 nr3 kr3, .bool false, .slice none 0 0, .bool false, .slice none 0 0, .bool false, .slice none 0 0, .bool false, .slice none 0 0] from e2)
    have HZ3q := hide e3
    have HZ3r := hide e4
    have HZ1q := hide e5
    have HZ1r := hide e6
    have HZ2q := hide e7
    have HZ2r := hide e8
    clear HE e1 e2 e3 e4 e5 e6 e7 e8
    have K := rznear_any (.agg #[.bool bm, .slice am nm km]) (.agg #[.bool bn, .slice an nn kn]) zA zB y3 (HZm.out.below HG.out) (HZn.out.below HG.out) HZB0.out HBA.out HBB.out
    refine K.mono ?_
    rintro e V4 ⟨⟨bq4, aq4, nq4, kq4, br4, ar4, nr4, kr4, rfl, yq, yr⟩, hv⟩
    have hg4 := bl_trans HG.out hv
    have hzb := HZB.out.below hv
    have hfz := hzb.frozen
    have cz0 : V4.cell? ⟨x0.heap.size, 12, none⟩ = some (.bool false) := hzb.cell 12
    have cz1 : V4.cell? ⟨x0.heap.size, 13, none⟩ = some (.slice none 0 0) := hzb.cell 13
    have cz2 : V4.cell? ⟨x0.heap.size, 14, none⟩ = some (.bool false) := hzb.cell 14
    have cz3 : V4.cell? ⟨x0.heap.size, 15, none⟩ = some (.slice none 0 0) := hzb.cell 15
    obtain ⟨cm0, cm1⟩ := duo (block_upW hg4 HM.out)
    obtain ⟨cn0, cn1⟩ := duo (block_upW hg4 HN.out)
    have F := hzb.four 12 13 14 15 bq4 aq4 nq4 kq4 br4 ar4 nr4 kr4
    have HF := hide F
    have tHZ1q := HZ1q.out.below hv
    have tHZ1r := HZ1r.out.below hv
    have tHZ2q := HZ2q.out.below hv
    have tHZ2r := HZ2r.out.below hv
    have tHZ3q := HZ3q.out.below hv
    have tHZ3r := HZ3r.out.below hv
    have HE := hide (And.intro (F.2.2 _ _ hg4 hlg) (And.intro F.1 (And.intro (F.2.1 _ _ yq) (And.intro (F.2.1 _ _ yr) (And.intro (F.2.1 _ _ tHZ1q) (And.intro (F.2.1 _ _ tHZ1r) (And.intro (F.2.1 _ _ tHZ2q) (And.intro (F.2.1 _ _ tHZ2r) (And.intro (F.2.1 _ _ tHZ3q) (And.intro (F.2.1 _ _ tHZ3r) trivial))))))))))
    clear F HF K hv hzb yq yr HG HZB HZ1q HZ1r HZ2q HZ2r HZ3q HZ3r tHZ1q tHZ1r tHZ2q tHZ2r tHZ3q tHZ3r hg4
    go_wp2_with fail
    clear hfz cz0 cz1 cz2 cz3 cm0 cm1 cn0 cn1
    generalize (((V4.setCell ⟨x0.heap.size, 12, none⟩ (.bool bq4)).setCell ⟨x0.heap.size, 13, none⟩ (.slice aq4 nq4 kq4)).setCell ⟨x0.heap.size, 14, none⟩ (.bool br4)).setCell ⟨x0.heap.size, 15, none⟩ (.slice ar4 nr4 kr4) = y4 at HE ⊢
    obtain ⟨e1, e2, e3, e4, e5, e6, e7, e8, e9, e10, _⟩ := HE.out
    have HG := hide e1
    have HZB := hide (show ZB y4 x0.heap.size #[.bool bq1, .slice aq1 nq1 kq1, .bool br1, .slice ar1 nr1 kr1, .bool bq2, .slice aq2 nq2 kq2, .bool br2, .slice ar2 nr2 kr2, .bool bq3, .slice aq3 nq3 kq3, .bool br3, .slice ar3 nr3 kr3, .bool bq4, .slice aq4 nq4 kq4, .bool br4, .slice ar4 nr4 kr4, .bool false, .slice none 0 0, .bool false, .slice none 0 0] from e2)
    have HZ4q := hide e3
    have HZ4r := hide e4
    have HZ1q := hide e5
    have HZ1r := hide e6
    have HZ2q := hide e7
    have HZ2r := hide e8
    have HZ3q := hide e9
    have HZ3r := hide e10
    clear HE e1 e2 e3 e4 e5 e6 e7 e8 e9 e10
    have K := rzeuclid_any (.agg #[.bool bm, .slice am nm km]) (.agg #[.bool bn, .slice an nn kn]) zA zB y4 (HZm.out.below HG.out) (HZn.out.below HG.out) HZB0.out HBA.out HBB.out
    refine K.mono ?_
    rintro e V5 ⟨⟨bq5, aq5, nq5, kq5, br5, ar5, nr5, kr5, rfl, yq, yr⟩, hv⟩
    have hg5 := bl_trans HG.out hv
    have hzb := HZB.out.below hv
    have hfz := hzb.frozen
    have cz0 : V5.cell? ⟨x0.heap.size, 16, none⟩ = some (.bool false) := hzb.cell 16
    have cz1 : V5.cell? ⟨x0.heap.size, 17, none⟩ = some (.slice none 0 0) := hzb.cell 17
    have cz2 : V5.cell? ⟨x0.heap.size, 18, none⟩ = some (.bool false) := hzb.cell 18
    have cz3 : V5.cell? ⟨x0.heap.size, 19, none⟩ = some (.slice none 0 0) := hzb.cell 19
    obtain ⟨cm0, cm1⟩ := duo (block_upW hg5 HM.out)
    obtain ⟨cn0, cn1⟩ := duo (block_upW hg5 HN.out)
    obtain ⟨cx0, cx1⟩ := duo (block_upW hg5 HX.out)
    obtain ⟨cy0, cy1⟩ := duo (block_upW hg5 HY.out)
    have F := hzb.four 16 17 18 19 bq5 aq5 nq5 kq5 br5 ar5 nr5 kr5
    have HF := hide F
    have tHZ1q := HZ1q.out.below hv
    have tHZ1r := HZ1r.out.below hv
    have tHZ2q := HZ2q.out.below hv
    have tHZ2r := HZ2r.out.below hv
    have tHZ3q := HZ3q.out.below hv
    have tHZ3r := HZ3r.out.below hv
    have tHZ4q := HZ4q.out.below hv
    have tHZ4r := HZ4r.out.below hv
    have HE := hide (And.intro (F.2.2 _ _ hg5 hlg) (And.intro F.1 (And.intro (F.2.1 _ _ yq) (And.intro (F.2.1 _ _ yr) (And.intro (F.2.1 _ _ tHZ1q) (And.intro (F.2.1 _ _ tHZ1r) (And.intro (F.2.1 _ _ tHZ2q) (And.intro (F.2.1 _ _ tHZ2r) (And.intro (F.2.1 _ _ tHZ3q) (And.intro (F.2.1 _ _ tHZ3r) (And.intro (F.2.1 _ _ tHZ4q) (And.intro (F.2.1 _ _ tHZ4r) trivial))))))))))))
    clear F HF K hv hzb yq yr HG HZB HZ1q HZ1r HZ2q HZ2r HZ3q HZ3r HZ4q HZ4r tHZ1q tHZ1r tHZ2q tHZ2r tHZ3q tHZ3r tHZ4q tHZ4r hg5
    go_wp2_with fail
    clear hfz cz0 cz1 cz2 cz3 cm0 cm1 cn0 cn1 cx0 cx1 cy0 cy1
    generalize (((V5.setCell ⟨x0.heap.size, 16, none⟩ (.bool bq5)).setCell ⟨x0.heap.size, 17, none⟩ (.slice aq5 nq5 kq5)).setCell ⟨x0.heap.size, 18, none⟩ (.bool br5)).setCell ⟨x0.heap.size, 19, none⟩ (.slice ar5 nr5 kr5) = y5 at HE ⊢
    obtain ⟨e1, e2, e3, e4, e5, e6, e7, e8, e9, e10, e11, e12, _⟩ := HE.out
    have HG := hide e1
    have HZB := hide (show ZB y5 x0.heap.size #[.bool bq1, .slice aq1 nq1 kq1, .bool br1, .slice ar1 nr1 kr1, .bool bq2, .slice aq2 nq2 kq2, .bool br2, .slice ar2 nr2 kr2, .bool bq3, .slice aq3 nq3 kq3, .bool br3, .slice ar3 nr3 kr3, .bool bq4, .slice aq4 nq4 kq4, .bool br4, .slice ar4 nr4 kr4, .bool bq5, .slice aq5 nq5 kq5, .bool br5, .slice ar5 nr5 kr5] from e2)
    have HZ5q := hide e3
    have HZ5r := hide e4
    have HZ1q := hide e5
    have HZ1r := hide e6
    have HZ2q := hide e7
    have HZ2r := hide e8
    have HZ3q := hide e9
    have HZ3r := hide e10
    have HZ4q := hide e11
    have HZ4r := hide e12
    clear HE e1 e2 e3 e4 e5 e6 e7 e8 e9 e10 e11 e12
    clear sM sN sX sY
    have HAP := hide (Aparts.nil y5 wc.heap.size)
    have C := wquo_any b0 _ z0 b1 _ z1 (b0 != b1) false (quq zA zB) (zA - quq zA zB * zB) y5 (HPx.out.below HG.out) (HPy.out.below HG.out) (HT.out.below HG.out) (by omega) (by omega) HY0.out rfl rfl HQ1.out HR1.out
    refine C.mono ?_
    rintro e Q1 ⟨⟨bp1, ap1, np1, kp1, bs1, as1, ns1, ks1, c1, rfl, hD⟩, hq⟩
    obtain ⟨y6, hyy1, hbP, hx1, hx2⟩ := enter2 Q1 (.cells #[.bool bp1, .slice ap1 np1 kp1] 27) (.cells #[.bool bs1, .slice as1 ns1 ks1] 27)
    have stp := bl_trans hq hbP
    obtain ⟨ra1, rb1, hA1, hA2, hap, hcase⟩ := hD
    have HD1 := hide (DivR.below (show DivR Q1 y5.heap.size bp1 (.slice ap1 np1 kp1) bs1 (.slice as1 ns1 ks1) c1 (quq zA zB) (zA - quq zA zB * zB) from ⟨ra1, rb1, hA1, hA2, hap, hcase⟩) hbP)
    have HL1 := hide (DivR.few hcase)
    replace HAP := hide ((HAP.out.two hq HG.out.size hA1 hA2 hap).below hbP)
    clear hA1 hA2 hap hcase
    have HB1a := hide hx1
    have HB1b := hide hx2
    replace HG := hide (bl_trans HG.out stp)
    replace HZB := hide (HZB.out.below stp)
    replace HZ1q := hide (HZ1q.out.below stp)
    replace HZ1r := hide (HZ1r.out.below stp)
    replace HZ2q := hide (HZ2q.out.below stp)
    replace HZ2r := hide (HZ2r.out.below stp)
    replace HZ3q := hide (HZ3q.out.below stp)
    replace HZ3r := hide (HZ3r.out.below stp)
    replace HZ4q := hide (HZ4q.out.below stp)
    replace HZ4r := hide (HZ4r.out.below stp)
    replace HZ5q := hide (HZ5q.out.below stp)
    replace HZ5r := hide (HZ5r.out.below stp)
    clear C hq hbP hx1 hx2 stp
    obtain ⟨cx0, cx1⟩ := duo (block_upW HG.out HX.out)
    obtain ⟨cy0, cy1⟩ := duo (block_upW HG.out HY.out)
    go_wp2_with fail
    clear cx0 cx1 cy0 cy1
    have C := wfloor_any b0 _ z0 b1 _ z1 (b0 != b1) (b0 != b1) (flq zA zB) (zA - flq zA zB * zB) y6 (HPx.out.below HG.out) (HPy.out.below HG.out) (HT.out.below HG.out) (by omega) (by omega) HY0.out rfl rfl HQ2.out HR2.out
    refine C.mono ?_
    rintro e Q2 ⟨⟨bp2, ap2, np2, kp2, bs2, as2, ns2, ks2, c2, rfl, hD⟩, hq⟩
    obtain ⟨y7, hyy2, hbP, hx1, hx2⟩ := enter2 Q2 (.cells #[.bool bp2, .slice ap2 np2 kp2] 27) (.cells #[.bool bs2, .slice as2 ns2 ks2] 27)
    have stp := bl_trans hq hbP
    obtain ⟨ra2, rb2, hA1, hA2, hap, hcase⟩ := hD
    have HD2 := hide (DivR.below (show DivR Q2 y6.heap.size bp2 (.slice ap2 np2 kp2) bs2 (.slice as2 ns2 ks2) c2 (flq zA zB) (zA - flq zA zB * zB) from ⟨ra2, rb2, hA1, hA2, hap, hcase⟩) hbP)
    have HL2 := hide (DivR.few hcase)
    replace HAP := hide ((HAP.out.two hq HG.out.size hA1 hA2 hap).below hbP)
    clear hA1 hA2 hap hcase
    replace HB1a := hide (block_upW stp HB1a.out)
    replace HB1b := hide (block_upW stp HB1b.out)
    replace HD1 := hide (HD1.out.below stp)
    have HB2a := hide hx1
    have HB2b := hide hx2
    replace HG := hide (bl_trans HG.out stp)
    replace HZB := hide (HZB.out.below stp)
    replace HZ1q := hide (HZ1q.out.below stp)
    replace HZ1r := hide (HZ1r.out.below stp)
    replace HZ2q := hide (HZ2q.out.below stp)
    replace HZ2r := hide (HZ2r.out.below stp)
    replace HZ3q := hide (HZ3q.out.below stp)
    replace HZ3r := hide (HZ3r.out.below stp)
    replace HZ4q := hide (HZ4q.out.below stp)
    replace HZ4r := hide (HZ4r.out.below stp)
    replace HZ5q := hide (HZ5q.out.below stp)
    replace HZ5r := hide (HZ5r.out.below stp)
    clear C hq hbP hx1 hx2 stp
    obtain ⟨cx0, cx1⟩ := duo (block_upW HG.out HX.out)
    obtain ⟨cy0, cy1⟩ := duo (block_upW HG.out HY.out)
    go_wp2_with fail
    clear cx0 cx1 cy0 cy1
    have C := wceil_any b0 _ z0 b1 _ z1 (b0 != b1) (!(b0 != b1)) (ceq zA zB) (zA - ceq zA zB * zB) y7 (HPx.out.below HG.out) (HPy.out.below HG.out) (HT.out.below HG.out) (by omega) (by omega) HY0.out rfl rfl HQ3.out HR3.out
    refine C.mono ?_
    rintro e Q3 ⟨⟨bp3, ap3, np3, kp3, bs3, as3, ns3, ks3, c3, rfl, hD⟩, hq⟩
    obtain ⟨y8, hyy3, hbP, hx1, hx2⟩ := enter2 Q3 (.cells #[.bool bp3, .slice ap3 np3 kp3] 27) (.cells #[.bool bs3, .slice as3 ns3 ks3] 27)
    have stp := bl_trans hq hbP
    obtain ⟨ra3, rb3, hA1, hA2, hap, hcase⟩ := hD
    have HD3 := hide (DivR.below (show DivR Q3 y7.heap.size bp3 (.slice ap3 np3 kp3) bs3 (.slice as3 ns3 ks3) c3 (ceq zA zB) (zA - ceq zA zB * zB) from ⟨ra3, rb3, hA1, hA2, hap, hcase⟩) hbP)
    have HL3 := hide (DivR.few hcase)
    replace HAP := hide ((HAP.out.two hq HG.out.size hA1 hA2 hap).below hbP)
    clear hA1 hA2 hap hcase
    replace HB1a := hide (block_upW stp HB1a.out)
    replace HB1b := hide (block_upW stp HB1b.out)
    replace HB2a := hide (block_upW stp HB2a.out)
    replace HB2b := hide (block_upW stp HB2b.out)
    replace HD1 := hide (HD1.out.below stp)
    replace HD2 := hide (HD2.out.below stp)
    have HB3a := hide hx1
    have HB3b := hide hx2
    replace HG := hide (bl_trans HG.out stp)
    replace HZB := hide (HZB.out.below stp)
    replace HZ1q := hide (HZ1q.out.below stp)
    replace HZ1r := hide (HZ1r.out.below stp)
    replace HZ2q := hide (HZ2q.out.below stp)
    replace HZ2r := hide (HZ2r.out.below stp)
    replace HZ3q := hide (HZ3q.out.below stp)
    replace HZ3r := hide (HZ3r.out.below stp)
    replace HZ4q := hide (HZ4q.out.below stp)
    replace HZ4r := hide (HZ4r.out.below stp)
    replace HZ5q := hide (HZ5q.out.below stp)
    replace HZ5r := hide (HZ5r.out.below stp)
    clear C hq hbP hx1 hx2 stp
    obtain ⟨cx0, cx1⟩ := duo (block_upW HG.out HX.out)
    obtain ⟨cy0, cy1⟩ := duo (block_upW HG.out HY.out)
    go_wp2_with fail
    clear cx0 cx1 cy0 cy1
    have C := wnear_any b0 _ z0 b1 _ z1 (b0 != b1) (nearB (val z0 / val z1) (val z0 % val z1) (val z1 - val z0 % val z1)) (neq zA zB) (zA - neq zA zB * zB) y8 (HPx.out.below HG.out) (HPy.out.below HG.out) (HT.out.below HG.out) (by omega) (by omega) HY0.out rfl rfl HQ4.out HR4.out
    refine C.mono ?_
    rintro e Q4 ⟨⟨bp4, ap4, np4, kp4, bs4, as4, ns4, ks4, c4, rfl, hD⟩, hq⟩
    obtain ⟨y9, hyy4, hbP, hx1, hx2⟩ := enter2 Q4 (.cells #[.bool bp4, .slice ap4 np4 kp4] 27) (.cells #[.bool bs4, .slice as4 ns4 ks4] 27)
    have stp := bl_trans hq hbP
    obtain ⟨ra4, rb4, hA1, hA2, hap, hcase⟩ := hD
    have HD4 := hide (DivR.below (show DivR Q4 y8.heap.size bp4 (.slice ap4 np4 kp4) bs4 (.slice as4 ns4 ks4) c4 (neq zA zB) (zA - neq zA zB * zB) from ⟨ra4, rb4, hA1, hA2, hap, hcase⟩) hbP)
    have HL4 := hide (DivR.few hcase)
    replace HAP := hide ((HAP.out.two hq HG.out.size hA1 hA2 hap).below hbP)
    clear hA1 hA2 hap hcase
    replace HB1a := hide (block_upW stp HB1a.out)
    replace HB1b := hide (block_upW stp HB1b.out)
    replace HB2a := hide (block_upW stp HB2a.out)
    replace HB2b := hide (block_upW stp HB2b.out)
    replace HB3a := hide (block_upW stp HB3a.out)
    replace HB3b := hide (block_upW stp HB3b.out)
    replace HD1 := hide (HD1.out.below stp)
    replace HD2 := hide (HD2.out.below stp)
    replace HD3 := hide (HD3.out.below stp)
    have HB4a := hide hx1
    have HB4b := hide hx2
    replace HG := hide (bl_trans HG.out stp)
    replace HZB := hide (HZB.out.below stp)
    replace HZ1q := hide (HZ1q.out.below stp)
    replace HZ1r := hide (HZ1r.out.below stp)
    replace HZ2q := hide (HZ2q.out.below stp)
    replace HZ2r := hide (HZ2r.out.below stp)
    replace HZ3q := hide (HZ3q.out.below stp)
    replace HZ3r := hide (HZ3r.out.below stp)
    replace HZ4q := hide (HZ4q.out.below stp)
    replace HZ4r := hide (HZ4r.out.below stp)
    replace HZ5q := hide (HZ5q.out.below stp)
    replace HZ5r := hide (HZ5r.out.below stp)
    clear C hq hbP hx1 hx2 stp
    obtain ⟨cx0, cx1⟩ := duo (block_upW HG.out HX.out)
    obtain ⟨cy0, cy1⟩ := duo (block_upW HG.out HY.out)
    go_wp2_with fail
    clear cx0 cx1 cy0 cy1
    have C := weuclid_any b0 _ z0 b1 _ z1 (b0 != b1) b0 (euq zA zB) (zA - euq zA zB * zB) y9 (HPx.out.below HG.out) (HPy.out.below HG.out) (HT.out.below HG.out) (by omega) (by omega) HY0.out rfl rfl HQ5.out HR5.out
    refine C.mono ?_
    rintro e Q5 ⟨⟨bp5, ap5, np5, kp5, bs5, as5, ns5, ks5, c5, rfl, hD⟩, hq⟩
    obtain ⟨y10, hyy5, hbP, hx1, hx2⟩ := enter2 Q5 (.cells #[.bool bp5, .slice ap5 np5 kp5] 27) (.cells #[.bool bs5, .slice as5 ns5 ks5] 27)
    have stp := bl_trans hq hbP
    obtain ⟨ra5, rb5, hA1, hA2, hap, hcase⟩ := hD
    have HD5 := hide (DivR.below (show DivR Q5 y9.heap.size bp5 (.slice ap5 np5 kp5) bs5 (.slice as5 ns5 ks5) c5 (euq zA zB) (zA - euq zA zB * zB) from ⟨ra5, rb5, hA1, hA2, hap, hcase⟩) hbP)
    have HL5 := hide (DivR.few hcase)
    replace HAP := hide ((HAP.out.two hq HG.out.size hA1 hA2 hap).below hbP)
    clear hA1 hA2 hap hcase
    replace HB1a := hide (block_upW stp HB1a.out)
    replace HB1b := hide (block_upW stp HB1b.out)
    replace HB2a := hide (block_upW stp HB2a.out)
    replace HB2b := hide (block_upW stp HB2b.out)
    replace HB3a := hide (block_upW stp HB3a.out)
    replace HB3b := hide (block_upW stp HB3b.out)
    replace HB4a := hide (block_upW stp HB4a.out)
    replace HB4b := hide (block_upW stp HB4b.out)
    replace HD1 := hide (HD1.out.below stp)
    replace HD2 := hide (HD2.out.below stp)
    replace HD3 := hide (HD3.out.below stp)
    replace HD4 := hide (HD4.out.below stp)
    have HB5a := hide hx1
    have HB5b := hide hx2
    replace HG := hide (bl_trans HG.out stp)
    replace HZB := hide (HZB.out.below stp)
    replace HZ1q := hide (HZ1q.out.below stp)
    replace HZ1r := hide (HZ1r.out.below stp)
    replace HZ2q := hide (HZ2q.out.below stp)
    replace HZ2r := hide (HZ2r.out.below stp)
    replace HZ3q := hide (HZ3q.out.below stp)
    replace HZ3r := hide (HZ3r.out.below stp)
    replace HZ4q := hide (HZ4q.out.below stp)
    replace HZ4r := hide (HZ4r.out.below stp)
    replace HZ5q := hide (HZ5q.out.below stp)
    replace HZ5r := hide (HZ5r.out.below stp)
    clear C hq hbP hx1 hx2 stp
    have g0 : Below y10.heap.size y10 y10 := Below.refl _ _
    have OWN := hide (fun (t5 : World) (g5 : Below y10.heap.size y10 t5) => own_aparts wc.heap.size [.slice ap1 np1 kp1, .slice as1 ns1 ks1, .slice ap2 np2 kp2, .slice as2 ns2 ks2, .slice ap3 np3 kp3, .slice as3 ns3 ks3, .slice ap4 np4 kp4, .slice as4 ns4 ks4, .slice ap5 np5 kp5, .slice as5 ns5 ks5] [ra1, rb1, ra2, rb2, ra3, rb3, ra4, rb4, ra5, rb5] t5 (HAP.out.below g5) (by simp) (by intro r hr; have h1 := HL1.out; have h2 := HL2.out; have h3 := HL3.out; have h4 := HL4.out; have h5 := HL5.out; simp only [List.mem_cons, List.not_mem_nil, or_false] at hr; rcases hr with rfl | rfl | rfl | rfl | rfl | rfl | rfl | rfl | rfl | rfl <;> omega) (Nat.le_trans HG.out.size g5.size))
    obtain ⟨ca0, ca1⟩ := duo (block_upW g0 HB1a.out)
    obtain ⟨cb0, cb1⟩ := duo (block_upW g0 HB1b.out)
    have hzz := HZB.out.below g0
    have cz0 : y10.cell? ⟨x0.heap.size, 0, none⟩ = some (.bool bq1) := hzz.cell 0
    have cz1 : y10.cell? ⟨x0.heap.size, 1, none⟩ = some (.slice aq1 nq1 kq1) := hzz.cell 1
    have cz2 : y10.cell? ⟨x0.heap.size, 2, none⟩ = some (.bool br1) := hzz.cell 2
    have cz3 : y10.cell? ⟨x0.heap.size, 3, none⟩ = some (.slice ar1 nr1 kr1) := hzz.cell 3
    clear hzz
    go_wp2_with fail
    refine (wpair_ok bp1 ap1 np1 kp1 bs1 as1 ns1 ks1 c1 _ _ _ _ _ y10 (HD1.out.below g0) (HZ1q.out.below g0) (HZ1r.out.below g0)).mono ?_
    rintro e t1 ⟨rfl, hb⟩
    have g1 := bl_trans g0 hb
    clear hb ca0 ca1 cb0 cb1 cz0 cz1 cz2 cz3
    obtain ⟨ca0, ca1⟩ := duo (block_upW g1 HB2a.out)
    obtain ⟨cb0, cb1⟩ := duo (block_upW g1 HB2b.out)
    have hzz := HZB.out.below g1
    have cz0 : t1.cell? ⟨x0.heap.size, 4, none⟩ = some (.bool bq2) := hzz.cell 4
    have cz1 : t1.cell? ⟨x0.heap.size, 5, none⟩ = some (.slice aq2 nq2 kq2) := hzz.cell 5
    have cz2 : t1.cell? ⟨x0.heap.size, 6, none⟩ = some (.bool br2) := hzz.cell 6
    have cz3 : t1.cell? ⟨x0.heap.size, 7, none⟩ = some (.slice ar2 nr2 kr2) := hzz.cell 7
    clear hzz
    go_wp2_with fail
    refine (wpair_ok bp2 ap2 np2 kp2 bs2 as2 ns2 ks2 c2 _ _ _ _ _ t1 (HD2.out.below g1) (HZ2q.out.below g1) (HZ2r.out.below g1)).mono ?_
    rintro e t2 ⟨rfl, hb⟩
    have g2 := bl_trans g1 hb
    clear hb ca0 ca1 cb0 cb1 cz0 cz1 cz2 cz3
    obtain ⟨ca0, ca1⟩ := duo (block_upW g2 HB3a.out)
    obtain ⟨cb0, cb1⟩ := duo (block_upW g2 HB3b.out)
    have hzz := HZB.out.below g2
    have cz0 : t2.cell? ⟨x0.heap.size, 8, none⟩ = some (.bool bq3) := hzz.cell 8
    have cz1 : t2.cell? ⟨x0.heap.size, 9, none⟩ = some (.slice aq3 nq3 kq3) := hzz.cell 9
    have cz2 : t2.cell? ⟨x0.heap.size, 10, none⟩ = some (.bool br3) := hzz.cell 10
    have cz3 : t2.cell? ⟨x0.heap.size, 11, none⟩ = some (.slice ar3 nr3 kr3) := hzz.cell 11
    clear hzz
    go_wp2_with fail
    refine (wpair_ok bp3 ap3 np3 kp3 bs3 as3 ns3 ks3 c3 _ _ _ _ _ t2 (HD3.out.below g2) (HZ3q.out.below g2) (HZ3r.out.below g2)).mono ?_
    rintro e t3 ⟨rfl, hb⟩
    have g3 := bl_trans g2 hb
    clear hb ca0 ca1 cb0 cb1 cz0 cz1 cz2 cz3
    obtain ⟨ca0, ca1⟩ := duo (block_upW g3 HB4a.out)
    obtain ⟨cb0, cb1⟩ := duo (block_upW g3 HB4b.out)
    have hzz := HZB.out.below g3
    have cz0 : t3.cell? ⟨x0.heap.size, 12, none⟩ = some (.bool bq4) := hzz.cell 12
    have cz1 : t3.cell? ⟨x0.heap.size, 13, none⟩ = some (.slice aq4 nq4 kq4) := hzz.cell 13
    have cz2 : t3.cell? ⟨x0.heap.size, 14, none⟩ = some (.bool br4) := hzz.cell 14
    have cz3 : t3.cell? ⟨x0.heap.size, 15, none⟩ = some (.slice ar4 nr4 kr4) := hzz.cell 15
    clear hzz
    go_wp2_with fail
    refine (wpair_ok bp4 ap4 np4 kp4 bs4 as4 ns4 ks4 c4 _ _ _ _ _ t3 (HD4.out.below g3) (HZ4q.out.below g3) (HZ4r.out.below g3)).mono ?_
    rintro e t4 ⟨rfl, hb⟩
    have g4 := bl_trans g3 hb
    clear hb ca0 ca1 cb0 cb1 cz0 cz1 cz2 cz3
    obtain ⟨ca0, ca1⟩ := duo (block_upW g4 HB5a.out)
    obtain ⟨cb0, cb1⟩ := duo (block_upW g4 HB5b.out)
    have hzz := HZB.out.below g4
    have cz0 : t4.cell? ⟨x0.heap.size, 16, none⟩ = some (.bool bq5) := hzz.cell 16
    have cz1 : t4.cell? ⟨x0.heap.size, 17, none⟩ = some (.slice aq5 nq5 kq5) := hzz.cell 17
    have cz2 : t4.cell? ⟨x0.heap.size, 18, none⟩ = some (.bool br5) := hzz.cell 18
    have cz3 : t4.cell? ⟨x0.heap.size, 19, none⟩ = some (.slice ar5 nr5 kr5) := hzz.cell 19
    clear hzz
    go_wp2_with fail
    refine (wpair_ok bp5 ap5 np5 kp5 bs5 as5 ns5 ks5 c5 _ _ _ _ _ t4 (HD5.out.below g4) (HZ5q.out.below g4) (HZ5r.out.below g4)).mono ?_
    rintro e t5 ⟨rfl, hb⟩
    have g5 := bl_trans g4 hb
    clear hb ca0 ca1 cb0 cb1 cz0 cz1 cz2 cz3
    obtain ⟨ca1, cb1⟩ := duo (block_upW g5 HB1a.out)
    obtain ⟨cc1, cd1⟩ := duo (block_upW g5 HB1b.out)
    obtain ⟨ca2, cb2⟩ := duo (block_upW g5 HB2a.out)
    obtain ⟨cc2, cd2⟩ := duo (block_upW g5 HB2b.out)
    obtain ⟨ca3, cb3⟩ := duo (block_upW g5 HB3a.out)
    obtain ⟨cc3, cd3⟩ := duo (block_upW g5 HB3b.out)
    obtain ⟨ca4, cb4⟩ := duo (block_upW g5 HB4a.out)
    obtain ⟨cc4, cd4⟩ := duo (block_upW g5 HB4b.out)
    obtain ⟨ca5, cb5⟩ := duo (block_upW g5 HB5a.out)
    obtain ⟨cc5, cd5⟩ := duo (block_upW g5 HB5b.out)
    go_wp2_with fail
    refine (OWN.out t5 g5).mono ?_
    rintro e t7 ⟨rfl, hk7⟩
    have g7 := (bl_trans HG.out g5).trans hk7.below
    clear hk7 OWN ca1 cb1 cc1 cd1 ca2 cb2 cc2 cd2 ca3 cb3 cc3 cd3 ca4 cb4 cc4 cd4 ca5 cb5 cc5 cd5
    obtain ⟨ca0, ca1⟩ := duo (block_upW g7 HA.out)
    obtain ⟨cb0, cb1⟩ := duo (block_upW g7 HBb.out)
    have KA := kept_ok _ _ z0 t7 (HLa.out.below g7) (HA0.out.below g7) (by omega)
    have KBk := kept_ok _ _ z1 t7 (HLb.out.below g7) (HA1.out.below g7) (by omega)
    have AW := awake6_any t7 (HT.out.below g7)
    have HG7 := hide g7
    clear g7
    go_wp2_with fail
    refine KA.mono ?_
    rintro e wn ⟨rfl, hw⟩; rw [hw]; clear hw wn KA
    go_wp2_with fail
    refine KBk.mono ?_
    rintro e wn ⟨rfl, hw⟩; rw [hw]; clear hw wn KBk
    go_wp2_with fail
    refine AW.mono ?_
    rintro e t8 ⟨rfl, hb8⟩
    have HFIN := hide (HW.out.trans ((HG7.out.trans (hb8.mono HG7.out.size)).mono HW.out.size))
    clear hb8 AW
    go_wp2
    go_ret
    exact ⟨rfl, HFIN.out⟩

end Go.Proofs.YtfgcngndiblpmaaGreatDoor
