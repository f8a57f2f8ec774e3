/- The walk of the law DyadicOwn. -/
import Derived.Test.YtegbjdjpeblkoabGreatDoorDyOxZ
namespace Go.Proofs.YtegbjdjpeblkoabGreatDoor
open Go.RowKit
open Lm
attribute [local go_sem ↓] Go.wp_at_zero Go.wp_at_succ

set_option maxRecDepth 20000 in
set_option maxHeartbeats 16000000 in
theorem own8_yes (b0 : Bool) (v0 : Value) (z0 : List Nat) (p0 : Int) (b1 : Bool) (v1 : Value) (z1 : List Nat) (p1 : Int) (pos : Int) (w : World) (hT : Tab w) (A0 : Arg w v0 z0) (s0 : z0.length ≤ 1048576) (_ : -9223372036854775808 ≤ p0) (_ : p0 ≤ 9223372036854775807) (A1 : Arg w v1 z1) (s1 : z1.length ≤ 1048576) (_ : -9223372036854775808 ≤ p1) (_ : p1 ≤ 9223372036854775807) (_ : -9223372036854775808 ≤ pos) (_ : pos ≤ 9223372036854775807) (hE0 : fitE p0 = true) (hE1 : fitE p1 = true) (hK : fitE pos = true) :
    Calls Tryz.prog 3 #[.agg #[.bool b0, v0, .int .i64 p0], .agg #[.bool b1, v1, .int .i64 p1], .int .i64 pos] w fun e w' => e = .returned (.bool true) ∧ Below w.heap.size w w' := by
  obtain ⟨a0, n0, rfl, _, _, _⟩ := A0.form
  obtain ⟨a1, n1, rfl, _, _, _⟩ := A1.form
  obtain ⟨w0, hw0, hb0, h0, h1⟩ := enter2 w (.cells #[.bool b0, .slice a0 z0.length n0, .int .i64 p0] 24) (.cells #[.bool b1, .slice a1 z1.length n1, .int .i64 p1] 24)
  have HA := hide h0
  have HB := hide h1
  have HA0 := hide (A0.below hb0)
  have HA1 := hide (A1.below hb0)
  have HT := hide (hT.below hb0)
  have HW := hide hb0
  have HLM := hide A0.limbs
  clear hT hb0 h0 h1
  have F0 := read_facts (b := b0) (ex := p0) A0 (by omega) hE0
  have hl0 : blen (omz (zz b0 (val z0))).natAbs ≤ 67108864 := by
    have h5 := blen_mono (od_le (zz b0 (val z0)).natAbs)
    have h6 := blen_len8 A0.limbs
    rw [zz_abs] at h5
    rw [omz_abs, zz_abs]; omega
  obtain ⟨M0, hM0⟩ : ∃ M0, omz (zz b0 (val z0)) = M0 := ⟨_, rfl⟩
  obtain ⟨E0, hE0v⟩ : ∃ E0, oe (zz b0 (val z0)) p0 = E0 := ⟨_, rfl⟩
  rw [hM0, hE0v] at F0
  rw [hM0] at hl0
  have HM0 := hide hM0
  have HV0 := hide hE0v
  have HN0 := hide F0.2.2.2
  have e01 := F0.2.1
  have e02 := F0.2.2.1
  clear F0 hM0 hE0v
  have F1 := read_facts (b := b1) (ex := p1) A1 (by omega) hE1
  have hl1 : blen (omz (zz b1 (val z1))).natAbs ≤ 67108864 := by
    have h5 := blen_mono (od_le (zz b1 (val z1)).natAbs)
    have h6 := blen_len8 A1.limbs
    rw [zz_abs] at h5
    rw [omz_abs, zz_abs]; omega
  obtain ⟨M1, hM1⟩ : ∃ M1, omz (zz b1 (val z1)) = M1 := ⟨_, rfl⟩
  obtain ⟨E1, hE1v⟩ : ∃ E1, oe (zz b1 (val z1)) p1 = E1 := ⟨_, rfl⟩
  rw [hM1, hE1v] at F1
  rw [hM1] at hl1
  have HM1 := hide hM1
  have HV1 := hide hE1v
  have HN1 := hide F1.2.2.2
  have e11 := F1.2.1
  have e12 := F1.2.2.1
  clear F1 hM1 hE1v
  have hKr := (fitE_iff pos).1 hK
  clear A0 A1
  go_enter Tryz.func3, Tryz.ntmps3
  obtain ⟨ca0, cb0, cc0⟩ := tri8 HA.out
  have C := of8_ok b0 a0 n0 z0 p0 w0 HA0.out (by omega) hE0
  rw [HM0.out, HV0.out] at C
  go_wp2_with fail
  refine C.mono ?_
  rintro e Q1 ⟨⟨bm, am, lm, km, rfl, hd⟩, hb⟩
  clear C ca0 cb0 cc0 hw0
  obtain ⟨P2, hP2, hbP, hx⟩ := enter1 Q1 (.cells #[.bool bm, .slice am lm km, .int .i64 E0] 29)
  have stp := bl_trans8 hb hbP
  replace HA := hide (block_upW stp HA.out)
  replace HB := hide (block_upW stp HB.out)
  replace HA0 := hide (HA0.out.below stp)
  replace HA1 := hide (HA1.out.below stp)
  replace HT := hide (HT.out.below stp)
  replace HW := hid_below HW stp
  have HDm := hide (hd.below hbP)
  have Hm := hide hx
  clear hd hb hbP hx stp
  obtain ⟨ca0, cb0, cc0⟩ := tri8 HB.out
  have C := of8_ok b1 a1 n1 z1 p1 P2 HA1.out (by omega) hE1
  rw [HM1.out, HV1.out] at C
  go_wp2_with fail
  refine C.mono ?_
  rintro e Q3 ⟨⟨bn, an, ln, kn, rfl, hd⟩, hb⟩
  clear C ca0 cb0 cc0 hP2
  obtain ⟨P4, hP4, hbP, hx⟩ := enter1 Q3 (.cells #[.bool bn, .slice an ln kn, .int .i64 E1] 29)
  have stp := bl_trans8 hb hbP
  replace HA := hide (block_upW stp HA.out)
  replace HB := hide (block_upW stp HB.out)
  replace Hm := hide (block_upW stp Hm.out)
  replace HA0 := hide (HA0.out.below stp)
  replace HA1 := hide (HA1.out.below stp)
  replace HT := hide (HT.out.below stp)
  replace HDm := hide (HDm.out.below stp)
  replace HW := hid_below HW stp
  have HDn := hide (hd.below hbP)
  have Hn := hide hx
  clear hd hb hbP hx stp
  have HF := fit8_any pos P4
  rw [hK] at HF
  go_wp2_with fail
  refine HF.mono ?_
  rintro e wn ⟨rfl, hw⟩; rw [hw]; clear hw wn HF hP4
  obtain ⟨ca0, cb0, cc0⟩ := tri8 HA.out
  have C := rcopy_any _ z0 P4 HA0.out (by omega)
  go_wp2_with fail
  refine C.mono ?_
  rintro e w1 ⟨rfl, hk9, hb⟩
  have hk : Blk w1 P4.heap.size z0 := hk9
  clear hk9 C ca0 cb0 cc0
  obtain ⟨u1, hu1, hbu1, hx⟩ := enter1 w1 (.cells #[.bool b0, .slice (some ⟨P4.heap.size, 0, none⟩) z0.length z0.length, .int .i64 p0] 39)
  have HG := hide (bl_trans8 hb hbu1)
  have HK := hide (hk.below' hbu1)
  have HX := hide hx
  have hl1 : P4.heap.size < w1.heap.size := hk.lt
  have hlu : w1.heap.size < u1.heap.size := lt_of_block hx
  have hl2 : P4.heap.size < u1.heap.size := by omega
  obtain ⟨ca0, cb0, cc0⟩ := tri8 (block_upW hb HA.out)
  have HAP := hide (Aparts.none u1 u1.heap.size)
  clear hk hb hbu1 hx
  have HARG := hide (fun (W : World) (h : Blk W P4.heap.size z0) => h.arg9 HLM.out (by omega))
  obtain ⟨ca0x, cb0x, cc0x⟩ := tri8 HX.out
  have C := yround_ok b0 (some ⟨P4.heap.size, 0, none⟩) z0.length z0 p0 pos 0 u1 (HARG.out _ HK.out) (HT.out.below HG.out) (by omega) hE0 hK (by decide)
  rw [HM0.out, HV0.out] at C
  go_wp2_with fail
  refine C.mono ?_
  rintro e Q101 ⟨⟨bp, ap, lp, kp, ep, cp, rfl, hd⟩, hb⟩
  clear C ca0x cb0x cc0x ca0 cb0 cc0 hu1
  have hbs1 : u1.heap.size ≤ u1.heap.size := Nat.le_refl _
  obtain ⟨rp, hans, hlp⟩ := hd.own9
  have hap := HAP.out.snoc hb hbs1 hans
  obtain ⟨P102, hP102, hbP, hx⟩ := enter1 Q101 (.cells #[.bool bp, .slice ap lp kp, .int .i64 ep] 39)
  have stp := bl_trans8 hb hbP
  replace HX := hide (block_upW stp HX.out)
  replace HG := hide (bl_trans8 HG.out stp)
  replace HK := hide (HK.out.below' stp)
  replace HAP := hide (HAP.out.below stp)
  have Hp := hide hx
  replace HAP := hide (hap.below hbP)
  have HDp := hide ((hd.base hbs1).below hbP)
  have hst1 : u1.heap.size ≤ P102.heap.size := stp.size
  have hqs1 : u1.heap.size ≤ Q101.heap.size := hb.size
  clear hans hap hd hb hbP hx stp
  have IN := hide (fun (W : World) => in8_any b1 a1 z1.length n1 p1 W)
  have MU := hide (fun (W : World) (hg : Below P102.heap.size P102 W) => show Calls Tryz.prog 9 #[.agg #[.bool b0, .slice (some ⟨P4.heap.size, 0, none⟩) z0.length z0.length, .int .i64 p0], .agg #[.bool b1, .slice a1 z1.length n1, .int .i64 p1]] W (fun e w' => DRes w' W.heap.size e (omz (M0 * M1)) (oe (M0 * M1) (E0 + E1)) ∧ Below W.heap.size W w') by
      have C := ymul_full b0 (some ⟨P4.heap.size, 0, none⟩) z0.length z0 p0 b1 a1 n1 z1 p1 W ((HT.out.below HG.out).below hg) ((HARG.out _ HK.out).below hg) ((HA1.out.below HG.out).below hg) (by omega) (by omega) hE0 hE1
      rw [HM0.out, HV0.out, HM1.out, HV1.out] at C
      exact C)
  have KS := hide (fun (W : World) (hg : Below P102.heap.size P102 W) => show W.cell? ⟨w1.heap.size, 0, none⟩ = some (.bool b0) ∧ W.cell? ⟨w1.heap.size, 1, none⟩ = some (.slice (some ⟨P4.heap.size, 0, none⟩) z0.length z0.length) ∧ W.cell? ⟨w1.heap.size, 2, none⟩ = some (.int .i64 p0) ∧ W.cell? ⟨w.heap.size + 1, 0, none⟩ = some (.bool b1) ∧ W.cell? ⟨w.heap.size + 1, 1, none⟩ = some (.slice a1 z1.length n1) ∧ W.cell? ⟨w.heap.size + 1, 2, none⟩ = some (.int .i64 p1) from ⟨(tri8 (block_upW hg HX.out)).1, (tri8 (block_upW hg HX.out)).2.1, (tri8 (block_upW hg HX.out)).2.2, (tri8 (block_upW hg (block_upW HG.out HB.out))).1, (tri8 (block_upW hg (block_upW HG.out HB.out))).2.1, (tri8 (block_upW hg (block_upW HG.out HB.out))).2.2⟩)
  have g0 : Below P102.heap.size P102 P102 := Below.refl _ _
  generalize hMQ : omz (M0 * M1) = MQq at *
  generalize hEQ : oe (M0 * M1) (E0 + E1) = EQq at *
  have HQq := hide (And.intro hMQ hEQ)
  clear hMQ hEQ
  go_upto_region 8 with fail
  go_cut [15, 16] from 67 to 73 (fun s t wx => OneY P102 MQq EQq s t wx)
  case first =>
    go_region_held3 (fun w' => w'.cell? ⟨w1.heap.size, 0, none⟩ = some (.bool b0) ∧ w'.cell? ⟨w1.heap.size, 1, none⟩ = some (.slice (some ⟨P4.heap.size, 0, none⟩) z0.length z0.length) ∧ w'.cell? ⟨w1.heap.size, 2, none⟩ = some (.int .i64 p0) ∧ w'.cell? ⟨w.heap.size + 1, 0, none⟩ = some (.bool b1) ∧ w'.cell? ⟨w.heap.size + 1, 1, none⟩ = some (.slice a1 z1.length n1) ∧ w'.cell? ⟨w.heap.size + 1, 2, none⟩ = some (.int .i64 p1)) (first | (refine KS.out _ ?_; repeat (first | with_reducible assumption | with_reducible exact Below.refl _ _ | with_reducible apply bl_alloc8 | with_reducible apply bl_drew8 | (with_reducible refine below_tri8 ?_ (by omega) _ _ _)))) (first
      | (go_at_call 9; refine (MU.out _ (by repeat (first | with_reducible exact g1 | with_reducible apply bl_alloc8))).mono ?_; rintro e' t2 ⟨⟨bd, ad, ld, kd, ed, fd, rfl, hs⟩, hb2⟩; have g2 : Below P102.heap.size P102 t2 := bl_trans8 (by repeat (first | with_reducible exact g1 | with_reducible apply bl_alloc8)) hb2; have hle1 := g1.size; (first | (with_reducible have hq := made19 hb2; obtain ⟨z0c, z1c, z2c⟩ := tri8 hq; have zf := tri8f hq; have hle2 : P102.heap.size ≤ (t1.alloc (.cells #[.bool false, .slice none 0 0, .int .i64 0] 39)).heap.size := by simp; omega) | (with_reducible have hq := block_upW hb2 hpA; obtain ⟨z0c, z1c, z2c⟩ := tri8 hq; have zf := tri8f hq) | skip))
      | (go_at_call 10; refine (IN.out _).mono ?_; rintro e' t1 ⟨rfl, hb1⟩; have g1 : Below P102.heap.size P102 t1 := bl_trans8 (by repeat (first | with_reducible exact Below.refl _ _ | with_reducible apply bl_alloc8 | with_reducible apply bl_drew8)) hb1; (first | (with_reducible have hpA := made1d9 hb1) | (with_reducible have hpA := made19 hb1) | skip)))
    all_goals (go_wp2_with fail; go_meet; first
      | with_reducible exact one_y hs hle1 g2
      | with_reducible exact one_ys hq hle1 hs hle2 g2
      | with_reducible exact one_ys hq (Nat.le_refl _) hs hle1 g2)
  case rest =>
    obtain ⟨gq, bq, aq, lq, kq, eq, cq, rfl, rfl, hX, hd, hb, hge⟩ := hcut
    clear IN MU KS g0 hP102
    have hbs2 : u1.heap.size ≤ P102.heap.size := Nat.le_trans hbs1 hst1
    obtain ⟨rq, hans, hlq⟩ := hd.own9
    have hap := HAP.out.snoc hb hbs2 hans
    replace HX := hide (block_upW hb HX.out)
    replace Hp := hide (block_upW hb Hp.out)
    replace HDp := hide (HDp.out.below hb)
    replace HG := hide (bl_trans8 HG.out hb)
    replace HK := hide (HK.out.below' hb)
    replace HAP := hide (HAP.out.below hb)
    replace HAP := hide hap
    have HDq := hide (hd.base hbs2)
    have Hq := hide hX
    have hst2 : P102.heap.size ≤ wc.heap.size := hb.size
    have hgeq : P4.heap.size < gq := by omega
    clear hans hap hd hb hX hge
    obtain ⟨ca0x, cb0x, cc0x⟩ := tri8 HX.out
    have C := yround_ok b0 (some ⟨P4.heap.size, 0, none⟩) z0.length z0 p0 pos 0 wc (HARG.out _ HK.out) (HT.out.below HG.out) (by omega) hE0 hK (by decide)
    rw [HM0.out, HV0.out] at C
    go_wp2_with fail
    refine C.mono ?_
    rintro e Q103 ⟨⟨bu, au, lu, ku, eu, cu, rfl, hd⟩, hb⟩
    clear C ca0x cb0x cc0x
    have hbs3 : u1.heap.size ≤ wc.heap.size := Nat.le_trans hbs2 hst2
    obtain ⟨ru, hans, hlu⟩ := hd.own9
    have hap := HAP.out.snoc hb hbs3 hans
    obtain ⟨P104, hP104, hbP, hx⟩ := enter1 Q103 (.cells #[.bool bu, .slice au lu ku, .int .i64 eu] 39)
    have stp := bl_trans8 hb hbP
    replace HX := hide (block_upW stp HX.out)
    replace Hp := hide (block_upW stp Hp.out)
    replace Hq := hide (block_upW stp Hq.out)
    replace HDp := hide (HDp.out.below stp)
    replace HDq := hide (HDq.out.below stp)
    replace HG := hide (bl_trans8 HG.out stp)
    replace HK := hide (HK.out.below' stp)
    replace HAP := hide (HAP.out.below stp)
    have Hu := hide hx
    replace HAP := hide (hap.below hbP)
    have HDu := hide ((hd.base hbs3).below hbP)
    have hst3 : wc.heap.size ≤ P104.heap.size := stp.size
    have hqs3 : wc.heap.size ≤ Q103.heap.size := hb.size
    clear hans hap hd hb hbP hx stp
    obtain ⟨ca0x, cb0x, cc0x⟩ := tri8 HX.out
    have C := yabs_ok b0 (some ⟨P4.heap.size, 0, none⟩) z0.length z0 p0 P104 (HARG.out _ HK.out) (HT.out.below HG.out) (by omega) hE0
    rw [HM0.out, HV0.out] at C
    go_wp2_with fail
    refine C.mono ?_
    rintro e Q105 ⟨⟨bt, at2, lt, kt, et, ct, rfl, hd⟩, hb⟩
    clear C ca0x cb0x cc0x hP104
    have hbs4 : u1.heap.size ≤ P104.heap.size := Nat.le_trans hbs3 hst3
    obtain ⟨rt, hans, hlt⟩ := hd.own9
    have hap := HAP.out.snoc hb hbs4 hans
    obtain ⟨P106, hP106, hbP, hx⟩ := enter1 Q105 (.cells #[.bool bt, .slice at2 lt kt, .int .i64 et] 39)
    have stp := bl_trans8 hb hbP
    replace HX := hide (block_upW stp HX.out)
    replace Hp := hide (block_upW stp Hp.out)
    replace Hq := hide (block_upW stp Hq.out)
    replace Hu := hide (block_upW stp Hu.out)
    replace HDp := hide (HDp.out.below stp)
    replace HDq := hide (HDq.out.below stp)
    replace HDu := hide (HDu.out.below stp)
    replace HG := hide (bl_trans8 HG.out stp)
    replace HK := hide (HK.out.below' stp)
    replace HAP := hide (HAP.out.below stp)
    have Ht := hide hx
    replace HAP := hide (hap.below hbP)
    have HDt := hide ((hd.base hbs4).below hbP)
    have hst4 : P104.heap.size ≤ P106.heap.size := stp.size
    have hqs4 : P104.heap.size ≤ Q105.heap.size := hb.size
    clear hans hap hd hb hbP hx stp
    go_wp2_with fail
    go_loopw [87] (fun i wr => ∃ k : Nat, k ≤ z0.length ∧ i = .int .i64 k ∧ Blk wr P4.heap.size (xorTo z0 k) ∧ Fr P4.heap.size P106 wr) (fun i _ => z0.length - (intOf i).toNat)
    case atStart => exact ⟨0, Nat.zero_le _, rfl, by rw [xorTo_zero]; exact HK.out, Fr.refl _ _⟩
    case round =>
      obtain ⟨k, hk, rfl, hblk9, hfr0⟩ := hrel
      have hblk : Blk wr P4.heap.size (xorTo z0 k) := hblk9
      clear hblk9
      by_cases hkl : k < z0.length
      · have hfr := hblk.free k
        have hco := hblk.cell k (by rw [xorTo_length]; exact hkl)
        rw [xorTo_at z0 k hkl] at hco
        have hzl : z0.getD k 0 < 18446744073709551616 := by
          have e : z0.getD k 0 = z0[k] := by simp [List.getD, hkl]
          rw [e]
          exact HLM.out _ (List.getElem_mem hkl)
        have HS := hide (xorTo_set z0 k hkl)
        have HB9 := hide (fun z => hblk.set k z)
        have HF := hide hfr0
        generalize z0.getD k 0 = z at *
        have hxr : bits .xor .u64 (z : Int) 9 = ((z ^^^ 9 : Nat) : Int) := bits_xor_u64_nat z 9 hzl (by decide)
        clear hblk hfr0
        go_wp2
        go_roundw
        case rel => exact ⟨k + 1, by omega, by go_num, by rw [← HS.out]; exact HB9.out _, HF.out.setCell _ _⟩
        case measure => simp [intOf]; omega
      · have ek : k = z0.length := by omega
        subst ek
        have hwr : u1.heap.size ≤ wr.heap.size := Nat.le_trans (Nat.le_trans hbs4 hst4) hfr0.size
        obtain ⟨zX, hzX⟩ : ∃ zX, xorTo z0 z0.length = zX := ⟨_, rfl⟩
        have hLX : Limbs zX := by rw [← hzX]; exact xorTo_limbs _ _ HLM.out
        have hlX : zX.length = z0.length := by rw [← hzX]; exact xorTo_length _ _
        rw [hzX] at hblk
        have HK2 := hide hblk
        clear hzX
        replace HX := hide (block_fr HX.out hfr0 (by omega))
        replace Hp := hide (block_fr Hp.out hfr0 (by omega))
        replace Hq := hide (block_fr Hq.out hfr0 (by omega))
        replace Hu := hide (block_fr Hu.out hfr0 (by omega))
        replace Ht := hide (block_fr Ht.out hfr0 (by omega))
        replace HDp := hide (HDp.out.fr hfr0 hl2)
        replace HDq := hide (HDq.out.fr hfr0 hl2)
        replace HDu := hide (HDu.out.fr hfr0 hl2)
        replace HDt := hide (HDt.out.fr hfr0 hl2)
        replace HAP := hide (HAP.out.fr hfr0 hl2)
        replace HG := hide (HG.out.trans (hfr0.below (Nat.le_refl _) (HG.out.size)))
        clear HK hblk hfr0 hk
        have HK := HK2
        clear HK2 HARG hP106
        have HARG := hide (fun (W : World) (h : Blk W P4.heap.size zX) => show Arg W (.slice (some ⟨P4.heap.size, 0, none⟩) zX.length z0.length) zX by have h2 := h.arg9 hLX (by omega); rw [hlX] at h2 ⊢; exact h2)
        have AX := HARG.out _ HK.out
        have F2 := read_facts (b := b0) (ex := p0) AX (by omega) hE0
        have hlO : blen (omz (zz b0 (val zX))).natAbs ≤ 67108864 := by
          have h5 := blen_mono (od_le (zz b0 (val zX)).natAbs)
          have h6 := blen_len8 hLX
          rw [zz_abs] at h5
          rw [omz_abs, zz_abs]; omega
        have hlZ : blen (zz b0 (val zX)).natAbs ≤ 67108864 := by
          have h6 := blen_len8 hLX
          rw [zz_abs]; omega
        obtain ⟨M2, hM2⟩ : ∃ M2, omz (zz b0 (val zX)) = M2 := ⟨_, rfl⟩
        obtain ⟨E2, hE2v⟩ : ∃ E2, oe (zz b0 (val zX)) p0 = E2 := ⟨_, rfl⟩
        rw [hM2, hE2v] at F2
        rw [hM2] at hlO
        have HM2 := hide hM2
        have HV2 := hide hE2v
        have HN2 := hide F2.2.2.2
        have e21 := F2.2.1
        have e22 := F2.2.2.1
        have hE0r := (fitE_iff p0).1 hE0
        clear F2 hM2 hE2v AX
        have ZO := hide (fun (W : World) (hg : Below wr.heap.size wr W) => show Calls Tryz.prog 13 #[.bool b0, .slice (some ⟨P4.heap.size, 0, none⟩) z0.length z0.length] W (ZnDone W (zz b0 (val zX))) by
            have h := rzof_any b0 (.slice (some ⟨P4.heap.size, 0, none⟩) zX.length z0.length) zX W ((HARG.out _ HK.out).below hg) (by omega)
            rw [hlX] at h
            exact h)
        have RO := hide (fun (W : World) (b5 : Bool) (a5 : Option Addr) (n5 k5 : Nat) (h5 : Zn W (.agg #[.bool b5, .slice a5 n5 k5]) (zz b0 (val zX))) => show Calls Tryz.prog 12 #[.agg #[.bool b5, .slice a5 n5 k5], .int .i64 p0] W (DnDone W M2 E2) by
            have h := rdOf_any b5 a5 n5 k5 _ p0 W h5 (by omega) (by omega) (by omega)
            rw [HM2.out, HV2.out] at h
            exact h)
        have KS := hide (fun (W : World) (hg : Below wr.heap.size wr W) => show W.cell? ⟨w.heap.size, 0, none⟩ = some (.bool b0) ∧ W.cell? ⟨w.heap.size, 1, none⟩ = some (.slice a0 z0.length n0) ∧ W.cell? ⟨w.heap.size, 2, none⟩ = some (.int .i64 p0) from ⟨(tri8 (block_upW hg (block_upW HG.out HA.out))).1, (tri8 (block_upW hg (block_upW HG.out HA.out))).2.1, (tri8 (block_upW hg (block_upW HG.out HA.out))).2.2⟩)
        have g0 : Below wr.heap.size wr wr := Below.refl _ _
        go_upto_region 16 with fail
        go_cut [22] from 99 to 105 (fun s wx => ∃ (go : Nat) (bo : Bool) (ao : Option Addr) (lo ko : Nat), s = .pointer (some ⟨go, 0, none⟩) ∧ wx.heap[go]? = some (.cells #[.bool bo, .slice ao lo ko, .int .i64 E2] 29) ∧ Dn wx bo (.slice ao lo ko) M2 ∧ Below wr.heap.size wr wx)
        case first =>
          go_region_held3 (fun w' => w'.cell? ⟨w.heap.size, 0, none⟩ = some (.bool b0) ∧ w'.cell? ⟨w.heap.size, 1, none⟩ = some (.slice a0 z0.length n0) ∧ w'.cell? ⟨w.heap.size, 2, none⟩ = some (.int .i64 p0)) (first | (refine KS.out _ ?_; repeat (first | with_reducible assumption | with_reducible exact Below.refl _ _ | with_reducible apply bl_alloc8 | with_reducible apply bl_drew8 | (with_reducible refine below_tri8 ?_ (by omega) _ _ _)))) (first
            | (go_at_call 12; refine (RO.out _ b5 a5 n5 k5 (y5.below (by repeat (first | with_reducible exact Below.refl _ _ | with_reducible apply bl_alloc8)))).mono ?_; rintro e' t2 ⟨⟨bd, ad, ld, kd, rfl, hs⟩, hb2⟩; have g2 : Below wr.heap.size wr t2 := bl_trans8 (by repeat (first | with_reducible exact g1 | with_reducible apply bl_alloc8)) hb2; have hle1 := g1.size; (first | (with_reducible have hq := made19 hb2; obtain ⟨z0c, z1c, z2c⟩ := tri8 hq; have zf := tri8f hq) | (with_reducible have hq := block_upW hb2 hpA; obtain ⟨z0c, z1c, z2c⟩ := tri8 hq; have zf := tri8f hq) | skip))
            | (go_at_call 13; refine (ZO.out _ (by repeat (first | with_reducible exact Below.refl _ _ | with_reducible apply bl_alloc8 | with_reducible apply bl_drew8))).mono ?_; rintro e' t1 ⟨⟨b5, a5, n5, k5, rfl, y5⟩, hb1⟩; have g1 : Below wr.heap.size wr t1 := bl_trans8 (by repeat (first | with_reducible exact Below.refl _ _ | with_reducible apply bl_alloc8 | with_reducible apply bl_drew8)) hb1; (first | (with_reducible have hpA := made1d9 hb1) | (with_reducible have hpA := made19 hb1) | skip)))
          all_goals (go_wp2_with fail; go_meet; first
            | exact ⟨_, bd, ad, ld, kd, rfl, heap_alloc_new _ _, hs.below (below_one6 _ _), bl_alloc8 g2 _⟩
            | exact ⟨_, bd, ad, ld, kd, rfl, tri8_all hq _ _ _, hs.tri8 hq bd ad ld kd (.int .i64 E2), below_tri8 g2 hle1 _ _ _⟩
            | exact ⟨_, bd, ad, ld, kd, rfl, tri8_all hq _ _ _, hs.tri8 hq bd ad ld kd (.int .i64 E2), below_tri8 g2 (Nat.le_refl _) _ _ _⟩)
        case rest =>
          obtain ⟨go, bo, ao, lo, ko, rfl, hX, hd, hb⟩ := hcut
          clear ZO RO KS g0
          replace HX := hide (block_upW hb HX.out)
          replace Hp := hide (block_upW hb Hp.out)
          replace Hq := hide (block_upW hb Hq.out)
          replace Hu := hide (block_upW hb Hu.out)
          replace Ht := hide (block_upW hb Ht.out)
          replace HDp := hide (HDp.out.below hb)
          replace HDq := hide (HDq.out.below hb)
          replace HDu := hide (HDu.out.below hb)
          replace HDt := hide (HDt.out.below hb)
          replace HG := hide (bl_trans8 HG.out hb)
          replace HK := hide (HK.out.below' hb)
          replace HAP := hide (HAP.out.below hb)
          have Ho := hide hX
          have HDo := hide hd
          have hwc : wr.heap.size ≤ wc.heap.size := hb.size
          clear hX hd hb
          obtain ⟨ca0x, cb0x, cc0x⟩ := tri8 HX.out
          have C := yround_ok b0 (some ⟨P4.heap.size, 0, none⟩) z0.length zX p0 pos 0 wc (HARG.out _ HK.out) (HT.out.below HG.out) (by omega) hE0 hK (by decide)
          rw [HM2.out, HV2.out] at C
          rw [hlX] at C
          go_wp2_with fail
          refine C.mono ?_
          rintro e Q107 ⟨⟨br, ar, lr, kr, er, cr, rfl, hd⟩, hb⟩
          clear C ca0x cb0x cc0x
          have hbs5 : u1.heap.size ≤ wc.heap.size := Nat.le_trans hwr hwc
          obtain ⟨rr, hans, hlr⟩ := hd.own9
          have hap := HAP.out.snoc hb hbs5 hans
          obtain ⟨P108, hP108, hbP, hx⟩ := enter1 Q107 (.cells #[.bool br, .slice ar lr kr, .int .i64 er] 39)
          have stp := bl_trans8 hb hbP
          replace HX := hide (block_upW stp HX.out)
          replace Hp := hide (block_upW stp Hp.out)
          replace Hq := hide (block_upW stp Hq.out)
          replace Hu := hide (block_upW stp Hu.out)
          replace Ht := hide (block_upW stp Ht.out)
          replace Ho := hide (block_upW stp Ho.out)
          replace HDp := hide (HDp.out.below stp)
          replace HDq := hide (HDq.out.below stp)
          replace HDu := hide (HDu.out.below stp)
          replace HDt := hide (HDt.out.below stp)
          replace HDo := hide (HDo.out.below stp)
          replace HG := hide (bl_trans8 HG.out stp)
          replace HK := hide (HK.out.below' stp)
          replace HAP := hide (HAP.out.below stp)
          have Hr := hide hx
          replace HAP := hide (hap.below hbP)
          have HDr := hide ((hd.base hbs5).below hbP)
          have hst5 : wc.heap.size ≤ P108.heap.size := stp.size
          have hqs5 : wc.heap.size ≤ Q107.heap.size := hb.size
          clear hans hap hd hb hbP hx stp
          have IN := hide (fun (W : World) => in8_any b1 a1 z1.length n1 p1 W)
          have MU := hide (fun (W : World) (hg : Below P108.heap.size P108 W) => show Calls Tryz.prog 9 #[.agg #[.bool b0, .slice (some ⟨P4.heap.size, 0, none⟩) z0.length z0.length, .int .i64 p0], .agg #[.bool b1, .slice a1 z1.length n1, .int .i64 p1]] W (fun e w' => DRes w' W.heap.size e (omz (M2 * M1)) (oe (M2 * M1) (E2 + E1)) ∧ Below W.heap.size W w') by
              have C := ymul_full b0 (some ⟨P4.heap.size, 0, none⟩) z0.length zX p0 b1 a1 n1 z1 p1 W ((HT.out.below HG.out).below hg) ((HARG.out _ HK.out).below hg) ((HA1.out.below HG.out).below hg) (by omega) (by omega) hE0 hE1
              rw [HM2.out, HV2.out, HM1.out, HV1.out, hlX] at C
              exact C)
          have KS := hide (fun (W : World) (hg : Below P108.heap.size P108 W) => show W.cell? ⟨w1.heap.size, 0, none⟩ = some (.bool b0) ∧ W.cell? ⟨w1.heap.size, 1, none⟩ = some (.slice (some ⟨P4.heap.size, 0, none⟩) z0.length z0.length) ∧ W.cell? ⟨w1.heap.size, 2, none⟩ = some (.int .i64 p0) ∧ W.cell? ⟨w.heap.size + 1, 0, none⟩ = some (.bool b1) ∧ W.cell? ⟨w.heap.size + 1, 1, none⟩ = some (.slice a1 z1.length n1) ∧ W.cell? ⟨w.heap.size + 1, 2, none⟩ = some (.int .i64 p1) from ⟨(tri8 (block_upW hg HX.out)).1, (tri8 (block_upW hg HX.out)).2.1, (tri8 (block_upW hg HX.out)).2.2, (tri8 (block_upW hg (block_upW HG.out HB.out))).1, (tri8 (block_upW hg (block_upW HG.out HB.out))).2.1, (tri8 (block_upW hg (block_upW HG.out HB.out))).2.2⟩)
          have g0 : Below P108.heap.size P108 P108 := Below.refl _ _
          generalize hMQ : omz (M2 * M1) = MQs at *
          generalize hEQ : oe (M2 * M1) (E2 + E1) = EQs at *
          have HQs := hide (And.intro hMQ hEQ)
          clear hMQ hEQ
          go_upto_region 18 with fail
          go_cut [25, 26] from 112 to 118 (fun s t wx => OneY P108 MQs EQs s t wx)
          case first =>
            go_region_held3 (fun w' => w'.cell? ⟨w1.heap.size, 0, none⟩ = some (.bool b0) ∧ w'.cell? ⟨w1.heap.size, 1, none⟩ = some (.slice (some ⟨P4.heap.size, 0, none⟩) z0.length z0.length) ∧ w'.cell? ⟨w1.heap.size, 2, none⟩ = some (.int .i64 p0) ∧ w'.cell? ⟨w.heap.size + 1, 0, none⟩ = some (.bool b1) ∧ w'.cell? ⟨w.heap.size + 1, 1, none⟩ = some (.slice a1 z1.length n1) ∧ w'.cell? ⟨w.heap.size + 1, 2, none⟩ = some (.int .i64 p1)) (first | (refine KS.out _ ?_; repeat (first | with_reducible assumption | with_reducible exact Below.refl _ _ | with_reducible apply bl_alloc8 | with_reducible apply bl_drew8 | (with_reducible refine below_tri8 ?_ (by omega) _ _ _)))) (first
              | (go_at_call 9; refine (MU.out _ (by repeat (first | with_reducible exact g1 | with_reducible apply bl_alloc8))).mono ?_; rintro e' t2 ⟨⟨bd, ad, ld, kd, ed, fd, rfl, hs⟩, hb2⟩; have g2 : Below P108.heap.size P108 t2 := bl_trans8 (by repeat (first | with_reducible exact g1 | with_reducible apply bl_alloc8)) hb2; have hle1 := g1.size; (first | (with_reducible have hq := made19 hb2; obtain ⟨z0c, z1c, z2c⟩ := tri8 hq; have zf := tri8f hq; have hle2 : P108.heap.size ≤ (t1.alloc (.cells #[.bool false, .slice none 0 0, .int .i64 0] 39)).heap.size := by simp; omega) | (with_reducible have hq := block_upW hb2 hpA; obtain ⟨z0c, z1c, z2c⟩ := tri8 hq; have zf := tri8f hq) | skip))
              | (go_at_call 10; refine (IN.out _).mono ?_; rintro e' t1 ⟨rfl, hb1⟩; have g1 : Below P108.heap.size P108 t1 := bl_trans8 (by repeat (first | with_reducible exact Below.refl _ _ | with_reducible apply bl_alloc8 | with_reducible apply bl_drew8)) hb1; (first | (with_reducible have hpA := made1d9 hb1) | (with_reducible have hpA := made19 hb1) | skip)))
            all_goals (go_wp2_with fail; go_meet; first
              | with_reducible exact one_y hs hle1 g2
              | with_reducible exact one_ys hq hle1 hs hle2 g2
              | with_reducible exact one_ys hq (Nat.le_refl _) hs hle1 g2)
          case rest =>
            obtain ⟨gs, bs, as2, ls, ks, es, cs, rfl, rfl, hX, hd, hb, hge⟩ := hcut
            clear IN MU KS g0 hP108
            have hbs6 : u1.heap.size ≤ P108.heap.size := Nat.le_trans hbs5 hst5
            obtain ⟨rs, hans, hls⟩ := hd.own9
            have hap := HAP.out.snoc hb hbs6 hans
            replace HX := hide (block_upW hb HX.out)
            replace Hp := hide (block_upW hb Hp.out)
            replace Hq := hide (block_upW hb Hq.out)
            replace Hu := hide (block_upW hb Hu.out)
            replace Ht := hide (block_upW hb Ht.out)
            replace Ho := hide (block_upW hb Ho.out)
            replace Hr := hide (block_upW hb Hr.out)
            replace HDp := hide (HDp.out.below hb)
            replace HDq := hide (HDq.out.below hb)
            replace HDu := hide (HDu.out.below hb)
            replace HDt := hide (HDt.out.below hb)
            replace HDo := hide (HDo.out.below hb)
            replace HDr := hide (HDr.out.below hb)
            replace HG := hide (bl_trans8 HG.out hb)
            replace HK := hide (HK.out.below' hb)
            replace HAP := hide (HAP.out.below hb)
            replace HAP := hide hap
            have HDs := hide (hd.base hbs6)
            have Hs := hide hX
            have hst6 : P108.heap.size ≤ wc.heap.size := hb.size
            have hges : P4.heap.size < gs := by omega
            clear hans hap hd hb hX hge
            obtain ⟨ca0x, cb0x, cc0x⟩ := tri8 HX.out
            have C := yabs_ok b0 (some ⟨P4.heap.size, 0, none⟩) z0.length zX p0 wc (HARG.out _ HK.out) (HT.out.below HG.out) (by omega) hE0
            rw [HM2.out, HV2.out] at C
            rw [hlX] at C
            go_wp2_with fail
            refine C.mono ?_
            rintro e Q109 ⟨⟨bv, av, lv, kv, ev, cv, rfl, hd⟩, hb⟩
            clear C ca0x cb0x cc0x
            have hbs7 : u1.heap.size ≤ wc.heap.size := Nat.le_trans hbs6 hst6
            obtain ⟨rv, hans, hlv⟩ := hd.own9
            have hap := HAP.out.snoc hb hbs7 hans
            obtain ⟨P110, hP110, hbP, hx⟩ := enter1 Q109 (.cells #[.bool bv, .slice av lv kv, .int .i64 ev] 39)
            have stp := bl_trans8 hb hbP
            replace HX := hide (block_upW stp HX.out)
            replace Hp := hide (block_upW stp Hp.out)
            replace Hq := hide (block_upW stp Hq.out)
            replace Hu := hide (block_upW stp Hu.out)
            replace Ht := hide (block_upW stp Ht.out)
            replace Ho := hide (block_upW stp Ho.out)
            replace Hr := hide (block_upW stp Hr.out)
            replace Hs := hide (block_upW stp Hs.out)
            replace HDp := hide (HDp.out.below stp)
            replace HDq := hide (HDq.out.below stp)
            replace HDu := hide (HDu.out.below stp)
            replace HDt := hide (HDt.out.below stp)
            replace HDo := hide (HDo.out.below stp)
            replace HDr := hide (HDr.out.below stp)
            replace HDs := hide (HDs.out.below stp)
            replace HG := hide (bl_trans8 HG.out stp)
            replace HK := hide (HK.out.below' stp)
            replace HAP := hide (HAP.out.below stp)
            have Hv := hide hx
            replace HAP := hide (hap.below hbP)
            have HDv := hide ((hd.base hbs7).below hbP)
            have hst7 : wc.heap.size ≤ P110.heap.size := stp.size
            have hqs7 : wc.heap.size ≤ Q109.heap.size := hb.size
            clear hans hap hd hb hbP hx stp
            have stp : Below P110.heap.size P110 P110.drew := (Below.refl _ _).drew
            replace HX := hide (block_upW stp HX.out)
            replace Hp := hide (block_upW stp Hp.out)
            replace Hq := hide (block_upW stp Hq.out)
            replace Hu := hide (block_upW stp Hu.out)
            replace Ht := hide (block_upW stp Ht.out)
            replace Ho := hide (block_upW stp Ho.out)
            replace Hr := hide (block_upW stp Hr.out)
            replace Hs := hide (block_upW stp Hs.out)
            replace Hv := hide (block_upW stp Hv.out)
            replace HDp := hide (HDp.out.below stp)
            replace HDq := hide (HDq.out.below stp)
            replace HDu := hide (HDu.out.below stp)
            replace HDt := hide (HDt.out.below stp)
            replace HDo := hide (HDo.out.below stp)
            replace HDr := hide (HDr.out.below stp)
            replace HDs := hide (HDs.out.below stp)
            replace HDv := hide (HDv.out.below stp)
            replace HG := hide (bl_trans8 HG.out stp)
            replace HK := hide (HK.out.below' stp)
            replace HAP := hide (HAP.out.below stp)
            clear stp
            obtain ⟨LS, hLS⟩ : ∃ LS : List (Nat × Obj), LS = [(Q101.heap.size, .cells #[.bool bp, .slice ap lp kp, .int .i64 ep] 39), (Q103.heap.size, .cells #[.bool bu, .slice au lu ku, .int .i64 eu] 39), (gq, .cells #[.bool bq, .slice aq lq kq, .int .i64 eq] 39), (Q105.heap.size, .cells #[.bool bt, .slice at2 lt kt, .int .i64 et] 39), (Q1.heap.size, .cells #[.bool bm, .slice am lm km, .int .i64 E0] 29), (Q3.heap.size, .cells #[.bool bn, .slice an ln kn, .int .i64 E1] 29)] := ⟨_, rfl⟩
            have s0 : Bx P110.drew LS := by rw [hLS]; exact Bx.cons Hp.out (Bx.cons Hu.out (Bx.cons Hq.out (Bx.cons Ht.out (Bx.cons (block_upW HG.out Hm.out) (Bx.cons (block_upW HG.out Hn.out) (Bx.nil _))))))
            have KS := hide (fun (W : World) (h : Bx W LS) => show W.cell? ⟨Q101.heap.size, 0, none⟩ = some (.bool bp) ∧ W.cell? ⟨Q101.heap.size, 1, none⟩ = some (.slice ap lp kp) ∧ W.cell? ⟨Q101.heap.size, 2, none⟩ = some (.int .i64 ep) ∧ W.cell? ⟨Q103.heap.size, 0, none⟩ = some (.bool bu) ∧ W.cell? ⟨Q103.heap.size, 1, none⟩ = some (.slice au lu ku) ∧ W.cell? ⟨Q103.heap.size, 2, none⟩ = some (.int .i64 eu) ∧ W.cell? ⟨gq, 0, none⟩ = some (.bool bq) ∧ W.cell? ⟨gq, 1, none⟩ = some (.slice aq lq kq) ∧ W.cell? ⟨gq, 2, none⟩ = some (.int .i64 eq) ∧ W.cell? ⟨Q105.heap.size, 0, none⟩ = some (.bool bt) ∧ W.cell? ⟨Q105.heap.size, 1, none⟩ = some (.slice at2 lt kt) ∧ W.cell? ⟨Q105.heap.size, 2, none⟩ = some (.int .i64 et) ∧ W.cell? ⟨Q1.heap.size, 0, none⟩ = some (.bool bm) ∧ W.cell? ⟨Q1.heap.size, 1, none⟩ = some (.slice am lm km) ∧ W.cell? ⟨Q1.heap.size, 2, none⟩ = some (.int .i64 E0) ∧ W.cell? ⟨Q3.heap.size, 0, none⟩ = some (.bool bn) ∧ W.cell? ⟨Q3.heap.size, 1, none⟩ = some (.slice an ln kn) ∧ W.cell? ⟨Q3.heap.size, 2, none⟩ = some (.int .i64 E1) by rw [hLS] at h; exact ⟨(tri8 (h 0 _ _ rfl)).1, (tri8 (h 0 _ _ rfl)).2.1, (tri8 (h 0 _ _ rfl)).2.2, (tri8 (h 1 _ _ rfl)).1, (tri8 (h 1 _ _ rfl)).2.1, (tri8 (h 1 _ _ rfl)).2.2, (tri8 (h 2 _ _ rfl)).1, (tri8 (h 2 _ _ rfl)).2.1, (tri8 (h 2 _ _ rfl)).2.2, (tri8 (h 3 _ _ rfl)).1, (tri8 (h 3 _ _ rfl)).2.1, (tri8 (h 3 _ _ rfl)).2.2, (tri8 (h 4 _ _ rfl)).1, (tri8 (h 4 _ _ rfl)).2.1, (tri8 (h 4 _ _ rfl)).2.2, (tri8 (h 5 _ _ rfl)).1, (tri8 (h 5 _ _ rfl)).2.1, (tri8 (h 5 _ _ rfl)).2.2⟩)
            have g0 : Below P110.drew.heap.size P110.drew P110.drew := Below.refl _ _
            clear hLS
            have K1 := hide (fun (W : World) (hg : Below P110.drew.heap.size P110.drew W) => rdRound_any bm am lm km M0 E0 pos 0 W ((HDm.out.below HG.out).below hg) HN0.out (by omega) e01 e02 (by omega) (by omega) (.inl rfl))
            have K5 := hide (fun (W : World) (hg : Below P110.drew.heap.size P110.drew W) => rdMul_any bm am lm km M0 E0 bn an ln kn M1 E1 W ((HDm.out.below HG.out).below hg) ((HDn.out.below HG.out).below hg) (by omega) (by omega) (by omega) (by omega) (by omega))
            have K7 := hide (fun (W : World) (hg : Below P110.drew.heap.size P110.drew W) => rdAbs_any bm am lm km M0 E0 W ((HDm.out.below HG.out).below hg))
            rw [HQq.out.1, HQq.out.2] at K5
            go_wp2_with fail
            try dsimp only [List.append]
            go_region_held3 (fun w' => w'.cell? ⟨Q101.heap.size, 0, none⟩ = some (.bool bp) ∧ w'.cell? ⟨Q101.heap.size, 1, none⟩ = some (.slice ap lp kp) ∧ w'.cell? ⟨Q101.heap.size, 2, none⟩ = some (.int .i64 ep) ∧ w'.cell? ⟨Q103.heap.size, 0, none⟩ = some (.bool bu) ∧ w'.cell? ⟨Q103.heap.size, 1, none⟩ = some (.slice au lu ku) ∧ w'.cell? ⟨Q103.heap.size, 2, none⟩ = some (.int .i64 eu) ∧ w'.cell? ⟨gq, 0, none⟩ = some (.bool bq) ∧ w'.cell? ⟨gq, 1, none⟩ = some (.slice aq lq kq) ∧ w'.cell? ⟨gq, 2, none⟩ = some (.int .i64 eq) ∧ w'.cell? ⟨Q105.heap.size, 0, none⟩ = some (.bool bt) ∧ w'.cell? ⟨Q105.heap.size, 1, none⟩ = some (.slice at2 lt kt) ∧ w'.cell? ⟨Q105.heap.size, 2, none⟩ = some (.int .i64 et) ∧ w'.cell? ⟨Q1.heap.size, 0, none⟩ = some (.bool bm) ∧ w'.cell? ⟨Q1.heap.size, 1, none⟩ = some (.slice am lm km) ∧ w'.cell? ⟨Q1.heap.size, 2, none⟩ = some (.int .i64 E0) ∧ w'.cell? ⟨Q3.heap.size, 0, none⟩ = some (.bool bn) ∧ w'.cell? ⟨Q3.heap.size, 1, none⟩ = some (.slice an ln kn) ∧ w'.cell? ⟨Q3.heap.size, 2, none⟩ = some (.int .i64 E1)) (first | with_reducible exact KS.out _ s8 | with_reducible exact KS.out _ s7 | with_reducible exact KS.out _ s6 | with_reducible exact KS.out _ s5 | with_reducible exact KS.out _ s4 | with_reducible exact KS.out _ s3 | with_reducible exact KS.out _ s2 | with_reducible exact KS.out _ s1 | with_reducible exact KS.out _ s0) (first
              | (go_at_call_of 14 at2; refine (alike8_ok bt at2 lt kt et ct b27 a27 n27 k27 _ _ _ t7 (HDt.out.below g7) y7).mono ?_; rintro e' t8 ⟨rfl, hb8⟩; have g8 := bl_trans8 g7 hb8; have s8 := s7.below hb8; clear s7)
              | (go_at_call 17; refine (K7.out _ g6).mono ?_; rintro e' t7 ⟨⟨b27, a27, n27, k27, rfl, y7⟩, hb7⟩; have g7 := bl_trans8 g6 hb7; have s7 := s6.below hb7; clear s6)
              | (go_at_call_of 14 aq; refine (alike8_ok bq aq lq kq eq cq b25 a25 n25 k25 _ _ _ t5 (HDq.out.below g5) y5).mono ?_; rintro e' t6 ⟨rfl, hb6⟩; have g6 := bl_trans8 g5 hb6; have s6 := s5.below hb6; clear s5)
              | (go_at_call 16; refine (K5.out _ g4).mono ?_; rintro e' t5 ⟨⟨b25, a25, n25, k25, rfl, y5⟩, hb5⟩; have g5 := bl_trans8 g4 hb5; have s5 := s4.below hb5; clear s4)
              | (go_at_call_of 14 au; refine (alike8_ok bu au lu ku eu cu b23 a23 n23 k23 _ _ _ t3 (HDu.out.below g3) y3).mono ?_; rintro e' t4 ⟨rfl, hb4⟩; have g4 := bl_trans8 g3 hb4; have s4 := s3.below hb4; clear s3)
              | (go_at_call 15; refine (K1.out _ g2).mono ?_; rintro e' t3 ⟨⟨b23, a23, n23, k23, rfl, y3⟩, hb3⟩; have g3 := bl_trans8 g2 hb3; have s3 := s2.below hb3; clear s2)
              | (go_at_call_of 14 ap; refine (alike8_ok bp ap lp kp ep cp b21 a21 n21 k21 _ _ _ t1 (HDp.out.below g1) y1).mono ?_; rintro e' t2 ⟨rfl, hb2⟩; have g2 := bl_trans8 g1 hb2; have s2 := s1.below hb2; clear s1)
              | (go_at_call 15; refine (K1.out _ g0).mono ?_; rintro e' t1 ⟨⟨b21, a21, n21, k21, rfl, y1⟩, hb1⟩; have g1 := bl_trans8 g0 hb1; have s1 := s0.below hb1; clear s0))
            replace HX := hide (block_upW g8 HX.out)
            replace Hp := hide (block_upW g8 Hp.out)
            replace Hq := hide (block_upW g8 Hq.out)
            replace Hu := hide (block_upW g8 Hu.out)
            replace Ht := hide (block_upW g8 Ht.out)
            replace Ho := hide (block_upW g8 Ho.out)
            replace Hr := hide (block_upW g8 Hr.out)
            replace Hs := hide (block_upW g8 Hs.out)
            replace Hv := hide (block_upW g8 Hv.out)
            replace HDp := hide (HDp.out.below g8)
            replace HDq := hide (HDq.out.below g8)
            replace HDu := hide (HDu.out.below g8)
            replace HDt := hide (HDt.out.below g8)
            replace HDo := hide (HDo.out.below g8)
            replace HDr := hide (HDr.out.below g8)
            replace HDs := hide (HDs.out.below g8)
            replace HDv := hide (HDv.out.below g8)
            replace HG := hide (bl_trans8 HG.out g8)
            replace HK := hide (HK.out.below' g8)
            replace HAP := hide (HAP.out.below g8)
            have hz1 : P110.heap.size ≤ t8.heap.size := g8.size
            clear hb1 hb2 hb3 hb4 hb5 hb6 hb7 hb8 g0 g1 g2 g3 g4 g5 g6 g7 g8 s8 KS K1 K5 K7
            have stp : Below t8.heap.size t8 t8.drew := (Below.refl _ _).drew
            replace HX := hide (block_upW stp HX.out)
            replace Hp := hide (block_upW stp Hp.out)
            replace Hq := hide (block_upW stp Hq.out)
            replace Hu := hide (block_upW stp Hu.out)
            replace Ht := hide (block_upW stp Ht.out)
            replace Ho := hide (block_upW stp Ho.out)
            replace Hr := hide (block_upW stp Hr.out)
            replace Hs := hide (block_upW stp Hs.out)
            replace Hv := hide (block_upW stp Hv.out)
            replace HDp := hide (HDp.out.below stp)
            replace HDq := hide (HDq.out.below stp)
            replace HDu := hide (HDu.out.below stp)
            replace HDt := hide (HDt.out.below stp)
            replace HDo := hide (HDo.out.below stp)
            replace HDr := hide (HDr.out.below stp)
            replace HDs := hide (HDs.out.below stp)
            replace HDv := hide (HDv.out.below stp)
            replace HG := hide (bl_trans8 HG.out stp)
            replace HK := hide (HK.out.below' stp)
            replace HAP := hide (HAP.out.below stp)
            clear stp
            obtain ⟨LS, hLS⟩ : ∃ LS : List (Nat × Obj), LS = [(Q107.heap.size, .cells #[.bool br, .slice ar lr kr, .int .i64 er] 39), (gs, .cells #[.bool bs, .slice as2 ls ks, .int .i64 es] 39), (Q109.heap.size, .cells #[.bool bv, .slice av lv kv, .int .i64 ev] 39), (go, .cells #[.bool bo, .slice ao lo ko, .int .i64 E2] 29), (Q3.heap.size, .cells #[.bool bn, .slice an ln kn, .int .i64 E1] 29)] := ⟨_, rfl⟩
            have s0 : Bx t8.drew LS := by rw [hLS]; exact Bx.cons Hr.out (Bx.cons Hs.out (Bx.cons Hv.out (Bx.cons Ho.out (Bx.cons (block_upW HG.out Hn.out) (Bx.nil _)))))
            have KS := hide (fun (W : World) (h : Bx W LS) => show W.cell? ⟨Q107.heap.size, 0, none⟩ = some (.bool br) ∧ W.cell? ⟨Q107.heap.size, 1, none⟩ = some (.slice ar lr kr) ∧ W.cell? ⟨Q107.heap.size, 2, none⟩ = some (.int .i64 er) ∧ W.cell? ⟨gs, 0, none⟩ = some (.bool bs) ∧ W.cell? ⟨gs, 1, none⟩ = some (.slice as2 ls ks) ∧ W.cell? ⟨gs, 2, none⟩ = some (.int .i64 es) ∧ W.cell? ⟨Q109.heap.size, 0, none⟩ = some (.bool bv) ∧ W.cell? ⟨Q109.heap.size, 1, none⟩ = some (.slice av lv kv) ∧ W.cell? ⟨Q109.heap.size, 2, none⟩ = some (.int .i64 ev) ∧ W.cell? ⟨go, 0, none⟩ = some (.bool bo) ∧ W.cell? ⟨go, 1, none⟩ = some (.slice ao lo ko) ∧ W.cell? ⟨go, 2, none⟩ = some (.int .i64 E2) ∧ W.cell? ⟨Q3.heap.size, 0, none⟩ = some (.bool bn) ∧ W.cell? ⟨Q3.heap.size, 1, none⟩ = some (.slice an ln kn) ∧ W.cell? ⟨Q3.heap.size, 2, none⟩ = some (.int .i64 E1) by rw [hLS] at h; exact ⟨(tri8 (h 0 _ _ rfl)).1, (tri8 (h 0 _ _ rfl)).2.1, (tri8 (h 0 _ _ rfl)).2.2, (tri8 (h 1 _ _ rfl)).1, (tri8 (h 1 _ _ rfl)).2.1, (tri8 (h 1 _ _ rfl)).2.2, (tri8 (h 2 _ _ rfl)).1, (tri8 (h 2 _ _ rfl)).2.1, (tri8 (h 2 _ _ rfl)).2.2, (tri8 (h 3 _ _ rfl)).1, (tri8 (h 3 _ _ rfl)).2.1, (tri8 (h 3 _ _ rfl)).2.2, (tri8 (h 4 _ _ rfl)).1, (tri8 (h 4 _ _ rfl)).2.1, (tri8 (h 4 _ _ rfl)).2.2⟩)
            have g0 : Below t8.drew.heap.size t8.drew t8.drew := Below.refl _ _
            clear hLS
            have K1 := hide (fun (W : World) (hg : Below t8.drew.heap.size t8.drew W) => rdRound_any bo ao lo ko M2 E2 pos 0 W (HDo.out.below hg) HN2.out (by omega) e21 e22 (by omega) (by omega) (.inl rfl))
            have K3 := hide (fun (W : World) (hg : Below t8.drew.heap.size t8.drew W) => rdMul_any bo ao lo ko M2 E2 bn an ln kn M1 E1 W (HDo.out.below hg) ((HDn.out.below HG.out).below hg) (by omega) (by omega) (by omega) (by omega) (by omega))
            have K5 := hide (fun (W : World) (hg : Below t8.drew.heap.size t8.drew W) => rdAbs_any bo ao lo ko M2 E2 W (HDo.out.below hg))
            rw [HQs.out.1, HQs.out.2] at K3
            go_wp2_with fail
            try dsimp only [List.append]
            go_region_held3 (fun w' => w'.cell? ⟨Q107.heap.size, 0, none⟩ = some (.bool br) ∧ w'.cell? ⟨Q107.heap.size, 1, none⟩ = some (.slice ar lr kr) ∧ w'.cell? ⟨Q107.heap.size, 2, none⟩ = some (.int .i64 er) ∧ w'.cell? ⟨gs, 0, none⟩ = some (.bool bs) ∧ w'.cell? ⟨gs, 1, none⟩ = some (.slice as2 ls ks) ∧ w'.cell? ⟨gs, 2, none⟩ = some (.int .i64 es) ∧ w'.cell? ⟨Q109.heap.size, 0, none⟩ = some (.bool bv) ∧ w'.cell? ⟨Q109.heap.size, 1, none⟩ = some (.slice av lv kv) ∧ w'.cell? ⟨Q109.heap.size, 2, none⟩ = some (.int .i64 ev) ∧ w'.cell? ⟨go, 0, none⟩ = some (.bool bo) ∧ w'.cell? ⟨go, 1, none⟩ = some (.slice ao lo ko) ∧ w'.cell? ⟨go, 2, none⟩ = some (.int .i64 E2) ∧ w'.cell? ⟨Q3.heap.size, 0, none⟩ = some (.bool bn) ∧ w'.cell? ⟨Q3.heap.size, 1, none⟩ = some (.slice an ln kn) ∧ w'.cell? ⟨Q3.heap.size, 2, none⟩ = some (.int .i64 E1)) (first | with_reducible exact KS.out _ s6 | with_reducible exact KS.out _ s5 | with_reducible exact KS.out _ s4 | with_reducible exact KS.out _ s3 | with_reducible exact KS.out _ s2 | with_reducible exact KS.out _ s1 | with_reducible exact KS.out _ s0) (first
              | (go_at_call_of 14 av; refine (alike8_ok bv av lv kv ev cv b35 a35 n35 k35 _ _ _ x5 (HDv.out.below g5) y5).mono ?_; rintro e' x6 ⟨rfl, hb6⟩; have g6 := bl_trans8 g5 hb6; have s6 := s5.below hb6; clear s5)
              | (go_at_call 17; refine (K5.out _ g4).mono ?_; rintro e' x5 ⟨⟨b35, a35, n35, k35, rfl, y5⟩, hb5⟩; have g5 := bl_trans8 g4 hb5; have s5 := s4.below hb5; clear s4)
              | (go_at_call_of 14 as2; refine (alike8_ok bs as2 ls ks es cs b33 a33 n33 k33 _ _ _ x3 (HDs.out.below g3) y3).mono ?_; rintro e' x4 ⟨rfl, hb4⟩; have g4 := bl_trans8 g3 hb4; have s4 := s3.below hb4; clear s3)
              | (go_at_call 16; refine (K3.out _ g2).mono ?_; rintro e' x3 ⟨⟨b33, a33, n33, k33, rfl, y3⟩, hb3⟩; have g3 := bl_trans8 g2 hb3; have s3 := s2.below hb3; clear s2)
              | (go_at_call_of 14 ar; refine (alike8_ok br ar lr kr er cr b31 a31 n31 k31 _ _ _ x1 (HDr.out.below g1) y1).mono ?_; rintro e' x2 ⟨rfl, hb2⟩; have g2 := bl_trans8 g1 hb2; have s2 := s1.below hb2; clear s1)
              | (go_at_call 15; refine (K1.out _ g0).mono ?_; rintro e' x1 ⟨⟨b31, a31, n31, k31, rfl, y1⟩, hb1⟩; have g1 := bl_trans8 g0 hb1; have s1 := s0.below hb1; clear s0))
            replace HX := hide (block_upW g6 HX.out)
            replace Hp := hide (block_upW g6 Hp.out)
            replace Hq := hide (block_upW g6 Hq.out)
            replace Hu := hide (block_upW g6 Hu.out)
            replace Ht := hide (block_upW g6 Ht.out)
            replace Ho := hide (block_upW g6 Ho.out)
            replace Hr := hide (block_upW g6 Hr.out)
            replace Hs := hide (block_upW g6 Hs.out)
            replace Hv := hide (block_upW g6 Hv.out)
            replace HDp := hide (HDp.out.below g6)
            replace HDq := hide (HDq.out.below g6)
            replace HDu := hide (HDu.out.below g6)
            replace HDt := hide (HDt.out.below g6)
            replace HDo := hide (HDo.out.below g6)
            replace HDr := hide (HDr.out.below g6)
            replace HDs := hide (HDs.out.below g6)
            replace HDv := hide (HDv.out.below g6)
            replace HG := hide (bl_trans8 HG.out g6)
            replace HK := hide (HK.out.below' g6)
            replace HAP := hide (HAP.out.below g6)
            have hz2 : t8.heap.size ≤ x6.heap.size := g6.size
            clear hb1 hb2 hb3 hb4 hb5 hb6 g0 g1 g2 g3 g4 g5 g6 s6 KS K1 K3 K5
            obtain ⟨cbp0, cbp1, cbp2⟩ := tri8 Hp.out
            obtain ⟨cbq0, cbq1, cbq2⟩ := tri8 Hq.out
            obtain ⟨cbu0, cbu1, cbu2⟩ := tri8 Hu.out
            obtain ⟨cbt0, cbt1, cbt2⟩ := tri8 Ht.out
            obtain ⟨cbr0, cbr1, cbr2⟩ := tri8 Hr.out
            obtain ⟨cbs0, cbs1, cbs2⟩ := tri8 Hs.out
            obtain ⟨cbv0, cbv1, cbv2⟩ := tri8 Hv.out
            have OWN := own_aparts u1.heap.size [.slice ap lp kp, .slice aq lq kq, .slice au lu ku, .slice at2 lt kt, .slice ar lr kr, .slice as2 ls ks, .slice av lv kv] [rp, rq, ru, rt, rr, rs, rv] x6 HAP.out (by simp) (by intro r hr; simp only [List.mem_cons, List.not_mem_nil, or_false] at hr; rcases hr with rfl | rfl | rfl | rfl | rfl | rfl | rfl <;> omega) (Nat.le_trans (Nat.le_trans hbs7 hst7) (Nat.le_trans hz1 hz2))
            go_wp2_with fail
            refine OWN.mono ?_
            rintro e t10 ⟨rfl, hk10⟩
            have g10 := HG.out.trans (hk10.below.mono (Nat.le_of_lt hl2))
            clear OWN cbp0 cbp1 cbp2 cbq0 cbq1 cbq2 cbu0 cbu1 cbu2 cbt0 cbt1 cbt2 cbr0 cbr1 cbr2 cbs0 cbs1 cbs2 cbv0 cbv1 cbv2
            have AW := awake8_any t10 (HT.out.below g10)
            have HFI := hide (bl_trans8 HW.out g10)
            clear hk10 g10
            go_wp2_with fail
            refine AW.mono ?_
            rintro e t11 ⟨rfl, hb11⟩
            have HFIN := hide (bl_trans8 HFI.out hb11)
            clear AW hb11
            go_wp2
            go_ret
            exact ⟨rfl, HFIN.out⟩

end Go.Proofs.YtegbjdjpeblkoabGreatDoor
