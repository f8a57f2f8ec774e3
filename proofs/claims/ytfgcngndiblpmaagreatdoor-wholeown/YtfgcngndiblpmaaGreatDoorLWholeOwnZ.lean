/- The walk of the law WholeOwn. -/
import Derived.Test.YtfgcngndiblpmaaGreatDoorOwnPZ
import Derived.Test.YtfgcngndiblpmaaGreatDoorDp2Z
import Derived.Test.YtfgcngndiblpmaaGreatDoorQ5
namespace Go.Proofs.YtfgcngndiblpmaaGreatDoor
open Go.RowKit
open Lm
attribute [local go_sem ↓] Go.wp_at_zero Go.wp_at_succ

set_option maxRecDepth 20000 in
set_option maxHeartbeats 16000000 in
theorem wholeOwn_walk (b0 : Bool) (v0 : Value) (z0 : List Nat) (b1 : Bool) (v1 : Value) (z1 : List Nat) (w : World) (hT : Tab w) (A0 : Arg w v0 z0) (s0 : z0.length ≤ 17592186043904) (A1 : Arg w v1 z1) (s1 : z1.length ≤ 17592186043904) :
    Calls Tryz.prog 6 #[.agg #[.bool b0, v0], .agg #[.bool b1, v1]] w fun e w' => e = .returned (.bool true) ∧ Below w.heap.size w w' := by
  obtain ⟨a0, n0, rfl, _, _, _⟩ := A0.form
  obtain ⟨a1, n1, rfl, _, _, _⟩ := A1.form
  obtain ⟨w0, hw0, hb0, h0, h1⟩ := enter2 w (.cells #[.bool b0, .slice a0 z0.length n0] 24) (.cells #[.bool b1, .slice a1 z1.length n1] 24)
  have HA := hide h0
  have HBb := hide h1
  have HA0 := hide (A0.below hb0)
  have HA1 := hide (A1.below hb0)
  have HLM := hide A0.limbs
  have HT := hide (hT.below hb0)
  have HW := hide hb0
  have hbl0 := blen_val_le z0 A0.limbs
  have hbl1 := blen_val_le z1 A1.limbs
  clear A0 A1 hT hb0 h0 h1
  obtain ⟨ca0, cb0⟩ := duo HA.out
  have C := rcopy_any _ z0 w0 HA0.out (by omega)
  go_enter Tryz.func6, Tryz.ntmps6
  go_wp2_with fail
  refine C.mono ?_
  rintro e w1 ⟨rfl, hk9, hb⟩
  have hk : Blk w1 w0.heap.size z0 := hk9
  clear hk9
  clear C ca0 cb0 hw0
  obtain ⟨u1, hu1, hbu1, hx⟩ := enter1 w1 (.cells #[.bool b0, .slice (some ⟨w0.heap.size, 0, none⟩) z0.length z0.length] 27)
  have HG := hide (bl_trans hb hbu1)
  have HK := hide (hk.below' hbu1)
  have HX := hide hx
  have hl1 : w0.heap.size < w1.heap.size := hk.lt
  have hlu : w1.heap.size < u1.heap.size := lt_of_block hx
  obtain ⟨ca0, cb0⟩ := duo (block_upW (bl_trans hb hbu1) HA.out)
  obtain ⟨ca1, cb1⟩ := duo (block_upW (bl_trans hb hbu1) HBb.out)
  obtain ⟨ca2, cb2⟩ := duo (block_upW hb HA.out)
  have C := wlawIn_any b1 a1 z1.length n1 u1
  clear hk hb hbu1 hx
  go_wp2_with fail
  refine C.mono ?_
  rintro e w2 ⟨rfl, hb⟩
  clear C ca0 cb0 ca1 cb1 ca2 cb2 hu1
  obtain ⟨u2, hu2, hbu2, hy⟩ := enter1 w2 (.cells #[.bool b1, .slice a1 z1.length n1] 27)
  have stp := bl_trans hb hbu2
  replace HG := hide (bl_trans HG.out stp)
  replace HK := hide (HK.out.below' stp)
  replace HX := hide (block_upW stp HX.out)
  have HY := hide hy
  have hl2 : w0.heap.size < u2.heap.size := by have h1 := stp.size; have h2 := lt_of_block HX.out; omega
  have hl3 : w0.heap.size < w2.heap.size := by have h1 := hb.size; omega
  clear hb hbu2 hy stp
  generalize hzA : zz b0 (val z0) = zA at *
  generalize hzB : zz b1 (val z1) = zB at *
  have EQ := hide (And.intro hzA hzB)
  have hbA : blen zA.natAbs ≤ 1125899906809856 := by rw [← hzA, zz_abs]; omega
  have hbB : blen zB.natAbs ≤ 1125899906809856 := by rw [← hzB, zz_abs]; omega
  clear hzA hzB
  have HAP := hide (Aparts.none u2 u2.heap.size)
  have HARG := hide (fun (W : World) (h : Blk W w0.heap.size z0) => h.arg9 HLM.out (by omega))
  obtain ⟨ca0, cb0⟩ := duo HX.out
  obtain ⟨ca1, cb1⟩ := duo HY.out
  have C := wadd_any b0 _ z0 b1 _ z1 u2 (show Arg u2 (.slice (some ⟨w0.heap.size, 0, none⟩) z0.length z0.length) z0 from HARG.out _ HK.out) (HA1.out.below HG.out) (by omega) (by omega)
  rw [EQ.out.1, EQ.out.2] at C
  go_wp2_with fail
  refine C.mono ?_
  rintro e Q1 ⟨⟨bp, ap, lp, kp, cp, rfl, hzr⟩, hq⟩
  clear ca0 cb0 ca1 cb1
  obtain ⟨P1, hP1, hbP, hx⟩ := enter1 Q1 (.cells #[.bool bp, .slice ap lp kp] 27)
  have stp := bl_trans hq hbP
  have hbs1 : u2.heap.size ≤ u2.heap.size := Nat.le_refl _
  have hst1 : u2.heap.size ≤ P1.heap.size := stp.size
  have hqs1 : u2.heap.size ≤ Q1.heap.size := hq.size
  replace HX := hide (block_upW stp HX.out)
  replace HY := hide (block_upW stp HY.out)
  replace HG := hide (bl_trans HG.out stp)
  replace HK := hide (HK.out.below' stp)
  obtain ⟨rp, hAp, hcp⟩ := hzr
  have HLp := hide (ZR.few hcp)
  replace HAP := hide ((HAP.out.snoc hq hbs1 hAp).below hbP)
  have HRp := hide ((show ZR Q1 u2.heap.size bp (.slice ap lp kp) cp (zA + zB) from ⟨rp, hAp.base hbs1, hcp⟩).below hbP)
  have HBp := hide hx
  clear C hAp hcp hq hbP hx stp hu2
  obtain ⟨ca0, cb0⟩ := duo HX.out
  obtain ⟨ca1, cb1⟩ := duo HY.out
  have C := wmul_any b0 _ z0 b1 _ z1 P1 (show Arg P1 (.slice (some ⟨w0.heap.size, 0, none⟩) z0.length z0.length) z0 from HARG.out _ HK.out) (HA1.out.below HG.out) (HT.out.below HG.out) (by omega) (by omega)
  rw [EQ.out.1, EQ.out.2] at C
  go_wp2_with fail
  refine C.mono ?_
  rintro e Q2 ⟨⟨bq, aq, lq, kq, cq, rfl, hzr⟩, hq⟩
  clear ca0 cb0 ca1 cb1
  obtain ⟨P2, hP2, hbP, hx⟩ := enter1 Q2 (.cells #[.bool bq, .slice aq lq kq] 27)
  have stp := bl_trans hq hbP
  have hbs2 : u2.heap.size ≤ P1.heap.size := Nat.le_trans hbs1 hst1
  have hst2 : P1.heap.size ≤ P2.heap.size := stp.size
  have hqs2 : P1.heap.size ≤ Q2.heap.size := hq.size
  replace HX := hide (block_upW stp HX.out)
  replace HY := hide (block_upW stp HY.out)
  replace HBp := hide (block_upW stp HBp.out)
  replace HRp := hide (HRp.out.below stp)
  replace HG := hide (bl_trans HG.out stp)
  replace HK := hide (HK.out.below' stp)
  obtain ⟨rq, hAq, hcq⟩ := hzr
  have HLq := hide (ZR.few hcq)
  replace HAP := hide ((HAP.out.snoc hq hbs2 hAq).below hbP)
  have HRq := hide ((show ZR Q2 u2.heap.size bq (.slice aq lq kq) cq (zA * zB) from ⟨rq, hAq.base hbs2, hcq⟩).below hbP)
  have HBq := hide hx
  clear C hAq hcq hq hbP hx stp hP1
  obtain ⟨ca0, cb0⟩ := duo HX.out
  obtain ⟨ca1, cb1⟩ := duo HY.out
  have C := wadd_any b0 _ z0 b1 _ z1 P2 (show Arg P2 (.slice (some ⟨w0.heap.size, 0, none⟩) z0.length z0.length) z0 from HARG.out _ HK.out) (HA1.out.below HG.out) (by omega) (by omega)
  rw [EQ.out.1, EQ.out.2] at C
  go_wp2_with fail
  refine C.mono ?_
  rintro e Q3 ⟨⟨bu, au, lu, ku, cu, rfl, hzr⟩, hq⟩
  clear ca0 cb0 ca1 cb1
  obtain ⟨P3, hP3, hbP, hx⟩ := enter1 Q3 (.cells #[.bool bu, .slice au lu ku] 27)
  have stp := bl_trans hq hbP
  have hbs3 : u2.heap.size ≤ P2.heap.size := Nat.le_trans hbs2 hst2
  have hst3 : P2.heap.size ≤ P3.heap.size := stp.size
  have hqs3 : P2.heap.size ≤ Q3.heap.size := hq.size
  replace HX := hide (block_upW stp HX.out)
  replace HY := hide (block_upW stp HY.out)
  replace HBp := hide (block_upW stp HBp.out)
  replace HBq := hide (block_upW stp HBq.out)
  replace HRp := hide (HRp.out.below stp)
  replace HRq := hide (HRq.out.below stp)
  replace HG := hide (bl_trans HG.out stp)
  replace HK := hide (HK.out.below' stp)
  obtain ⟨ru, hAu, hcu⟩ := hzr
  have HLu := hide (ZR.few hcu)
  replace HAP := hide ((HAP.out.snoc hq hbs3 hAu).below hbP)
  have HRu := hide ((show ZR Q3 u2.heap.size bu (.slice au lu ku) cu (zA + zB) from ⟨ru, hAu.base hbs3, hcu⟩).below hbP)
  have HBu := hide hx
  clear C hAu hcu hq hbP hx stp hP2
  obtain ⟨ca0, cb0⟩ := duo HX.out
  have C := wabs_any b0 _ z0 P3 (show Arg P3 (.slice (some ⟨w0.heap.size, 0, none⟩) z0.length z0.length) z0 from HARG.out _ HK.out) (by omega)
  skip
  go_wp2_with fail
  refine C.mono ?_
  rintro e Q4 ⟨⟨bwas, awas, lwas, kwas, cwas, rfl, hzr⟩, hq⟩
  clear ca0 cb0
  obtain ⟨P4, hP4, hbP, hx⟩ := enter1 Q4 (.cells #[.bool bwas, .slice awas lwas kwas] 27)
  have stp := bl_trans hq hbP
  have hbs4 : u2.heap.size ≤ P3.heap.size := Nat.le_trans hbs3 hst3
  have hst4 : P3.heap.size ≤ P4.heap.size := stp.size
  have hqs4 : P3.heap.size ≤ Q4.heap.size := hq.size
  replace HX := hide (block_upW stp HX.out)
  replace HY := hide (block_upW stp HY.out)
  replace HBp := hide (block_upW stp HBp.out)
  replace HBq := hide (block_upW stp HBq.out)
  replace HBu := hide (block_upW stp HBu.out)
  replace HRp := hide (HRp.out.below stp)
  replace HRq := hide (HRq.out.below stp)
  replace HRu := hide (HRu.out.below stp)
  replace HG := hide (bl_trans HG.out stp)
  replace HK := hide (HK.out.below' stp)
  obtain ⟨rwas, hAwas, hcwas⟩ := hzr
  have HLwas := hide (ZR.few hcwas)
  replace HAP := hide ((HAP.out.snoc hq hbs4 hAwas).below hbP)
  have HRwas := hide ((show ZR Q4 u2.heap.size bwas (.slice awas lwas kwas) cwas (zz false (val z0)) from ⟨rwas, hAwas.base hbs4, hcwas⟩).below hbP)
  have HBwas := hide hx
  clear C hAwas hcwas hq hbP hx stp hP3
  go_wp2
  go_loopw [62] (fun i wr => ∃ k : Nat, k ≤ z0.length ∧ i = .int .i64 k ∧ Blk wr w0.heap.size (xorTo z0 k) ∧ Fr w0.heap.size P4 wr) (fun i _ => z0.length - (intOf i).toNat)
  case atStart => exact ⟨0, Nat.zero_le _, rfl, by rw [xorTo_zero]; exact HK.out, Fr.refl _ _⟩
  case round =>
    obtain ⟨k, hk, rfl, hblk9, hfr0⟩ := hrel
    have hblk : Blk wr w0.heap.size (xorTo z0 k) := hblk9
    clear hblk9
    by_cases hkl : k < z0.length
    · have hfr := hblk.free k
      have hco := hblk.cell k (by rw [xorTo_length]; exact hkl)
      rw [xorTo_at z0 k hkl] at hco
      have hzl : z0.getD k 0 < 18446744073709551616 := by
        have e : z0.getD k 0 = z0[k] := by simp [List.getD, hkl]
        rw [e]
        exact HLM.out _ (List.getElem_mem hkl)
      have HS := hide (xorTo_set z0 k hkl)
      have HB := hide (fun z => hblk.set k z)
      have HF := hide hfr0
      generalize z0.getD k 0 = z at *
      have hxr : bits .xor .u64 (z : Int) 5 = ((z ^^^ 5 : Nat) : Int) := bits_xor_u64_nat z 5 hzl (by decide)
      clear hblk hfr0
      go_wp2
      go_roundw
      case rel => exact ⟨k + 1, by omega, by go_num, by rw [← HS.out]; exact HB.out _, HF.out.setCell _ _⟩
      case measure => simp [intOf]; omega
    · have ek : k = z0.length := by omega
      subst ek
      have hwr : u2.heap.size ≤ wr.heap.size := Nat.le_trans (Nat.le_trans hbs4 hst4) hfr0.size
      obtain ⟨zX, hzX⟩ : ∃ zX, xorTo z0 z0.length = zX := ⟨_, rfl⟩
      have hLX : Limbs zX := by rw [← hzX]; exact xorTo_limbs _ _ HLM.out
      have hlX : zX.length = z0.length := by rw [← hzX]; exact xorTo_length _ _
      rw [hzX] at hblk
      have hblX := blen_val_le zX hLX
      have HK2 := hide hblk
      clear hzX
      replace HX := hide (block_fr HX.out hfr0 (by omega))
      replace HY := hide (block_fr HY.out hfr0 (by omega))
      replace HBp := hide (block_fr HBp.out hfr0 (by omega))
      replace HBq := hide (block_fr HBq.out hfr0 (by omega))
      replace HBu := hide (block_fr HBu.out hfr0 (by omega))
      replace HBwas := hide (block_fr HBwas.out hfr0 (by omega))
      replace HRp := hide (HRp.out.fr hfr0 hl2)
      replace HRq := hide (HRq.out.fr hfr0 hl2)
      replace HRu := hide (HRu.out.fr hfr0 hl2)
      replace HRwas := hide (HRwas.out.fr hfr0 hl2)
      replace HAP := hide (HAP.out.fr hfr0 hl2)
      replace HG := hide (HG.out.trans (hfr0.below (Nat.le_refl _) (HG.out.size)))
      clear HK hblk hfr0 hk
      have HK := HK2
      clear HK2 HARG
      have HARG := hide (fun (W : World) (h : Blk W w0.heap.size zX) => show Arg W (.slice (some ⟨w0.heap.size, 0, none⟩) z0.length z0.length) zX by have h2 := h.arg9 hLX (by omega); rw [hlX] at h2; exact h2)
      generalize hzO : zz b0 (val zX) = zO at *
      have EQX := hide hzO
      have hbO : blen zO.natAbs ≤ 1125899906809856 := by rw [← hzO, zz_abs]; omega
      clear hzO
      obtain ⟨ca0, cb0⟩ := duo HX.out
      obtain ⟨ca1, cb1⟩ := duo HY.out
      have C := wadd_any b0 _ zX b1 _ z1 wr (HARG.out _ HK.out) (HA1.out.below HG.out) (by omega) (by omega)
      rw [EQX.out, EQ.out.2] at C
      go_wp2_with fail
      refine C.mono ?_
      rintro e Q5 ⟨⟨brr, arr, lrr, krr, crr, rfl, hzr⟩, hq⟩
      clear ca0 cb0 ca1 cb1
      obtain ⟨P5, hP5, hbP, hx⟩ := enter1 Q5 (.cells #[.bool brr, .slice arr lrr krr] 27)
      have stp := bl_trans hq hbP
      have hbs5 : u2.heap.size ≤ wr.heap.size := hwr
      have hst5 : wr.heap.size ≤ P5.heap.size := stp.size
      have hqs5 : wr.heap.size ≤ Q5.heap.size := hq.size
      replace HX := hide (block_upW stp HX.out)
      replace HY := hide (block_upW stp HY.out)
      replace HBp := hide (block_upW stp HBp.out)
      replace HBq := hide (block_upW stp HBq.out)
      replace HBu := hide (block_upW stp HBu.out)
      replace HBwas := hide (block_upW stp HBwas.out)
      replace HRp := hide (HRp.out.below stp)
      replace HRq := hide (HRq.out.below stp)
      replace HRu := hide (HRu.out.below stp)
      replace HRwas := hide (HRwas.out.below stp)
      replace HG := hide (bl_trans HG.out stp)
      replace HK := hide (HK.out.below' stp)
      obtain ⟨rrr, hArr, hcrr⟩ := hzr
      have HLrr := hide (ZR.few hcrr)
      replace HAP := hide ((HAP.out.snoc hq hbs5 hArr).below hbP)
      have HRrr := hide ((show ZR Q5 u2.heap.size brr (.slice arr lrr krr) crr (zO + zB) from ⟨rrr, hArr.base hbs5, hcrr⟩).below hbP)
      have HBrr := hide hx
      clear C hArr hcrr hq hbP hx stp
      obtain ⟨ca0, cb0⟩ := duo HX.out
      obtain ⟨ca1, cb1⟩ := duo HY.out
      have C := wmul_any b0 _ zX b1 _ z1 P5 (HARG.out _ HK.out) (HA1.out.below HG.out) (HT.out.below HG.out) (by omega) (by omega)
      rw [EQX.out, EQ.out.2] at C
      go_wp2_with fail
      refine C.mono ?_
      rintro e Q6 ⟨⟨bss, ass, lss, kss, css, rfl, hzr⟩, hq⟩
      clear ca0 cb0 ca1 cb1
      obtain ⟨P6, hP6, hbP, hx⟩ := enter1 Q6 (.cells #[.bool bss, .slice ass lss kss] 27)
      have stp := bl_trans hq hbP
      have hbs6 : u2.heap.size ≤ P5.heap.size := Nat.le_trans hbs5 hst5
      have hst6 : P5.heap.size ≤ P6.heap.size := stp.size
      have hqs6 : P5.heap.size ≤ Q6.heap.size := hq.size
      replace HX := hide (block_upW stp HX.out)
      replace HY := hide (block_upW stp HY.out)
      replace HBp := hide (block_upW stp HBp.out)
      replace HBq := hide (block_upW stp HBq.out)
      replace HBu := hide (block_upW stp HBu.out)
      replace HBwas := hide (block_upW stp HBwas.out)
      replace HBrr := hide (block_upW stp HBrr.out)
      replace HRp := hide (HRp.out.below stp)
      replace HRq := hide (HRq.out.below stp)
      replace HRu := hide (HRu.out.below stp)
      replace HRwas := hide (HRwas.out.below stp)
      replace HRrr := hide (HRrr.out.below stp)
      replace HG := hide (bl_trans HG.out stp)
      replace HK := hide (HK.out.below' stp)
      obtain ⟨rss, hAss, hcss⟩ := hzr
      have HLss := hide (ZR.few hcss)
      replace HAP := hide ((HAP.out.snoc hq hbs6 hAss).below hbP)
      have HRss := hide ((show ZR Q6 u2.heap.size bss (.slice ass lss kss) css (zO * zB) from ⟨rss, hAss.base hbs6, hcss⟩).below hbP)
      have HBss := hide hx
      clear C hAss hcss hq hbP hx stp hP5
      obtain ⟨ca0, cb0⟩ := duo HX.out
      have C := wabs_any b0 _ zX P6 (HARG.out _ HK.out) (by omega)
      go_wp2_with fail
      refine C.mono ?_
      rintro e Q7 ⟨⟨bnow, anow, lnow, know, cnow, rfl, hzr⟩, hq⟩
      clear ca0 cb0
      obtain ⟨P7, hP7, hbP, hx⟩ := enter1 Q7 (.cells #[.bool bnow, .slice anow lnow know] 27)
      have stp := bl_trans hq hbP
      have hbs7 : u2.heap.size ≤ P6.heap.size := Nat.le_trans hbs6 hst6
      have hst7 : P6.heap.size ≤ P7.heap.size := stp.size
      have hqs7 : P6.heap.size ≤ Q7.heap.size := hq.size
      replace HX := hide (block_upW stp HX.out)
      replace HY := hide (block_upW stp HY.out)
      replace HBp := hide (block_upW stp HBp.out)
      replace HBq := hide (block_upW stp HBq.out)
      replace HBu := hide (block_upW stp HBu.out)
      replace HBwas := hide (block_upW stp HBwas.out)
      replace HBrr := hide (block_upW stp HBrr.out)
      replace HBss := hide (block_upW stp HBss.out)
      replace HRp := hide (HRp.out.below stp)
      replace HRq := hide (HRq.out.below stp)
      replace HRu := hide (HRu.out.below stp)
      replace HRwas := hide (HRwas.out.below stp)
      replace HRrr := hide (HRrr.out.below stp)
      replace HRss := hide (HRss.out.below stp)
      replace HG := hide (bl_trans HG.out stp)
      replace HK := hide (HK.out.below' stp)
      obtain ⟨rnow, hAnow, hcnow⟩ := hzr
      have HLnow := hide (ZR.few hcnow)
      replace HAP := hide ((HAP.out.snoc hq hbs7 hAnow).below hbP)
      have HRnow := hide ((show ZR Q7 u2.heap.size bnow (.slice anow lnow know) cnow (zz false (val zX)) from ⟨rnow, hAnow.base hbs7, hcnow⟩).below hbP)
      have HBnow := hide hx
      clear C hAnow hcnow hq hbP hx stp hP6
      obtain ⟨U1, hU1, hst, hLb⟩ := enter1 P7 (.cells #[.int .i64 cp, .int .i64 cq, .int .i64 cu, .int .i64 cwas, .int .i64 crr, .int .i64 css, .int .i64 cnow] 38)
      have AL := wall_any P7.heap.size 7 [cp, cq, cu, cwas, crr, css, cnow] U1 rfl (by omega) hLb
      replace HAP := hide (HAP.out.below hst)
      have hPup1 : P7.heap.size ≤ U1.heap.size := hst.size
      replace HX := hide (block_upW hst HX.out)
      replace HY := hide (block_upW hst HY.out)
      replace HBp := hide (block_upW hst HBp.out)
      replace HBq := hide (block_upW hst HBq.out)
      replace HBu := hide (block_upW hst HBu.out)
      replace HBwas := hide (block_upW hst HBwas.out)
      replace HBrr := hide (block_upW hst HBrr.out)
      replace HBss := hide (block_upW hst HBss.out)
      replace HBnow := hide (block_upW hst HBnow.out)
      replace HRp := hide (HRp.out.below hst)
      replace HRq := hide (HRq.out.below hst)
      replace HRu := hide (HRu.out.below hst)
      replace HRwas := hide (HRwas.out.below hst)
      replace HRrr := hide (HRrr.out.below hst)
      replace HRss := hide (HRss.out.below hst)
      replace HRnow := hide (HRnow.out.below hst)
      replace HG := hide (bl_trans HG.out hst)
      replace HK := hide (HK.out.below' hst)
      clear hst hLb
      by_cases hc : cp = 0 ∧ cq = 0 ∧ cu = 0 ∧ cwas = 0 ∧ crr = 0 ∧ css = 0 ∧ cnow = 0
      · skip
        obtain ⟨rfl, rfl, rfl, rfl, rfl, rfl, rfl⟩ := hc
        have hyes : (([0, 0, 0, 0, 0, 0, 0] : List Int).all (· == 0)) = true := by decide
        rw [hyes] at AL
        clear hyes
        go_wp2_with fail
        refine AL.mono ?_
        rintro e wn ⟨rfl, hw⟩; rw [hw]; clear hw wn AL
        have HAt := hide (block_upW HG.out HA.out)
        have HBt := hide (block_upW HG.out HBb.out)
        have OF0 := hide (fun (W : World) (hg : Below U1.heap.size U1 W) => show Calls Tryz.prog 9 #[.agg #[.bool b0, .slice a0 z0.length n0]] W (ZnDone W zA) by
            have h := wlawOf_any b0 _ z0 W ((HA0.out.below HG.out).below hg) (by omega)
            rw [EQ.out.1] at h
            exact h)
        have OF1 := hide (fun (W : World) (hg : Below U1.heap.size U1 W) => show Calls Tryz.prog 9 #[.agg #[.bool b1, .slice a1 z1.length n1]] W (ZnDone W zB) by
            have h := wlawOf_any b1 _ z1 W ((HA1.out.below HG.out).below hg) (by omega)
            rw [EQ.out.2] at h
            exact h)
        have KS := hide (fun (W : World) (hg : Below U1.heap.size U1 W) => show W.cell? ⟨w.heap.size, 0, none⟩ = some (.bool b0) ∧ W.cell? ⟨w.heap.size, 1, none⟩ = some (.slice a0 z0.length n0) ∧ W.cell? ⟨w.heap.size + 1, 0, none⟩ = some (.bool b1) ∧ W.cell? ⟨w.heap.size + 1, 1, none⟩ = some (.slice a1 z1.length n1) from ⟨(duo (block_upW hg HAt.out)).1, (duo (block_upW hg HAt.out)).2, (duo (block_upW hg HBt.out)).1, (duo (block_upW hg HBt.out)).2⟩)
        go_upto_region 18 with fail
        go_cut [23, 24] from 102 to 106 (fun s t wx => TwoBox U1 zA zB s t wx)
        case first =>
          refine wp_region_held_drew (S := fun w' => w'.cell? ⟨w.heap.size, 0, none⟩ = some (.bool b0) ∧ w'.cell? ⟨w.heap.size, 1, none⟩ = some (.slice a0 z0.length n0) ∧ w'.cell? ⟨w.heap.size + 1, 0, none⟩ = some (.bool b1) ∧ w'.cell? ⟨w.heap.size + 1, 1, none⟩ = some (.slice a1 z1.length n1)) (by kernel_rfl) (KS.out _ (bl_drew (Below.refl _ _))) (fun hHeld => ?_)
          refine wpAnyH_take (i := 0) (oi := { dst := some 102, op := Op.load 24 (Operand.tmp 2), type := 24, pos := "outright.go:246", after := #[], guard := none }) (v := .agg #[.bool b0, .slice a0 z0.length n0]) rfl (by kernel_rfl) (by kernel_rfl) (by kernel_rfl) (fun _ _ _ h => h) (Or.inl ⟨by rfl, fun w9 hSw => ?_⟩) hHeld ?_
          · (try dsimp only at hSw); go_simp
          simp only [Act.put, List.setIfInBounds_toArray, List.set_cons_zero, List.set_cons_succ]
          refine wpAnyH_take (i := 2) (oi := { dst := some 104, op := Op.load 24 (Operand.tmp 3), type := 24, pos := "outright.go:246", after := #[], guard := none }) (v := .agg #[.bool b1, .slice a1 z1.length n1]) rfl (by kernel_rfl) (by kernel_rfl) (by kernel_rfl) (fun _ _ _ h => h) (Or.inl ⟨by rfl, fun w9 hSw => ?_⟩) hHeld ?_
          · (try dsimp only at hSw); go_simp
          simp only [Act.put, List.setIfInBounds_toArray, List.set_cons_zero, List.set_cons_succ]
          refine dp2 U1 (zA) (zB) 103 105 23 24 (fun c1 c2 k1 k2 => #[true, c1, true, c2, k1, k2, false, false]) (by kernel_rfl) (by kernel_rfl) (by simp only [Act.put, List.setIfInBounds_toArray, List.set_cons_zero, List.set_cons_succ]) (bl_drew (Below.refl _ _)) ?_
          clear hHeld
          intro n
          simp only [Act.put, List.setIfInBounds_toArray, List.set_cons_zero, List.set_cons_succ]
          induction n with
          | zero =>
            intro c1 c2 k1 k2 x1 x2 y1 y2 W hf J
            exact absurd hf (by unfold left4; omega)
          | succ n ih =>
            intro c1 c2 k1 k2 x1 x2 y1 y2 W hf J
            cases c1
            · skip
              cases c2
              · skip
                cases k1
                · skip
                  cases k2
                  · skip
                    refine wpAnyH_ready (rs := [1, 4, 5]) (by kernel_rfl) (by simp) ?_
                    refine AllReadyH.cons rfl (fun K hK => ?_) ?_
                    · go_simp
                      refine (OF0.out W J.up).mono ?_
                      rintro e' W2 ⟨⟨b9, a9, n9, k9, rfl, y9⟩, hb⟩
                      refine hK.out _ _ (KS.out _ (bl_trans J.up hb)) (fun _ => ?_)
                      simp only [List.setIfInBounds_toArray, List.set_cons_zero, List.set_cons_succ]
                      exact ih _ _ _ _ _ _ _ _ _ (by simp [left4] at hf ⊢; omega) (J.call1 hb ⟨b9, a9, n9, k9, rfl, y9⟩)
                    refine AllReadyH.cons rfl (fun K hK => ?_) ?_
                    · go_simp
                      refine hK.out _ _ (KS.out _ (bl_alloc J.up _)) (fun _ => ?_)
                      simp only [List.setIfInBounds_toArray, List.set_cons_zero, List.set_cons_succ]
                      exact ih _ _ _ _ _ _ _ _ _ (by simp [left4] at hf ⊢; omega) J.make1
                    refine AllReadyH.cons rfl (fun K hK => ?_) ?_
                    · go_simp
                      refine hK.out _ _ (KS.out _ (bl_alloc J.up _)) (fun _ => ?_)
                      simp only [List.setIfInBounds_toArray, List.set_cons_zero, List.set_cons_succ]
                      exact ih _ _ _ _ _ _ _ _ _ (by simp [left4] at hf ⊢; omega) J.make2
                    exact AllReadyH.nil
                  · skip
                    refine wpAnyH_ready (rs := [1, 4]) (by kernel_rfl) (by simp) ?_
                    refine AllReadyH.cons rfl (fun K hK => ?_) ?_
                    · go_simp
                      refine (OF0.out W J.up).mono ?_
                      rintro e' W2 ⟨⟨b9, a9, n9, k9, rfl, y9⟩, hb⟩
                      refine hK.out _ _ (KS.out _ (bl_trans J.up hb)) (fun _ => ?_)
                      simp only [List.setIfInBounds_toArray, List.set_cons_zero, List.set_cons_succ]
                      exact ih _ _ _ _ _ _ _ _ _ (by simp [left4] at hf ⊢; omega) (J.call1 hb ⟨b9, a9, n9, k9, rfl, y9⟩)
                    refine AllReadyH.cons rfl (fun K hK => ?_) ?_
                    · go_simp
                      refine hK.out _ _ (KS.out _ (bl_alloc J.up _)) (fun _ => ?_)
                      simp only [List.setIfInBounds_toArray, List.set_cons_zero, List.set_cons_succ]
                      exact ih _ _ _ _ _ _ _ _ _ (by simp [left4] at hf ⊢; omega) J.make1
                    exact AllReadyH.nil
                · skip
                  cases k2
                  · skip
                    refine wpAnyH_ready (rs := [1, 5]) (by kernel_rfl) (by simp) ?_
                    refine AllReadyH.cons rfl (fun K hK => ?_) ?_
                    · go_simp
                      refine (OF0.out W J.up).mono ?_
                      rintro e' W2 ⟨⟨b9, a9, n9, k9, rfl, y9⟩, hb⟩
                      refine hK.out _ _ (KS.out _ (bl_trans J.up hb)) (fun _ => ?_)
                      simp only [List.setIfInBounds_toArray, List.set_cons_zero, List.set_cons_succ]
                      exact ih _ _ _ _ _ _ _ _ _ (by simp [left4] at hf ⊢; omega) (J.call1 hb ⟨b9, a9, n9, k9, rfl, y9⟩)
                    refine AllReadyH.cons rfl (fun K hK => ?_) ?_
                    · go_simp
                      refine hK.out _ _ (KS.out _ (bl_alloc J.up _)) (fun _ => ?_)
                      simp only [List.setIfInBounds_toArray, List.set_cons_zero, List.set_cons_succ]
                      exact ih _ _ _ _ _ _ _ _ _ (by simp [left4] at hf ⊢; omega) J.make2
                    exact AllReadyH.nil
                  · skip
                    refine wpAnyH_ready (rs := [1]) (by kernel_rfl) (by simp) ?_
                    refine AllReadyH.cons rfl (fun K hK => ?_) ?_
                    · go_simp
                      refine (OF0.out W J.up).mono ?_
                      rintro e' W2 ⟨⟨b9, a9, n9, k9, rfl, y9⟩, hb⟩
                      refine hK.out _ _ (KS.out _ (bl_trans J.up hb)) (fun _ => ?_)
                      simp only [List.setIfInBounds_toArray, List.set_cons_zero, List.set_cons_succ]
                      exact ih _ _ _ _ _ _ _ _ _ (by simp [left4] at hf ⊢; omega) (J.call1 hb ⟨b9, a9, n9, k9, rfl, y9⟩)
                    exact AllReadyH.nil
              · skip
                exact absurd (J.ch rfl) (by decide)
            · skip
              cases c2
              · skip
                cases k1
                · skip
                  cases k2
                  · skip
                    refine wpAnyH_ready (rs := [3, 4, 5]) (by kernel_rfl) (by simp) ?_
                    refine AllReadyH.cons rfl (fun K hK => ?_) ?_
                    · go_simp
                      refine (OF1.out W J.up).mono ?_
                      rintro e' W2 ⟨⟨b9, a9, n9, k9, rfl, y9⟩, hb⟩
                      refine hK.out _ _ (KS.out _ (bl_trans J.up hb)) (fun _ => ?_)
                      simp only [List.setIfInBounds_toArray, List.set_cons_zero, List.set_cons_succ]
                      exact ih _ _ _ _ _ _ _ _ _ (by simp [left4] at hf ⊢; omega) (J.call2 hb ⟨b9, a9, n9, k9, rfl, y9⟩)
                    refine AllReadyH.cons rfl (fun K hK => ?_) ?_
                    · go_simp
                      refine hK.out _ _ (KS.out _ (bl_alloc J.up _)) (fun _ => ?_)
                      simp only [List.setIfInBounds_toArray, List.set_cons_zero, List.set_cons_succ]
                      exact ih _ _ _ _ _ _ _ _ _ (by simp [left4] at hf ⊢; omega) J.make1
                    refine AllReadyH.cons rfl (fun K hK => ?_) ?_
                    · go_simp
                      refine hK.out _ _ (KS.out _ (bl_alloc J.up _)) (fun _ => ?_)
                      simp only [List.setIfInBounds_toArray, List.set_cons_zero, List.set_cons_succ]
                      exact ih _ _ _ _ _ _ _ _ _ (by simp [left4] at hf ⊢; omega) J.make2
                    exact AllReadyH.nil
                  · skip
                    refine wpAnyH_ready (rs := [3, 4]) (by kernel_rfl) (by simp) ?_
                    refine AllReadyH.cons rfl (fun K hK => ?_) ?_
                    · go_simp
                      refine (OF1.out W J.up).mono ?_
                      rintro e' W2 ⟨⟨b9, a9, n9, k9, rfl, y9⟩, hb⟩
                      refine hK.out _ _ (KS.out _ (bl_trans J.up hb)) (fun _ => ?_)
                      simp only [List.setIfInBounds_toArray, List.set_cons_zero, List.set_cons_succ]
                      exact ih _ _ _ _ _ _ _ _ _ (by simp [left4] at hf ⊢; omega) (J.call2 hb ⟨b9, a9, n9, k9, rfl, y9⟩)
                    refine AllReadyH.cons rfl (fun K hK => ?_) ?_
                    · go_simp
                      refine hK.out _ _ (KS.out _ (bl_alloc J.up _)) (fun _ => ?_)
                      simp only [List.setIfInBounds_toArray, List.set_cons_zero, List.set_cons_succ]
                      exact ih _ _ _ _ _ _ _ _ _ (by simp [left4] at hf ⊢; omega) J.make1
                    exact AllReadyH.nil
                · skip
                  cases k2
                  · skip
                    refine wpAnyH_ready (rs := [3, 5]) (by kernel_rfl) (by simp) ?_
                    refine AllReadyH.cons rfl (fun K hK => ?_) ?_
                    · go_simp
                      refine (OF1.out W J.up).mono ?_
                      rintro e' W2 ⟨⟨b9, a9, n9, k9, rfl, y9⟩, hb⟩
                      refine hK.out _ _ (KS.out _ (bl_trans J.up hb)) (fun _ => ?_)
                      simp only [List.setIfInBounds_toArray, List.set_cons_zero, List.set_cons_succ]
                      exact ih _ _ _ _ _ _ _ _ _ (by simp [left4] at hf ⊢; omega) (J.call2 hb ⟨b9, a9, n9, k9, rfl, y9⟩)
                    refine AllReadyH.cons rfl (fun K hK => ?_) ?_
                    · go_simp
                      refine hK.out _ _ (KS.out _ (bl_alloc J.up _)) (fun _ => ?_)
                      simp only [List.setIfInBounds_toArray, List.set_cons_zero, List.set_cons_succ]
                      exact ih _ _ _ _ _ _ _ _ _ (by simp [left4] at hf ⊢; omega) J.make2
                    exact AllReadyH.nil
                  · skip
                    refine wpAnyH_ready (rs := [3]) (by kernel_rfl) (by simp) ?_
                    refine AllReadyH.cons rfl (fun K hK => ?_) ?_
                    · go_simp
                      refine (OF1.out W J.up).mono ?_
                      rintro e' W2 ⟨⟨b9, a9, n9, k9, rfl, y9⟩, hb⟩
                      refine hK.out _ _ (KS.out _ (bl_trans J.up hb)) (fun _ => ?_)
                      simp only [List.setIfInBounds_toArray, List.set_cons_zero, List.set_cons_succ]
                      exact ih _ _ _ _ _ _ _ _ _ (by simp [left4] at hf ⊢; omega) (J.call2 hb ⟨b9, a9, n9, k9, rfl, y9⟩)
                    exact AllReadyH.nil
              · skip
                cases k1
                · skip
                  cases k2
                  · skip
                    refine wpAnyH_ready (rs := [4, 5]) (by kernel_rfl) (by simp) ?_
                    refine AllReadyH.cons rfl (fun K hK => ?_) ?_
                    · go_simp
                      refine hK.out _ _ (KS.out _ (bl_alloc J.up _)) (fun _ => ?_)
                      simp only [List.setIfInBounds_toArray, List.set_cons_zero, List.set_cons_succ]
                      exact ih _ _ _ _ _ _ _ _ _ (by simp [left4] at hf ⊢; omega) J.make1
                    refine AllReadyH.cons rfl (fun K hK => ?_) ?_
                    · go_simp
                      refine hK.out _ _ (KS.out _ (bl_alloc J.up _)) (fun _ => ?_)
                      simp only [List.setIfInBounds_toArray, List.set_cons_zero, List.set_cons_succ]
                      exact ih _ _ _ _ _ _ _ _ _ (by simp [left4] at hf ⊢; omega) J.make2
                    exact AllReadyH.nil
                  · skip
                    refine wpAnyH_ready (rs := [4]) (by kernel_rfl) (by simp) ?_
                    refine AllReadyH.cons rfl (fun K hK => ?_) ?_
                    · go_simp
                      refine hK.out _ _ (KS.out _ (bl_alloc J.up _)) (fun _ => ?_)
                      simp only [List.setIfInBounds_toArray, List.set_cons_zero, List.set_cons_succ]
                      exact ih _ _ _ _ _ _ _ _ _ (by simp [left4] at hf ⊢; omega) J.make1
                    exact AllReadyH.nil
                · skip
                  cases k2
                  · skip
                    refine wpAnyH_ready (rs := [5]) (by kernel_rfl) (by simp) ?_
                    refine AllReadyH.cons rfl (fun K hK => ?_) ?_
                    · go_simp
                      refine hK.out _ _ (KS.out _ (bl_alloc J.up _)) (fun _ => ?_)
                      simp only [List.setIfInBounds_toArray, List.set_cons_zero, List.set_cons_succ]
                      exact ih _ _ _ _ _ _ _ _ _ (by simp [left4] at hf ⊢; omega) J.make2
                    exact AllReadyH.nil
                  · skip
                    obtain ⟨bm, am, nm, km, rfl, ym⟩ := J.q1 rfl
                    obtain ⟨bn, an, nn, kn, rfl, yn⟩ := J.q2 rfl
                    have D12 := J.d12 rfl rfl
                    obtain ⟨g1, rfl, l1, e1⟩ := J.r1 rfl
                    obtain ⟨g2, rfl, l2, e2⟩ := J.r2 rfl
                    have HU := hide J.up
                    obtain rfl : n = 1 := by simp [left4] at hf; omega
                    clear J ih hf
                    have D12g : g1 ≠ g2 := fun e => D12 (by rw [e])
                    have HFIN := hide (two_ss e1 e2 ym yn HU.out l1 l2 D12g)
                    clear D12 ym yn
                    obtain ⟨m0, m1⟩ := duo e1
                    have hf1 := duof e1
                    have t2 := duo_other (u0 := .bool bm) (u1 := .slice am nm km) e2 (Ne.symm D12g)
                    obtain ⟨m2, m3⟩ := duo t2
                    have hf2 := duof t2
                    have HB1 := hide (below_duo (u0 := .bool bm) (u1 := .slice am nm km) HU.out l1)
                    have HB2 := hide (below_duo (u0 := .bool bn) (u1 := .slice an nn kn) HB1.out l2)
                    clear t2 e1 e2
                    refine wpAnyH_ready (rs := [6]) (by kernel_rfl) (by simp) ?_
                    refine AllReadyH.cons rfl (fun K hK => ?_) AllReadyH.nil
                    go_simp
                    refine hK.out _ _ (KS.out _ HB1.out) (fun _ => ?_)
                    clear hK K
                    try simp only [List.setIfInBounds_toArray, List.set_cons_zero, List.set_cons_succ]
                    refine wpAnyH_ready (rs := [7]) (by kernel_rfl) (by simp) ?_
                    refine AllReadyH.cons rfl (fun K hK => ?_) AllReadyH.nil
                    go_simp
                    refine hK.out _ _ (KS.out _ HB2.out) (fun _ => ?_)
                    clear hK K
                    try simp only [List.setIfInBounds_toArray, List.set_cons_zero, List.set_cons_succ]
                    refine wpAnyH_done (by kernel_rfl) ?_ _
                    clear m0 m1 m2 m3 hf1 hf2 HB1 HB2
                    go_wp2_with fail
                    go_meet
                    exact HFIN.out
        case rest =>
          obtain ⟨gm1, gn1, bm, am, nm, km, bn, an, nn, kn, rfl, rfl, hGm, hGn, ym, yn, hbx⟩ := hcut
          replace HAP := hide (HAP.out.below hbx)
          have hPup2 : U1.heap.size ≤ wc.heap.size := hbx.size
          replace HX := hide (block_upW hbx HX.out)
          replace HY := hide (block_upW hbx HY.out)
          replace HBp := hide (block_upW hbx HBp.out)
          replace HBq := hide (block_upW hbx HBq.out)
          replace HBu := hide (block_upW hbx HBu.out)
          replace HBwas := hide (block_upW hbx HBwas.out)
          replace HBrr := hide (block_upW hbx HBrr.out)
          replace HBss := hide (block_upW hbx HBss.out)
          replace HBnow := hide (block_upW hbx HBnow.out)
          replace HRp := hide (HRp.out.below hbx)
          replace HRq := hide (HRq.out.below hbx)
          replace HRu := hide (HRu.out.below hbx)
          replace HRwas := hide (HRwas.out.below hbx)
          replace HRrr := hide (HRrr.out.below hbx)
          replace HRss := hide (HRss.out.below hbx)
          replace HRnow := hide (HRnow.out.below hbx)
          replace HG := hide (bl_trans HG.out hbx)
          replace HK := hide (HK.out.below' hbx)
          have HM := hide hGm
          have HN := hide hGn
          have HZm := hide ym
          have HZn := hide yn
          clear hGm hGn ym yn hbx OF0 OF1 KS HAt HBt hU1 hP7
          obtain ⟨ca0, cb0⟩ := duo (block_upW HG.out HA.out)
          have C := rzof_any b0 _ zX wc (HARG.out _ HK.out) (by omega)
          rw [EQX.out] at C
          go_wp2_with fail
          refine C.mono ?_
          rintro e Qo ⟨⟨bo, ao, lo, ko, rfl, yo⟩, hq⟩
          clear ca0 cb0
          obtain ⟨Po, hPo, hbP, hx⟩ := enter1 Qo (.cells #[.bool bo, .slice ao lo ko] 32)
          have stp := bl_trans hq hbP
          replace HAP := hide (HAP.out.below stp)
          have hPup3 : wc.heap.size ≤ Po.heap.size := stp.size
          have hPup4 : P7.heap.size ≤ Po.heap.size := Nat.le_trans hPup1 (Nat.le_trans hPup2 hPup3)
          replace HX := hide (block_upW stp HX.out)
          replace HY := hide (block_upW stp HY.out)
          replace HBp := hide (block_upW stp HBp.out)
          replace HBq := hide (block_upW stp HBq.out)
          replace HBu := hide (block_upW stp HBu.out)
          replace HBwas := hide (block_upW stp HBwas.out)
          replace HBrr := hide (block_upW stp HBrr.out)
          replace HBss := hide (block_upW stp HBss.out)
          replace HBnow := hide (block_upW stp HBnow.out)
          replace HM := hide (block_upW stp HM.out)
          replace HN := hide (block_upW stp HN.out)
          replace HRp := hide (HRp.out.below stp)
          replace HRq := hide (HRq.out.below stp)
          replace HRu := hide (HRu.out.below stp)
          replace HRwas := hide (HRwas.out.below stp)
          replace HRrr := hide (HRrr.out.below stp)
          replace HRss := hide (HRss.out.below stp)
          replace HRnow := hide (HRnow.out.below stp)
          replace HZm := hide (HZm.out.below stp)
          replace HZn := hide (HZn.out.below stp)
          replace HG := hide (bl_trans HG.out stp)
          replace HK := hide (HK.out.below' stp)
          have HZo := hide (yo.below hbP)
          have HBo := hide hx
          clear C yo hq hbP hx stp
          have hsA : blen zA.natAbs ≤ 67108864 := by
            obtain ⟨rs, _, _, h3, _, h5, _⟩ := HRwas.out.opened
            rw [← EQ.out.1, zz_abs]
            rw [zz_abs] at h5
            exact h5
          have hsO : blen zO.natAbs ≤ 67108864 := by
            obtain ⟨rs, _, _, h3, _, h5, _⟩ := HRnow.out.opened
            rw [← EQX.out, zz_abs]
            rw [zz_abs] at h5
            exact h5
          have hsB : blen zB.natAbs ≤ 67108866 := by
            obtain ⟨rs, _, _, h3, _, h5, _⟩ := HRp.out.opened
            have e : zB.natAbs ≤ (zA + zB).natAbs + zA.natAbs := by omega
            have h1 := blen_mono e
            have h2 := blen_plus9 h5 hsA
            omega
          have AD := hide (fun (W : World) (hg : Below Po.heap.size Po W) => rzadd_any (.agg #[.bool bm, .slice am nm km]) (.agg #[.bool bn, .slice an nn kn]) zA zB W (HZm.out.below hg) (HZn.out.below hg) (by omega) (by omega))
          have MU := hide (fun (W : World) (hg : Below Po.heap.size Po W) => rzmul_any (.agg #[.bool bm, .slice am nm km]) (.agg #[.bool bn, .slice an nn kn]) zA zB W (HZm.out.below hg) (HZn.out.below hg) (by omega))
          have KS := hide (fun (W : World) (hg : Below Po.heap.size Po W) => show W.cell? ⟨gm1, 0, none⟩ = some (.bool bm) ∧ W.cell? ⟨gm1, 1, none⟩ = some (.slice am nm km) ∧ W.cell? ⟨gn1, 0, none⟩ = some (.bool bn) ∧ W.cell? ⟨gn1, 1, none⟩ = some (.slice an nn kn) from ⟨(duo (block_upW hg HM.out)).1, (duo (block_upW hg HM.out)).2, (duo (block_upW hg HN.out)).1, (duo (block_upW hg HN.out)).2⟩)
          go_upto_region 20 with fail
          go_cut [26, 27] from 110 to 116 (fun s t wx => TwoBox Po (zA + zB) (zA * zB) s t wx)
          case first =>
            refine wp_region_held_drew (S := fun w' => w'.cell? ⟨gm1, 0, none⟩ = some (.bool bm) ∧ w'.cell? ⟨gm1, 1, none⟩ = some (.slice am nm km) ∧ w'.cell? ⟨gn1, 0, none⟩ = some (.bool bn) ∧ w'.cell? ⟨gn1, 1, none⟩ = some (.slice an nn kn)) (by kernel_rfl) (KS.out _ (bl_drew (Below.refl _ _))) (fun hHeld => ?_)
            refine wpAnyH_take (i := 0) (oi := { dst := some 110, op := Op.load 32 (Operand.tmp 23), type := 32, pos := "outright.go:248", after := #[], guard := none }) (v := .agg #[.bool bm, .slice am nm km]) rfl (by kernel_rfl) (by kernel_rfl) (by kernel_rfl) (fun _ _ _ h => h) (Or.inl ⟨by rfl, fun w9 hSw => ?_⟩) hHeld ?_
            · (try dsimp only at hSw); go_simp
            simp only [Act.put, List.setIfInBounds_toArray, List.set_cons_zero, List.set_cons_succ]
            refine wpAnyH_take (i := 1) (oi := { dst := some 111, op := Op.load 32 (Operand.tmp 24), type := 32, pos := "outright.go:248", after := #[], guard := none }) (v := .agg #[.bool bn, .slice an nn kn]) rfl (by kernel_rfl) (by kernel_rfl) (by kernel_rfl) (fun _ _ _ h => h) (Or.inl ⟨by rfl, fun w9 hSw => ?_⟩) hHeld ?_
            · (try dsimp only at hSw); go_simp
            simp only [Act.put, List.setIfInBounds_toArray, List.set_cons_zero, List.set_cons_succ]
            refine wpAnyH_take (i := 3) (oi := { dst := some 113, op := Op.load 32 (Operand.tmp 23), type := 32, pos := "outright.go:248", after := #[], guard := none }) (v := .agg #[.bool bm, .slice am nm km]) rfl (by kernel_rfl) (by kernel_rfl) (by kernel_rfl) (fun _ _ _ h => h) (Or.inl ⟨by rfl, fun w9 hSw => ?_⟩) hHeld ?_
            · (try dsimp only at hSw); go_simp
            simp only [Act.put, List.setIfInBounds_toArray, List.set_cons_zero, List.set_cons_succ]
            refine wpAnyH_take (i := 4) (oi := { dst := some 114, op := Op.load 32 (Operand.tmp 24), type := 32, pos := "outright.go:248", after := #[], guard := none }) (v := .agg #[.bool bn, .slice an nn kn]) rfl (by kernel_rfl) (by kernel_rfl) (by kernel_rfl) (fun _ _ _ h => h) (Or.inl ⟨by rfl, fun w9 hSw => ?_⟩) hHeld ?_
            · (try dsimp only at hSw); go_simp
            simp only [Act.put, List.setIfInBounds_toArray, List.set_cons_zero, List.set_cons_succ]
            refine dp2 Po (zA + zB) (zA * zB) 112 115 26 27 (fun c1 c2 k1 k2 => #[true, true, c1, true, true, c2, k1, k2, false, false]) (by kernel_rfl) (by kernel_rfl) (by simp only [Act.put, List.setIfInBounds_toArray, List.set_cons_zero, List.set_cons_succ]) (bl_drew (Below.refl _ _)) ?_
            clear hHeld
            intro n
            simp only [Act.put, List.setIfInBounds_toArray, List.set_cons_zero, List.set_cons_succ]
            induction n with
            | zero =>
              intro c1 c2 k1 k2 x1 x2 y1 y2 W hf J
              exact absurd hf (by unfold left4; omega)
            | succ n ih =>
              intro c1 c2 k1 k2 x1 x2 y1 y2 W hf J
              cases c1
              · skip
                cases c2
                · skip
                  cases k1
                  · skip
                    cases k2
                    · skip
                      refine wpAnyH_ready (rs := [2, 6, 7]) (by kernel_rfl) (by simp) ?_
                      refine AllReadyH.cons rfl (fun K hK => ?_) ?_
                      · go_simp
                        refine (AD.out W J.up).mono ?_
                        rintro e' W2 ⟨⟨b9, a9, n9, k9, rfl, y9⟩, hb⟩
                        refine hK.out _ _ (KS.out _ (bl_trans J.up hb)) (fun _ => ?_)
                        simp only [List.setIfInBounds_toArray, List.set_cons_zero, List.set_cons_succ]
                        exact ih _ _ _ _ _ _ _ _ _ (by simp [left4] at hf ⊢; omega) (J.call1 hb ⟨b9, a9, n9, k9, rfl, y9⟩)
                      refine AllReadyH.cons rfl (fun K hK => ?_) ?_
                      · go_simp
                        refine hK.out _ _ (KS.out _ (bl_alloc J.up _)) (fun _ => ?_)
                        simp only [List.setIfInBounds_toArray, List.set_cons_zero, List.set_cons_succ]
                        exact ih _ _ _ _ _ _ _ _ _ (by simp [left4] at hf ⊢; omega) J.make1
                      refine AllReadyH.cons rfl (fun K hK => ?_) ?_
                      · go_simp
                        refine hK.out _ _ (KS.out _ (bl_alloc J.up _)) (fun _ => ?_)
                        simp only [List.setIfInBounds_toArray, List.set_cons_zero, List.set_cons_succ]
                        exact ih _ _ _ _ _ _ _ _ _ (by simp [left4] at hf ⊢; omega) J.make2
                      exact AllReadyH.nil
                    · skip
                      refine wpAnyH_ready (rs := [2, 6]) (by kernel_rfl) (by simp) ?_
                      refine AllReadyH.cons rfl (fun K hK => ?_) ?_
                      · go_simp
                        refine (AD.out W J.up).mono ?_
                        rintro e' W2 ⟨⟨b9, a9, n9, k9, rfl, y9⟩, hb⟩
                        refine hK.out _ _ (KS.out _ (bl_trans J.up hb)) (fun _ => ?_)
                        simp only [List.setIfInBounds_toArray, List.set_cons_zero, List.set_cons_succ]
                        exact ih _ _ _ _ _ _ _ _ _ (by simp [left4] at hf ⊢; omega) (J.call1 hb ⟨b9, a9, n9, k9, rfl, y9⟩)
                      refine AllReadyH.cons rfl (fun K hK => ?_) ?_
                      · go_simp
                        refine hK.out _ _ (KS.out _ (bl_alloc J.up _)) (fun _ => ?_)
                        simp only [List.setIfInBounds_toArray, List.set_cons_zero, List.set_cons_succ]
                        exact ih _ _ _ _ _ _ _ _ _ (by simp [left4] at hf ⊢; omega) J.make1
                      exact AllReadyH.nil
                  · skip
                    cases k2
                    · skip
                      refine wpAnyH_ready (rs := [2, 7]) (by kernel_rfl) (by simp) ?_
                      refine AllReadyH.cons rfl (fun K hK => ?_) ?_
                      · go_simp
                        refine (AD.out W J.up).mono ?_
                        rintro e' W2 ⟨⟨b9, a9, n9, k9, rfl, y9⟩, hb⟩
                        refine hK.out _ _ (KS.out _ (bl_trans J.up hb)) (fun _ => ?_)
                        simp only [List.setIfInBounds_toArray, List.set_cons_zero, List.set_cons_succ]
                        exact ih _ _ _ _ _ _ _ _ _ (by simp [left4] at hf ⊢; omega) (J.call1 hb ⟨b9, a9, n9, k9, rfl, y9⟩)
                      refine AllReadyH.cons rfl (fun K hK => ?_) ?_
                      · go_simp
                        refine hK.out _ _ (KS.out _ (bl_alloc J.up _)) (fun _ => ?_)
                        simp only [List.setIfInBounds_toArray, List.set_cons_zero, List.set_cons_succ]
                        exact ih _ _ _ _ _ _ _ _ _ (by simp [left4] at hf ⊢; omega) J.make2
                      exact AllReadyH.nil
                    · skip
                      refine wpAnyH_ready (rs := [2]) (by kernel_rfl) (by simp) ?_
                      refine AllReadyH.cons rfl (fun K hK => ?_) ?_
                      · go_simp
                        refine (AD.out W J.up).mono ?_
                        rintro e' W2 ⟨⟨b9, a9, n9, k9, rfl, y9⟩, hb⟩
                        refine hK.out _ _ (KS.out _ (bl_trans J.up hb)) (fun _ => ?_)
                        simp only [List.setIfInBounds_toArray, List.set_cons_zero, List.set_cons_succ]
                        exact ih _ _ _ _ _ _ _ _ _ (by simp [left4] at hf ⊢; omega) (J.call1 hb ⟨b9, a9, n9, k9, rfl, y9⟩)
                      exact AllReadyH.nil
                · skip
                  exact absurd (J.ch rfl) (by decide)
              · skip
                cases c2
                · skip
                  cases k1
                  · skip
                    cases k2
                    · skip
                      refine wpAnyH_ready (rs := [5, 6, 7]) (by kernel_rfl) (by simp) ?_
                      refine AllReadyH.cons rfl (fun K hK => ?_) ?_
                      · go_simp
                        refine (MU.out W J.up).mono ?_
                        rintro e' W2 ⟨⟨b9, a9, n9, k9, rfl, y9⟩, hb⟩
                        refine hK.out _ _ (KS.out _ (bl_trans J.up hb)) (fun _ => ?_)
                        simp only [List.setIfInBounds_toArray, List.set_cons_zero, List.set_cons_succ]
                        exact ih _ _ _ _ _ _ _ _ _ (by simp [left4] at hf ⊢; omega) (J.call2 hb ⟨b9, a9, n9, k9, rfl, y9⟩)
                      refine AllReadyH.cons rfl (fun K hK => ?_) ?_
                      · go_simp
                        refine hK.out _ _ (KS.out _ (bl_alloc J.up _)) (fun _ => ?_)
                        simp only [List.setIfInBounds_toArray, List.set_cons_zero, List.set_cons_succ]
                        exact ih _ _ _ _ _ _ _ _ _ (by simp [left4] at hf ⊢; omega) J.make1
                      refine AllReadyH.cons rfl (fun K hK => ?_) ?_
                      · go_simp
                        refine hK.out _ _ (KS.out _ (bl_alloc J.up _)) (fun _ => ?_)
                        simp only [List.setIfInBounds_toArray, List.set_cons_zero, List.set_cons_succ]
                        exact ih _ _ _ _ _ _ _ _ _ (by simp [left4] at hf ⊢; omega) J.make2
                      exact AllReadyH.nil
                    · skip
                      refine wpAnyH_ready (rs := [5, 6]) (by kernel_rfl) (by simp) ?_
                      refine AllReadyH.cons rfl (fun K hK => ?_) ?_
                      · go_simp
                        refine (MU.out W J.up).mono ?_
                        rintro e' W2 ⟨⟨b9, a9, n9, k9, rfl, y9⟩, hb⟩
                        refine hK.out _ _ (KS.out _ (bl_trans J.up hb)) (fun _ => ?_)
                        simp only [List.setIfInBounds_toArray, List.set_cons_zero, List.set_cons_succ]
                        exact ih _ _ _ _ _ _ _ _ _ (by simp [left4] at hf ⊢; omega) (J.call2 hb ⟨b9, a9, n9, k9, rfl, y9⟩)
                      refine AllReadyH.cons rfl (fun K hK => ?_) ?_
                      · go_simp
                        refine hK.out _ _ (KS.out _ (bl_alloc J.up _)) (fun _ => ?_)
                        simp only [List.setIfInBounds_toArray, List.set_cons_zero, List.set_cons_succ]
                        exact ih _ _ _ _ _ _ _ _ _ (by simp [left4] at hf ⊢; omega) J.make1
                      exact AllReadyH.nil
                  · skip
                    cases k2
                    · skip
                      refine wpAnyH_ready (rs := [5, 7]) (by kernel_rfl) (by simp) ?_
                      refine AllReadyH.cons rfl (fun K hK => ?_) ?_
                      · go_simp
                        refine (MU.out W J.up).mono ?_
                        rintro e' W2 ⟨⟨b9, a9, n9, k9, rfl, y9⟩, hb⟩
                        refine hK.out _ _ (KS.out _ (bl_trans J.up hb)) (fun _ => ?_)
                        simp only [List.setIfInBounds_toArray, List.set_cons_zero, List.set_cons_succ]
                        exact ih _ _ _ _ _ _ _ _ _ (by simp [left4] at hf ⊢; omega) (J.call2 hb ⟨b9, a9, n9, k9, rfl, y9⟩)
                      refine AllReadyH.cons rfl (fun K hK => ?_) ?_
                      · go_simp
                        refine hK.out _ _ (KS.out _ (bl_alloc J.up _)) (fun _ => ?_)
                        simp only [List.setIfInBounds_toArray, List.set_cons_zero, List.set_cons_succ]
                        exact ih _ _ _ _ _ _ _ _ _ (by simp [left4] at hf ⊢; omega) J.make2
                      exact AllReadyH.nil
                    · skip
                      refine wpAnyH_ready (rs := [5]) (by kernel_rfl) (by simp) ?_
                      refine AllReadyH.cons rfl (fun K hK => ?_) ?_
                      · go_simp
                        refine (MU.out W J.up).mono ?_
                        rintro e' W2 ⟨⟨b9, a9, n9, k9, rfl, y9⟩, hb⟩
                        refine hK.out _ _ (KS.out _ (bl_trans J.up hb)) (fun _ => ?_)
                        simp only [List.setIfInBounds_toArray, List.set_cons_zero, List.set_cons_succ]
                        exact ih _ _ _ _ _ _ _ _ _ (by simp [left4] at hf ⊢; omega) (J.call2 hb ⟨b9, a9, n9, k9, rfl, y9⟩)
                      exact AllReadyH.nil
                · skip
                  cases k1
                  · skip
                    cases k2
                    · skip
                      refine wpAnyH_ready (rs := [6, 7]) (by kernel_rfl) (by simp) ?_
                      refine AllReadyH.cons rfl (fun K hK => ?_) ?_
                      · go_simp
                        refine hK.out _ _ (KS.out _ (bl_alloc J.up _)) (fun _ => ?_)
                        simp only [List.setIfInBounds_toArray, List.set_cons_zero, List.set_cons_succ]
                        exact ih _ _ _ _ _ _ _ _ _ (by simp [left4] at hf ⊢; omega) J.make1
                      refine AllReadyH.cons rfl (fun K hK => ?_) ?_
                      · go_simp
                        refine hK.out _ _ (KS.out _ (bl_alloc J.up _)) (fun _ => ?_)
                        simp only [List.setIfInBounds_toArray, List.set_cons_zero, List.set_cons_succ]
                        exact ih _ _ _ _ _ _ _ _ _ (by simp [left4] at hf ⊢; omega) J.make2
                      exact AllReadyH.nil
                    · skip
                      refine wpAnyH_ready (rs := [6]) (by kernel_rfl) (by simp) ?_
                      refine AllReadyH.cons rfl (fun K hK => ?_) ?_
                      · go_simp
                        refine hK.out _ _ (KS.out _ (bl_alloc J.up _)) (fun _ => ?_)
                        simp only [List.setIfInBounds_toArray, List.set_cons_zero, List.set_cons_succ]
                        exact ih _ _ _ _ _ _ _ _ _ (by simp [left4] at hf ⊢; omega) J.make1
                      exact AllReadyH.nil
                  · skip
                    cases k2
                    · skip
                      refine wpAnyH_ready (rs := [7]) (by kernel_rfl) (by simp) ?_
                      refine AllReadyH.cons rfl (fun K hK => ?_) ?_
                      · go_simp
                        refine hK.out _ _ (KS.out _ (bl_alloc J.up _)) (fun _ => ?_)
                        simp only [List.setIfInBounds_toArray, List.set_cons_zero, List.set_cons_succ]
                        exact ih _ _ _ _ _ _ _ _ _ (by simp [left4] at hf ⊢; omega) J.make2
                      exact AllReadyH.nil
                    · skip
                      obtain ⟨bm, am, nm, km, rfl, ym⟩ := J.q1 rfl
                      obtain ⟨bn, an, nn, kn, rfl, yn⟩ := J.q2 rfl
                      have D12 := J.d12 rfl rfl
                      obtain ⟨g1, rfl, l1, e1⟩ := J.r1 rfl
                      obtain ⟨g2, rfl, l2, e2⟩ := J.r2 rfl
                      have HU := hide J.up
                      obtain rfl : n = 1 := by simp [left4] at hf; omega
                      clear J ih hf
                      have D12g : g1 ≠ g2 := fun e => D12 (by rw [e])
                      have HFIN := hide (two_ss e1 e2 ym yn HU.out l1 l2 D12g)
                      clear D12 ym yn
                      obtain ⟨m0, m1⟩ := duo e1
                      have hf1 := duof e1
                      have t2 := duo_other (u0 := .bool bm) (u1 := .slice am nm km) e2 (Ne.symm D12g)
                      obtain ⟨m2, m3⟩ := duo t2
                      have hf2 := duof t2
                      have HB1 := hide (below_duo (u0 := .bool bm) (u1 := .slice am nm km) HU.out l1)
                      have HB2 := hide (below_duo (u0 := .bool bn) (u1 := .slice an nn kn) HB1.out l2)
                      clear t2 e1 e2
                      refine wpAnyH_ready (rs := [8]) (by kernel_rfl) (by simp) ?_
                      refine AllReadyH.cons rfl (fun K hK => ?_) AllReadyH.nil
                      go_simp
                      refine hK.out _ _ (KS.out _ HB1.out) (fun _ => ?_)
                      clear hK K
                      try simp only [List.setIfInBounds_toArray, List.set_cons_zero, List.set_cons_succ]
                      refine wpAnyH_ready (rs := [9]) (by kernel_rfl) (by simp) ?_
                      refine AllReadyH.cons rfl (fun K hK => ?_) AllReadyH.nil
                      go_simp
                      refine hK.out _ _ (KS.out _ HB2.out) (fun _ => ?_)
                      clear hK K
                      try simp only [List.setIfInBounds_toArray, List.set_cons_zero, List.set_cons_succ]
                      refine wpAnyH_done (by kernel_rfl) ?_ _
                      clear m0 m1 m2 m3 hf1 hf2 HB1 HB2
                      go_wp2_with fail
                      go_meet
                      exact HFIN.out
          case rest =>
            obtain ⟨gs1, gt1, bs1, as1, ns1, ks1, bt1, at1, nt1, kt1, rfl, rfl, hGm, hGn, ym, yn, hbx⟩ := hcut
            replace HAP := hide (HAP.out.below hbx)
            have hPup : P7.heap.size ≤ wc.heap.size := Nat.le_trans hPup4 hbx.size
            replace HX := hide (block_upW hbx HX.out)
            replace HY := hide (block_upW hbx HY.out)
            replace HBp := hide (block_upW hbx HBp.out)
            replace HBq := hide (block_upW hbx HBq.out)
            replace HBu := hide (block_upW hbx HBu.out)
            replace HBwas := hide (block_upW hbx HBwas.out)
            replace HBrr := hide (block_upW hbx HBrr.out)
            replace HBss := hide (block_upW hbx HBss.out)
            replace HBnow := hide (block_upW hbx HBnow.out)
            replace HM := hide (block_upW hbx HM.out)
            replace HN := hide (block_upW hbx HN.out)
            replace HBo := hide (block_upW hbx HBo.out)
            replace HRp := hide (HRp.out.below hbx)
            replace HRq := hide (HRq.out.below hbx)
            replace HRu := hide (HRu.out.below hbx)
            replace HRwas := hide (HRwas.out.below hbx)
            replace HRrr := hide (HRrr.out.below hbx)
            replace HRss := hide (HRss.out.below hbx)
            replace HRnow := hide (HRnow.out.below hbx)
            replace HZm := hide (HZm.out.below hbx)
            replace HZn := hide (HZn.out.below hbx)
            replace HZo := hide (HZo.out.below hbx)
            replace HG := hide (bl_trans HG.out hbx)
            replace HK := hide (HK.out.below' hbx)
            have HS := hide hGm
            have HPr := hide hGn
            have HZs := hide ym
            have HZp := hide yn
            clear hGm hGn ym yn hbx AD MU KS hPo
            have hbd : Below wc.heap.size wc wc.drew := (Below.refl _ _).drew
            replace HAP := hide (HAP.out.below hbd)
            replace HX := hide (block_upW hbd HX.out)
            replace HY := hide (block_upW hbd HY.out)
            replace HBp := hide (block_upW hbd HBp.out)
            replace HBq := hide (block_upW hbd HBq.out)
            replace HBu := hide (block_upW hbd HBu.out)
            replace HBwas := hide (block_upW hbd HBwas.out)
            replace HBrr := hide (block_upW hbd HBrr.out)
            replace HBss := hide (block_upW hbd HBss.out)
            replace HBnow := hide (block_upW hbd HBnow.out)
            replace HM := hide (block_upW hbd HM.out)
            replace HN := hide (block_upW hbd HN.out)
            replace HBo := hide (block_upW hbd HBo.out)
            replace HS := hide (block_upW hbd HS.out)
            replace HPr := hide (block_upW hbd HPr.out)
            replace HRp := hide (HRp.out.below hbd)
            replace HRq := hide (HRq.out.below hbd)
            replace HRu := hide (HRu.out.below hbd)
            replace HRwas := hide (HRwas.out.below hbd)
            replace HRrr := hide (HRrr.out.below hbd)
            replace HRss := hide (HRss.out.below hbd)
            replace HRnow := hide (HRnow.out.below hbd)
            replace HZm := hide (HZm.out.below hbd)
            replace HZn := hide (HZn.out.below hbd)
            replace HZo := hide (HZo.out.below hbd)
            replace HZs := hide (HZs.out.below hbd)
            replace HZp := hide (HZp.out.below hbd)
            replace HG := hide (bl_trans HG.out hbd)
            replace HK := hide (HK.out.below' hbd)
            clear hbd
            have KB : Hid (∀ W : World, W.heap[gs1]? = some (.cells #[.bool bs1, .slice as1 ns1 ks1] 32) → W.heap[gt1]? = some (.cells #[.bool bt1, .slice at1 nt1 kt1] 32) → W.heap[Q1.heap.size]? = some (.cells #[.bool bp, .slice ap lp kp] 27) → W.heap[Q3.heap.size]? = some (.cells #[.bool bu, .slice au lu ku] 27) → W.heap[Q2.heap.size]? = some (.cells #[.bool bq, .slice aq lq kq] 27) → W.heap[gm1]? = some (.cells #[.bool bm, .slice am nm km] 32) → W.heap[Q4.heap.size]? = some (.cells #[.bool bwas, .slice awas lwas kwas] 27) → W.heap[Qo.heap.size]? = some (.cells #[.bool bo, .slice ao lo ko] 32) → W.heap[gn1]? = some (.cells #[.bool bn, .slice an nn kn] 32) → W.heap[Q5.heap.size]? = some (.cells #[.bool brr, .slice arr lrr krr] 27) → W.heap[Q6.heap.size]? = some (.cells #[.bool bss, .slice ass lss kss] 27) → W.heap[Q7.heap.size]? = some (.cells #[.bool bnow, .slice anow lnow know] 27) → (W.cell? ⟨gs1, 0, none⟩ = some (.bool bs1) ∧ W.cell? ⟨gs1, 1, none⟩ = some (.slice as1 ns1 ks1) ∧ W.cell? ⟨gt1, 0, none⟩ = some (.bool bt1) ∧ W.cell? ⟨gt1, 1, none⟩ = some (.slice at1 nt1 kt1) ∧ W.cell? ⟨Q1.heap.size, 0, none⟩ = some (.bool bp) ∧ W.cell? ⟨Q1.heap.size, 1, none⟩ = some (.slice ap lp kp) ∧ W.cell? ⟨Q3.heap.size, 0, none⟩ = some (.bool bu) ∧ W.cell? ⟨Q3.heap.size, 1, none⟩ = some (.slice au lu ku) ∧ W.cell? ⟨Q2.heap.size, 0, none⟩ = some (.bool bq) ∧ W.cell? ⟨Q2.heap.size, 1, none⟩ = some (.slice aq lq kq) ∧ W.cell? ⟨gm1, 1, none⟩ = some (.slice am nm km) ∧ W.cell? ⟨Q4.heap.size, 1, none⟩ = some (.slice awas lwas kwas) ∧ W.cell? ⟨Qo.heap.size, 0, none⟩ = some (.bool bo) ∧ W.cell? ⟨Qo.heap.size, 1, none⟩ = some (.slice ao lo ko) ∧ W.cell? ⟨gn1, 0, none⟩ = some (.bool bn) ∧ W.cell? ⟨gn1, 1, none⟩ = some (.slice an nn kn) ∧ W.cell? ⟨Q5.heap.size, 0, none⟩ = some (.bool brr) ∧ W.cell? ⟨Q5.heap.size, 1, none⟩ = some (.slice arr lrr krr) ∧ W.cell? ⟨Q6.heap.size, 0, none⟩ = some (.bool bss) ∧ W.cell? ⟨Q6.heap.size, 1, none⟩ = some (.slice ass lss kss) ∧ W.cell? ⟨Q7.heap.size, 1, none⟩ = some (.slice anow lnow know))) := hide (fun W xHS xHPr xHBp xHBu xHBq xHM xHBwas xHBo xHN xHBrr xHBss xHBnow => ⟨(duo xHS).1, (duo xHS).2, (duo xHPr).1, (duo xHPr).2, (duo xHBp).1, (duo xHBp).2, (duo xHBu).1, (duo xHBu).2, (duo xHBq).1, (duo xHBq).2, (duo xHM).2, (duo xHBwas).2, (duo xHBo).1, (duo xHBo).2, (duo xHN).1, (duo xHN).2, (duo xHBrr).1, (duo xHBrr).2, (duo xHBss).1, (duo xHBss).2, (duo xHBnow).2⟩)
            have KS := hide (fun (W : World) (hg : Below wc.drew.heap.size wc.drew W) => KB.out W (block_upW hg HS.out) (block_upW hg HPr.out) (block_upW hg HBp.out) (block_upW hg HBu.out) (block_upW hg HBq.out) (block_upW hg HM.out) (block_upW hg HBwas.out) (block_upW hg HBo.out) (block_upW hg HN.out) (block_upW hg HBrr.out) (block_upW hg HBss.out) (block_upW hg HBnow.out))
            have g0 : Below wc.drew.heap.size wc.drew wc.drew := Below.refl _ _
            have C1 := hide (fun (W : World) (hg : Below wc.drew.heap.size wc.drew W) => zr_is (HZs.out.below hg) (HRp.out.below hg))
            have C2 := hide (fun (W : World) (hg : Below wc.drew.heap.size wc.drew W) => zr_is (HZs.out.below hg) (HRu.out.below hg))
            have C3 := hide (fun (W : World) (hg : Below wc.drew.heap.size wc.drew W) => zr_is (HZp.out.below hg) (HRq.out.below hg))
            have C4 := hide (fun (W : World) (hg : Below wc.drew.heap.size wc.drew W) => zr_num (HZm.out.inv.2.below hg) (HRwas.out.below hg) (by rw [zz_abs, ← EQ.out.1, zz_abs]))
            have C5 := hide (fun (W : World) (hg : Below wc.drew.heap.size wc.drew W) => rzadd_any (.agg #[.bool bo, .slice ao lo ko]) (.agg #[.bool bn, .slice an nn kn]) zO zB W (HZo.out.below hg) (HZn.out.below hg) (by omega) (by omega))
            have C7 := hide (fun (W : World) (hg : Below wc.drew.heap.size wc.drew W) => rzmul_any (.agg #[.bool bo, .slice ao lo ko]) (.agg #[.bool bn, .slice an nn kn]) zO zB W (HZo.out.below hg) (HZn.out.below hg) (by omega))
            have C9 := hide (fun (W : World) (hg : Below wc.drew.heap.size wc.drew W) => zr_num (HZo.out.inv.2.below hg) (HRnow.out.below hg) (by rw [zz_abs, ← EQX.out, zz_abs]))
            have hUP : Hid (u2.heap.size ≤ wc.drew.heap.size) := hide (show u2.heap.size ≤ wc.heap.size from Nat.le_trans hbs7 (Nat.le_trans hst7 hPup))
            have OWN := hide (fun (t9 : World) (g9 : Below wc.drew.heap.size wc.drew t9) => own_aparts u2.heap.size [.slice ap lp kp, .slice aq lq kq, .slice au lu ku, .slice awas lwas kwas, .slice arr lrr krr, .slice ass lss kss, .slice anow lnow know] [rp, rq, ru, rwas, rrr, rss, rnow] t9 (HAP.out.below g9) (by simp) (by intro r hr; have h1 := HLp.out; have h2 := HLq.out; have h3 := HLu.out; have h4 := HLwas.out; have h5 := HLrr.out; have h6 := HLss.out; have h7 := HLnow.out; simp only [List.mem_cons, List.not_mem_nil, or_false] at hr; rcases hr with rfl | rfl | rfl | rfl | rfl | rfl | rfl <;> omega) (Nat.le_trans hUP.out g9.size))
            go_wp2
            dsimp only [List.append]
            go_region_held3 (fun w' => w'.cell? ⟨gs1, 0, none⟩ = some (.bool bs1) ∧ w'.cell? ⟨gs1, 1, none⟩ = some (.slice as1 ns1 ks1) ∧ w'.cell? ⟨gt1, 0, none⟩ = some (.bool bt1) ∧ w'.cell? ⟨gt1, 1, none⟩ = some (.slice at1 nt1 kt1) ∧ w'.cell? ⟨Q1.heap.size, 0, none⟩ = some (.bool bp) ∧ w'.cell? ⟨Q1.heap.size, 1, none⟩ = some (.slice ap lp kp) ∧ w'.cell? ⟨Q3.heap.size, 0, none⟩ = some (.bool bu) ∧ w'.cell? ⟨Q3.heap.size, 1, none⟩ = some (.slice au lu ku) ∧ w'.cell? ⟨Q2.heap.size, 0, none⟩ = some (.bool bq) ∧ w'.cell? ⟨Q2.heap.size, 1, none⟩ = some (.slice aq lq kq) ∧ w'.cell? ⟨gm1, 1, none⟩ = some (.slice am nm km) ∧ w'.cell? ⟨Q4.heap.size, 1, none⟩ = some (.slice awas lwas kwas) ∧ w'.cell? ⟨Qo.heap.size, 0, none⟩ = some (.bool bo) ∧ w'.cell? ⟨Qo.heap.size, 1, none⟩ = some (.slice ao lo ko) ∧ w'.cell? ⟨gn1, 0, none⟩ = some (.bool bn) ∧ w'.cell? ⟨gn1, 1, none⟩ = some (.slice an nn kn) ∧ w'.cell? ⟨Q5.heap.size, 0, none⟩ = some (.bool brr) ∧ w'.cell? ⟨Q5.heap.size, 1, none⟩ = some (.slice arr lrr krr) ∧ w'.cell? ⟨Q6.heap.size, 0, none⟩ = some (.bool bss) ∧ w'.cell? ⟨Q6.heap.size, 1, none⟩ = some (.slice ass lss kss) ∧ w'.cell? ⟨Q7.heap.size, 1, none⟩ = some (.slice anow lnow know)) (first | with_reducible exact KS.out _ g9 | with_reducible exact KS.out _ g8 | with_reducible exact KS.out _ g7 | with_reducible exact KS.out _ g6 | with_reducible exact KS.out _ g5 | with_reducible exact KS.out _ g4 | with_reducible exact KS.out _ g3 | with_reducible exact KS.out _ g2 | with_reducible exact KS.out _ g1 | with_reducible exact KS.out _ g0 | with_reducible exact KS.out _ (bl_alloc g9 _) | with_reducible exact K10.out _ k0 | with_reducible exact K10.out _ hb11) (first
              | (go_at_call_of 46 ap; refine (C1.out wc.drew g0).mono ?_; rintro e' t1 ⟨rfl, hb1⟩; have g1 := bl_trans g0 hb1)
              | (go_at_call_of 46 au; refine (C2.out t1 g1).mono ?_; rintro e' t2 ⟨rfl, hb2⟩; have g2 := bl_trans g1 hb2)
              | (go_at_call_of 46 aq; refine (C3.out t2 g2).mono ?_; rintro e' t3 ⟨rfl, hb3⟩; have g3 := bl_trans g2 hb3)
              | (go_at_call_of 47 awas; refine (C4.out t3 g3).mono ?_; rintro e' t4 ⟨rfl, hb4⟩; have g4 := bl_trans g3 hb4)
              | (go_at_call_of 46 arr; refine (zr_is (z := zO + zB) (v := .agg #[.bool b5, .slice a5 n5 k5]) (w := t5) y5 (HRrr.out.below g5)).mono ?_; rintro e' t6 ⟨rfl, hb6⟩; have g6 := bl_trans g5 hb6)
              | (go_at_call_of 46 ass; refine (zr_is (z := zO * zB) (v := .agg #[.bool b7, .slice a7 n7 k7]) (w := t7) y7 (HRss.out.below g7)).mono ?_; rintro e' t8 ⟨rfl, hb8⟩; have g8 := bl_trans g7 hb8)
              | (go_at_call_of 47 anow; refine (C9.out t8 g8).mono ?_; rintro e' t9 ⟨rfl, hb9⟩; have g9 := bl_trans g8 hb9)
              | (go_at_call 33; refine (C5.out t4 g4).mono ?_; rintro e' t5 ⟨⟨b5, a5, n5, k5, rfl, y5⟩, hb5⟩; have g5 := bl_trans g4 hb5)
              | (go_at_call 45; refine (C7.out t6 g6).mono ?_; rintro e' t7 ⟨⟨b7, a7, n7, k7, rfl, y7⟩, hb7⟩; have g7 := bl_trans g6 hb7)
              | (go_at_call 22; refine (OWN.out t9 g9).mono ?_; rintro e' t10 ⟨rfl, hk10⟩; have g10 := (bl_trans HG.out g9).trans (hk10.below.mono (Nat.le_of_lt hl2)); have K10 := hide (fun (W : World) (hg : Below t10.heap.size t10 W) => KB.out W (block_upW hg (hk10.box _ _ _ (by decide) (by decide) (block_upW g9 HS.out))) (block_upW hg (hk10.box _ _ _ (by decide) (by decide) (block_upW g9 HPr.out))) (block_upW hg (hk10.box _ _ _ (by decide) (by decide) (block_upW g9 HBp.out))) (block_upW hg (hk10.box _ _ _ (by decide) (by decide) (block_upW g9 HBu.out))) (block_upW hg (hk10.box _ _ _ (by decide) (by decide) (block_upW g9 HBq.out))) (block_upW hg (hk10.box _ _ _ (by decide) (by decide) (block_upW g9 HM.out))) (block_upW hg (hk10.box _ _ _ (by decide) (by decide) (block_upW g9 HBwas.out))) (block_upW hg (hk10.box _ _ _ (by decide) (by decide) (block_upW g9 HBo.out))) (block_upW hg (hk10.box _ _ _ (by decide) (by decide) (block_upW g9 HN.out))) (block_upW hg (hk10.box _ _ _ (by decide) (by decide) (block_upW g9 HBrr.out))) (block_upW hg (hk10.box _ _ _ (by decide) (by decide) (block_upW g9 HBss.out))) (block_upW hg (hk10.box _ _ _ (by decide) (by decide) (block_upW g9 HBnow.out)))); have k0 : Below t10.heap.size t10 t10 := Below.refl _ _)
              | (go_at_call 24; refine (awake6_any t10 (HT.out.below g10)).mono ?_; rintro e' t11 ⟨rfl, hb11⟩))
            have HFIN := hide (HW.out.trans ((g10.trans (hb11.mono g10.size)).mono HW.out.size))
            clear hk10 hb11 hb1 hb2 hb3 hb4 hb5 hb6 hb7 hb8 hb9 KS KB K10 OWN
            go_wp2
            go_ret
            exact ⟨rfl, HFIN.out⟩
      · skip
        have hno : ([cp, cq, cu, cwas, crr, css, cnow].all (· == 0)) = false := by
          rw [Bool.eq_false_iff]
          intro h
          simp only [List.all_cons, List.all_nil, Bool.and_true, Bool.and_eq_true, beq_iff_eq] at h
          exact hc h
        rw [hno] at AL
        clear hno
        go_wp2_with fail
        refine AL.mono ?_
        rintro e wn ⟨rfl, hw⟩; rw [hw]; clear hw wn AL
        have AW := awake6_any U1 (HT.out.below HG.out)
        go_wp2_with fail
        refine AW.mono ?_
        rintro e t2 ⟨rfl, hb2⟩
        have HFIN := hide (HW.out.trans ((HG.out.trans (hb2.mono HG.out.size)).mono HW.out.size))
        clear AW hb2
        go_wp2
        go_ret
        exact ⟨rfl, HFIN.out⟩

end Go.Proofs.YtfgcngndiblpmaaGreatDoor
