/- The law SpanOwn: a case of its walk. -/
import Derived.Test.YtkfbobefkbpdoaaGreatDoorB08
import Derived.Test.YtkfbobefkbpdoaaGreatDoorB14
import Derived.Test.YtkfbobefkbpdoaaGreatDoorB18
import Derived.Test.YtkfbobefkbpdoaaGreatDoorB20
import Derived.Test.YtkfbobefkbpdoaaGreatDoorB10
import Derived.Test.YtkfbobefkbpdoaaGreatDoorB12
import Derived.Deep.CutBlock
import Derived.Deep.DeepCutAuto
namespace Go.Proofs.YtkfbobefkbpdoaaGreatDoor
open Go.RowKit
open Lm
attribute [local go_sem ↓] Go.wp_at_zero Go.wp_at_succ

set_option maxRecDepth 20000 in
set_option maxHeartbeats 16000000 in
theorem oG (b0:Bool)(a0:Option Addr)(k0:Nat)(z0:List Nat)(e0:Int)(b1:Bool)(a1:Option Addr)(k1:Nat)(z1:List Nat)(e1:Int)(b2:Bool)(a2:Option Addr)(k2:Nat)(z2:List Nat)(e2:Int)(b3:Bool)(a3:Option Addr)(k3:Nat)(z3:List Nat)(e3:Int)(pos:Int)(L:Nat)(V0 V1 V2 V3:Int)(QA QB QC QD c5 c6 c7 c8 d5 d6 mC I2 x5 x6 x7 x8 y5 y6 mD I3:Int)(w:World)(hT:Tab w)(A0:Arg w (.slice a0 z0.length k0) z0)(s0:z0.length≤1048576)(A1:Arg w (.slice a1 z1.length k1) z1)(s1:z1.length≤1048576)(A2:Arg w (.slice a2 z2.length k2) z2)(s2:z2.length≤1048576)(A3:Arg w (.slice a3 z3.length k3) z3)(s3:z3.length≤1048576)(hL:4611686018427387904≤L)(hV0:vof b0 z0 e0 L=V0)(hV1:vof b1 z1 e1 L=V1)(hV2:vof b2 z2 e2 L=V2)(hV3:vof b3 z3 e3 L=V3)(hF:flt e0 e1 V0 V1=0)(hG:flt e2 e3 V2 V3=0)(hK:ah pos=true)(hN:V0≤0)(m0:Sml L V0)(m1:Sml L V1)(m2:Sml L V2)(m3:Sml L V3)(hQA:rv 0 (min (min (min (V0*V2) (V0*V3)) (V1*V2)) (V1*V3)) (2 ^ (pos+((L+L):Nat)).toNat)=QA)(hQB:rv 1 (max (max (max (V0*V2) (V0*V3)) (V1*V2)) (V1*V3)) (2 ^ (pos+((L+L):Nat)).toNat)=QB)(hQC:rv 0 (min (min (min (V0*V2) (V0*V3)) (0*V2)) (0*V3)) (2 ^ (pos+((L+L):Nat)).toNat)=QC)(hQD:rv 1 (max (max (max (V0*V2) (V0*V3)) (0*V2)) (0*V3)) (2 ^ (pos+((L+L):Nat)).toNat)=QD)(w5:aj (L+L) (V0*V2) c5)(w6:aj (L+L) (V0*V3) c6)(w7:aj (L+L) (V1*V2) c7)(w8:aj (L+L) (V1*V3) c8)(v5:aj (L+L) QA d5)(v6:aj (L+L) QB d6)(k5:aj (L+L) (V0*V2) x5)(k6:aj (L+L) (V0*V3) x6)(k7:aj (L+L) (0*V2) x7)(k8:aj (L+L) (0*V3) x8)(k1y:aj (L+L) QC y5)(k2y:aj (L+L) QD y6)(hC:aW c5 c6 c7 c8=mC)(hI2:(if mC=0 then aE d5 d6 else mC)=I2)(hD:aW x5 x6 x7 x8=mD)(hI3:(if mD=0 then aE y5 y6 else mD)=I3) :
  Calls Tryz.prog 3 #[.agg #[.bool b0,.slice a0 z0.length k0,.int .i64 e0,.bool b1,.slice a1 z1.length k1,.int .i64 e1],.agg #[.bool b2,.slice a2 z2.length k2,.int .i64 e2,.bool b3,.slice a3 z3.length k3,.int .i64 e3],.int .i64 pos] w fun e w'=>e=.returned (.bool true)∧Below w.heap.size w w':=by
 obtain⟨w0,hw0,hb0,q0,q1⟩:=al w (.cells #[.bool b0,.slice a0 z0.length k0,.int .i64 e0,.bool b1,.slice a1 z1.length k1,.int .i64 e1] 26) (.cells #[.bool b2,.slice a2 z2.length k2,.int .i64 e2,.bool b3,.slice a3 z3.length k3,.int .i64 e3] 26)
 have HT:=ab (hT.below hb0)
 have HA0:=ab (A0.below hb0)
 have EV0:=ab hV0
 have HA1:=ab (A1.below hb0)
 have EV1:=ab hV1
 have HA2:=ab (A2.below hb0)
 have EV2:=ab hV2
 have HA3:=ab (A3.below hb0)
 have EV3:=ab hV3
 have HS:=ab q0
 have HR:=ab q1
 have HW:=ab hb0
 have LL:Hid (4611686018427387904≤L):=ab hL
 have HLM:=ab A1.limbs
 clear A0 hV0 A1 hV1 A2 hV2 A3 hV3 hT q0 q1 hb0 hL
 have EF:=ab hF
 have EG:=ab hG
 have HFK:=ab hK
 have SM0:=ab m0
 have SM1:=ab m1
 have SM2:=ab m2
 have SM3:=ab m3
 have EQA:=ab hQA
 have EQB:=ab hQB
 have EQC:=ab hQC
 have EQD:=ab hQD
 have X5:=ab w5
 have Z5:=ab k5
 have X6:=ab w6
 have Z6:=ab k6
 have X7:=ab w7
 have Z7:=ab k7
 have X8:=ab w8
 have Z8:=ab k8
 have Y5:=ab v5
 have Y6:=ab v6
 have Y7:=ab k1y
 have Y8:=ab k2y
 have EC:=ab hC
 have EI2:=ab hI2
 have ED:=ab hD
 have EI3:=ab hI3
 have HM2:Hid (∃c1 c2 c3 c4,aj (L+L) (V0*V2) c1∧aj (L+L) (V0*V3) c2∧aj (L+L) (V1*V2) c3∧aj (L+L) (V1*V3) c4∧aW c1 c2 c3 c4=mC):=ab ⟨c5,c6,c7,c8,w5,w6,w7,w8,hC⟩
 have HM3:Hid (∃c1 c2 c3 c4,aj (L+L) (V0*V2) c1∧aj (L+L) (V0*V3) c2∧aj (L+L) (0*V2) c3∧aj (L+L) (0*V3) c4∧aW c1 c2 c3 c4=mD):=ab ⟨x5,x6,x7,x8,k5,k6,k7,k8,hD⟩
 have EH:Hid (bq (wst 0 0) pos=0):=ab (by rw [show wst 0 0=0 from rfl];unfold bq;rw [if_pos rfl,if_pos hK])
 have EFX:Hid (flt e0 e1 V0 0=0):=ab (by obtain⟨h1,h2,_⟩:=dB hF;unfold flt;rw [if_pos h1,if_pos h2];rw [if_neg (by omega)])
 clear hF hG hK m0 m1 m2 m3 hQA hQB hQC hQD w5 w6 w7 w8 v5 v6 k5 k6 k7 k8 k1y k2y hC hI2 hD hI3
 go_enter Tryz.func3,Tryz.ntmps3
 obtain⟨ca0,ca1,ca2,ca3,ca4,ca5⟩:=hexa HS.out
 have C:=cd b0 a0 k0 z0 e0 b1 a1 k1 z1 e1 L w0 HA0.out HA1.out (by omega) (by omega) LL.out
 rw [EV0.out,EV1.out,EF.out] at C
 go_wp2_with fail
 refine C.mono ?_
 rintro e Q1 ⟨⟨m,ma,mn,mk,me,n,na,nn,nk,ne,rfl,hv1,hv2⟩,hb⟩
 clear C ca0 ca1 ca2 ca3 ca4 ca5 hw0
 rw [if_pos rfl] at hv1 hv2
 obtain⟨P2,hP2,hbP,hx⟩:=ag Q1 (.cells #[.bool m,.slice ma mn mk,.int .i64 me,.bool n,.slice na nn nk,.int .i64 ne] 33)
 have stp:=ae hb hbP
 replace HS:=ab (ac stp HS.out)
 replace HR:=ab (ac stp HR.out)
 replace HT:=ab (HT.out.below stp)
 replace HA0:=ab (HA0.out.below stp)
 replace HA1:=ab (HA1.out.below stp)
 replace HA2:=ab (HA2.out.below stp)
 replace HA3:=ab (HA3.out.below stp)
 replace HW:=bN HW stp
 have HMv:=ab (hv1.below hbP)
 have HNv:=ab (hv2.below hbP)
 have HM:=ab hx
 clear stp hbP hx hb hv1 hv2
 obtain⟨ca0,ca1,ca2,ca3,ca4,ca5⟩:=hexa HR.out
 have C:=cd b2 a2 k2 z2 e2 b3 a3 k3 z3 e3 L P2 HA2.out HA3.out (by omega) (by omega) LL.out
 rw [EV2.out,EV3.out,EG.out] at C
 go_wp2_with fail
 refine C.mono ?_
 rintro e Q3 ⟨⟨o,oa,on,ok,oe,t,ta,tn,tk,te,rfl,hv1,hv2⟩,hb⟩
 clear C ca0 ca1 ca2 ca3 ca4 ca5 hP2
 rw [if_pos rfl] at hv1 hv2
 obtain⟨P4,hP4,hbP,hx⟩:=ag Q3 (.cells #[.bool o,.slice oa on ok,.int .i64 oe,.bool t,.slice ta tn tk,.int .i64 te] 33)
 have stp:=ae hb hbP
 replace HS:=ab (ac stp HS.out)
 replace HR:=ab (ac stp HR.out)
 replace HM:=ab (ac stp HM.out)
 replace HT:=ab (HT.out.below stp)
 replace HA0:=ab (HA0.out.below stp)
 replace HA1:=ab (HA1.out.below stp)
 replace HA2:=ab (HA2.out.below stp)
 replace HA3:=ab (HA3.out.below stp)
 replace HMv:=ab (HMv.out.below stp)
 replace HNv:=ab (HNv.out.below stp)
 replace HW:=bN HW stp
 have HOv:=ab (hv1.below hbP)
 have HTv:=ab (hv2.below hbP)
 have HN:=ab hx
 clear stp hbP hx hb hv1 hv2
 have C:=bZ pos P4
 rw [HFK.out] at C
 go_wp2_with fail
 refine C.mono ?_
 rintro e wn ⟨rfl,hw⟩;rw [hw];clear hw wn C hP4
 obtain⟨PG,hPG⟩:∃PG,P4.heap.size=PG:=⟨_,rfl⟩
 obtain⟨ca0,ca1,ca2,ca3,ca4,ca5⟩:=hexa HS.out
 have C:=iI _ z1 P4 HA1.out (by omega)
 rw [hPG] at C
 go_wp2_with fail
 refine C.mono ?_
 rintro e w1 ⟨rfl,hk,hb9⟩
 have hb:Below P4.heap.size P4 w1:=by rw [hPG];exact hb9
 have HG:Hid (Below P4.heap.size P4 w1):=ab hb
 have HK:Hid (Blk w1 PG z1):=ab hk
 have hl1:PG<w1.heap.size:=hk.lt
 have HPG:=ab hPG
 clear hk hb9 hPG C ca0 ca1 ca2 ca3 ca4 ca5
 have HSx:=ab (ac hb HS.out)
 clear hb
 obtain⟨ca0,ca1,ca2,ca3,ca4,ca5⟩:=hexa HSx.out
 have C:=cC b0 a0 z0.length k0 e0 b1 a1 z1.length k1 e1 w1
 go_wp2_with fail
 refine C.mono ?_
 rintro e Q9 ⟨rfl,hb⟩
 clear C ca0 ca1 ca2 ca3 ca4 ca5
 obtain⟨U8,hU8,hbU8,hx8⟩:=ag Q9 (.cells #[.bool b0,.slice a0 z0.length k0,.int .i64 e0,.bool b1,.slice a1 z1.length k1,.int .i64 e1] 45)
 obtain⟨u1,hu1⟩:∃W,U8.setCell ⟨Q9.heap.size,4,none⟩ (.slice (some ⟨PG,0,none⟩) z1.length z1.length)=W:=⟨_,rfl⟩
 have hx:u1.heap[Q9.heap.size]?=some (.cells #[.bool b0,.slice a0 z0.length k0,.int .i64 e0,.bool b1,.slice (some ⟨PG,0,none⟩) z1.length z1.length,.int .i64 e1] 45):=by rw [←hu1];exact jg hx8 _
 have hst:Below w1.heap.size w1 u1:=by rw [←hu1];exact (ae hb hbU8).setCell (p:=⟨Q9.heap.size,4,none⟩) hb.size _
 replace HG:=ab (ae HG.out hst)
 replace HK:=ab (HK.out.below' hst)
 have HX:=ab hx
 have hl9:PG<Q9.heap.size:=Nat.lt_of_lt_of_le hl1 hb.size
 have hl2:PG<u1.heap.size:=Nat.lt_trans hl9 (lt_of_block hx)
 have HAP:=ab (bk.none10 u1 u1.heap.size)
 have HUU:Hid (Below u1.heap.size u1 u1):=ab (Below.refl _ _)
 have xf:=av hx8
 obtain⟨xa0,xa1,xa2,xa3,xa4,xa5⟩:=hexa hx8
 clear hb hbU8 hx8 hx hst HSx
 go_upto_region 8 with fail
 clear xf xa0 xa1 xa2 xa3 xa4 xa5 hU8 hu1
 have HARG:=ab (fun (W:World) (h:Blk W PG z1)=>h.arg9 HLM.out (by omega))
 have IN:=ab (fun (W:World)=>cC b2 a2 z2.length k2 e2 b3 a3 z3.length k3 e3 W)
 have MU:=ab (fun (W:World) (hg:Below u1.heap.size u1 W)=>show Calls Tryz.prog 9 #[.agg #[.bool b0,.slice a0 z0.length k0,.int .i64 e0,.bool b1,.slice (some ⟨PG,0,none⟩) z1.length z1.length,.int .i64 e1],.agg #[.bool b2,.slice a2 z2.length k2,.int .i64 e2,.bool b3,.slice a3 z3.length k3,.int .i64 e3],.int .i64 pos] W (fun e w'=>df u1 W e w' mC (L+L) QA QB) by
   have C:=dE b0 a0 k0 z0 e0 b1 (some ⟨PG,0,none⟩) z1.length z1 e1 b2 a2 k2 z2 e2 b3 a3 k3 z3 e3 pos L 0 mC W ((HT.out.below HG.out).below hg) ((HA0.out.below HG.out).below hg) (by omega) ((HARG.out _ HK.out).below hg) (by omega) ((HA2.out.below HG.out).below hg) (by omega) ((HA3.out.below HG.out).below hg) (by omega) LL.out (by rw [EV0.out,EV1.out,EV2.out,EV3.out,EF.out,EG.out];exact EH.out) (fun _=>by rw [EV0.out,EV1.out,EV2.out,EV3.out];exact HM2.out)
   rw [EV0.out,EV1.out,EV2.out,EV3.out] at C
   rw [if_pos rfl,EQA.out,EQB.out] at C
   exact C.mono (fun e w' h=>h.up hg))
 have KS:=ab (fun (W:World) (hg:Below u1.heap.size u1 W)=>show W.cell? ⟨Q9.heap.size,0,none⟩=some (.bool b0)∧W.cell? ⟨Q9.heap.size,1,none⟩=some (.slice a0 z0.length k0)∧W.cell? ⟨Q9.heap.size,2,none⟩=some (.int .i64 e0)∧W.cell? ⟨Q9.heap.size,3,none⟩=some (.bool b1)∧W.cell? ⟨Q9.heap.size,4,none⟩=some (.slice (some ⟨PG,0,none⟩) z1.length z1.length)∧W.cell? ⟨Q9.heap.size,5,none⟩=some (.int .i64 e1)∧W.cell? ⟨w.heap.size+1,0,none⟩=some (.bool b2)∧W.cell? ⟨w.heap.size+1,1,none⟩=some (.slice a2 z2.length k2)∧W.cell? ⟨w.heap.size+1,2,none⟩=some (.int .i64 e2)∧W.cell? ⟨w.heap.size+1,3,none⟩=some (.bool b3)∧W.cell? ⟨w.heap.size+1,4,none⟩=some (.slice a3 z3.length k3)∧W.cell? ⟨w.heap.size+1,5,none⟩=some (.int .i64 e3) from (by
  obtain⟨x0,x1,x2,x3,x4,x5⟩:=hexa (ac hg HX.out)
  obtain⟨y0,y1,y2,y3,y4,y5⟩:=hexa (ac hg (ac HG.out HR.out))
  exact⟨x0,x1,x2,x3,x4,x5,y0,y1,y2,y3,y4,y5⟩))
 have g0:Below u1.heap.size u1 u1:=Below.refl _ _
 have hub0:u1.heap.size≤u1.heap.size:=HUU.out.size
 go_cut [13,14] from 62 to 69 (fun s t wx=>cN u1 mC (L+L) QA QB s t wx)
 case first=>
  go_region_held3 (fun w'=>w'.cell? ⟨Q9.heap.size,0,none⟩=some (.bool b0)∧w'.cell? ⟨Q9.heap.size,1,none⟩=some (.slice a0 z0.length k0)∧w'.cell? ⟨Q9.heap.size,2,none⟩=some (.int .i64 e0)∧w'.cell? ⟨Q9.heap.size,3,none⟩=some (.bool b1)∧w'.cell? ⟨Q9.heap.size,4,none⟩=some (.slice (some ⟨PG,0,none⟩) z1.length z1.length)∧w'.cell? ⟨Q9.heap.size,5,none⟩=some (.int .i64 e1)∧w'.cell? ⟨w.heap.size+1,0,none⟩=some (.bool b2)∧w'.cell? ⟨w.heap.size+1,1,none⟩=some (.slice a2 z2.length k2)∧w'.cell? ⟨w.heap.size+1,2,none⟩=some (.int .i64 e2)∧w'.cell? ⟨w.heap.size+1,3,none⟩=some (.bool b3)∧w'.cell? ⟨w.heap.size+1,4,none⟩=some (.slice a3 z3.length k3)∧w'.cell? ⟨w.heap.size+1,5,none⟩=some (.int .i64 e3)) (first | (refine KS.out _ ?_;repeat (first|with_reducible assumption|with_reducible exact Below.refl _ _|with_reducible apply aG|with_reducible apply be | (with_reducible refine aF ?_ (by omega) _ _ _ _ _ _)))) (first
   | (go_at_call 9;refine (MU.out _ (by repeat (first|with_reducible exact g1|with_reducible apply aG))).mono ?_;rintro e' t2 ⟨⟨d,da,dn,dk,de,f,fa,fn,fk,fe,dc,rfl,hs⟩,hb2⟩;have g2:Below u1.heap.size u1 t2:=ae (by repeat (first|with_reducible exact g1|with_reducible apply aG)) hb2;have hle1:=g1.size;(first | (with_reducible have hq:=bD hb2;obtain⟨z0c,z1c,z2c,z3c,z4c,z5c⟩:=hexa hq;have zf:=av hq) | (with_reducible have hq:=ac hb2 hpA;obtain⟨z0c,z1c,z2c,z3c,z4c,z5c⟩:=hexa hq;have zf:=av hq) | skip))
   | (go_at_call 8;refine (IN.out _).mono ?_;rintro e' t1 ⟨rfl,hb1⟩;have g1:Below u1.heap.size u1 t1:=ae (by repeat (first|with_reducible exact Below.refl _ _|with_reducible apply aG|with_reducible apply be)) hb1;(first | (with_reducible have hpA:=dm hb1) | (with_reducible have hpA:=bD hb1) | skip)))
  all_goals (go_wp2_with fail;go_meet;first
   | with_reducible exact dG hs g2
   | with_reducible exact bT hq hle1 hs g2
   | with_reducible exact bT hq (Nat.le_refl _) hs g2)
 case rest=>
  obtain⟨ggax,ga,gaa,gan,gak,gae,gb,gba,gbn,gbk,gbe,gac,rfl,rfl,hX,hs,hb,hge⟩:=hcut
  clear IN MU KS g0
  obtain⟨r0a,r0b,jx1,jx2,j0a,j0b,jap⟩:=hs.lists
  have HAPn:=ab (HAP.out.two10 hb hub0 jx1 jx2 jap)
  have JL0:=ab (And.intro j0a j0b)
  have HSV:=ab (hs.base hub0)
  clear jx1 jx2 jap j0a j0b hs
  replace HX:=ab (ac hb HX.out)
  replace HG:=ab (ae HG.out hb)
  replace HK:=ab (HK.out.below' hb)
  replace HAP:=ab (HAP.out.below hb)
  replace HUU:=ab (ae HUU.out hb)
  clear HAP
  have HAP:=HAPn
  have HVga:=HSV
  clear HAPn HSV
  have HGA9:=ab hX
  have hgga:PG<ggax:=by omega
  clear hX hge hb
  go_upto_region 9 with fail
  have IN:=ab (fun (W:World)=>cC b2 a2 z2.length k2 e2 b3 a3 z3.length k3 e3 W)
  have MU:=ab (fun (W:World) (hg:Below wc.heap.size wc W)=>show Calls Tryz.prog 9 #[.agg #[.bool b0,.slice a0 z0.length k0,.int .i64 e0,.bool b1,.slice (some ⟨PG,0,none⟩) z1.length z1.length,.int .i64 e1],.agg #[.bool b2,.slice a2 z2.length k2,.int .i64 e2,.bool b3,.slice a3 z3.length k3,.int .i64 e3],.int .i64 pos] W (fun e w'=>df wc W e w' mC (L+L) QA QB) by
    have C:=dE b0 a0 k0 z0 e0 b1 (some ⟨PG,0,none⟩) z1.length z1 e1 b2 a2 k2 z2 e2 b3 a3 k3 z3 e3 pos L 0 mC W ((HT.out.below HG.out).below hg) ((HA0.out.below HG.out).below hg) (by omega) ((HARG.out _ HK.out).below hg) (by omega) ((HA2.out.below HG.out).below hg) (by omega) ((HA3.out.below HG.out).below hg) (by omega) LL.out (by rw [EV0.out,EV1.out,EV2.out,EV3.out,EF.out,EG.out];exact EH.out) (fun _=>by rw [EV0.out,EV1.out,EV2.out,EV3.out];exact HM2.out)
    rw [EV0.out,EV1.out,EV2.out,EV3.out] at C
    rw [if_pos rfl,EQA.out,EQB.out] at C
    exact C.mono (fun e w' h=>h.up hg))
  have KS:=ab (fun (W:World) (hg:Below wc.heap.size wc W)=>show W.cell? ⟨Q9.heap.size,0,none⟩=some (.bool b0)∧W.cell? ⟨Q9.heap.size,1,none⟩=some (.slice a0 z0.length k0)∧W.cell? ⟨Q9.heap.size,2,none⟩=some (.int .i64 e0)∧W.cell? ⟨Q9.heap.size,3,none⟩=some (.bool b1)∧W.cell? ⟨Q9.heap.size,4,none⟩=some (.slice (some ⟨PG,0,none⟩) z1.length z1.length)∧W.cell? ⟨Q9.heap.size,5,none⟩=some (.int .i64 e1)∧W.cell? ⟨w.heap.size+1,0,none⟩=some (.bool b2)∧W.cell? ⟨w.heap.size+1,1,none⟩=some (.slice a2 z2.length k2)∧W.cell? ⟨w.heap.size+1,2,none⟩=some (.int .i64 e2)∧W.cell? ⟨w.heap.size+1,3,none⟩=some (.bool b3)∧W.cell? ⟨w.heap.size+1,4,none⟩=some (.slice a3 z3.length k3)∧W.cell? ⟨w.heap.size+1,5,none⟩=some (.int .i64 e3) from (by
   obtain⟨x0,x1,x2,x3,x4,x5⟩:=hexa (ac hg HX.out)
   obtain⟨y0,y1,y2,y3,y4,y5⟩:=hexa (ac hg (ac HG.out HR.out))
   exact⟨x0,x1,x2,x3,x4,x5,y0,y1,y2,y3,y4,y5⟩))
  have g0:Below wc.heap.size wc wc:=Below.refl _ _
  have hub1:u1.heap.size≤wc.heap.size:=HUU.out.size
  go_cut [15,16] from 70 to 77 (fun s t wx=>cN wc mC (L+L) QA QB s t wx)
  case first=>
   go_region_held3 (fun w'=>w'.cell? ⟨Q9.heap.size,0,none⟩=some (.bool b0)∧w'.cell? ⟨Q9.heap.size,1,none⟩=some (.slice a0 z0.length k0)∧w'.cell? ⟨Q9.heap.size,2,none⟩=some (.int .i64 e0)∧w'.cell? ⟨Q9.heap.size,3,none⟩=some (.bool b1)∧w'.cell? ⟨Q9.heap.size,4,none⟩=some (.slice (some ⟨PG,0,none⟩) z1.length z1.length)∧w'.cell? ⟨Q9.heap.size,5,none⟩=some (.int .i64 e1)∧w'.cell? ⟨w.heap.size+1,0,none⟩=some (.bool b2)∧w'.cell? ⟨w.heap.size+1,1,none⟩=some (.slice a2 z2.length k2)∧w'.cell? ⟨w.heap.size+1,2,none⟩=some (.int .i64 e2)∧w'.cell? ⟨w.heap.size+1,3,none⟩=some (.bool b3)∧w'.cell? ⟨w.heap.size+1,4,none⟩=some (.slice a3 z3.length k3)∧w'.cell? ⟨w.heap.size+1,5,none⟩=some (.int .i64 e3)) (first | (refine KS.out _ ?_;repeat (first|with_reducible assumption|with_reducible exact Below.refl _ _|with_reducible apply aG|with_reducible apply be | (with_reducible refine aF ?_ (by omega) _ _ _ _ _ _)))) (first
    | (go_at_call 9;refine (MU.out _ (by repeat (first|with_reducible exact g1|with_reducible apply aG))).mono ?_;rintro e' t2 ⟨⟨d,da,dn,dk,de,f,fa,fn,fk,fe,dc,rfl,hs⟩,hb2⟩;have g2:Below wc.heap.size wc t2:=ae (by repeat (first|with_reducible exact g1|with_reducible apply aG)) hb2;have hle1:=g1.size;(first | (with_reducible have hq:=bD hb2;obtain⟨z0c,z1c,z2c,z3c,z4c,z5c⟩:=hexa hq;have zf:=av hq) | (with_reducible have hq:=ac hb2 hpA;obtain⟨z0c,z1c,z2c,z3c,z4c,z5c⟩:=hexa hq;have zf:=av hq) | skip))
    | (go_at_call 8;refine (IN.out _).mono ?_;rintro e' t1 ⟨rfl,hb1⟩;have g1:Below wc.heap.size wc t1:=ae (by repeat (first|with_reducible exact Below.refl _ _|with_reducible apply aG|with_reducible apply be)) hb1;(first | (with_reducible have hpA:=dm hb1) | (with_reducible have hpA:=bD hb1) | skip)))
   all_goals (go_wp2_with fail;go_meet;first
    | with_reducible exact dG hs g2
    | with_reducible exact bT hq hle1 hs g2
    | with_reducible exact bT hq (Nat.le_refl _) hs g2)
  case rest=>
   obtain⟨ggcx,gc,gca,gcn,gck,gce,gd,gda,gdn,gdk,gde,gcc,rfl,rfl,hX,hs,hb,hge⟩:=hcut
   clear IN MU KS g0
   obtain⟨r1a,r1b,jx1,jx2,j1a,j1b,jap⟩:=hs.lists
   have HAPn:=ab (HAP.out.two10 hb hub1 jx1 jx2 jap)
   have JL1:=ab (And.intro j1a j1b)
   have HSV:=ab (hs.base hub1)
   clear jx1 jx2 jap j1a j1b hs
   replace HX:=ab (ac hb HX.out)
   replace HGA9:=ab (ac hb HGA9.out)
   replace HVga:=ab (HVga.out.below hb)
   replace HG:=ab (ae HG.out hb)
   replace HK:=ab (HK.out.below' hb)
   replace HAP:=ab (HAP.out.below hb)
   replace HUU:=ab (ae HUU.out hb)
   clear HAP
   have HAP:=HAPn
   have HVgc:=HSV
   clear HAPn HSV
   have HGC9:=ab hX
   have hggc:PG<ggcx:=by omega
   clear hX hge hb
   obtain⟨ca0,ca1,ca2,ca3,ca4,ca5⟩:=hexa HX.out
   have C:=fR b0 a0 k0 z0 e0 b1 (some ⟨PG,0,none⟩) z1.length z1 e1 L wc (HT.out.below HG.out) (HA0.out.below HG.out) (HARG.out _ HK.out) (by omega) (by omega) LL.out
   rw [EV0.out,EV1.out,EF.out] at C
   go_wp2_with fail
   refine C.mono ?_
   rintro e Q101 ⟨⟨ge,gea,gen,gek,gee,gf,gfa,gfn,gfk,gfe,gec,rfl,hs⟩,hb⟩
   clear C ca0 ca1 ca2 ca3 ca4 ca5
   have hub2:u1.heap.size≤wc.heap.size:=HUU.out.size
   obtain⟨r2a,r2b,jx1,jx2,j2a,j2b,jap⟩:=hs.lists
   have HAPn:=ab (HAP.out.two10 hb hub2 jx1 jx2 jap)
   have JL2:=ab (And.intro j2a j2b)
   have HSV:=ab (hs.base hub2)
   clear jx1 jx2 jap j2a j2b hs
   replace HX:=ab (ac hb HX.out)
   replace HGA9:=ab (ac hb HGA9.out)
   replace HGC9:=ab (ac hb HGC9.out)
   replace HVga:=ab (HVga.out.below hb)
   replace HVgc:=ab (HVgc.out.below hb)
   replace HG:=ab (ae HG.out hb)
   replace HK:=ab (HK.out.below' hb)
   replace HAP:=ab (HAP.out.below hb)
   replace HUU:=ab (ae HUU.out hb)
   clear HAP
   have HAP:=HAPn
   have HVge:=HSV
   clear HAPn HSV
   have hgx:wc.heap.size≤Q101.heap.size:=hb.size
   obtain⟨P102,hP102,hbP,hx⟩:=ag Q101 (.cells #[.bool ge,.slice gea gen gek,.int .i64 gee,.bool gf,.slice gfa gfn gfk,.int .i64 gfe] 45)
   clear hb
   replace HX:=ab (ac hbP HX.out)
   replace HGA9:=ab (ac hbP HGA9.out)
   replace HGC9:=ab (ac hbP HGC9.out)
   replace HVga:=ab (HVga.out.below hbP)
   replace HVgc:=ab (HVgc.out.below hbP)
   replace HVge:=ab (HVge.out.below hbP)
   replace HG:=ab (ae HG.out hbP)
   replace HK:=ab (HK.out.below' hbP)
   replace HAP:=ab (HAP.out.below hbP)
   replace HUU:=ab (ae HUU.out hbP)
   have HGE9:=ab hx
   have hgge:PG<Q101.heap.size:=by omega
   clear hbP hx hgx
   go_wp2_with fail
   go_loopw [88] (fun i wr=>∃k:Nat,k≤z1.length∧i=.int .i64 k∧Blk wr PG (bG z1 k)∧Fr PG P102 wr) (fun i _=>z1.length - (intOf i).toNat)
   case atStart=>exact⟨0,Nat.zero_le _,rfl,by rw [iP];exact HK.out,Fr.refl _ _⟩
   case round=>
    obtain⟨k,hk,rfl,hblk,hfr0⟩:=hrel
    by_cases hkl:k<z1.length
    ·have hfr:=hblk.free k
     have hco:=hblk.cell k (by rw [gr z1 k hk];exact hkl)
     have HZS:=ab (iW z1 k hkl)
     have HB9:=ab (fun z=>hblk.set k z)
     have HFF:=ab hfr0
     generalize (bG z1 k).getD k 0=z at *
     clear hblk hfr0
     go_wp2
     go_roundw
     case rel=>exact⟨k+1,by omega,by go_num,by rw [←HZS.out];exact HB9.out 0,HFF.out.setCell _ _⟩
     case measure=>simp [intOf];omega
    ·have ek:k=z1.length:=by omega
     subst ek
     rw [jE] at hblk
     obtain⟨zX,hzX⟩:∃zX,List.replicate z1.length 0=zX:=⟨_,rfl⟩
     have hLX:Limbs zX:=by rw [←hzX];exact limbs_replicate _
     have hlX:zX.length=z1.length:=by rw [←hzX];exact List.length_replicate
     have EVX:Hid (vof b1 zX e1 L=0):=ab (by rw [←hzX];exact jH _ _ _ _)
     rw [hzX] at hblk
     clear hzX HK
     have HK:Hid (Blk wr PG zX):=ab hblk
     replace HX:=ab (cE HX.out hfr0 (by omega))
     replace HGA9:=ab (cE HGA9.out hfr0 (by omega))
     replace HGC9:=ab (cE HGC9.out hfr0 (by omega))
     replace HGE9:=ab (cE HGE9.out hfr0 (by omega))
     replace HVga:=ab (HVga.out.fr hfr0 hl2)
     replace HVgc:=ab (HVgc.out.fr hfr0 hl2)
     replace HVge:=ab (HVge.out.fr hfr0 hl2)
     replace HAP:=ab (HAP.out.fr hfr0 hl2)
     replace HG:=ab (HG.out.trans (hfr0.below (by rw [HPG.out];exact Nat.le_refl _) HG.out.size))
     have hsz9:u1.heap.size≤wr.heap.size:=Nat.le_trans HUU.out.size hfr0.size
     clear hblk hfr0 hk HARG HUU hP102
     have HARG:=ab (fun (W:World) (h:Blk W PG zX)=>show Arg W (.slice (some ⟨PG,0,none⟩) zX.length z1.length) zX by have h2:=h.arg9 hLX (by omega);rw [hlX] at h2 ⊢;exact h2)
     have HUU:Hid (cX u1.heap.size wr):=ab hsz9
     clear hsz9
     go_upto_region 16 with fail
     have IN:=ab (fun (W:World)=>cC b2 a2 z2.length k2 e2 b3 a3 z3.length k3 e3 W)
     have MU:=ab (fun (W:World) (hg:Below wr.heap.size wr W)=>show Calls Tryz.prog 9 #[.agg #[.bool b0,.slice a0 z0.length k0,.int .i64 e0,.bool b1,.slice (some ⟨PG,0,none⟩) z1.length z1.length,.int .i64 e1],.agg #[.bool b2,.slice a2 z2.length k2,.int .i64 e2,.bool b3,.slice a3 z3.length k3,.int .i64 e3],.int .i64 pos] W (fun e w'=>df wr W e w' mD (L+L) QC QD) by
       have C:=dE b0 a0 k0 z0 e0 b1 (some ⟨PG,0,none⟩) z1.length zX e1 b2 a2 k2 z2 e2 b3 a3 k3 z3 e3 pos L 0 mD W ((HT.out.below HG.out).below hg) ((HA0.out.below HG.out).below hg) (by omega) ((HARG.out _ HK.out).below hg) (by omega) ((HA2.out.below HG.out).below hg) (by omega) ((HA3.out.below HG.out).below hg) (by omega) LL.out (by rw [EV0.out,EVX.out,EV2.out,EV3.out,EFX.out,EG.out];exact EH.out) (fun _=>by rw [EV0.out,EVX.out,EV2.out,EV3.out];exact HM3.out)
       rw [EV0.out,EVX.out,EV2.out,EV3.out,hlX] at C
       rw [if_pos rfl,EQC.out,EQD.out] at C
       exact C.mono (fun e w' h=>h.up hg))
     have KS:=ab (fun (W:World) (hg:Below wr.heap.size wr W)=>show W.cell? ⟨Q9.heap.size,0,none⟩=some (.bool b0)∧W.cell? ⟨Q9.heap.size,1,none⟩=some (.slice a0 z0.length k0)∧W.cell? ⟨Q9.heap.size,2,none⟩=some (.int .i64 e0)∧W.cell? ⟨Q9.heap.size,3,none⟩=some (.bool b1)∧W.cell? ⟨Q9.heap.size,4,none⟩=some (.slice (some ⟨PG,0,none⟩) z1.length z1.length)∧W.cell? ⟨Q9.heap.size,5,none⟩=some (.int .i64 e1)∧W.cell? ⟨w.heap.size+1,0,none⟩=some (.bool b2)∧W.cell? ⟨w.heap.size+1,1,none⟩=some (.slice a2 z2.length k2)∧W.cell? ⟨w.heap.size+1,2,none⟩=some (.int .i64 e2)∧W.cell? ⟨w.heap.size+1,3,none⟩=some (.bool b3)∧W.cell? ⟨w.heap.size+1,4,none⟩=some (.slice a3 z3.length k3)∧W.cell? ⟨w.heap.size+1,5,none⟩=some (.int .i64 e3) from (by
      obtain⟨x0,x1,x2,x3,x4,x5⟩:=hexa (ac hg HX.out)
      obtain⟨y0,y1,y2,y3,y4,y5⟩:=hexa (ac hg (ac HG.out HR.out))
      exact⟨x0,x1,x2,x3,x4,x5,y0,y1,y2,y3,y4,y5⟩))
     have g0:Below wr.heap.size wr wr:=Below.refl _ _
     have hub3:u1.heap.size≤wr.heap.size:=HUU.out.size
     go_cut [20,21] from 95 to 102 (fun s t wx=>cN wr mD (L+L) QC QD s t wx)
     case first=>
      go_region_held3 (fun w'=>w'.cell? ⟨Q9.heap.size,0,none⟩=some (.bool b0)∧w'.cell? ⟨Q9.heap.size,1,none⟩=some (.slice a0 z0.length k0)∧w'.cell? ⟨Q9.heap.size,2,none⟩=some (.int .i64 e0)∧w'.cell? ⟨Q9.heap.size,3,none⟩=some (.bool b1)∧w'.cell? ⟨Q9.heap.size,4,none⟩=some (.slice (some ⟨PG,0,none⟩) z1.length z1.length)∧w'.cell? ⟨Q9.heap.size,5,none⟩=some (.int .i64 e1)∧w'.cell? ⟨w.heap.size+1,0,none⟩=some (.bool b2)∧w'.cell? ⟨w.heap.size+1,1,none⟩=some (.slice a2 z2.length k2)∧w'.cell? ⟨w.heap.size+1,2,none⟩=some (.int .i64 e2)∧w'.cell? ⟨w.heap.size+1,3,none⟩=some (.bool b3)∧w'.cell? ⟨w.heap.size+1,4,none⟩=some (.slice a3 z3.length k3)∧w'.cell? ⟨w.heap.size+1,5,none⟩=some (.int .i64 e3)) (first | (refine KS.out _ ?_;repeat (first|with_reducible assumption|with_reducible exact Below.refl _ _|with_reducible apply aG|with_reducible apply be | (with_reducible refine aF ?_ (by omega) _ _ _ _ _ _)))) (first
       | (go_at_call 9;refine (MU.out _ (by repeat (first|with_reducible exact g1|with_reducible apply aG))).mono ?_;rintro e' t2 ⟨⟨d,da,dn,dk,de,f,fa,fn,fk,fe,dc,rfl,hs⟩,hb2⟩;have g2:Below wr.heap.size wr t2:=ae (by repeat (first|with_reducible exact g1|with_reducible apply aG)) hb2;have hle1:=g1.size;(first | (with_reducible have hq:=bD hb2;obtain⟨z0c,z1c,z2c,z3c,z4c,z5c⟩:=hexa hq;have zf:=av hq) | (with_reducible have hq:=ac hb2 hpA;obtain⟨z0c,z1c,z2c,z3c,z4c,z5c⟩:=hexa hq;have zf:=av hq) | skip))
       | (go_at_call 8;refine (IN.out _).mono ?_;rintro e' t1 ⟨rfl,hb1⟩;have g1:Below wr.heap.size wr t1:=ae (by repeat (first|with_reducible exact Below.refl _ _|with_reducible apply aG|with_reducible apply be)) hb1;(first | (with_reducible have hpA:=dm hb1) | (with_reducible have hpA:=bD hb1) | skip)))
      all_goals (go_wp2_with fail;go_meet;first
       | with_reducible exact dG hs g2
       | with_reducible exact bT hq hle1 hs g2
       | with_reducible exact bT hq (Nat.le_refl _) hs g2)
     case rest=>
      obtain⟨gghx,gh,gha,ghn,ghk,ghe,gi,gia,gin,gik,gie,ghc,rfl,rfl,hX,hs,hb,hge⟩:=hcut
      clear IN MU KS g0
      obtain⟨r3a,r3b,jx1,jx2,j3a,j3b,jap⟩:=hs.lists
      have HAPn:=ab (HAP.out.two10 hb hub3 jx1 jx2 jap)
      have JL3:=ab (And.intro j3a j3b)
      have HSV:=ab (hs.base hub3)
      clear jx1 jx2 jap j3a j3b hs
      replace HX:=ab (ac hb HX.out)
      replace HGA9:=ab (ac hb HGA9.out)
      replace HGC9:=ab (ac hb HGC9.out)
      replace HGE9:=ab (ac hb HGE9.out)
      replace HVga:=ab (HVga.out.below hb)
      replace HVgc:=ab (HVgc.out.below hb)
      replace HVge:=ab (HVge.out.below hb)
      replace HG:=ab (ae HG.out hb)
      replace HK:=ab (HK.out.below' hb)
      replace HAP:=ab (HAP.out.below hb)
      replace HUU:=ab (HUU.out.below hb)
      clear HAP
      have HAP:=HAPn
      have HVgh:=HSV
      clear HAPn HSV
      have HGH9:=ab hX
      have hggh:PG<gghx:=by omega
      clear hX hge hb
      obtain⟨ca0,ca1,ca2,ca3,ca4,ca5⟩:=hexa HX.out
      have C:=fR b0 a0 k0 z0 e0 b1 (some ⟨PG,0,none⟩) z1.length zX e1 L wc (HT.out.below HG.out) (HA0.out.below HG.out) (HARG.out _ HK.out) (by omega) (by omega) LL.out
      rw [EV0.out,EVX.out,EFX.out,hlX] at C
      go_wp2_with fail
      refine C.mono ?_
      rintro e Q103 ⟨⟨gj,gja,gjn,gjk,gje,gk,gka,gkn,gkk,gke,gjc,rfl,hs⟩,hb⟩
      clear C ca0 ca1 ca2 ca3 ca4 ca5
      have hub4:u1.heap.size≤wc.heap.size:=HUU.out.size
      obtain⟨r4a,r4b,jx1,jx2,j4a,j4b,jap⟩:=hs.lists
      have HAPn:=ab (HAP.out.two10 hb hub4 jx1 jx2 jap)
      have JL4:=ab (And.intro j4a j4b)
      have HSV:=ab (hs.base hub4)
      clear jx1 jx2 jap j4a j4b hs
      replace HX:=ab (ac hb HX.out)
      replace HGA9:=ab (ac hb HGA9.out)
      replace HGC9:=ab (ac hb HGC9.out)
      replace HGE9:=ab (ac hb HGE9.out)
      replace HGH9:=ab (ac hb HGH9.out)
      replace HVga:=ab (HVga.out.below hb)
      replace HVgc:=ab (HVgc.out.below hb)
      replace HVge:=ab (HVge.out.below hb)
      replace HVgh:=ab (HVgh.out.below hb)
      replace HG:=ab (ae HG.out hb)
      replace HK:=ab (HK.out.below' hb)
      replace HAP:=ab (HAP.out.below hb)
      replace HUU:=ab (HUU.out.below hb)
      clear HAP
      have HAP:=HAPn
      have HVgj:=HSV
      clear HAPn HSV
      have hgx:wc.heap.size≤Q103.heap.size:=hb.size
      obtain⟨P104,hP104,hbP,hx⟩:=ag Q103 (.cells #[.bool gj,.slice gja gjn gjk,.int .i64 gje,.bool gk,.slice gka gkn gkk,.int .i64 gke] 45)
      clear hb
      replace HX:=ab (ac hbP HX.out)
      replace HGA9:=ab (ac hbP HGA9.out)
      replace HGC9:=ab (ac hbP HGC9.out)
      replace HGE9:=ab (ac hbP HGE9.out)
      replace HGH9:=ab (ac hbP HGH9.out)
      replace HVga:=ab (HVga.out.below hbP)
      replace HVgc:=ab (HVgc.out.below hbP)
      replace HVge:=ab (HVge.out.below hbP)
      replace HVgh:=ab (HVgh.out.below hbP)
      replace HVgj:=ab (HVgj.out.below hbP)
      replace HG:=ab (ae HG.out hbP)
      replace HK:=ab (HK.out.below' hbP)
      replace HAP:=ab (HAP.out.below hbP)
      replace HUU:=ab (HUU.out.below hbP)
      have HGJ9:=ab hx
      have hggj:PG<Q103.heap.size:=by omega
      clear hbP hx hgx
      have HMu:=ab (ac HG.out HM.out)
      have HNu:=ab (ac HG.out HN.out)
      obtain⟨ca0,ca1,ca2,ca3,ca4,ca5⟩:=hexa HMu.out
      obtain⟨cb0,cb1,cb2,cb3,cb4,cb5⟩:=hexa HNu.out
      have C:=eT m ma mn mk me n na nn nk ne o oa on ok oe t ta tn tk te pos L V0 V1 V2 V3 c5 c6 c7 c8 d5 d6 P104 (HMv.out.below HG.out) (HNv.out.below HG.out) (HOv.out.below HG.out) (HTv.out.below HG.out) SM0.out SM1.out SM2.out SM3.out X5.out X6.out X7.out X8.out (by rw [EQA.out];exact Y5.out) (by rw [EQB.out];exact Y6.out) HFK.out LL.out
      rw [EQA.out,EQB.out,EC.out,EI2.out] at C
      go_wp2_with fail
      refine C.mono ?_
      rintro e Q105 ⟨⟨io,ioa,ion,iok,ioe,jo,joa,jon,jok,joe,rfl,hs⟩,hb⟩
      clear C ca0 ca1 ca2 ca3 ca4 ca5 cb0 cb1 cb2 cb3 cb4 cb5 hP104
      replace hs:V88 I2 Q105 io ioa ion iok ioe jo joa jon jok joe (L+L) QA QB:=hs
      obtain⟨P106,hP106,hbP,hx⟩:=ag Q105 (.cells #[.bool io,.slice ioa ion iok,.int .i64 ioe,.bool jo,.slice joa jon jok,.int .i64 joe] 33)
      have stp:=ae hb hbP
      replace HX:=ab (ac stp HX.out)
      replace HGA9:=ab (ac stp HGA9.out)
      replace HGC9:=ab (ac stp HGC9.out)
      replace HGE9:=ab (ac stp HGE9.out)
      replace HGH9:=ab (ac stp HGH9.out)
      replace HGJ9:=ab (ac stp HGJ9.out)
      replace HMu:=ab (ac stp HMu.out)
      replace HNu:=ab (ac stp HNu.out)
      replace HVga:=ab (HVga.out.below stp)
      replace HVgc:=ab (HVgc.out.below stp)
      replace HVge:=ab (HVge.out.below stp)
      replace HVgh:=ab (HVgh.out.below stp)
      replace HVgj:=ab (HVgj.out.below stp)
      replace HG:=ab (ae HG.out stp)
      replace HK:=ab (HK.out.below' stp)
      replace HAP:=ab (HAP.out.below stp)
      replace HUU:=ab (HUU.out.below stp)
      have HIv:=ab (hs.below hbP)
      have HI:=ab hx
      clear stp hbP hx hb hs
      obtain⟨ca0,ca1,ca2,ca3,ca4,ca5⟩:=hexa HGA9.out
      obtain⟨cb0,cb1,cb2,cb3,cb4,cb5⟩:=hexa HI.out
      have C:=dO ga gaa gan gak gae gb gba gbn gbk gbe gac mC io ioa ion iok ioe jo joa jon jok joe (L+L) QA QB d5 d6 I2 _ P106 HVga.out Y5.out Y6.out EI2.out HIv.out
      go_wp2_with fail
      refine C.mono ?_
      rintro e Q107 ⟨rfl,hb⟩
      clear C ca0 ca1 ca2 ca3 ca4 ca5 cb0 cb1 cb2 cb3 cb4 cb5 hP106
      replace HX:=ab (ac hb HX.out)
      replace HGA9:=ab (ac hb HGA9.out)
      replace HGC9:=ab (ac hb HGC9.out)
      replace HGE9:=ab (ac hb HGE9.out)
      replace HGH9:=ab (ac hb HGH9.out)
      replace HGJ9:=ab (ac hb HGJ9.out)
      replace HMu:=ab (ac hb HMu.out)
      replace HNu:=ab (ac hb HNu.out)
      replace HI:=ab (ac hb HI.out)
      replace HVga:=ab (HVga.out.below hb)
      replace HVgc:=ab (HVgc.out.below hb)
      replace HVge:=ab (HVge.out.below hb)
      replace HVgh:=ab (HVgh.out.below hb)
      replace HVgj:=ab (HVgj.out.below hb)
      replace HIv:=ab (HIv.out.below hb)
      replace HG:=ab (ae HG.out hb)
      replace HK:=ab (HK.out.below' hb)
      replace HAP:=ab (HAP.out.below hb)
      replace HUU:=ab (HUU.out.below hb)
      clear hb
      obtain⟨ca0,ca1,ca2,ca3,ca4,ca5⟩:=hexa HGC9.out
      obtain⟨cb0,cb1,cb2,cb3,cb4,cb5⟩:=hexa HI.out
      have C:=dO gc gca gcn gck gce gd gda gdn gdk gde gcc mC io ioa ion iok ioe jo joa jon jok joe (L+L) QA QB d5 d6 I2 _ Q107 HVgc.out Y5.out Y6.out EI2.out HIv.out
      go_wp2_with fail
      refine C.mono ?_
      rintro e Q108 ⟨rfl,hb⟩
      clear C ca0 ca1 ca2 ca3 ca4 ca5 cb0 cb1 cb2 cb3 cb4 cb5
      replace HX:=ab (ac hb HX.out)
      replace HGA9:=ab (ac hb HGA9.out)
      replace HGC9:=ab (ac hb HGC9.out)
      replace HGE9:=ab (ac hb HGE9.out)
      replace HGH9:=ab (ac hb HGH9.out)
      replace HGJ9:=ab (ac hb HGJ9.out)
      replace HMu:=ab (ac hb HMu.out)
      replace HNu:=ab (ac hb HNu.out)
      replace HI:=ab (ac hb HI.out)
      replace HVga:=ab (HVga.out.below hb)
      replace HVgc:=ab (HVgc.out.below hb)
      replace HVge:=ab (HVge.out.below hb)
      replace HVgh:=ab (HVgh.out.below hb)
      replace HVgj:=ab (HVgj.out.below hb)
      replace HIv:=ab (HIv.out.below hb)
      replace HG:=ab (ae HG.out hb)
      replace HK:=ab (HK.out.below' hb)
      replace HAP:=ab (HAP.out.below hb)
      replace HUU:=ab (HUU.out.below hb)
      clear hb
      obtain⟨ca0,ca1,ca2,ca3,ca4,ca5⟩:=hexa HGE9.out
      obtain⟨cb0,cb1,cb2,cb3,cb4,cb5⟩:=hexa HMu.out
      have C:=cW ge gea gen gek gee gf gfa gfn gfk gfe gec 0 m ma mn mk me n na nn nk ne L V0 V1 _ Q108 HVge.out (fun _=>(HMv.out.below HG.out)) (fun _=>(HNv.out.below HG.out))
      go_wp2_with fail
      refine C.mono ?_
      rintro e Q109 ⟨rfl,hb⟩
      clear C ca0 ca1 ca2 ca3 ca4 ca5 cb0 cb1 cb2 cb3 cb4 cb5
      replace HX:=ab (ac hb HX.out)
      replace HGA9:=ab (ac hb HGA9.out)
      replace HGC9:=ab (ac hb HGC9.out)
      replace HGE9:=ab (ac hb HGE9.out)
      replace HGH9:=ab (ac hb HGH9.out)
      replace HGJ9:=ab (ac hb HGJ9.out)
      replace HMu:=ab (ac hb HMu.out)
      replace HNu:=ab (ac hb HNu.out)
      replace HI:=ab (ac hb HI.out)
      replace HVga:=ab (HVga.out.below hb)
      replace HVgc:=ab (HVgc.out.below hb)
      replace HVge:=ab (HVge.out.below hb)
      replace HVgh:=ab (HVgh.out.below hb)
      replace HVgj:=ab (HVgj.out.below hb)
      replace HIv:=ab (HIv.out.below hb)
      replace HG:=ab (ae HG.out hb)
      replace HK:=ab (HK.out.below' hb)
      replace HAP:=ab (HAP.out.below hb)
      replace HUU:=ab (HUU.out.below hb)
      clear hb
      obtain⟨UZ,hUZ,hbUZ,hxZ⟩:=ag Q109 (.cells #[.bool m,.slice ma mn mk,.int .i64 me,.bool false,.slice none 0 0,.int .i64 0] 33)
      have zf:=av hxZ
      obtain⟨za0,za1,za2,za3,za4,za5⟩:=hexa hxZ
      obtain⟨U9,hU9⟩:∃W,((UZ.setCell ⟨Q109.heap.size,3,none⟩ (.bool false)).setCell ⟨Q109.heap.size,4,none⟩ (.slice none 0 0)).setCell ⟨Q109.heap.size,5,none⟩ (.int .i64 0)=W:=⟨_,rfl⟩
      have hx9:U9.heap[Q109.heap.size]?=some (.cells #[.bool m,.slice ma mn mk,.int .i64 me,.bool false,.slice none 0 0,.int .i64 0] 33):=by rw [←hU9];exact az (az (az hxZ _) _) _
      have hbU9:Below Q109.heap.size Q109 U9:=by rw [←hU9];exact ((hbUZ.setCell (p:=⟨Q109.heap.size,3,none⟩) (Nat.le_refl _) _).setCell (p:=⟨Q109.heap.size,4,none⟩) (Nat.le_refl _) _).setCell (p:=⟨Q109.heap.size,5,none⟩) (Nat.le_refl _) _
      have HNW:=ab hx9
      obtain⟨sg,hsg,hs1,_⟩:=((HMv.out.below HG.out).below hbU9).sign
      have C:=hsg _ (Below.refl _ _)
      have HB9:=ab hbU9
      have i8:¬(0:Int)<sg:=fun h=>absurd (hs1.1 h) (by omega)
      obtain⟨ca0,ca1,ca2,ca3,ca4,ca5⟩:=hexa HMu.out
      obtain⟨cb0,cb1,cb2,cb3,cb4,cb5⟩:=hexa (ac hbU9 HMu.out)
      clear hsg hs1 hbU9 hx9 hbUZ hxZ
      go_wp2_with fail
      refine C.mono ?_
      rintro e V9 ⟨rfl,hb⟩
      replace HNW:=ab (ac hb HNW.out)
      replace HB9:=ab (ae HB9.out hb)
      clear C hb ca0 ca1 ca2 ca3 ca4 ca5 cb0 cb1 cb2 cb3 cb4 cb5 hU9 hUZ zf za0 za1 za2 za3 za4 za5
      replace HX:=ab (ac HB9.out HX.out)
      replace HGA9:=ab (ac HB9.out HGA9.out)
      replace HGC9:=ab (ac HB9.out HGC9.out)
      replace HGE9:=ab (ac HB9.out HGE9.out)
      replace HGH9:=ab (ac HB9.out HGH9.out)
      replace HGJ9:=ab (ac HB9.out HGJ9.out)
      replace HMu:=ab (ac HB9.out HMu.out)
      replace HNu:=ab (ac HB9.out HNu.out)
      replace HI:=ab (ac HB9.out HI.out)
      replace HVga:=ab (HVga.out.below HB9.out)
      replace HVgc:=ab (HVgc.out.below HB9.out)
      replace HVge:=ab (HVge.out.below HB9.out)
      replace HVgh:=ab (HVgh.out.below HB9.out)
      replace HVgj:=ab (HVgj.out.below HB9.out)
      replace HIv:=ab (HIv.out.below HB9.out)
      replace HG:=ab (ae HG.out HB9.out)
      replace HK:=ab (HK.out.below' HB9.out)
      replace HAP:=ab (HAP.out.below HB9.out)
      replace HUU:=ab (HUU.out.below HB9.out)
      clear HB9
      obtain⟨ca0,ca1,ca2,ca3,ca4,ca5⟩:=hexa HNW.out
      obtain⟨cb0,cb1,cb2,cb3,cb4,cb5⟩:=hexa HNu.out
      have C:=eT m ma mn mk me false none 0 0 0 o oa on ok oe t ta tn tk te pos L V0 0 V2 V3 x5 x6 x7 x8 y5 y6 V9 (HMv.out.below HG.out) (V8.zero _ _) (HOv.out.below HG.out) (HTv.out.below HG.out) SM0.out Sml.zero10 SM2.out SM3.out Z5.out Z6.out Z7.out Z8.out (by rw [EQC.out];exact Y7.out) (by rw [EQD.out];exact Y8.out) HFK.out LL.out
      rw [EQC.out,EQD.out,ED.out,EI3.out] at C
      go_wp2_with fail
      refine C.mono ?_
      rintro e Q110 ⟨⟨io2,io2a,io2n,io2k,io2e,jo2,jo2a,jo2n,jo2k,jo2e,rfl,hs⟩,hb⟩
      clear C ca0 ca1 ca2 ca3 ca4 ca5 cb0 cb1 cb2 cb3 cb4 cb5
      replace hs:V88 I3 Q110 io2 io2a io2n io2k io2e jo2 jo2a jo2n jo2k jo2e (L+L) QC QD:=hs
      obtain⟨P111,hP111,hbP,hx⟩:=ag Q110 (.cells #[.bool io2,.slice io2a io2n io2k,.int .i64 io2e,.bool jo2,.slice jo2a jo2n jo2k,.int .i64 jo2e] 33)
      have stp:=ae hb hbP
      replace HX:=ab (ac stp HX.out)
      replace HGA9:=ab (ac stp HGA9.out)
      replace HGC9:=ab (ac stp HGC9.out)
      replace HGE9:=ab (ac stp HGE9.out)
      replace HGH9:=ab (ac stp HGH9.out)
      replace HGJ9:=ab (ac stp HGJ9.out)
      replace HMu:=ab (ac stp HMu.out)
      replace HNu:=ab (ac stp HNu.out)
      replace HI:=ab (ac stp HI.out)
      replace HNW:=ab (ac stp HNW.out)
      replace HVga:=ab (HVga.out.below stp)
      replace HVgc:=ab (HVgc.out.below stp)
      replace HVge:=ab (HVge.out.below stp)
      replace HVgh:=ab (HVgh.out.below stp)
      replace HVgj:=ab (HVgj.out.below stp)
      replace HIv:=ab (HIv.out.below stp)
      replace HG:=ab (ae HG.out stp)
      replace HK:=ab (HK.out.below' stp)
      replace HAP:=ab (HAP.out.below stp)
      replace HUU:=ab (HUU.out.below stp)
      have HI9v:=ab (hs.below hbP)
      have HI9:=ab hx
      clear stp hbP hx hb hs
      obtain⟨ca0,ca1,ca2,ca3,ca4,ca5⟩:=hexa HGJ9.out
      obtain⟨cb0,cb1,cb2,cb3,cb4,cb5⟩:=hexa HNW.out
      have C:=cW gj gja gjn gjk gje gk gka gkn gkk gke gjc 0 m ma mn mk me false none 0 0 0 L V0 0 _ P111 HVgj.out (fun _=>(HMv.out.below HG.out)) (fun _=>V8.zero _ _)
      go_wp2_with fail
      refine C.mono ?_
      rintro e Q112 ⟨rfl,hb⟩
      clear C ca0 ca1 ca2 ca3 ca4 ca5 cb0 cb1 cb2 cb3 cb4 cb5 hP111
      replace HX:=ab (ac hb HX.out)
      replace HGA9:=ab (ac hb HGA9.out)
      replace HGC9:=ab (ac hb HGC9.out)
      replace HGE9:=ab (ac hb HGE9.out)
      replace HGH9:=ab (ac hb HGH9.out)
      replace HGJ9:=ab (ac hb HGJ9.out)
      replace HMu:=ab (ac hb HMu.out)
      replace HNu:=ab (ac hb HNu.out)
      replace HI:=ab (ac hb HI.out)
      replace HNW:=ab (ac hb HNW.out)
      replace HI9:=ab (ac hb HI9.out)
      replace HVga:=ab (HVga.out.below hb)
      replace HVgc:=ab (HVgc.out.below hb)
      replace HVge:=ab (HVge.out.below hb)
      replace HVgh:=ab (HVgh.out.below hb)
      replace HVgj:=ab (HVgj.out.below hb)
      replace HIv:=ab (HIv.out.below hb)
      replace HI9v:=ab (HI9v.out.below hb)
      replace HG:=ab (ae HG.out hb)
      replace HK:=ab (HK.out.below' hb)
      replace HAP:=ab (HAP.out.below hb)
      replace HUU:=ab (HUU.out.below hb)
      clear hb
      obtain⟨ca0,ca1,ca2,ca3,ca4,ca5⟩:=hexa HGH9.out
      obtain⟨cb0,cb1,cb2,cb3,cb4,cb5⟩:=hexa HI9.out
      have C:=dO gh gha ghn ghk ghe gi gia gin gik gie ghc mD io2 io2a io2n io2k io2e jo2 jo2a jo2n jo2k jo2e (L+L) QC QD y5 y6 I3 _ Q112 HVgh.out Y7.out Y8.out EI3.out HI9v.out
      go_wp2_with fail
      refine C.mono ?_
      rintro e Q113 ⟨rfl,hb⟩
      clear C ca0 ca1 ca2 ca3 ca4 ca5 cb0 cb1 cb2 cb3 cb4 cb5
      replace HX:=ab (ac hb HX.out)
      replace HGA9:=ab (ac hb HGA9.out)
      replace HGC9:=ab (ac hb HGC9.out)
      replace HGE9:=ab (ac hb HGE9.out)
      replace HGH9:=ab (ac hb HGH9.out)
      replace HGJ9:=ab (ac hb HGJ9.out)
      replace HMu:=ab (ac hb HMu.out)
      replace HNu:=ab (ac hb HNu.out)
      replace HI:=ab (ac hb HI.out)
      replace HNW:=ab (ac hb HNW.out)
      replace HI9:=ab (ac hb HI9.out)
      replace HVga:=ab (HVga.out.below hb)
      replace HVgc:=ab (HVgc.out.below hb)
      replace HVge:=ab (HVge.out.below hb)
      replace HVgh:=ab (HVgh.out.below hb)
      replace HVgj:=ab (HVgj.out.below hb)
      replace HIv:=ab (HIv.out.below hb)
      replace HI9v:=ab (HI9v.out.below hb)
      replace HG:=ab (ae HG.out hb)
      replace HK:=ab (HK.out.below' hb)
      replace HAP:=ab (HAP.out.below hb)
      replace HUU:=ab (HUU.out.below hb)
      clear hb
      obtain⟨ca0,ca1,ca2,ca3,ca4,ca5⟩:=hexa HGA9.out
      obtain⟨cb0,cb1,cb2,cb3,cb4,cb5⟩:=hexa HGC9.out
      obtain⟨cc0,cc1,cc2,cc3,cc4,cc5⟩:=hexa HGH9.out
      obtain⟨cd0,cd1,cd2,cd3,cd4,cd5⟩:=hexa HGE9.out
      obtain⟨ce0,ce1,ce2,ce3,ce4,ce5⟩:=hexa HGJ9.out
      obtain⟨PO,hPO,hbP,hx⟩:=ag Q113 (.cells #[.bool ga,.slice gaa gan gak,.int .i64 gae,.bool gb,.slice gba gbn gbk,.int .i64 gbe,.bool gc,.slice gca gcn gck,.int .i64 gce,.bool gd,.slice gda gdn gdk,.int .i64 gde,.bool gh,.slice gha ghn ghk,.int .i64 ghe,.bool gi,.slice gia gin gik,.int .i64 gie,.bool ge,.slice gea gen gek,.int .i64 gee,.bool gf,.slice gfa gfn gfk,.int .i64 gfe,.bool gj,.slice gja gjn gjk,.int .i64 gje,.bool gk,.slice gka gkn gkk,.int .i64 gke] 45)
      have C:=kt Q113.heap.size ga gaa gan gak gae gb gba gbn gbk gbe gc gca gcn gck gce gd gda gdn gdk gde gh gha ghn ghk ghe gi gia gin gik gie ge gea gen gek gee gf gfa gfn gfk gfe gj gja gjn gjk gje gk gka gkn gkk gke u1.heap.size _ PO hx (HAP.out.swap10.below hbP) (kB JL0.out JL1.out JL3.out JL2.out JL4.out) (Nat.le_trans HUU.out.size hbP.size)
      have HGP:=ab (ae HG.out hbP)
      clear hbP hx
      go_wp2_with fail
      refine C.mono ?_
      rintro e TP ⟨rfl,hk⟩
      have hb:Below P4.heap.size P4 TP:=HGP.out.trans (hk.below.mono (by rw [HPG.out];exact Nat.le_of_lt hl2))
      clear C hk hPO ca0 ca1 ca2 ca3 ca4 ca5 cb0 cb1 cb2 cb3 cb4 cb5 cc0 cc1 cc2 cc3 cc4 cc5 cd0 cd1 cd2 cd3 cd4 cd5 ce0 ce1 ce2 ce3 ce4 ce5
      have HT2:=ab (HT.out.below hb)
      have HW2:=ab (ae HW.out hb)
      clear hb
      have C:=dU TP HT2.out
      go_wp2_with fail
      refine C.mono ?_
      rintro e TQ ⟨rfl,hb⟩
      have HW3:=ab (ae HW2.out hb)
      clear C hb
      go_wp2
      go_ret
      exact⟨rfl,HW3.out⟩

end Go.Proofs.YtkfbobefkbpdoaaGreatDoor
