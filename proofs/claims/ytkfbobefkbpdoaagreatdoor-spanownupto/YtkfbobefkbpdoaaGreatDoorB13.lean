/- The law SpanOwn: a case of its walk. -/
import Derived.Test.YtkfbobefkbpdoaaGreatDoorB08
import Derived.Test.YtkfbobefkbpdoaaGreatDoorB10
import Derived.Test.YtkfbobefkbpdoaaGreatDoorB12
import Derived.Deep.CutBlock
import Derived.Deep.DeepCutAuto
set_option maxRecDepth 20000
set_option maxHeartbeats 16000000
namespace Go.Proofs.YtkfbobefkbpdoaaGreatDoor
open Go.RowKit
open Lm
attribute [local go_sem ↓] Go.wp_at_zero Go.wp_at_succ

theorem pp (b0:Bool)(a0:Option Addr)(k0:Nat)(z0:List Nat)(e0:Int)(b1:Bool)(a1:Option Addr)(k1:Nat)(z1:List Nat)(e1:Int)(b2:Bool)(a2:Option Addr)(k2:Nat)(z2:List Nat)(e2:Int)(b3:Bool)(a3:Option Addr)(k3:Nat)(z3:List Nat)(e3:Int)(pos:Int)(L:Nat)(V0 V1 V2 V3:Int)(F G:Int)(w:World)(hT:Tab w)(A0:Arg w (.slice a0 z0.length k0) z0)(s0:z0.length≤1048576)(A1:Arg w (.slice a1 z1.length k1) z1)(s1:z1.length≤1048576)(A2:Arg w (.slice a2 z2.length k2) z2)(s2:z2.length≤1048576)(A3:Arg w (.slice a3 z3.length k3) z3)(s3:z3.length≤1048576)(hL:4611686018427387904≤L)(hV0:vof b0 z0 e0 L=V0)(hV1:vof b1 z1 e1 L=V1)(hV2:vof b2 z2 e2 L=V2)(hV3:vof b3 z3 e3 L=V3)(hF:flt e0 e1 V0 V1=F)(hG:flt e2 e3 V2 V3=G)(h0:F≠0) :
  Calls Tryz.prog 3 #[.agg #[.bool b0,.slice a0 z0.length k0,.int .i64 e0,.bool b1,.slice a1 z1.length k1,.int .i64 e1],.agg #[.bool b2,.slice a2 z2.length k2,.int .i64 e2,.bool b3,.slice a3 z3.length k3,.int .i64 e3],.int .i64 pos] w fun e w'=>e=.returned (.bool true)∧Below w.heap.size w w':=by
 obtain⟨w0,hw0,hb0,q0,q1⟩:=al w (.cells #[.bool b0,.slice a0 z0.length k0,.int .i64 e0,.bool b1,.slice a1 z1.length k1,.int .i64 e1] 26) (.cells #[.bool b2,.slice a2 z2.length k2,.int .i64 e2,.bool b3,.slice a3 z3.length k3,.int .i64 e3] 26)
 have HT:=ab (hT.below hb0)
 have HA0:=ab (A0.below hb0)
 have EV0:=ab hV0
 have HA1:=ab (A1.below hb0)
 have EV1:=ab hV1
 have HA2:=ab (A2.below hb0)
 have EV2:=ab hV2
 have HA3:=ab (A3.below hb0)
 have EV3:=ab hV3
 have HS:=ab q0
 have HR:=ab q1
 have HW:=ab hb0
 have LL:Hid (4611686018427387904≤L):=ab hL
 have HLM:=ab A1.limbs
 clear A0 hV0 A1 hV1 A2 hV2 A3 hV3 hT q0 q1 hb0 hL
 have EF:=ab hF
 have EG:=ab hG
 have i9:(F != 0)=true:=by simpa using h0
 clear hF hG HLM
 go_enter Tryz.func3,Tryz.ntmps3
 obtain⟨ca0,ca1,ca2,ca3,ca4,ca5⟩:=hexa HS.out
 have C:=cd b0 a0 k0 z0 e0 b1 a1 k1 z1 e1 L w0 HA0.out HA1.out (by omega) (by omega) LL.out
 rw [EV0.out,EV1.out,EF.out] at C
 go_wp2_with fail
 refine C.mono ?_
 rintro e Q1 ⟨⟨m,ma,mn,mk,me,n,na,nn,nk,ne,rfl,hv1,hv2⟩,hb⟩
 clear C ca0 ca1 ca2 ca3 ca4 ca5 hw0
 clear hv1 hv2
 obtain⟨P2,hP2,hbP,hx⟩:=ag Q1 (.cells #[.bool m,.slice ma mn mk,.int .i64 me,.bool n,.slice na nn nk,.int .i64 ne] 33)
 have stp:=ae hb hbP
 replace HS:=ab (ac stp HS.out)
 replace HR:=ab (ac stp HR.out)
 replace HT:=ab (HT.out.below stp)
 replace HA0:=ab (HA0.out.below stp)
 replace HA1:=ab (HA1.out.below stp)
 replace HA2:=ab (HA2.out.below stp)
 replace HA3:=ab (HA3.out.below stp)
 replace HW:=bN HW stp
 have HM:=ab hx
 clear stp hbP hx hb
 obtain⟨ca0,ca1,ca2,ca3,ca4,ca5⟩:=hexa HR.out
 have C:=cd b2 a2 k2 z2 e2 b3 a3 k3 z3 e3 L P2 HA2.out HA3.out (by omega) (by omega) LL.out
 rw [EV2.out,EV3.out,EG.out] at C
 go_wp2_with fail
 refine C.mono ?_
 rintro e Q3 ⟨⟨o,oa,on,ok,oe,t,ta,tn,tk,te,rfl,hv1,hv2⟩,hb⟩
 clear C ca0 ca1 ca2 ca3 ca4 ca5 hP2
 clear hv1 hv2
 obtain⟨P4,hP4,hbP,hx⟩:=ag Q3 (.cells #[.bool o,.slice oa on ok,.int .i64 oe,.bool t,.slice ta tn tk,.int .i64 te] 33)
 have stp:=ae hb hbP
 replace HS:=ab (ac stp HS.out)
 replace HR:=ab (ac stp HR.out)
 replace HM:=ab (ac stp HM.out)
 replace HT:=ab (HT.out.below stp)
 replace HA0:=ab (HA0.out.below stp)
 replace HA1:=ab (HA1.out.below stp)
 replace HA2:=ab (HA2.out.below stp)
 replace HA3:=ab (HA3.out.below stp)
 replace HW:=bN HW stp
 have HN:=ab hx
 clear stp hbP hx hb
 have C:=dU P4 HT.out
 go_wp2_with fail
 refine C.mono ?_
 rintro e Q5 ⟨rfl,hb⟩
 clear C  hP4
 replace HS:=ab (ac hb HS.out)
 replace HR:=ab (ac hb HR.out)
 replace HM:=ab (ac hb HM.out)
 replace HN:=ab (ac hb HN.out)
 replace HT:=ab (HT.out.below hb)
 replace HA0:=ab (HA0.out.below hb)
 replace HA1:=ab (HA1.out.below hb)
 replace HA2:=ab (HA2.out.below hb)
 replace HA3:=ab (HA3.out.below hb)
 replace HW:=bN HW hb
 clear hb
 go_wp2
 go_ret
 exact⟨rfl,HW.out⟩

theorem pU (b0:Bool)(a0:Option Addr)(k0:Nat)(z0:List Nat)(e0:Int)(b1:Bool)(a1:Option Addr)(k1:Nat)(z1:List Nat)(e1:Int)(b2:Bool)(a2:Option Addr)(k2:Nat)(z2:List Nat)(e2:Int)(b3:Bool)(a3:Option Addr)(k3:Nat)(z3:List Nat)(e3:Int)(pos:Int)(L:Nat)(V0 V1 V2 V3:Int)(G:Int)(w:World)(hT:Tab w)(A0:Arg w (.slice a0 z0.length k0) z0)(s0:z0.length≤1048576)(A1:Arg w (.slice a1 z1.length k1) z1)(s1:z1.length≤1048576)(A2:Arg w (.slice a2 z2.length k2) z2)(s2:z2.length≤1048576)(A3:Arg w (.slice a3 z3.length k3) z3)(s3:z3.length≤1048576)(hL:4611686018427387904≤L)(hV0:vof b0 z0 e0 L=V0)(hV1:vof b1 z1 e1 L=V1)(hV2:vof b2 z2 e2 L=V2)(hV3:vof b3 z3 e3 L=V3)(hF:flt e0 e1 V0 V1=0)(hG:flt e2 e3 V2 V3=G)(h0:G≠0) :
  Calls Tryz.prog 3 #[.agg #[.bool b0,.slice a0 z0.length k0,.int .i64 e0,.bool b1,.slice a1 z1.length k1,.int .i64 e1],.agg #[.bool b2,.slice a2 z2.length k2,.int .i64 e2,.bool b3,.slice a3 z3.length k3,.int .i64 e3],.int .i64 pos] w fun e w'=>e=.returned (.bool true)∧Below w.heap.size w w':=by
 obtain⟨w0,hw0,hb0,q0,q1⟩:=al w (.cells #[.bool b0,.slice a0 z0.length k0,.int .i64 e0,.bool b1,.slice a1 z1.length k1,.int .i64 e1] 26) (.cells #[.bool b2,.slice a2 z2.length k2,.int .i64 e2,.bool b3,.slice a3 z3.length k3,.int .i64 e3] 26)
 have HT:=ab (hT.below hb0)
 have HA0:=ab (A0.below hb0)
 have EV0:=ab hV0
 have HA1:=ab (A1.below hb0)
 have EV1:=ab hV1
 have HA2:=ab (A2.below hb0)
 have EV2:=ab hV2
 have HA3:=ab (A3.below hb0)
 have EV3:=ab hV3
 have HS:=ab q0
 have HR:=ab q1
 have HW:=ab hb0
 have LL:Hid (4611686018427387904≤L):=ab hL
 have HLM:=ab A1.limbs
 clear A0 hV0 A1 hV1 A2 hV2 A3 hV3 hT q0 q1 hb0 hL
 have EF:=ab hF
 have EG:=ab hG
 have i9:(G != 0)=true:=by simpa using h0
 clear hF hG HLM
 go_enter Tryz.func3,Tryz.ntmps3
 obtain⟨ca0,ca1,ca2,ca3,ca4,ca5⟩:=hexa HS.out
 have C:=cd b0 a0 k0 z0 e0 b1 a1 k1 z1 e1 L w0 HA0.out HA1.out (by omega) (by omega) LL.out
 rw [EV0.out,EV1.out,EF.out] at C
 go_wp2_with fail
 refine C.mono ?_
 rintro e Q1 ⟨⟨m,ma,mn,mk,me,n,na,nn,nk,ne,rfl,hv1,hv2⟩,hb⟩
 clear C ca0 ca1 ca2 ca3 ca4 ca5 hw0
 rw [if_pos rfl] at hv1 hv2
 obtain⟨P2,hP2,hbP,hx⟩:=ag Q1 (.cells #[.bool m,.slice ma mn mk,.int .i64 me,.bool n,.slice na nn nk,.int .i64 ne] 33)
 have stp:=ae hb hbP
 replace HS:=ab (ac stp HS.out)
 replace HR:=ab (ac stp HR.out)
 replace HT:=ab (HT.out.below stp)
 replace HA0:=ab (HA0.out.below stp)
 replace HA1:=ab (HA1.out.below stp)
 replace HA2:=ab (HA2.out.below stp)
 replace HA3:=ab (HA3.out.below stp)
 replace HW:=bN HW stp
 have HMv:=ab (hv1.below hbP)
 have HNv:=ab (hv2.below hbP)
 have HM:=ab hx
 clear stp hbP hx hb hv1 hv2
 obtain⟨ca0,ca1,ca2,ca3,ca4,ca5⟩:=hexa HR.out
 have C:=cd b2 a2 k2 z2 e2 b3 a3 k3 z3 e3 L P2 HA2.out HA3.out (by omega) (by omega) LL.out
 rw [EV2.out,EV3.out,EG.out] at C
 go_wp2_with fail
 refine C.mono ?_
 rintro e Q3 ⟨⟨o,oa,on,ok,oe,t,ta,tn,tk,te,rfl,hv1,hv2⟩,hb⟩
 clear C ca0 ca1 ca2 ca3 ca4 ca5 hP2
 clear hv1 hv2
 obtain⟨P4,hP4,hbP,hx⟩:=ag Q3 (.cells #[.bool o,.slice oa on ok,.int .i64 oe,.bool t,.slice ta tn tk,.int .i64 te] 33)
 have stp:=ae hb hbP
 replace HS:=ab (ac stp HS.out)
 replace HR:=ab (ac stp HR.out)
 replace HM:=ab (ac stp HM.out)
 replace HT:=ab (HT.out.below stp)
 replace HA0:=ab (HA0.out.below stp)
 replace HA1:=ab (HA1.out.below stp)
 replace HA2:=ab (HA2.out.below stp)
 replace HA3:=ab (HA3.out.below stp)
 replace HMv:=ab (HMv.out.below stp)
 replace HNv:=ab (HNv.out.below stp)
 replace HW:=bN HW stp
 have HN:=ab hx
 clear stp hbP hx hb
 have C:=dU P4 HT.out
 go_wp2_with fail
 refine C.mono ?_
 rintro e Q5 ⟨rfl,hb⟩
 clear C  hP4
 replace HS:=ab (ac hb HS.out)
 replace HR:=ab (ac hb HR.out)
 replace HM:=ab (ac hb HM.out)
 replace HN:=ab (ac hb HN.out)
 replace HT:=ab (HT.out.below hb)
 replace HA0:=ab (HA0.out.below hb)
 replace HA1:=ab (HA1.out.below hb)
 replace HA2:=ab (HA2.out.below hb)
 replace HA3:=ab (HA3.out.below hb)
 replace HMv:=ab (HMv.out.below hb)
 replace HNv:=ab (HNv.out.below hb)
 replace HW:=bN HW hb
 clear hb
 go_wp2
 go_ret
 exact⟨rfl,HW.out⟩

theorem m6 (b0:Bool)(a0:Option Addr)(k0:Nat)(z0:List Nat)(e0:Int)(b1:Bool)(a1:Option Addr)(k1:Nat)(z1:List Nat)(e1:Int)(b2:Bool)(a2:Option Addr)(k2:Nat)(z2:List Nat)(e2:Int)(b3:Bool)(a3:Option Addr)(k3:Nat)(z3:List Nat)(e3:Int)(pos:Int)(L:Nat)(V0 V1 V2 V3:Int)(w:World)(hT:Tab w)(A0:Arg w (.slice a0 z0.length k0) z0)(s0:z0.length≤1048576)(A1:Arg w (.slice a1 z1.length k1) z1)(s1:z1.length≤1048576)(A2:Arg w (.slice a2 z2.length k2) z2)(s2:z2.length≤1048576)(A3:Arg w (.slice a3 z3.length k3) z3)(s3:z3.length≤1048576)(hL:4611686018427387904≤L)(hV0:vof b0 z0 e0 L=V0)(hV1:vof b1 z1 e1 L=V1)(hV2:vof b2 z2 e2 L=V2)(hV3:vof b3 z3 e3 L=V3)(hF:flt e0 e1 V0 V1=0)(hG:flt e2 e3 V2 V3=0)(hK:ah pos=false) :
  Calls Tryz.prog 3 #[.agg #[.bool b0,.slice a0 z0.length k0,.int .i64 e0,.bool b1,.slice a1 z1.length k1,.int .i64 e1],.agg #[.bool b2,.slice a2 z2.length k2,.int .i64 e2,.bool b3,.slice a3 z3.length k3,.int .i64 e3],.int .i64 pos] w fun e w'=>e=.returned (.bool true)∧Below w.heap.size w w':=by
 obtain⟨w0,hw0,hb0,q0,q1⟩:=al w (.cells #[.bool b0,.slice a0 z0.length k0,.int .i64 e0,.bool b1,.slice a1 z1.length k1,.int .i64 e1] 26) (.cells #[.bool b2,.slice a2 z2.length k2,.int .i64 e2,.bool b3,.slice a3 z3.length k3,.int .i64 e3] 26)
 have HT:=ab (hT.below hb0)
 have HA0:=ab (A0.below hb0)
 have EV0:=ab hV0
 have HA1:=ab (A1.below hb0)
 have EV1:=ab hV1
 have HA2:=ab (A2.below hb0)
 have EV2:=ab hV2
 have HA3:=ab (A3.below hb0)
 have EV3:=ab hV3
 have HS:=ab q0
 have HR:=ab q1
 have HW:=ab hb0
 have LL:Hid (4611686018427387904≤L):=ab hL
 have HLM:=ab A1.limbs
 clear A0 hV0 A1 hV1 A2 hV2 A3 hV3 hT q0 q1 hb0 hL
 have EF:=ab hF
 have EG:=ab hG
 clear hF hG HLM
 go_enter Tryz.func3,Tryz.ntmps3
 obtain⟨ca0,ca1,ca2,ca3,ca4,ca5⟩:=hexa HS.out
 have C:=cd b0 a0 k0 z0 e0 b1 a1 k1 z1 e1 L w0 HA0.out HA1.out (by omega) (by omega) LL.out
 rw [EV0.out,EV1.out,EF.out] at C
 go_wp2_with fail
 refine C.mono ?_
 rintro e Q1 ⟨⟨m,ma,mn,mk,me,n,na,nn,nk,ne,rfl,hv1,hv2⟩,hb⟩
 clear C ca0 ca1 ca2 ca3 ca4 ca5 hw0
 rw [if_pos rfl] at hv1 hv2
 obtain⟨P2,hP2,hbP,hx⟩:=ag Q1 (.cells #[.bool m,.slice ma mn mk,.int .i64 me,.bool n,.slice na nn nk,.int .i64 ne] 33)
 have stp:=ae hb hbP
 replace HS:=ab (ac stp HS.out)
 replace HR:=ab (ac stp HR.out)
 replace HT:=ab (HT.out.below stp)
 replace HA0:=ab (HA0.out.below stp)
 replace HA1:=ab (HA1.out.below stp)
 replace HA2:=ab (HA2.out.below stp)
 replace HA3:=ab (HA3.out.below stp)
 replace HW:=bN HW stp
 have HMv:=ab (hv1.below hbP)
 have HNv:=ab (hv2.below hbP)
 have HM:=ab hx
 clear stp hbP hx hb hv1 hv2
 obtain⟨ca0,ca1,ca2,ca3,ca4,ca5⟩:=hexa HR.out
 have C:=cd b2 a2 k2 z2 e2 b3 a3 k3 z3 e3 L P2 HA2.out HA3.out (by omega) (by omega) LL.out
 rw [EV2.out,EV3.out,EG.out] at C
 go_wp2_with fail
 refine C.mono ?_
 rintro e Q3 ⟨⟨o,oa,on,ok,oe,t,ta,tn,tk,te,rfl,hv1,hv2⟩,hb⟩
 clear C ca0 ca1 ca2 ca3 ca4 ca5 hP2
 rw [if_pos rfl] at hv1 hv2
 obtain⟨P4,hP4,hbP,hx⟩:=ag Q3 (.cells #[.bool o,.slice oa on ok,.int .i64 oe,.bool t,.slice ta tn tk,.int .i64 te] 33)
 have stp:=ae hb hbP
 replace HS:=ab (ac stp HS.out)
 replace HR:=ab (ac stp HR.out)
 replace HM:=ab (ac stp HM.out)
 replace HT:=ab (HT.out.below stp)
 replace HA0:=ab (HA0.out.below stp)
 replace HA1:=ab (HA1.out.below stp)
 replace HA2:=ab (HA2.out.below stp)
 replace HA3:=ab (HA3.out.below stp)
 replace HMv:=ab (HMv.out.below stp)
 replace HNv:=ab (HNv.out.below stp)
 replace HW:=bN HW stp
 have HOv:=ab (hv1.below hbP)
 have HTv:=ab (hv2.below hbP)
 have HN:=ab hx
 clear stp hbP hx hb hv1 hv2
 have C:=bZ pos P4
 rw [hK] at C
 go_wp2_with fail
 refine C.mono ?_
 rintro e wn ⟨rfl,hw⟩;rw [hw];clear hw wn C hP4
 have C:=dU P4 HT.out
 go_wp2_with fail
 refine C.mono ?_
 rintro e Q5 ⟨rfl,hb⟩
 clear C
 replace HS:=ab (ac hb HS.out)
 replace HR:=ab (ac hb HR.out)
 replace HM:=ab (ac hb HM.out)
 replace HN:=ab (ac hb HN.out)
 replace HT:=ab (HT.out.below hb)
 replace HA0:=ab (HA0.out.below hb)
 replace HA1:=ab (HA1.out.below hb)
 replace HA2:=ab (HA2.out.below hb)
 replace HA3:=ab (HA3.out.below hb)
 replace HMv:=ab (HMv.out.below hb)
 replace HNv:=ab (HNv.out.below hb)
 replace HOv:=ab (HOv.out.below hb)
 replace HTv:=ab (HTv.out.below hb)
 replace HW:=bN HW hb
 clear hb
 go_wp2
 go_ret
 exact⟨rfl,HW.out⟩

end Go.Proofs.YtkfbobefkbpdoaaGreatDoor
