/- Package span: sums and differences, outward, with what they refuse. -/
import Derived.Test.YtkfbobefkbpdoaaGreatDoorB14
import Derived.Deep.RegionHeld3
set_option maxRecDepth 20000
set_option maxHeartbeats 4000000
namespace Go.Proofs.YtkfbobefkbpdoaaGreatDoor
open Go.RowKit
open Lm
attribute [local go_sem ↓] Go.wp_at_zero Go.wp_at_succ

theorem jG (gp:Nat)(pos:Int)(b1:Bool)(a1:Option Addr)(n1 k1:Nat)(ex1:Int)(md M E:Int)(w:World)(hp:w.heap[gp]?=some (.cells #[.int .i64 pos] 3))(hC:∀W,Below w.heap.size w W→Calls Tryz.prog 88 #[.agg #[.bool b1,.slice a1 n1 k1,.int .i64 ex1],.int .i64 pos,.int .i64 md] W fun e w'=>aT w' W.heap.size e M E∧Below W.heap.size W w') :
  Calls Tryz.prog 87 #[.agg #[.bool b1,.slice a1 n1 k1,.int .i64 ex1],.int .i64 md,.pointer (some ⟨gp,0,none⟩)] w fun e w'=>aT w' w.heap.size e M E∧Below w.heap.size w w':=by
 obtain⟨w0,hw0,hb0,q0,q1⟩:=al w (.cells #[.bool b1,.slice a1 n1 k1,.int .i64 ex1] 43) (.cells #[.bool false,.slice none 0 0,.int .i64 0] 43)
 obtain⟨y0,y1,y2⟩:=tri8 q0
 have kp:w0.cell? ⟨gp,0,none⟩=some (.int .i64 pos):=by have:=ac hb0 hp;simp [World.cell?,this]
 have C:=hC w0 hb0
 have HC:=ab q1
 have HB:=ab hb0
 clear q0 q1 hb0 hC hp
 go_enter Tryz.func87,Tryz.ntmps87
 go_wp2_with fail
 refine C.mono ?_
 rintro e t1 ⟨⟨b6,a6,n6,c6,e6,d6,rfl,hg⟩,g1⟩
 have HC1:=ab (ac g1 HC.out)
 have HG:=ab (ae HB.out g1)
 have HDR:=ab (hg.base HB.out.size)
 have hf1:=ak HC1.out
 obtain⟨m0,m1,m2⟩:=tri8 HC1.out
 clear g1 hg C
 go_wp2
 have T3:=ay HC1.out (.bool b6) (.slice a6 n6 c6) (.int .i64 e6)
 have T4:=an HG.out (show w.heap.size≤w.heap.size+1 by omega) (.bool b6) (.slice a6 n6 c6) (.int .i64 e6)
 have T5:=HDR.out.tri8 HC1.out (by decide) (.bool b6) (.slice a6 n6 c6) (.int .i64 e6)
 obtain⟨p0,p1,p2⟩:=tri8 T3
 have HE:=ab (And.intro T5 T4)
 clear T3 T4 T5
 generalize ((t1.setCell ⟨w.heap.size+1,0,none⟩ (.bool b6)).setCell ⟨w.heap.size+1,1,none⟩ (.slice a6 n6 c6)).setCell ⟨w.heap.size+1,2,none⟩ (.int .i64 e6)=w9 at *
 refine bodyPost_ret (v:=.tuple #[.agg #[.bool b6,.slice a6 n6 c6,.int .i64 e6],.int .i64 d6]) (by simp [results,Tryz.results87,go_sem,p0,p1,p2]) rfl ?_
 exact⟨⟨_,_,_,_,_,_,rfl,HE.out.1⟩,HE.out.2⟩

theorem oC (gp:Nat)(b1:Bool)(a1:Option Addr)(n1 k1:Nat)(ex1:Int)(b2:Bool)(a2:Option Addr)(n2 k2:Nat)(ex2:Int)(M1 E1 M2 E2:Int)(w:World)(hC1:∀W,Below w.heap.size w W→Calls Tryz.prog 87 #[.agg #[.bool b1,.slice a1 n1 k1,.int .i64 ex1],.int .i64 0,.pointer (some ⟨gp,0,none⟩)] W fun e w'=>aT w' W.heap.size e M1 E1∧Below W.heap.size W w')(hC2:∀W,Below w.heap.size w W→Calls Tryz.prog 87 #[.agg #[.bool b2,.slice a2 n2 k2,.int .i64 ex2],.int .i64 1,.pointer (some ⟨gp,0,none⟩)] W fun e w'=>aT w' W.heap.size e M2 E2∧Below W.heap.size W w') :
  Calls Tryz.prog 48 #[.agg #[.bool b1,.slice a1 n1 k1,.int .i64 ex1],.agg #[.bool b2,.slice a2 n2 k2,.int .i64 ex2],.func (.func 87) #[] #[.pointer (some ⟨gp,0,none⟩)]] w fun e w'=>cA w e w' M1 E1 M2 E2:=by
 obtain⟨w0,hw0,hb0,q0,q1,q9⟩:=aM w (.cells #[.bool b1,.slice a1 n1 k1,.int .i64 ex1] 43) (.cells #[.bool b2,.slice a2 n2 k2,.int .i64 ex2] 43) (.cells #[.bool false,.slice none 0 0,.int .i64 0,.bool false,.slice none 0 0,.int .i64 0] 45)
 obtain⟨y0,y1,y2⟩:=tri8 q0
 have HU0:=ab hb0
 have HQ0:=ab q1
 have HR0:Hid (w0.heap[w.heap.size+1+1]?=some (.cells #[.bool false,.slice none 0 0,.int .i64 0,.bool false,.slice none 0 0,.int .i64 0] 45)):=ab q9
 have C1:=ab hC1
 have C2:=ab hC2
 clear q0 q1 q9 hb0 hC1 hC2
 go_enter Tryz.func48,Tryz.ntmps48
 go_wp2_with fail
 refine (C1.out w0 HU0.out).mono ?_
 rintro e t1 ⟨⟨b6,a6,n6,c6,e6,d6,rfl,hg⟩,g1⟩
 obtain⟨w2,hw2,hb2,q2⟩:=ag t1 (.cells #[.bool b6,.slice a6 n6 c6,.int .i64 e6] 43)
 have s2:=ae g1 hb2
 have HU2:=ab (ae HU0.out s2)
 have HX2:=ab q2
 have HD1:=ab ((hg.below hb2).base HU0.out.size)
 have HQ1:=ab (ac s2 HQ0.out)
 have HR1:=ab (ac s2 HR0.out)
 clear g1 hg hb2 q2 s2 y0 y1 y2 hw0
 obtain⟨z0,z1,z2⟩:=tri8 HQ1.out
 go_wp2_with fail
 refine (C2.out w2 HU2.out).mono ?_
 rintro e t3 ⟨⟨b7,a7,n7,c7,e7,d7,rfl,hg⟩,g1⟩
 obtain⟨w4,hw4,hb4,q4⟩:=ag t3 (.cells #[.bool b7,.slice a7 n7 c7,.int .i64 e7] 43)
 obtain⟨w6,hw6,hb6,q6⟩:=ag w4 (.cells #[.int .i64 d6,.int .i64 d7] 47)
 have s4:=ae (ae g1 hb4) hb6
 have hap:(Value.slice a6 n6 c6).ownBlock=none∨(Value.slice a6 n6 c6).ownBlock≠(Value.slice a7 n7 c7).ownBlock:=by
  obtain⟨r1,i1,_⟩:=HD1.out
  obtain⟨r2,i2,_⟩:=hg
  exact kE (m:=w2.heap.size) (fun g hg'=>(i1.own.lt g hg').2) i2
 have HG:=ab (ae HU2.out s4)
 have HX4:=ab (ac s4 HX2.out)
 have HX5:=ab (ac hb6 q4)
 have hd1:=HD1.out.below s4
 have hd2:=(((hg.below hb4).below hb6).base HU2.out.size)
 have hc1:=hd1.code
 have hc2:=hd2.code
 have HSR:Hid ((aE d6 d7=0→SR w6 w.heap.size b6 (.slice a6 n6 c6) e6 b7 (.slice a7 n7 c7) e7 0 M1 E1 M2 E2)∧(aE d6 d7≠0→∀W,SR W w.heap.size false (.slice none 0 0) 0 false (.slice none 0 0) 0 (aE d6 d7) M1 E1 M2 E2)):=by
  refine ab ⟨fun h0=>?_,fun h0 W=>?_⟩
  ·obtain⟨x1,x2⟩:=du.1 h0
   rw [x1] at hd1
   rw [x2] at hd2
   exact⟨by rw [←hc1,←hc2,h0],fun _=>⟨hd1,hd2,hap⟩,fun h=>absurd rfl h⟩
  ·exact⟨by rw [←hc1,←hc2],fun h=>absurd h h0,fun _=>⟨rfl,rfl,rfl,rfl,rfl,rfl⟩⟩
 have HC1:=ab (ac s4 HR1.out)
 have RF:=ka w4.heap.size d6 d7 w6 q6
 clear g1 hg hb4 q4 s4 z0 z1 z2 hw2 HD1 hb6 q6 hd1 hd2 hc1 hc2 hap
 generalize aE d6 d7=R at *
 obtain⟨x0,x1,x2⟩:=tri8 HX4.out
 obtain⟨x3,x4,x5⟩:=tri8 HX5.out
 have hf1:=av HC1.out
 obtain⟨m0,m1,m2,m3,m4,m5⟩:=hexa HC1.out
 by_cases hR:R=0
 ·subst hR
  have HS2:=ab (HSR.out.1 rfl)
  clear HSR
  have HSR:=HS2
  clear HS2
  go_wp2_with fail
  refine RF.mono ?_
  rintro e wn ⟨rfl,hw⟩;rw [hw];clear hw wn RF
  go_wp2
  have T3:=aJ HC1.out (.bool b6) (.slice a6 n6 c6) (.int .i64 e6) (.bool b7) (.slice a7 n7 c7) (.int .i64 e7)
  have T4:=aF HG.out (show w.heap.size≤w.heap.size+1+1 by omega) (.bool b6) (.slice a6 n6 c6) (.int .i64 e6) (.bool b7) (.slice a7 n7 c7) (.int .i64 e7)
  have T5:=HSR.out.hexa HC1.out (by decide) (.bool b6) (.slice a6 n6 c6) (.int .i64 e6) (.bool b7) (.slice a7 n7 c7) (.int .i64 e7)
  obtain⟨p0,p1,p2,p3,p4,p5⟩:=hexa T3
  have HE:=ab (And.intro T5 T4)
  clear T3 T4 T5
  generalize (((((w6.setCell ⟨w.heap.size+1+1,0,none⟩ (.bool b6)).setCell ⟨w.heap.size+1+1,1,none⟩ (.slice a6 n6 c6)).setCell ⟨w.heap.size+1+1,2,none⟩ (.int .i64 e6)).setCell ⟨w.heap.size+1+1,3,none⟩ (.bool b7)).setCell ⟨w.heap.size+1+1,4,none⟩ (.slice a7 n7 c7)).setCell ⟨w.heap.size+1+1,5,none⟩ (.int .i64 e7)=w9 at *
  refine bodyPost_ret (v:=.tuple #[.agg #[.bool b6,.slice a6 n6 c6,.int .i64 e6,.bool b7,.slice a7 n7 c7,.int .i64 e7],.int .i64 0]) (by simp [results,Tryz.results48,go_sem,p0,p1,p2,p3,p4,p5]) rfl ?_
  exact⟨⟨_,_,_,_,_,_,_,_,_,_,_,rfl,HE.out.1⟩,HE.out.2⟩
 ·have i9:(R != 0)=true:=by simpa using hR
  have HS2:=ab (HSR.out.2 hR)
  clear HSR hR
  go_wp2_with fail
  refine RF.mono ?_
  rintro e wn ⟨rfl,hw⟩;rw [hw];clear hw wn RF
  go_wp2
  have T3:=aJ HC1.out (.bool false) (.slice none 0 0) (.int .i64 0) (.bool false) (.slice none 0 0) (.int .i64 0)
  have T4:=aF HG.out (show w.heap.size≤w.heap.size+1+1 by omega) (.bool false) (.slice none 0 0) (.int .i64 0) (.bool false) (.slice none 0 0) (.int .i64 0)
  obtain⟨p0,p1,p2,p3,p4,p5⟩:=hexa T3
  have HE:=ab T4
  clear T3 T4
  generalize (((((w6.setCell ⟨w.heap.size+1+1,0,none⟩ (.bool false)).setCell ⟨w.heap.size+1+1,1,none⟩ (.slice none 0 0)).setCell ⟨w.heap.size+1+1,2,none⟩ (.int .i64 0)).setCell ⟨w.heap.size+1+1,3,none⟩ (.bool false)).setCell ⟨w.heap.size+1+1,4,none⟩ (.slice none 0 0)).setCell ⟨w.heap.size+1+1,5,none⟩ (.int .i64 0)=w9 at *
  refine bodyPost_ret (v:=.tuple #[.agg #[.bool false,.slice none 0 0,.int .i64 0,.bool false,.slice none 0 0,.int .i64 0],.int .i64 R]) (by simp [results,Tryz.results48,go_sem,p0,p1,p2,p3,p4,p5]) rfl ?_
  exact⟨⟨_,_,_,_,_,_,_,_,_,_,_,rfl,HS2.out _⟩,HE.out⟩

theorem qY (b1:Bool)(a1:Option Addr)(n1 k1:Nat)(ex1:Int)(b2:Bool)(a2:Option Addr)(n2 k2:Nat)(ex2:Int)(pos M1 E1 M2 E2:Int)(w:World)(hC1:∀W,Below w.heap.size w W→Calls Tryz.prog 88 #[.agg #[.bool b1,.slice a1 n1 k1,.int .i64 ex1],.int .i64 pos,.int .i64 0] W fun e w'=>aT w' W.heap.size e M1 E1∧Below W.heap.size W w')(hC2:∀W,Below w.heap.size w W→Calls Tryz.prog 88 #[.agg #[.bool b2,.slice a2 n2 k2,.int .i64 ex2],.int .i64 pos,.int .i64 1] W fun e w'=>aT w' W.heap.size e M2 E2∧Below W.heap.size W w') :
  Calls Tryz.prog 69 #[.agg #[.bool b1,.slice a1 n1 k1,.int .i64 ex1,.bool b2,.slice a2 n2 k2,.int .i64 ex2],.int .i64 pos] w fun e w'=>cA w e w' M1 E1 M2 E2:=by
 obtain⟨w0,hw0,hb0,q0,q1,q9⟩:=aM w (.cells #[.bool b1,.slice a1 n1 k1,.int .i64 ex1,.bool b2,.slice a2 n2 k2,.int .i64 ex2] 45) (.cells #[.int .i64 pos] 3) (.cells #[.bool false,.slice none 0 0,.int .i64 0,.bool false,.slice none 0 0,.int .i64 0] 45)
 obtain⟨y0,y1,y2,y3,y4,y5⟩:=hexa q0
 have C:=oC (w.heap.size+1) b1 a1 n1 k1 ex1 b2 a2 n2 k2 ex2 M1 E1 M2 E2 w0 (fun W hg=>jG (w.heap.size+1) pos b1 a1 n1 k1 ex1 0 M1 E1 W (ac hg q1) (fun Z hz=>hC1 Z (ae (ae hb0 hg) hz))) (fun W hg=>jG (w.heap.size+1) pos b2 a2 n2 k2 ex2 1 M2 E2 W (ac hg q1) (fun Z hz=>hC2 Z (ae (ae hb0 hg) hz)))
 have HU0:=ab hb0
 have HR0:Hid (w0.heap[w.heap.size+1+1]?=some (.cells #[.bool false,.slice none 0 0,.int .i64 0,.bool false,.slice none 0 0,.int .i64 0] 45)):=ab q9
 clear q0 q1 q9 hb0 hC1 hC2
 go_enter Tryz.func69,Tryz.ntmps69
 go_wp2_with fail
 refine C.mono ?_
 rintro e t1 ⟨⟨b6,a6,n6,c6,e6,b7,a7,n7,c7,e7,d7,rfl,hg1⟩,g1⟩
 have HC1:=ab (ac g1 HR0.out)
 have HG:=ab (ae HU0.out g1)
 have HSR:=ab (hg1.base HU0.out.size)
 have hf1:=av HC1.out
 obtain⟨m0,m1,m2,m3,m4,m5⟩:=hexa HC1.out
 clear g1 C hg1
 go_wp2
 have T3:=aJ HC1.out (.bool b6) (.slice a6 n6 c6) (.int .i64 e6) (.bool b7) (.slice a7 n7 c7) (.int .i64 e7)
 have T4:=aF HG.out (show w.heap.size≤w.heap.size+1+1 by omega) (.bool b6) (.slice a6 n6 c6) (.int .i64 e6) (.bool b7) (.slice a7 n7 c7) (.int .i64 e7)
 have T5:=HSR.out.hexa HC1.out (by decide) (.bool b6) (.slice a6 n6 c6) (.int .i64 e6) (.bool b7) (.slice a7 n7 c7) (.int .i64 e7)
 obtain⟨p0,p1,p2,p3,p4,p5⟩:=hexa T3
 have HE:=ab (And.intro T5 T4)
 clear T3 T4 T5
 generalize (((((t1.setCell ⟨w.heap.size+1+1,0,none⟩ (.bool b6)).setCell ⟨w.heap.size+1+1,1,none⟩ (.slice a6 n6 c6)).setCell ⟨w.heap.size+1+1,2,none⟩ (.int .i64 e6)).setCell ⟨w.heap.size+1+1,3,none⟩ (.bool b7)).setCell ⟨w.heap.size+1+1,4,none⟩ (.slice a7 n7 c7)).setCell ⟨w.heap.size+1+1,5,none⟩ (.int .i64 e7)=w9 at *
 refine bodyPost_ret (v:=.tuple #[.agg #[.bool b6,.slice a6 n6 c6,.int .i64 e6,.bool b7,.slice a7 n7 c7,.int .i64 e7],.int .i64 d7]) (by simp [results,Tryz.results69,go_sem,p0,p1,p2,p3,p4,p5]) rfl ?_
 exact⟨⟨_,_,_,_,_,_,_,_,_,_,_,rfl,HE.out.1⟩,HE.out.2⟩

theorem oS (b1:Bool)(a1:Option Addr)(n1 k1:Nat)(ex1:Int)(b2:Bool)(a2:Option Addr)(n2 k2:Nat)(ex2:Int)(pos M1 E1 M2 E2:Int)(w:World)(hC:∀W,Below w.heap.size w W→Calls Tryz.prog 69 #[.agg #[.bool b1,.slice a1 n1 k1,.int .i64 ex1,.bool b2,.slice a2 n2 k2,.int .i64 ex2],.int .i64 pos] W fun e w'=>cA W e w' M1 E1 M2 E2) :
  Calls Tryz.prog 43 #[.agg #[.bool b1,.slice a1 n1 k1,.int .i64 ex1,.bool b2,.slice a2 n2 k2,.int .i64 ex2],.int .i64 0,.int .i64 pos] w fun e w'=>cA w e w' M1 E1 M2 E2:=by
 obtain⟨w0,hw0,hb0,q0,q9⟩:=al w (.cells #[.bool b1,.slice a1 n1 k1,.int .i64 ex1,.bool b2,.slice a2 n2 k2,.int .i64 ex2] 45) (.cells #[.bool false,.slice none 0 0,.int .i64 0,.bool false,.slice none 0 0,.int .i64 0] 45)
 obtain⟨y0,y1,y2,y3,y4,y5⟩:=hexa q0
 have C:=hC w0 hb0
 have HU0:=ab hb0
 have HR0:=ab q9
 clear q0 q9 hb0 hC
 go_enter Tryz.func43,Tryz.ntmps43
 go_wp2_with fail
 refine C.mono ?_
 rintro e t1 ⟨⟨b6,a6,n6,c6,e6,b7,a7,n7,c7,e7,d7,rfl,hg1⟩,g1⟩
 have HC1:=ab (ac g1 HR0.out)
 have HG:=ab (ae HU0.out g1)
 have HSR:=ab (hg1.base HU0.out.size)
 have hf1:=av HC1.out
 obtain⟨m0,m1,m2,m3,m4,m5⟩:=hexa HC1.out
 clear g1 C hg1
 go_wp2
 have T3:=aJ HC1.out (.bool b6) (.slice a6 n6 c6) (.int .i64 e6) (.bool b7) (.slice a7 n7 c7) (.int .i64 e7)
 have T4:=aF HG.out (show w.heap.size≤w.heap.size+1 by omega) (.bool b6) (.slice a6 n6 c6) (.int .i64 e6) (.bool b7) (.slice a7 n7 c7) (.int .i64 e7)
 have T5:=HSR.out.hexa HC1.out (by decide) (.bool b6) (.slice a6 n6 c6) (.int .i64 e6) (.bool b7) (.slice a7 n7 c7) (.int .i64 e7)
 obtain⟨p0,p1,p2,p3,p4,p5⟩:=hexa T3
 have HE:=ab (And.intro T5 T4)
 clear T3 T4 T5
 generalize (((((t1.setCell ⟨w.heap.size+1,0,none⟩ (.bool b6)).setCell ⟨w.heap.size+1,1,none⟩ (.slice a6 n6 c6)).setCell ⟨w.heap.size+1,2,none⟩ (.int .i64 e6)).setCell ⟨w.heap.size+1,3,none⟩ (.bool b7)).setCell ⟨w.heap.size+1,4,none⟩ (.slice a7 n7 c7)).setCell ⟨w.heap.size+1,5,none⟩ (.int .i64 e7)=w9 at *
 refine bodyPost_ret (v:=.tuple #[.agg #[.bool b6,.slice a6 n6 c6,.int .i64 e6,.bool b7,.slice a7 n7 c7,.int .i64 e7],.int .i64 d7]) (by simp [results,Tryz.results43,go_sem,p0,p1,p2,p3,p4,p5]) rfl ?_
 exact⟨⟨_,_,_,_,_,_,_,_,_,_,_,rfl,HE.out.1⟩,HE.out.2⟩

theorem qU (b1:Bool)(a1:Option Addr)(n1 k1:Nat)(ex1:Int)(b2:Bool)(a2:Option Addr)(n2 k2:Nat)(ex2:Int)(m pos:Int)(w:World)(hm:m≠0) :
  Calls Tryz.prog 43 #[.agg #[.bool b1,.slice a1 n1 k1,.int .i64 ex1,.bool b2,.slice a2 n2 k2,.int .i64 ex2],.int .i64 m,.int .i64 pos] w fun e w'=>cq w m e w':=by
 obtain⟨w0,hw0,hb0,q0,q9⟩:=al w (.cells #[.bool b1,.slice a1 n1 k1,.int .i64 ex1,.bool b2,.slice a2 n2 k2,.int .i64 ex2] 45) (.cells #[.bool false,.slice none 0 0,.int .i64 0,.bool false,.slice none 0 0,.int .i64 0] 45)
 have HG:=ab hb0
 have HC1:=ab q9
 have i9:(m != 0)=true:=by simpa using hm
 have hf1:=av HC1.out
 obtain⟨m0,m1,m2,m3,m4,m5⟩:=hexa HC1.out
 clear q0 q9 hb0 hm
 go_enter Tryz.func43,Tryz.ntmps43
 go_wp2
 have T3:=aJ HC1.out (.bool false) (.slice none 0 0) (.int .i64 0) (.bool false) (.slice none 0 0) (.int .i64 0)
 have T4:=aF HG.out (show w.heap.size≤w.heap.size+1 by omega) (.bool false) (.slice none 0 0) (.int .i64 0) (.bool false) (.slice none 0 0) (.int .i64 0)
 obtain⟨p0,p1,p2,p3,p4,p5⟩:=hexa T3
 have HE:=ab T4
 clear T3 T4
 generalize (((((w0.setCell ⟨w.heap.size+1,0,none⟩ (.bool false)).setCell ⟨w.heap.size+1,1,none⟩ (.slice none 0 0)).setCell ⟨w.heap.size+1,2,none⟩ (.int .i64 0)).setCell ⟨w.heap.size+1,3,none⟩ (.bool false)).setCell ⟨w.heap.size+1,4,none⟩ (.slice none 0 0)).setCell ⟨w.heap.size+1,5,none⟩ (.int .i64 0)=w9 at *
 refine bodyPost_ret (v:=.tuple #[.agg #[.bool false,.slice none 0 0,.int .i64 0,.bool false,.slice none 0 0,.int .i64 0],.int .i64 m]) (by simp [results,Tryz.results43,go_sem,p0,p1,p2,p3,p4,p5]) rfl ?_
 exact⟨rfl,HE.out⟩

def dh (w:World)(b1:Bool)(a1:Option Addr)(n1 k1:Nat)(ex1:Int)(b2:Bool)(a2:Option Addr)(n2 k2:Nat)(ex2:Int)(b3:Bool)(a3:Option Addr)(n3 k3:Nat)(ex3:Int)(b4:Bool)(a4:Option Addr)(n4 k4:Nat)(ex4:Int)(pos F:Int):Prop:=
 ∀W gs,Below w.heap.size w W→W.heap[gs]?=some (.cells #[.bool b1,.slice a1 n1 k1,.int .i64 ex1,.bool b2,.slice a2 n2 k2,.int .i64 ex2,.bool b3,.slice a3 n3 k3,.int .i64 ex3,.bool b4,.slice a4 n4 k4,.int .i64 ex4] 45)→Calls Tryz.prog 42 #[.int .i64 pos,.slice (some ⟨gs,0,none⟩) 2 2] W fun e w'=>e=.returned (.int .i64 F)∧Below W.heap.size W w'

theorem ic.at {w:World}{b1:Bool}{a1:Option Addr}{n1 k1:Nat}{ex1:Int}{b2:Bool}{a2:Option Addr}{n2 k2:Nat}{ex2:Int}{b3:Bool}{a3:Option Addr}{n3 k3:Nat}{ex3:Int}{b4:Bool}{a4:Option Addr}{n4 k4:Nat}{ex4 F:Int}(h:ic w b1 a1 n1 k1 ex1 b2 a2 n2 k2 ex2 b3 a3 n3 k3 ex3 b4 a4 n4 k4 ex4 F)(pos:Int):dh w b1 a1 n1 k1 ex1 b2 a2 n2 k2 ex2 b3 a3 n3 k3 ex3 b4 a4 n4 k4 ex4 pos (bq F pos):=
 fun W gs hb hg=>nC _ F pos W (h W gs hb hg)

theorem p6 (b1:Bool)(a1:Option Addr)(n1 k1:Nat)(ex1:Int)(b2:Bool)(a2:Option Addr)(n2 k2:Nat)(ex2:Int)(b3:Bool)(a3:Option Addr)(n3 k3:Nat)(ex3:Int)(b4:Bool)(a4:Option Addr)(n4 k4:Nat)(ex4:Int)(pos F:Int)(w:World)(hF:dh w b1 a1 n1 k1 ex1 b2 a2 n2 k2 ex2 b3 a3 n3 k3 ex3 b4 a4 n4 k4 ex4 pos F)(h0:F≠0) :
  Calls Tryz.prog 23 #[.agg #[.bool b1,.slice a1 n1 k1,.int .i64 ex1,.bool b2,.slice a2 n2 k2,.int .i64 ex2],.agg #[.bool b3,.slice a3 n3 k3,.int .i64 ex3,.bool b4,.slice a4 n4 k4,.int .i64 ex4],.int .i64 pos,.func (.func 24) #[] #[]] w fun e w'=>cq w F e w':=by
 obtain⟨w0,hw0,hb0,q0,q1,q9⟩:=aM w (.cells #[.bool b1,.slice a1 n1 k1,.int .i64 ex1,.bool b2,.slice a2 n2 k2,.int .i64 ex2] 45) (.cells #[.bool b3,.slice a3 n3 k3,.int .i64 ex3,.bool b4,.slice a4 n4 k4,.int .i64 ex4] 45) (.cells #[.bool false,.slice none 0 0,.int .i64 0,.bool false,.slice none 0 0,.int .i64 0] 45)
 obtain⟨w1,hw1,hb1,q2⟩:=ag w0 (.cells #[.bool b1,.slice a1 n1 k1,.int .i64 ex1,.bool b2,.slice a2 n2 k2,.int .i64 ex2,.bool b3,.slice a3 n3 k3,.int .i64 ex3,.bool b4,.slice a4 n4 k4,.int .i64 ex4] 45)
 obtain⟨y0,y1,y2,y3,y4,y5⟩:=hexa q0
 obtain⟨z0,z1,z2,z3,z4,z5⟩:=hexa q1
 have CF:=hF w1 w0.heap.size (ae hb0 hb1) q2
 have HU1:=ab (ae hb0 hb1)
 have HQ0:=ab (ac hb1 q0)
 have HQ1:=ab (ac hb1 q1)
 have HR1:Hid (w1.heap[w.heap.size+1+1]?=some (.cells #[.bool false,.slice none 0 0,.int .i64 0,.bool false,.slice none 0 0,.int .i64 0] 45)):=ab (ac hb1 q9)
 have i9:(F != 0)=true:=by simpa using h0
 clear q0 q1 q2 q9 hb0 hb1 hF h0
 go_enter Tryz.func23,Tryz.ntmps23
 go_wp2_with fail
 refine CF.mono ?_
 rintro e t1 ⟨rfl,g1⟩
 have HC1:=ab (ac g1 HR1.out)
 have HG:=ab (ae HU1.out g1)
 have hf1:=av HC1.out
 obtain⟨m0,m1,m2,m3,m4,m5⟩:=hexa HC1.out
 clear g1 CF y0 y1 y2 y3 y4 y5 z0 z1 z2 z3 z4 z5 hw0 hw1
 go_wp2
 have T3:=aJ HC1.out (.bool false) (.slice none 0 0) (.int .i64 0) (.bool false) (.slice none 0 0) (.int .i64 0)
 have T4:=aF HG.out (show w.heap.size≤w.heap.size+1+1 by omega) (.bool false) (.slice none 0 0) (.int .i64 0) (.bool false) (.slice none 0 0) (.int .i64 0)
 obtain⟨p0,p1,p2,p3,p4,p5⟩:=hexa T3
 have HE:=ab T4
 clear T3 T4
 generalize (((((t1.setCell ⟨w.heap.size+1+1,0,none⟩ (.bool false)).setCell ⟨w.heap.size+1+1,1,none⟩ (.slice none 0 0)).setCell ⟨w.heap.size+1+1,2,none⟩ (.int .i64 0)).setCell ⟨w.heap.size+1+1,3,none⟩ (.bool false)).setCell ⟨w.heap.size+1+1,4,none⟩ (.slice none 0 0)).setCell ⟨w.heap.size+1+1,5,none⟩ (.int .i64 0)=w9 at *
 refine bodyPost_ret (v:=.tuple #[.agg #[.bool false,.slice none 0 0,.int .i64 0,.bool false,.slice none 0 0,.int .i64 0],.int .i64 F]) (by simp [results,Tryz.results23,go_sem,p0,p1,p2,p3,p4,p5]) rfl ?_
 exact⟨rfl,HE.out⟩

theorem lO (b1:Bool)(a1:Option Addr)(n1 k1:Nat)(ex1:Int)(b2:Bool)(a2:Option Addr)(n2 k2:Nat)(ex2:Int)(b3:Bool)(a3:Option Addr)(n3 k3:Nat)(ex3:Int)(b4:Bool)(a4:Option Addr)(n4 k4:Nat)(ex4:Int)(pos m:Int)(w:World)(hF:dh w b1 a1 n1 k1 ex1 b2 a2 n2 k2 ex2 b3 a3 n3 k3 ex3 b4 a4 n4 k4 ex4 pos 0)(h0:m≠0)(hW:∀W,Below w.heap.size w W→Calls Tryz.prog 24 #[.agg #[.bool b1,.slice a1 n1 k1,.int .i64 ex1,.bool b2,.slice a2 n2 k2,.int .i64 ex2],.agg #[.bool b3,.slice a3 n3 k3,.int .i64 ex3,.bool b4,.slice a4 n4 k4,.int .i64 ex4]] W fun e w'=>(∃b1 a1 n1 k1 e1 b2 a2 n2 k2 e2,e=.returned (.tuple #[.agg #[.bool b1,.slice a1 n1 k1,.int .i64 e1,.bool b2,.slice a2 n2 k2,.int .i64 e2],.int .i64 m]))∧Below W.heap.size W w') :
  Calls Tryz.prog 23 #[.agg #[.bool b1,.slice a1 n1 k1,.int .i64 ex1,.bool b2,.slice a2 n2 k2,.int .i64 ex2],.agg #[.bool b3,.slice a3 n3 k3,.int .i64 ex3,.bool b4,.slice a4 n4 k4,.int .i64 ex4],.int .i64 pos,.func (.func 24) #[] #[]] w fun e w'=>cq w m e w':=by
 obtain⟨w0,hw0,hb0,q0,q1,q9⟩:=aM w (.cells #[.bool b1,.slice a1 n1 k1,.int .i64 ex1,.bool b2,.slice a2 n2 k2,.int .i64 ex2] 45) (.cells #[.bool b3,.slice a3 n3 k3,.int .i64 ex3,.bool b4,.slice a4 n4 k4,.int .i64 ex4] 45) (.cells #[.bool false,.slice none 0 0,.int .i64 0,.bool false,.slice none 0 0,.int .i64 0] 45)
 obtain⟨w1,hw1,hb1,q2⟩:=ag w0 (.cells #[.bool b1,.slice a1 n1 k1,.int .i64 ex1,.bool b2,.slice a2 n2 k2,.int .i64 ex2,.bool b3,.slice a3 n3 k3,.int .i64 ex3,.bool b4,.slice a4 n4 k4,.int .i64 ex4] 45)
 obtain⟨y0,y1,y2,y3,y4,y5⟩:=hexa q0
 obtain⟨z0,z1,z2,z3,z4,z5⟩:=hexa q1
 have CF:=hF w1 w0.heap.size (ae hb0 hb1) q2
 have HU1:=ab (ae hb0 hb1)
 have HQ0:=ab (ac hb1 q0)
 have HQ1:=ab (ac hb1 q1)
 have HR1:Hid (w1.heap[w.heap.size+1+1]?=some (.cells #[.bool false,.slice none 0 0,.int .i64 0,.bool false,.slice none 0 0,.int .i64 0] 45)):=ab (ac hb1 q9)
 have HWK:=ab hW
 have HM0:=ab h0
 clear q0 q1 q2 q9 hb0 hb1 hF h0 hW
 go_enter Tryz.func23,Tryz.ntmps23
 go_wp2_with fail
 refine CF.mono ?_
 rintro e t2 ⟨rfl,g2⟩
 have HU2:=ab (ae HU1.out g2)
 have HR2:=ab (ac g2 HR1.out)
 have C:=HWK.out t2 HU2.out
 clear y0 y1 y2 y3 y4 y5 z0 z1 z2 z3 z4 z5 CF hw0 hw1
 obtain⟨y0,y1,y2,y3,y4,y5⟩:=hexa (ac g2 HQ0.out)
 obtain⟨z0,z1,z2,z3,z4,z5⟩:=hexa (ac g2 HQ1.out)
 clear g2
 go_wp2_with fail
 refine C.mono ?_
 rintro e t3 ⟨⟨b8,a8,n8,c8,e8,b9,a9,n9,c9,e9,rfl⟩,g3⟩
 obtain⟨w4,hw4,hb4,q4⟩:=ag t3 (.cells #[.bool b8,.slice a8 n8 c8,.int .i64 e8,.bool b9,.slice a9 n9 c9,.int .i64 e9] 45)
 have s4:=ae g3 hb4
 have HU0:=ab (ae HU2.out s4)
 have HR0:=ab (ac s4 HR2.out)
 have C4:=qU b8 a8 n8 c8 e8 b9 a9 n9 c9 e9 m pos w4 HM0.out
 clear y0 y1 y2 y3 y4 y5 z0 z1 z2 z3 z4 z5 C g3 hb4 s4
 obtain⟨x0,x1,x2,x3,x4,x5⟩:=hexa q4
 clear q4
 have C:=C4
 clear C4
 go_wp2_with fail
 refine C.mono ?_
 rintro e t1 ⟨rfl,g1⟩
 have HC1:=ab (ac g1 HR0.out)
 have HG:=ab (ae HU0.out g1)
 have hf1:=av HC1.out
 obtain⟨m0,m1,m2,m3,m4,m5⟩:=hexa HC1.out
 clear g1 C
 go_wp2
 have T3:=aJ HC1.out (.bool false) (.slice none 0 0) (.int .i64 0) (.bool false) (.slice none 0 0) (.int .i64 0)
 have T4:=aF HG.out (show w.heap.size≤w.heap.size+1+1 by omega) (.bool false) (.slice none 0 0) (.int .i64 0) (.bool false) (.slice none 0 0) (.int .i64 0)
 obtain⟨p0,p1,p2,p3,p4,p5⟩:=hexa T3
 have HE:=ab T4
 clear T3 T4
 generalize (((((t1.setCell ⟨w.heap.size+1+1,0,none⟩ (.bool false)).setCell ⟨w.heap.size+1+1,1,none⟩ (.slice none 0 0)).setCell ⟨w.heap.size+1+1,2,none⟩ (.int .i64 0)).setCell ⟨w.heap.size+1+1,3,none⟩ (.bool false)).setCell ⟨w.heap.size+1+1,4,none⟩ (.slice none 0 0)).setCell ⟨w.heap.size+1+1,5,none⟩ (.int .i64 0)=w9 at *
 refine bodyPost_ret (v:=.tuple #[.agg #[.bool false,.slice none 0 0,.int .i64 0,.bool false,.slice none 0 0,.int .i64 0],.int .i64 m]) (by simp [results,Tryz.results23,go_sem,p0,p1,p2,p3,p4,p5]) rfl ?_
 exact⟨rfl,HE.out⟩

theorem pd (b1:Bool)(a1:Option Addr)(n1 k1:Nat)(ex1:Int)(b2:Bool)(a2:Option Addr)(n2 k2:Nat)(ex2:Int)(b3:Bool)(a3:Option Addr)(n3 k3:Nat)(ex3:Int)(b4:Bool)(a4:Option Addr)(n4 k4:Nat)(ex4:Int)(pos:Int)(K:Nat)(VA VB VC VD:Int)(w:World)(hF:dh w b1 a1 n1 k1 ex1 b2 a2 n2 k2 ex2 b3 a3 n3 k3 ex3 b4 a4 n4 k4 ex4 pos 0)(hW:∀W,Below w.heap.size w W→Calls Tryz.prog 24 #[.agg #[.bool b1,.slice a1 n1 k1,.int .i64 ex1,.bool b2,.slice a2 n2 k2,.int .i64 ex2],.agg #[.bool b3,.slice a3 n3 k3,.int .i64 ex3,.bool b4,.slice a4 n4 k4,.int .i64 ex4]] W fun e w'=>(∃b1 a1 n1 k1 e1 b2 a2 n2 k2 e2,e=.returned (.tuple #[.agg #[.bool b1,.slice a1 n1 k1,.int .i64 e1,.bool b2,.slice a2 n2 k2,.int .i64 e2],.int .i64 0])∧N8 w' b1 a1 n1 k1 e1 K VA∧N8 w' b2 a2 n2 k2 e2 K VB)∧Below W.heap.size W w')(hO:∀W (b1:Bool) (a1:Option Addr) (n1 k1:Nat) (ex1:Int) (b2:Bool) (a2:Option Addr) (n2 k2:Nat) (ex2:Int),Below w.heap.size w W→N8 W b1 a1 n1 k1 ex1 K VA→N8 W b2 a2 n2 k2 ex2 K VB→Calls Tryz.prog 43 #[.agg #[.bool b1,.slice a1 n1 k1,.int .i64 ex1,.bool b2,.slice a2 n2 k2,.int .i64 ex2],.int .i64 0,.int .i64 pos] W fun e w'=>bM W e w' 0 K VC VD) :
  Calls Tryz.prog 23 #[.agg #[.bool b1,.slice a1 n1 k1,.int .i64 ex1,.bool b2,.slice a2 n2 k2,.int .i64 ex2],.agg #[.bool b3,.slice a3 n3 k3,.int .i64 ex3,.bool b4,.slice a4 n4 k4,.int .i64 ex4],.int .i64 pos,.func (.func 24) #[] #[]] w fun e w'=>bM w e w' 0 K VC VD:=by
 obtain⟨w0,hw0,hb0,q0,q1,q9⟩:=aM w (.cells #[.bool b1,.slice a1 n1 k1,.int .i64 ex1,.bool b2,.slice a2 n2 k2,.int .i64 ex2] 45) (.cells #[.bool b3,.slice a3 n3 k3,.int .i64 ex3,.bool b4,.slice a4 n4 k4,.int .i64 ex4] 45) (.cells #[.bool false,.slice none 0 0,.int .i64 0,.bool false,.slice none 0 0,.int .i64 0] 45)
 obtain⟨w1,hw1,hb1,q2⟩:=ag w0 (.cells #[.bool b1,.slice a1 n1 k1,.int .i64 ex1,.bool b2,.slice a2 n2 k2,.int .i64 ex2,.bool b3,.slice a3 n3 k3,.int .i64 ex3,.bool b4,.slice a4 n4 k4,.int .i64 ex4] 45)
 obtain⟨y0,y1,y2,y3,y4,y5⟩:=hexa q0
 obtain⟨z0,z1,z2,z3,z4,z5⟩:=hexa q1
 have CF:=hF w1 w0.heap.size (ae hb0 hb1) q2
 have HU1:=ab (ae hb0 hb1)
 have HQ0:=ab (ac hb1 q0)
 have HQ1:=ab (ac hb1 q1)
 have HR1:Hid (w1.heap[w.heap.size+1+1]?=some (.cells #[.bool false,.slice none 0 0,.int .i64 0,.bool false,.slice none 0 0,.int .i64 0] 45)):=ab (ac hb1 q9)
 have HWK:=ab hW
 have HOO:=ab hO
 clear q0 q1 q2 q9 hb0 hb1 hF hW hO
 go_enter Tryz.func23,Tryz.ntmps23
 go_wp2_with fail
 refine CF.mono ?_
 rintro e t2 ⟨rfl,g2⟩
 have HU2:=ab (ae HU1.out g2)
 have HR2:=ab (ac g2 HR1.out)
 have C:=HWK.out t2 HU2.out
 clear y0 y1 y2 y3 y4 y5 z0 z1 z2 z3 z4 z5 CF hw0 hw1
 obtain⟨y0,y1,y2,y3,y4,y5⟩:=hexa (ac g2 HQ0.out)
 obtain⟨z0,z1,z2,z3,z4,z5⟩:=hexa (ac g2 HQ1.out)
 clear g2
 go_wp2_with fail
 refine C.mono ?_
 rintro e t3 ⟨⟨b8,a8,n8,c8,e8,b9,a9,n9,c9,e9,rfl,hn1,hn2⟩,g3⟩
 obtain⟨w4,hw4,hb4,q4⟩:=ag t3 (.cells #[.bool b8,.slice a8 n8 c8,.int .i64 e8,.bool b9,.slice a9 n9 c9,.int .i64 e9] 45)
 have s4:=ae g3 hb4
 have HU0:=ab (ae HU2.out s4)
 have HR0:=ab (ac s4 HR2.out)
 have C4:=HOO.out w4 b8 a8 n8 c8 e8 b9 a9 n9 c9 e9 HU0.out (hn1.below hb4) (hn2.below hb4)
 clear y0 y1 y2 y3 y4 y5 z0 z1 z2 z3 z4 z5 C g3 hb4 s4 hn1 hn2
 obtain⟨x0,x1,x2,x3,x4,x5⟩:=hexa q4
 clear q4
 have C:=C4
 clear C4
 go_wp2_with fail
 refine C.mono ?_
 rintro e t1 ⟨⟨b6,a6,n6,c6,e6,b7,a7,n7,c7,e7,d7,rfl,hg1⟩,g1⟩
 have HC1:=ab (ac g1 HR0.out)
 have HG:=ab (ae HU0.out g1)
 have HSR:=ab (hg1.base HU0.out.size)
 have hf1:=av HC1.out
 obtain⟨m0,m1,m2,m3,m4,m5⟩:=hexa HC1.out
 clear g1 C hg1
 go_wp2
 have T3:=aJ HC1.out (.bool b6) (.slice a6 n6 c6) (.int .i64 e6) (.bool b7) (.slice a7 n7 c7) (.int .i64 e7)
 have T4:=aF HG.out (show w.heap.size≤w.heap.size+1+1 by omega) (.bool b6) (.slice a6 n6 c6) (.int .i64 e6) (.bool b7) (.slice a7 n7 c7) (.int .i64 e7)
 have T5:=HSR.out.hexa HC1.out (by decide) (.bool b6) (.slice a6 n6 c6) (.int .i64 e6) (.bool b7) (.slice a7 n7 c7) (.int .i64 e7)
 obtain⟨p0,p1,p2,p3,p4,p5⟩:=hexa T3
 have HE:=ab (And.intro T5 T4)
 clear T3 T4 T5
 generalize (((((t1.setCell ⟨w.heap.size+1+1,0,none⟩ (.bool b6)).setCell ⟨w.heap.size+1+1,1,none⟩ (.slice a6 n6 c6)).setCell ⟨w.heap.size+1+1,2,none⟩ (.int .i64 e6)).setCell ⟨w.heap.size+1+1,3,none⟩ (.bool b7)).setCell ⟨w.heap.size+1+1,4,none⟩ (.slice a7 n7 c7)).setCell ⟨w.heap.size+1+1,5,none⟩ (.int .i64 e7)=w9 at *
 refine bodyPost_ret (v:=.tuple #[.agg #[.bool b6,.slice a6 n6 c6,.int .i64 e6,.bool b7,.slice a7 n7 c7,.int .i64 e7],.int .i64 d7]) (by simp [results,Tryz.results23,go_sem,p0,p1,p2,p3,p4,p5]) rfl ?_
 exact⟨⟨_,_,_,_,_,_,_,_,_,_,_,rfl,HE.out.1⟩,HE.out.2⟩

theorem jz (b1:Bool)(a1:Option Addr)(n1 k1:Nat)(ex1:Int)(b2:Bool)(a2:Option Addr)(n2 k2:Nat)(ex2:Int)(b3:Bool)(a3:Option Addr)(n3 k3:Nat)(ex3:Int)(b4:Bool)(a4:Option Addr)(n4 k4:Nat)(ex4:Int)(pos F:Int)(w:World)(hJ:∀W,Below w.heap.size w W→Calls Tryz.prog 23 #[.agg #[.bool b1,.slice a1 n1 k1,.int .i64 ex1,.bool b2,.slice a2 n2 k2,.int .i64 ex2],.agg #[.bool b3,.slice a3 n3 k3,.int .i64 ex3,.bool b4,.slice a4 n4 k4,.int .i64 ex4],.int .i64 pos,.func (.func 24) #[] #[]] W fun e w'=>cq W F e w') :
  Calls Tryz.prog 9 #[.agg #[.bool b1,.slice a1 n1 k1,.int .i64 ex1,.bool b2,.slice a2 n2 k2,.int .i64 ex2],.agg #[.bool b3,.slice a3 n3 k3,.int .i64 ex3,.bool b4,.slice a4 n4 k4,.int .i64 ex4],.int .i64 pos] w fun e w'=>cq w F e w':=by
 obtain⟨w0,hw0,hb0,q0,q1,q9⟩:=aM w (.cells #[.bool b1,.slice a1 n1 k1,.int .i64 ex1,.bool b2,.slice a2 n2 k2,.int .i64 ex2] 45) (.cells #[.bool b3,.slice a3 n3 k3,.int .i64 ex3,.bool b4,.slice a4 n4 k4,.int .i64 ex4] 45) (.cells #[.bool false,.slice none 0 0,.int .i64 0,.bool false,.slice none 0 0,.int .i64 0] 45)
 obtain⟨y0,y1,y2,y3,y4,y5⟩:=hexa q0
 obtain⟨z0,z1,z2,z3,z4,z5⟩:=hexa q1
 have C:=hJ w0 hb0
 have HU0:=ab hb0
 have HR0:Hid (w0.heap[w.heap.size+1+1]?=some (.cells #[.bool false,.slice none 0 0,.int .i64 0,.bool false,.slice none 0 0,.int .i64 0] 45)):=ab q9
 clear q0 q1 q9 hb0 hJ
 go_enter Tryz.func9,Tryz.ntmps9
 go_wp2_with fail
 refine C.mono ?_
 rintro e t1 ⟨he,g1⟩
 obtain⟨b6,a6,n6,c6,e6,b7,a7,n7,c7,e7,rfl,heq⟩:∃b6 a6 n6 c6 e6 b7 a7 n7 c7 e7,e=.returned (.tuple #[.agg #[.bool b6,.slice a6 n6 c6,.int .i64 e6,.bool b7,.slice a7 n7 c7,.int .i64 e7],.int .i64 F])∧(b6=false∧a6=none∧n6=0∧c6=0∧e6=0∧b7=false∧a7=none∧n7=0∧c7=0∧e7=0):=⟨_,_,_,_,_,_,_,_,_,_,he,rfl,rfl,rfl,rfl,rfl,rfl,rfl,rfl,rfl,rfl⟩
 have HQ:=ab heq
 clear he heq
 have HC1:=ab (ac g1 HR0.out)
 have HG:=ab (ae HU0.out g1)
 have hf1:=av HC1.out
 obtain⟨m0,m1,m2,m3,m4,m5⟩:=hexa HC1.out
 clear g1 C
 go_wp2
 have T3:=aJ HC1.out (.bool b6) (.slice a6 n6 c6) (.int .i64 e6) (.bool b7) (.slice a7 n7 c7) (.int .i64 e7)
 have T4:=aF HG.out (show w.heap.size≤w.heap.size+1+1 by omega) (.bool b6) (.slice a6 n6 c6) (.int .i64 e6) (.bool b7) (.slice a7 n7 c7) (.int .i64 e7)
 obtain⟨p0,p1,p2,p3,p4,p5⟩:=hexa T3
 have HE:=ab T4
 clear T3 T4
 generalize (((((t1.setCell ⟨w.heap.size+1+1,0,none⟩ (.bool b6)).setCell ⟨w.heap.size+1+1,1,none⟩ (.slice a6 n6 c6)).setCell ⟨w.heap.size+1+1,2,none⟩ (.int .i64 e6)).setCell ⟨w.heap.size+1+1,3,none⟩ (.bool b7)).setCell ⟨w.heap.size+1+1,4,none⟩ (.slice a7 n7 c7)).setCell ⟨w.heap.size+1+1,5,none⟩ (.int .i64 e7)=w9 at *
 refine bodyPost_ret (v:=.tuple #[.agg #[.bool b6,.slice a6 n6 c6,.int .i64 e6,.bool b7,.slice a7 n7 c7,.int .i64 e7],.int .i64 F]) (by simp [results,Tryz.results9,go_sem,p0,p1,p2,p3,p4,p5]) rfl ?_
 obtain⟨rfl,rfl,rfl,rfl,rfl,rfl,rfl,rfl,rfl,rfl⟩:=HQ.out
 exact⟨rfl,HE.out⟩

theorem sP (b1:Bool)(a1:Option Addr)(n1 k1:Nat)(ex1:Int)(b2:Bool)(a2:Option Addr)(n2 k2:Nat)(ex2:Int)(b3:Bool)(a3:Option Addr)(n3 k3:Nat)(ex3:Int)(b4:Bool)(a4:Option Addr)(n4 k4:Nat)(ex4:Int)(pos:Int)(K:Nat)(VC VD:Int)(w:World)(hJ:∀W,Below w.heap.size w W→Calls Tryz.prog 23 #[.agg #[.bool b1,.slice a1 n1 k1,.int .i64 ex1,.bool b2,.slice a2 n2 k2,.int .i64 ex2],.agg #[.bool b3,.slice a3 n3 k3,.int .i64 ex3,.bool b4,.slice a4 n4 k4,.int .i64 ex4],.int .i64 pos,.func (.func 24) #[] #[]] W fun e w'=>bM W e w' 0 K VC VD) :
  Calls Tryz.prog 9 #[.agg #[.bool b1,.slice a1 n1 k1,.int .i64 ex1,.bool b2,.slice a2 n2 k2,.int .i64 ex2],.agg #[.bool b3,.slice a3 n3 k3,.int .i64 ex3,.bool b4,.slice a4 n4 k4,.int .i64 ex4],.int .i64 pos] w fun e w'=>bM w e w' 0 K VC VD:=by
 obtain⟨w0,hw0,hb0,q0,q1,q9⟩:=aM w (.cells #[.bool b1,.slice a1 n1 k1,.int .i64 ex1,.bool b2,.slice a2 n2 k2,.int .i64 ex2] 45) (.cells #[.bool b3,.slice a3 n3 k3,.int .i64 ex3,.bool b4,.slice a4 n4 k4,.int .i64 ex4] 45) (.cells #[.bool false,.slice none 0 0,.int .i64 0,.bool false,.slice none 0 0,.int .i64 0] 45)
 obtain⟨y0,y1,y2,y3,y4,y5⟩:=hexa q0
 obtain⟨z0,z1,z2,z3,z4,z5⟩:=hexa q1
 have C:=hJ w0 hb0
 have HU0:=ab hb0
 have HR0:Hid (w0.heap[w.heap.size+1+1]?=some (.cells #[.bool false,.slice none 0 0,.int .i64 0,.bool false,.slice none 0 0,.int .i64 0] 45)):=ab q9
 clear q0 q1 q9 hb0 hJ
 go_enter Tryz.func9,Tryz.ntmps9
 go_wp2_with fail
 refine C.mono ?_
 rintro e t1 ⟨⟨b6,a6,n6,c6,e6,b7,a7,n7,c7,e7,d7,rfl,hg1⟩,g1⟩
 have HC1:=ab (ac g1 HR0.out)
 have HG:=ab (ae HU0.out g1)
 have HSR:=ab (hg1.base HU0.out.size)
 have hf1:=av HC1.out
 obtain⟨m0,m1,m2,m3,m4,m5⟩:=hexa HC1.out
 clear g1 C hg1
 go_wp2
 have T3:=aJ HC1.out (.bool b6) (.slice a6 n6 c6) (.int .i64 e6) (.bool b7) (.slice a7 n7 c7) (.int .i64 e7)
 have T4:=aF HG.out (show w.heap.size≤w.heap.size+1+1 by omega) (.bool b6) (.slice a6 n6 c6) (.int .i64 e6) (.bool b7) (.slice a7 n7 c7) (.int .i64 e7)
 have T5:=HSR.out.hexa HC1.out (by decide) (.bool b6) (.slice a6 n6 c6) (.int .i64 e6) (.bool b7) (.slice a7 n7 c7) (.int .i64 e7)
 obtain⟨p0,p1,p2,p3,p4,p5⟩:=hexa T3
 have HE:=ab (And.intro T5 T4)
 clear T3 T4 T5
 generalize (((((t1.setCell ⟨w.heap.size+1+1,0,none⟩ (.bool b6)).setCell ⟨w.heap.size+1+1,1,none⟩ (.slice a6 n6 c6)).setCell ⟨w.heap.size+1+1,2,none⟩ (.int .i64 e6)).setCell ⟨w.heap.size+1+1,3,none⟩ (.bool b7)).setCell ⟨w.heap.size+1+1,4,none⟩ (.slice a7 n7 c7)).setCell ⟨w.heap.size+1+1,5,none⟩ (.int .i64 e7)=w9 at *
 refine bodyPost_ret (v:=.tuple #[.agg #[.bool b6,.slice a6 n6 c6,.int .i64 e6,.bool b7,.slice a7 n7 c7,.int .i64 e7],.int .i64 d7]) (by simp [results,Tryz.results9,go_sem,p0,p1,p2,p3,p4,p5]) rfl ?_
 exact⟨⟨_,_,_,_,_,_,_,_,_,_,_,rfl,HE.out.1⟩,HE.out.2⟩

theorem pK (gs:Nat)(v0 v1 v2:Value)(b1:Bool)(a1:Option Addr)(n1 k1:Nat)(ex1:Int)(b2:Bool)(a2:Option Addr)(n2 k2:Nat)(ex2:Int)(b3:Bool)(a3:Option Addr)(n3 k3:Nat)(ex3:Int)(b4:Bool)(a4:Option Addr)(n4 k4:Nat)(ex4:Int)(L:Nat)(V1 V2 V3 V4:Int)(w:World)(hg:w.heap[gs]?=some (.cells #[v0,v1,v2,.bool b2,.slice a2 n2 k2,.int .i64 ex2,.bool b3,.slice a3 n3 k3,.int .i64 ex3,.bool b4,.slice a4 n4 k4,.int .i64 ex4] 83))(h1:N8 w b1 a1 n1 k1 ex1 L V1)(h2:N8 w b2 a2 n2 k2 ex2 L V2)(h3:N8 w b3 a3 n3 k3 ex3 L V3)(h4:N8 w b4 a4 n4 k4 ex4 L V4)(hL:4611686018427387904≤L) :
  Calls Tryz.prog 46 #[.agg #[.bool b1,.slice a1 n1 k1,.int .i64 ex1],.slice (some ⟨gs,3,none⟩) 3 3] w fun e w'=>ox w e w' L (min (min (min V1 V2) V3) V4) (max (max (max V1 V2) V3) V4):=by
 obtain⟨w0,hw0,hb0,q0,q9⟩:=al w (.cells #[.bool b1,.slice a1 n1 k1,.int .i64 ex1] 43) (.cells #[.bool false,.slice none 0 0,.int .i64 0,.bool false,.slice none 0 0,.int .i64 0] 45)
 obtain⟨w1,hw1,hb1,qm⟩:=ag w0 (.cells #[.bool b1,.slice a1 n1 k1,.int .i64 ex1,.bool b1,.slice a1 n1 k1,.int .i64 ex1] 45)
 obtain⟨y0,y1,y2⟩:=tri8 q0
 have HG:=ab hg
 have LL:Hid (4611686018427387904≤L):=ab hL
 have hb01:=ae hb0 hb1
 have I0:=h1.below hb01
 have IB:=hb01
 have IZ:=ac hb1 q9
 have IM:=qm
 have HNE:Hid (w.heap.size+1≠w0.heap.size):=ab (by have:=lt_of_block q9;omega)
 have HGE:Hid (w.heap.size≤w0.heap.size):=ab hb0.size
 have HX2:=ab h2
 have HX3:=ab h3
 have HX4:=ab h4
 have II:=ab (And.intro I0 (And.intro IB (And.intro IZ IM)))
 clear hg hL hb0 hb1 hb01 q0 q9 qm I0 IB IZ IM h1 h2 h3 h4
 go_enter Tryz.func46,Tryz.ntmps46
 go_wp2
 clear y0 y1 y2 hw0 hw1
 go_loopw [13] (fun i wr=>∃(k:Nat) (p:Bool) (pa:Option Addr) (pn pk:Nat) (pe:Int) (q:Bool) (qa:Option Addr) (qn qk:Nat) (qe:Int) (VL VH:Int),k≤3∧i=.int .i64 k∧(k=0→VL=V1∧VH=V1)∧(k=1→VL=(min V1 V2)∧VH=(max V1 V2))∧(k=2→VL=(min (min V1 V2) V3)∧VH=(max (max V1 V2) V3))∧(k=3→VL=(min (min (min V1 V2) V3) V4)∧VH=(max (max (max V1 V2) V3) V4))∧wr.heap[w0.heap.size]?=some (.cells #[.bool p,.slice pa pn pk,.int .i64 pe,.bool q,.slice qa qn qk,.int .i64 qe] 45)∧N8 wr p pa pn pk pe L VL∧N8 wr q qa qn qk qe L VH∧wr.heap[w.heap.size+1]?=some (.cells #[.bool false,.slice none 0 0,.int .i64 0,.bool false,.slice none 0 0,.int .i64 0] 45)∧Below w.heap.size w wr) (fun i _=>3 - (intOf i).toNat)
 case atStart=>exact⟨0,_,_,_,_,_,_,_,_,_,_,V1,V1,by omega,rfl,(fun _=>⟨rfl,rfl⟩),(fun h=>absurd h (by decide)),(fun h=>absurd h (by decide)),(fun h=>absurd h (by decide)),II.out.2.2.2,II.out.1,II.out.1,II.out.2.2.1,II.out.2.1⟩
 case round=>
  obtain⟨k,p,pa,pn,pk,pe,q,qa,qn,qk,qe,VL,VH,hk,rfl,e0,e1,e2,e3,hM,hLo,hHi,hZ,hB⟩:=hrel
  have HM:=ab hM
  have HLo:=ab hLo
  have HHi:=ab hHi
  have HZ:=ab hZ
  have HB:=ab hB
  have HOLD:Hid (w0.heap.size<wr.heap.size):=ab (lt_of_block hM)
  have E0:=ab e0
  have E1:=ab e1
  have E2:=ab e2
  have E3:=ab e3
  clear hM hLo hHi hZ hB II e0 e1 e2 e3
  rcases (show k=0∨k=1∨k=2∨k=3 by omega) with rfl|rfl|rfl|rfl
  ·have EE:=ab (E0.out rfl)
   clear E0 E1 E2 E3
   obtain⟨u1,hu1,hbu,qu⟩:=ag wr (.cells #[.bool b2,.slice a2 n2 k2,.int .i64 ex2] 43)
   have CS:=ac HB.out HG.out
   have c0:wr.cell? ⟨gs,3,none⟩=some (.bool b2):=by simp [World.cell?,CS]
   have c1:wr.cell? ⟨gs,4,none⟩=some (.slice a2 n2 k2):=by simp [World.cell?,CS]
   have c2:wr.cell? ⟨gs,5,none⟩=some (.int .i64 ex2):=by simp [World.cell?,CS]
   have hbu1:=ae HB.out hbu
   have C:=cB b2 a2 n2 k2 ex2 p pa pn pk pe L V2 VL u1 (HX2.out.below hbu1) (HLo.out.below hbu) LL.out
   have M1:=ab (ac hbu HM.out)
   have Z1:=ab (ac hbu HZ.out)
   have D1x:=ab qu
   have L1:=ab (HLo.out.below hbu)
   have H1:=ab (HHi.out.below hbu)
   have B1:=ab hbu1
   obtain⟨m0,m1,m2,m3,m4,m5⟩:=hexa M1.out
   obtain⟨d0,d1,d2⟩:=tri8 D1x.out
   obtain⟨D1,hD1⟩:∃D,decide (V2<VL)=D:=⟨_,rfl⟩
   rw [hD1] at C
   have ED1:=ab hD1
   clear CS hbu hbu1 qu hD1 HM HZ HLo HHi HB
   cases D1
   ·skip
    go_wp2_with fail
    refine C.mono ?_
    rintro e t2 ⟨rfl,g2⟩
    clear C m0 m1 m2 m3 m4 m5 d0 d1 d2 c0 c1 c2 hu1
    have M2:=ab (ac g2 M1.out)
    have Z2:=ab (ac g2 Z1.out)
    have D2x:=ab (ac g2 D1x.out)
    have L2:=ab (L1.out.below g2)
    have H2:=ab (H1.out.below g2)
    have B2:=ab (ae B1.out g2)
    clear g2
    have C:=cB q qa qn qk qe b2 a2 n2 k2 ex2 L VH V2 t2 H2.out (HX2.out.below B2.out) LL.out
    obtain⟨D2,hD2⟩:∃D,decide (VH<V2)=D:=⟨_,rfl⟩
    rw [hD2] at C
    have ED2:=ab hD2
    clear hD2
    obtain⟨m0,m1,m2,m3,m4,m5⟩:=hexa M2.out
    obtain⟨d0,d1,d2⟩:=tri8 D2x.out
    cases D2
    ·skip
     go_wp2_with fail
     refine C.mono ?_
     rintro e t3 ⟨rfl,g3⟩
     clear C m0 m1 m2 m3 m4 m5 d0 d1 d2
     have M3:=ab (ac g3 M2.out)
     have Z3:=ab (ac g3 Z2.out)
     have L3:=ab (L2.out.below g3)
     have H3:=ab (H2.out.below g3)
     have B3:=ab (ae B2.out g3)
     clear g3
     go_wp2
     go_roundw
     case rel=>exact⟨1,p,pa,pn,pk,pe,q,qa,qn,qk,qe,_,_,by omega,by go_num,(fun h=>absurd h (by decide)),(fun _=>⟨(by have g:=of_decide_eq_false ED1.out;have e:=EE.out.1;omega),(by have g:=of_decide_eq_false ED2.out;have e:=EE.out.2;omega)⟩),(fun h=>absurd h (by decide)),(fun h=>absurd h (by decide)),M3.out,L3.out,H3.out,Z3.out,B3.out⟩
     case measure=>simp [intOf]
    ·skip
     go_wp2_with fail
     refine C.mono ?_
     rintro e t3 ⟨rfl,g3⟩
     clear C m0 m1 m2 m3 m4 m5 d0 d1 d2
     obtain⟨W4,hW4,n4',o4,l4,s4⟩:=hi3 (ac g3 M2.out) b2 a2 n2 k2 ex2
     obtain⟨m0,m1,m2,m3,m4,m5⟩:=hexa (ac g3 M2.out)
     have hf1:=av (ac g3 M2.out)
     obtain⟨d0,d1,d2⟩:=tri8 (ac g3 D2x.out)
     have M3:=ab n4'
     have Z3:=ab (o4 _ _ HNE.out (ac g3 Z2.out))
     have L3:=ab (s4 _ _ _ _ _ _ _ (L2.out.below g3))
     have H3:=ab (s4 _ _ _ _ _ _ _ ((HX2.out.below (ae B2.out g3))))
     have B3:=ab (l4 _ _ (ae B2.out g3) HGE.out)
     clear g3 n4' o4 l4 s4
     go_wp2
     clear hW4 m0 m1 m2 m3 m4 m5 d0 d1 d2 hf1
     go_roundw
     case rel=>exact⟨1,p,pa,pn,pk,pe,b2,a2,n2,k2,ex2,_,_,by omega,by go_num,(fun h=>absurd h (by decide)),(fun _=>⟨(by have g:=of_decide_eq_false ED1.out;have e:=EE.out.1;omega),(by have g:=of_decide_eq_true ED2.out;have e:=EE.out.2;omega)⟩),(fun h=>absurd h (by decide)),(fun h=>absurd h (by decide)),M3.out,L3.out,H3.out,Z3.out,B3.out⟩
     case measure=>simp [intOf]
   ·skip
    go_wp2_with fail
    refine C.mono ?_
    rintro e t2 ⟨rfl,g2⟩
    clear C m0 m1 m2 m3 m4 m5 d0 d1 d2 c0 c1 c2 hu1
    obtain⟨W2,hW2,n2',o2,l2,s2⟩:=lo3 (ac g2 M1.out) b2 a2 n2 k2 ex2
    obtain⟨m0,m1,m2,m3,m4,m5⟩:=hexa (ac g2 M1.out)
    have hf1:=av (ac g2 M1.out)
    obtain⟨d0,d1,d2⟩:=tri8 (ac g2 D1x.out)
    have M2:=ab n2'
    have Z2:=ab (o2 _ _ HNE.out (ac g2 Z1.out))
    have D2x:=ab (o2 _ _ (by have h1:=lt_of_block M1.out;have h2:=lt_of_block D1x.out;have h3:=HOLD.out;omega) (ac g2 D1x.out))
    have L2:=ab (s2 _ _ _ _ _ _ _ (HX2.out.below (ae B1.out g2)))
    have H2:=ab (s2 _ _ _ _ _ _ _ (H1.out.below g2))
    have B2:=ab (l2 _ _ (ae B1.out g2) HGE.out)
    clear g2 n2' o2 l2 s2
    go_upto_region 7 with fail
    clear hW2 m0 m1 m2 m3 m4 m5 d0 d1 d2 hf1
    have C:=cB q qa qn qk qe b2 a2 n2 k2 ex2 L VH V2 W2 H2.out (HX2.out.below B2.out) LL.out
    obtain⟨D2,hD2⟩:∃D,decide (VH<V2)=D:=⟨_,rfl⟩
    rw [hD2] at C
    have ED2:=ab hD2
    clear hD2
    obtain⟨m0,m1,m2,m3,m4,m5⟩:=hexa M2.out
    obtain⟨d0,d1,d2⟩:=tri8 D2x.out
    cases D2
    ·skip
     go_wp2_with fail
     refine C.mono ?_
     rintro e t3 ⟨rfl,g3⟩
     clear C m0 m1 m2 m3 m4 m5 d0 d1 d2
     have M3:=ab (ac g3 M2.out)
     have Z3:=ab (ac g3 Z2.out)
     have L3:=ab (L2.out.below g3)
     have H3:=ab (H2.out.below g3)
     have B3:=ab (ae B2.out g3)
     clear g3
     go_wp2
     go_roundw
     case rel=>exact⟨1,b2,a2,n2,k2,ex2,q,qa,qn,qk,qe,_,_,by omega,by go_num,(fun h=>absurd h (by decide)),(fun _=>⟨(by have g:=of_decide_eq_true ED1.out;have e:=EE.out.1;omega),(by have g:=of_decide_eq_false ED2.out;have e:=EE.out.2;omega)⟩),(fun h=>absurd h (by decide)),(fun h=>absurd h (by decide)),M3.out,L3.out,H3.out,Z3.out,B3.out⟩
     case measure=>simp [intOf]
    ·skip
     go_wp2_with fail
     refine C.mono ?_
     rintro e t3 ⟨rfl,g3⟩
     clear C m0 m1 m2 m3 m4 m5 d0 d1 d2
     obtain⟨W4,hW4,n4',o4,l4,s4⟩:=hi3 (ac g3 M2.out) b2 a2 n2 k2 ex2
     obtain⟨m0,m1,m2,m3,m4,m5⟩:=hexa (ac g3 M2.out)
     have hf1:=av (ac g3 M2.out)
     obtain⟨d0,d1,d2⟩:=tri8 (ac g3 D2x.out)
     have M3:=ab n4'
     have Z3:=ab (o4 _ _ HNE.out (ac g3 Z2.out))
     have L3:=ab (s4 _ _ _ _ _ _ _ (L2.out.below g3))
     have H3:=ab (s4 _ _ _ _ _ _ _ ((HX2.out.below (ae B2.out g3))))
     have B3:=ab (l4 _ _ (ae B2.out g3) HGE.out)
     clear g3 n4' o4 l4 s4
     go_wp2
     clear hW4 m0 m1 m2 m3 m4 m5 d0 d1 d2 hf1
     go_roundw
     case rel=>exact⟨1,b2,a2,n2,k2,ex2,b2,a2,n2,k2,ex2,_,_,by omega,by go_num,(fun h=>absurd h (by decide)),(fun _=>⟨(by have g:=of_decide_eq_true ED1.out;have e:=EE.out.1;omega),(by have g:=of_decide_eq_true ED2.out;have e:=EE.out.2;omega)⟩),(fun h=>absurd h (by decide)),(fun h=>absurd h (by decide)),M3.out,L3.out,H3.out,Z3.out,B3.out⟩
     case measure=>simp [intOf]
  ·have EE:=ab (E1.out rfl)
   clear E0 E1 E2 E3
   obtain⟨u1,hu1,hbu,qu⟩:=ag wr (.cells #[.bool b3,.slice a3 n3 k3,.int .i64 ex3] 43)
   have CS:=ac HB.out HG.out
   have c0:wr.cell? ⟨gs,6,none⟩=some (.bool b3):=by simp [World.cell?,CS]
   have c1:wr.cell? ⟨gs,7,none⟩=some (.slice a3 n3 k3):=by simp [World.cell?,CS]
   have c2:wr.cell? ⟨gs,8,none⟩=some (.int .i64 ex3):=by simp [World.cell?,CS]
   have hbu1:=ae HB.out hbu
   have C:=cB b3 a3 n3 k3 ex3 p pa pn pk pe L V3 VL u1 (HX3.out.below hbu1) (HLo.out.below hbu) LL.out
   have M1:=ab (ac hbu HM.out)
   have Z1:=ab (ac hbu HZ.out)
   have D1x:=ab qu
   have L1:=ab (HLo.out.below hbu)
   have H1:=ab (HHi.out.below hbu)
   have B1:=ab hbu1
   obtain⟨m0,m1,m2,m3,m4,m5⟩:=hexa M1.out
   obtain⟨d0,d1,d2⟩:=tri8 D1x.out
   obtain⟨D1,hD1⟩:∃D,decide (V3<VL)=D:=⟨_,rfl⟩
   rw [hD1] at C
   have ED1:=ab hD1
   clear CS hbu hbu1 qu hD1 HM HZ HLo HHi HB
   cases D1
   ·skip
    go_wp2_with fail
    refine C.mono ?_
    rintro e t2 ⟨rfl,g2⟩
    clear C m0 m1 m2 m3 m4 m5 d0 d1 d2 c0 c1 c2 hu1
    have M2:=ab (ac g2 M1.out)
    have Z2:=ab (ac g2 Z1.out)
    have D2x:=ab (ac g2 D1x.out)
    have L2:=ab (L1.out.below g2)
    have H2:=ab (H1.out.below g2)
    have B2:=ab (ae B1.out g2)
    clear g2
    have C:=cB q qa qn qk qe b3 a3 n3 k3 ex3 L VH V3 t2 H2.out (HX3.out.below B2.out) LL.out
    obtain⟨D2,hD2⟩:∃D,decide (VH<V3)=D:=⟨_,rfl⟩
    rw [hD2] at C
    have ED2:=ab hD2
    clear hD2
    obtain⟨m0,m1,m2,m3,m4,m5⟩:=hexa M2.out
    obtain⟨d0,d1,d2⟩:=tri8 D2x.out
    cases D2
    ·skip
     go_wp2_with fail
     refine C.mono ?_
     rintro e t3 ⟨rfl,g3⟩
     clear C m0 m1 m2 m3 m4 m5 d0 d1 d2
     have M3:=ab (ac g3 M2.out)
     have Z3:=ab (ac g3 Z2.out)
     have L3:=ab (L2.out.below g3)
     have H3:=ab (H2.out.below g3)
     have B3:=ab (ae B2.out g3)
     clear g3
     go_wp2
     go_roundw
     case rel=>exact⟨2,p,pa,pn,pk,pe,q,qa,qn,qk,qe,_,_,by omega,by go_num,(fun h=>absurd h (by decide)),(fun h=>absurd h (by decide)),(fun _=>⟨(by have g:=of_decide_eq_false ED1.out;have e:=EE.out.1;omega),(by have g:=of_decide_eq_false ED2.out;have e:=EE.out.2;omega)⟩),(fun h=>absurd h (by decide)),M3.out,L3.out,H3.out,Z3.out,B3.out⟩
     case measure=>simp [intOf]
    ·skip
     go_wp2_with fail
     refine C.mono ?_
     rintro e t3 ⟨rfl,g3⟩
     clear C m0 m1 m2 m3 m4 m5 d0 d1 d2
     obtain⟨W4,hW4,n4',o4,l4,s4⟩:=hi3 (ac g3 M2.out) b3 a3 n3 k3 ex3
     obtain⟨m0,m1,m2,m3,m4,m5⟩:=hexa (ac g3 M2.out)
     have hf1:=av (ac g3 M2.out)
     obtain⟨d0,d1,d2⟩:=tri8 (ac g3 D2x.out)
     have M3:=ab n4'
     have Z3:=ab (o4 _ _ HNE.out (ac g3 Z2.out))
     have L3:=ab (s4 _ _ _ _ _ _ _ (L2.out.below g3))
     have H3:=ab (s4 _ _ _ _ _ _ _ ((HX3.out.below (ae B2.out g3))))
     have B3:=ab (l4 _ _ (ae B2.out g3) HGE.out)
     clear g3 n4' o4 l4 s4
     go_wp2
     clear hW4 m0 m1 m2 m3 m4 m5 d0 d1 d2 hf1
     go_roundw
     case rel=>exact⟨2,p,pa,pn,pk,pe,b3,a3,n3,k3,ex3,_,_,by omega,by go_num,(fun h=>absurd h (by decide)),(fun h=>absurd h (by decide)),(fun _=>⟨(by have g:=of_decide_eq_false ED1.out;have e:=EE.out.1;omega),(by have g:=of_decide_eq_true ED2.out;have e:=EE.out.2;omega)⟩),(fun h=>absurd h (by decide)),M3.out,L3.out,H3.out,Z3.out,B3.out⟩
     case measure=>simp [intOf]
   ·skip
    go_wp2_with fail
    refine C.mono ?_
    rintro e t2 ⟨rfl,g2⟩
    clear C m0 m1 m2 m3 m4 m5 d0 d1 d2 c0 c1 c2 hu1
    obtain⟨W2,hW2,n2',o2,l2,s2⟩:=lo3 (ac g2 M1.out) b3 a3 n3 k3 ex3
    obtain⟨m0,m1,m2,m3,m4,m5⟩:=hexa (ac g2 M1.out)
    have hf1:=av (ac g2 M1.out)
    obtain⟨d0,d1,d2⟩:=tri8 (ac g2 D1x.out)
    have M2:=ab n2'
    have Z2:=ab (o2 _ _ HNE.out (ac g2 Z1.out))
    have D2x:=ab (o2 _ _ (by have h1:=lt_of_block M1.out;have h2:=lt_of_block D1x.out;have h3:=HOLD.out;omega) (ac g2 D1x.out))
    have L2:=ab (s2 _ _ _ _ _ _ _ (HX3.out.below (ae B1.out g2)))
    have H2:=ab (s2 _ _ _ _ _ _ _ (H1.out.below g2))
    have B2:=ab (l2 _ _ (ae B1.out g2) HGE.out)
    clear g2 n2' o2 l2 s2
    go_upto_region 7 with fail
    clear hW2 m0 m1 m2 m3 m4 m5 d0 d1 d2 hf1
    have C:=cB q qa qn qk qe b3 a3 n3 k3 ex3 L VH V3 W2 H2.out (HX3.out.below B2.out) LL.out
    obtain⟨D2,hD2⟩:∃D,decide (VH<V3)=D:=⟨_,rfl⟩
    rw [hD2] at C
    have ED2:=ab hD2
    clear hD2
    obtain⟨m0,m1,m2,m3,m4,m5⟩:=hexa M2.out
    obtain⟨d0,d1,d2⟩:=tri8 D2x.out
    cases D2
    ·skip
     go_wp2_with fail
     refine C.mono ?_
     rintro e t3 ⟨rfl,g3⟩
     clear C m0 m1 m2 m3 m4 m5 d0 d1 d2
     have M3:=ab (ac g3 M2.out)
     have Z3:=ab (ac g3 Z2.out)
     have L3:=ab (L2.out.below g3)
     have H3:=ab (H2.out.below g3)
     have B3:=ab (ae B2.out g3)
     clear g3
     go_wp2
     go_roundw
     case rel=>exact⟨2,b3,a3,n3,k3,ex3,q,qa,qn,qk,qe,_,_,by omega,by go_num,(fun h=>absurd h (by decide)),(fun h=>absurd h (by decide)),(fun _=>⟨(by have g:=of_decide_eq_true ED1.out;have e:=EE.out.1;omega),(by have g:=of_decide_eq_false ED2.out;have e:=EE.out.2;omega)⟩),(fun h=>absurd h (by decide)),M3.out,L3.out,H3.out,Z3.out,B3.out⟩
     case measure=>simp [intOf]
    ·skip
     go_wp2_with fail
     refine C.mono ?_
     rintro e t3 ⟨rfl,g3⟩
     clear C m0 m1 m2 m3 m4 m5 d0 d1 d2
     obtain⟨W4,hW4,n4',o4,l4,s4⟩:=hi3 (ac g3 M2.out) b3 a3 n3 k3 ex3
     obtain⟨m0,m1,m2,m3,m4,m5⟩:=hexa (ac g3 M2.out)
     have hf1:=av (ac g3 M2.out)
     obtain⟨d0,d1,d2⟩:=tri8 (ac g3 D2x.out)
     have M3:=ab n4'
     have Z3:=ab (o4 _ _ HNE.out (ac g3 Z2.out))
     have L3:=ab (s4 _ _ _ _ _ _ _ (L2.out.below g3))
     have H3:=ab (s4 _ _ _ _ _ _ _ ((HX3.out.below (ae B2.out g3))))
     have B3:=ab (l4 _ _ (ae B2.out g3) HGE.out)
     clear g3 n4' o4 l4 s4
     go_wp2
     clear hW4 m0 m1 m2 m3 m4 m5 d0 d1 d2 hf1
     go_roundw
     case rel=>exact⟨2,b3,a3,n3,k3,ex3,b3,a3,n3,k3,ex3,_,_,by omega,by go_num,(fun h=>absurd h (by decide)),(fun h=>absurd h (by decide)),(fun _=>⟨(by have g:=of_decide_eq_true ED1.out;have e:=EE.out.1;omega),(by have g:=of_decide_eq_true ED2.out;have e:=EE.out.2;omega)⟩),(fun h=>absurd h (by decide)),M3.out,L3.out,H3.out,Z3.out,B3.out⟩
     case measure=>simp [intOf]
  ·have EE:=ab (E2.out rfl)
   clear E0 E1 E2 E3
   obtain⟨u1,hu1,hbu,qu⟩:=ag wr (.cells #[.bool b4,.slice a4 n4 k4,.int .i64 ex4] 43)
   have CS:=ac HB.out HG.out
   have c0:wr.cell? ⟨gs,9,none⟩=some (.bool b4):=by simp [World.cell?,CS]
   have c1:wr.cell? ⟨gs,10,none⟩=some (.slice a4 n4 k4):=by simp [World.cell?,CS]
   have c2:wr.cell? ⟨gs,11,none⟩=some (.int .i64 ex4):=by simp [World.cell?,CS]
   have hbu1:=ae HB.out hbu
   have C:=cB b4 a4 n4 k4 ex4 p pa pn pk pe L V4 VL u1 (HX4.out.below hbu1) (HLo.out.below hbu) LL.out
   have M1:=ab (ac hbu HM.out)
   have Z1:=ab (ac hbu HZ.out)
   have D1x:=ab qu
   have L1:=ab (HLo.out.below hbu)
   have H1:=ab (HHi.out.below hbu)
   have B1:=ab hbu1
   obtain⟨m0,m1,m2,m3,m4,m5⟩:=hexa M1.out
   obtain⟨d0,d1,d2⟩:=tri8 D1x.out
   obtain⟨D1,hD1⟩:∃D,decide (V4<VL)=D:=⟨_,rfl⟩
   rw [hD1] at C
   have ED1:=ab hD1
   clear CS hbu hbu1 qu hD1 HM HZ HLo HHi HB
   cases D1
   ·skip
    go_wp2_with fail
    refine C.mono ?_
    rintro e t2 ⟨rfl,g2⟩
    clear C m0 m1 m2 m3 m4 m5 d0 d1 d2 c0 c1 c2 hu1
    have M2:=ab (ac g2 M1.out)
    have Z2:=ab (ac g2 Z1.out)
    have D2x:=ab (ac g2 D1x.out)
    have L2:=ab (L1.out.below g2)
    have H2:=ab (H1.out.below g2)
    have B2:=ab (ae B1.out g2)
    clear g2
    have C:=cB q qa qn qk qe b4 a4 n4 k4 ex4 L VH V4 t2 H2.out (HX4.out.below B2.out) LL.out
    obtain⟨D2,hD2⟩:∃D,decide (VH<V4)=D:=⟨_,rfl⟩
    rw [hD2] at C
    have ED2:=ab hD2
    clear hD2
    obtain⟨m0,m1,m2,m3,m4,m5⟩:=hexa M2.out
    obtain⟨d0,d1,d2⟩:=tri8 D2x.out
    cases D2
    ·skip
     go_wp2_with fail
     refine C.mono ?_
     rintro e t3 ⟨rfl,g3⟩
     clear C m0 m1 m2 m3 m4 m5 d0 d1 d2
     have M3:=ab (ac g3 M2.out)
     have Z3:=ab (ac g3 Z2.out)
     have L3:=ab (L2.out.below g3)
     have H3:=ab (H2.out.below g3)
     have B3:=ab (ae B2.out g3)
     clear g3
     go_wp2
     go_roundw
     case rel=>exact⟨3,p,pa,pn,pk,pe,q,qa,qn,qk,qe,_,_,by omega,by go_num,(fun h=>absurd h (by decide)),(fun h=>absurd h (by decide)),(fun h=>absurd h (by decide)),(fun _=>⟨(by have g:=of_decide_eq_false ED1.out;have e:=EE.out.1;omega),(by have g:=of_decide_eq_false ED2.out;have e:=EE.out.2;omega)⟩),M3.out,L3.out,H3.out,Z3.out,B3.out⟩
     case measure=>simp [intOf]
    ·skip
     go_wp2_with fail
     refine C.mono ?_
     rintro e t3 ⟨rfl,g3⟩
     clear C m0 m1 m2 m3 m4 m5 d0 d1 d2
     obtain⟨W4,hW4,n4',o4,l4,s4⟩:=hi3 (ac g3 M2.out) b4 a4 n4 k4 ex4
     obtain⟨m0,m1,m2,m3,m4,m5⟩:=hexa (ac g3 M2.out)
     have hf1:=av (ac g3 M2.out)
     obtain⟨d0,d1,d2⟩:=tri8 (ac g3 D2x.out)
     have M3:=ab n4'
     have Z3:=ab (o4 _ _ HNE.out (ac g3 Z2.out))
     have L3:=ab (s4 _ _ _ _ _ _ _ (L2.out.below g3))
     have H3:=ab (s4 _ _ _ _ _ _ _ ((HX4.out.below (ae B2.out g3))))
     have B3:=ab (l4 _ _ (ae B2.out g3) HGE.out)
     clear g3 n4' o4 l4 s4
     go_wp2
     clear hW4 m0 m1 m2 m3 m4 m5 d0 d1 d2 hf1
     go_roundw
     case rel=>exact⟨3,p,pa,pn,pk,pe,b4,a4,n4,k4,ex4,_,_,by omega,by go_num,(fun h=>absurd h (by decide)),(fun h=>absurd h (by decide)),(fun h=>absurd h (by decide)),(fun _=>⟨(by have g:=of_decide_eq_false ED1.out;have e:=EE.out.1;omega),(by have g:=of_decide_eq_true ED2.out;have e:=EE.out.2;omega)⟩),M3.out,L3.out,H3.out,Z3.out,B3.out⟩
     case measure=>simp [intOf]
   ·skip
    go_wp2_with fail
    refine C.mono ?_
    rintro e t2 ⟨rfl,g2⟩
    clear C m0 m1 m2 m3 m4 m5 d0 d1 d2 c0 c1 c2 hu1
    obtain⟨W2,hW2,n2',o2,l2,s2⟩:=lo3 (ac g2 M1.out) b4 a4 n4 k4 ex4
    obtain⟨m0,m1,m2,m3,m4,m5⟩:=hexa (ac g2 M1.out)
    have hf1:=av (ac g2 M1.out)
    obtain⟨d0,d1,d2⟩:=tri8 (ac g2 D1x.out)
    have M2:=ab n2'
    have Z2:=ab (o2 _ _ HNE.out (ac g2 Z1.out))
    have D2x:=ab (o2 _ _ (by have h1:=lt_of_block M1.out;have h2:=lt_of_block D1x.out;have h3:=HOLD.out;omega) (ac g2 D1x.out))
    have L2:=ab (s2 _ _ _ _ _ _ _ (HX4.out.below (ae B1.out g2)))
    have H2:=ab (s2 _ _ _ _ _ _ _ (H1.out.below g2))
    have B2:=ab (l2 _ _ (ae B1.out g2) HGE.out)
    clear g2 n2' o2 l2 s2
    go_upto_region 7 with fail
    clear hW2 m0 m1 m2 m3 m4 m5 d0 d1 d2 hf1
    have C:=cB q qa qn qk qe b4 a4 n4 k4 ex4 L VH V4 W2 H2.out (HX4.out.below B2.out) LL.out
    obtain⟨D2,hD2⟩:∃D,decide (VH<V4)=D:=⟨_,rfl⟩
    rw [hD2] at C
    have ED2:=ab hD2
    clear hD2
    obtain⟨m0,m1,m2,m3,m4,m5⟩:=hexa M2.out
    obtain⟨d0,d1,d2⟩:=tri8 D2x.out
    cases D2
    ·skip
     go_wp2_with fail
     refine C.mono ?_
     rintro e t3 ⟨rfl,g3⟩
     clear C m0 m1 m2 m3 m4 m5 d0 d1 d2
     have M3:=ab (ac g3 M2.out)
     have Z3:=ab (ac g3 Z2.out)
     have L3:=ab (L2.out.below g3)
     have H3:=ab (H2.out.below g3)
     have B3:=ab (ae B2.out g3)
     clear g3
     go_wp2
     go_roundw
     case rel=>exact⟨3,b4,a4,n4,k4,ex4,q,qa,qn,qk,qe,_,_,by omega,by go_num,(fun h=>absurd h (by decide)),(fun h=>absurd h (by decide)),(fun h=>absurd h (by decide)),(fun _=>⟨(by have g:=of_decide_eq_true ED1.out;have e:=EE.out.1;omega),(by have g:=of_decide_eq_false ED2.out;have e:=EE.out.2;omega)⟩),M3.out,L3.out,H3.out,Z3.out,B3.out⟩
     case measure=>simp [intOf]
    ·skip
     go_wp2_with fail
     refine C.mono ?_
     rintro e t3 ⟨rfl,g3⟩
     clear C m0 m1 m2 m3 m4 m5 d0 d1 d2
     obtain⟨W4,hW4,n4',o4,l4,s4⟩:=hi3 (ac g3 M2.out) b4 a4 n4 k4 ex4
     obtain⟨m0,m1,m2,m3,m4,m5⟩:=hexa (ac g3 M2.out)
     have hf1:=av (ac g3 M2.out)
     obtain⟨d0,d1,d2⟩:=tri8 (ac g3 D2x.out)
     have M3:=ab n4'
     have Z3:=ab (o4 _ _ HNE.out (ac g3 Z2.out))
     have L3:=ab (s4 _ _ _ _ _ _ _ (L2.out.below g3))
     have H3:=ab (s4 _ _ _ _ _ _ _ ((HX4.out.below (ae B2.out g3))))
     have B3:=ab (l4 _ _ (ae B2.out g3) HGE.out)
     clear g3 n4' o4 l4 s4
     go_wp2
     clear hW4 m0 m1 m2 m3 m4 m5 d0 d1 d2 hf1
     go_roundw
     case rel=>exact⟨3,b4,a4,n4,k4,ex4,b4,a4,n4,k4,ex4,_,_,by omega,by go_num,(fun h=>absurd h (by decide)),(fun h=>absurd h (by decide)),(fun h=>absurd h (by decide)),(fun _=>⟨(by have g:=of_decide_eq_true ED1.out;have e:=EE.out.1;omega),(by have g:=of_decide_eq_true ED2.out;have e:=EE.out.2;omega)⟩),M3.out,L3.out,H3.out,Z3.out,B3.out⟩
     case measure=>simp [intOf]
  ·have EE:=ab (E3.out rfl)
   clear E0 E1 E2 E3
   obtain⟨m0,m1,m2,m3,m4,m5⟩:=hexa HM.out
   obtain⟨z0,z1,z2,z3,z4,z5⟩:=hexa HZ.out
   have zf:=av HZ.out
   go_wp2
   have T3:=aJ HZ.out (.bool p) (.slice pa pn pk) (.int .i64 pe) (.bool q) (.slice qa qn qk) (.int .i64 qe)
   have T4:=aF HB.out (show w.heap.size≤w.heap.size+1 by omega) (.bool p) (.slice pa pn pk) (.int .i64 pe) (.bool q) (.slice qa qn qk) (.int .i64 qe)
   have T5:=HLo.out.hexa HZ.out p pa pn pk pe q qa qn qk qe
   have T6:=HHi.out.hexa HZ.out p pa pn pk pe q qa qn qk qe
   obtain⟨p0,p1,p2,p3,p4,p5⟩:=hexa T3
   have HE:=ab (And.intro T5 (And.intro T6 T4))
   clear T3 T4 T5 T6
   generalize (((((wr.setCell ⟨w.heap.size+1,0,none⟩ (.bool p)).setCell ⟨w.heap.size+1,1,none⟩ (.slice pa pn pk)).setCell ⟨w.heap.size+1,2,none⟩ (.int .i64 pe)).setCell ⟨w.heap.size+1,3,none⟩ (.bool q)).setCell ⟨w.heap.size+1,4,none⟩ (.slice qa qn qk)).setCell ⟨w.heap.size+1,5,none⟩ (.int .i64 qe)=w5 at *
   refine bodyPost_ret (v:=.agg #[.bool p,.slice pa pn pk,.int .i64 pe,.bool q,.slice qa qn qk,.int .i64 qe]) (by simp [results,Tryz.results46,go_sem,p0,p1,p2,p3,p4,p5]) rfl ?_
   have x1:=HE.out.1
   have x2:=HE.out.2.1
   rw [EE.out.1] at x1
   rw [EE.out.2] at x2
   exact⟨⟨_,_,_,_,_,_,_,_,_,_,rfl,x1,x2⟩,HE.out.2.2⟩

theorem dR {w:World}{g:Nat}{a b c d:Value}{t:TypeId}(h:w.heap[g]?=some (.cells #[a,b,c,d] t)):w.cell? ⟨g,0,none⟩=some a∧w.cell? ⟨g,1,none⟩=some b∧w.cell? ⟨g,2,none⟩=some c∧w.cell? ⟨g,3,none⟩=some d:=by
 simp [World.cell?,h]

def aW (c1 c2 c3 c4:Int):Int:=aE (aE (aE (aE 0 c1) c2) c3) c4

def bg (t c:Int):Int:=if c=0 then t else c

theorem qd {c1 c2 c3 c4:Int}(h1:c1≠3)(h2:c2≠3)(h3:c3≠3)(h4:c4≠3):aW c1 c2 c3 c4=bg (bg (bg (bg 0 c1) c2) c3) c4:=by
 have e:∀t c:Int,t≠3→c≠3→aE t c=bg t c∧bg t c≠3:=by
  intro t c ht hc
  unfold aE bg
  rw [if_neg ht,if_neg hc]
  refine⟨rfl,?_⟩
  split <;> assumption
 unfold aW
 obtain⟨a1,b1⟩:=e 0 c1 (by decide) h1
 rw [a1]
 obtain⟨a2,b2⟩:=e _ c2 b1 h2
 rw [a2]
 obtain⟨a3,b3⟩:=e _ c3 b2 h3
 rw [a3,(e _ c4 b3 h4).1]

theorem dH (c:Int):aE 3 c=3:=by unfold aE;rw [if_pos rfl]

theorem fT (t:Int):aE t 3=3:=by unfold aE;split <;> rfl

theorem rW {c1 c2 c3 c4:Int}(h:c1=3∨c2=3∨c3=3∨c4=3):aW c1 c2 c3 c4=3:=by
 unfold aW
 rcases h with rfl|rfl|rfl|rfl
 ·rw [fT,dH,dH,dH]
 ·rw [fT,dH,dH]
 ·rw [fT,dH]
 ·rw [fT]

theorem iD {c1 c2 c3 c4:Int}(h:aW c1 c2 c3 c4=0):c1=0∧c2=0∧c3=0∧c4=0:=by
 unfold aW at h
 obtain⟨h3,h4⟩:=du.1 h
 obtain⟨h2,h3⟩:=du.1 h3
 obtain⟨h1,h2⟩:=du.1 h2
 exact⟨(du.1 h1).2,h2,h3,h4⟩

theorem oN (g:Nat)(c1 c2 c3 c4:Int)(t:TypeId)(w:World)(hL:w.heap[g]?=some (.cells #[.int .i64 c1,.int .i64 c2,.int .i64 c3,.int .i64 c4] t)) :
  Calls Tryz.prog 45 #[.slice (some ⟨g,0,none⟩) 4 4] w fun e w'=>e=.returned (.int .i64 (aW c1 c2 c3 c4))∧w'=w:=by
 obtain⟨d0,d1,d2,d3⟩:=dR hL
 clear hL
 obtain⟨R,hR⟩:∃R,aW c1 c2 c3 c4=R:=⟨_,rfl⟩
 obtain⟨r1,e1⟩:∃r,bg 0 c1=r:=⟨_,rfl⟩
 obtain⟨r2,e2⟩:∃r,bg r1 c2=r:=⟨_,rfl⟩
 obtain⟨r3,e3⟩:∃r,bg r2 c3=r:=⟨_,rfl⟩
 obtain⟨r4,e4⟩:∃r,bg r3 c4=r:=⟨_,rfl⟩
 have K3:Hid ((c1=3∨c2=3∨c3=3∨c4=3)→R=3):=ab fun h=>by rw [←hR];exact rW h
 have KN:Hid (c1≠3→c2≠3→c3≠3→c4≠3→R=r4):=ab fun h1 h2 h3 h4=>by rw [←hR,qd h1 h2 h3 h4,e1,e2,e3,e4]
 have E1:=ab e1
 have E2:=ab e2
 have E3:=ab e3
 have E4:=ab e4
 rw [hR]
 clear hR e1 e2 e3 e4
 go_enter Tryz.func45,Tryz.ntmps45
 go_wp2
 go_loop [3,8] (fun t i=>∃(k:Nat) (x:Int),k≤4∧t=.int .i64 x∧i=.int .i64 k∧(k=0→x=0)∧(k=1→x=r1∧c1≠3)∧(k=2→x=r2∧c1≠3∧c2≠3)∧(k=3→x=r3∧c1≠3∧c2≠3∧c3≠3)∧(k=4→x=r4∧c1≠3∧c2≠3∧c3≠3∧c4≠3)) (fun _ i=>4 - (intOf i).toNat)
 case atStart=>exact⟨0,0,by omega,rfl,rfl,fun _=>rfl,fun h=>absurd h (by decide),fun h=>absurd h (by decide),fun h=>absurd h (by decide),fun h=>absurd h (by decide)⟩
 case round=>
  obtain⟨k,x,hk,rfl,rfl,h0,h1,h2,h3,h4⟩:=hrel
  rcases (show k=0∨k=1∨k=2∨k=3∨k=4 by omega) with rfl|rfl|rfl|rfl|rfl
  ·obtain rfl:=h0 rfl
   clear h0 h1 h2 h3 h4
   by_cases hc:c1=3
   ·subst hc
    have hr:=K3.out (.inl rfl)
    subst hr
    go_wp2
    go_ret
    exact⟨rfl,rfl⟩
   ·have i1:(c1 == 3)=false:=by rw [beq_eq_false_iff_ne];exact hc
    have HC:=ab hc
    clear hc
    by_cases hz:c1=0
    ·have hx:0=r1:=by rw [←E1.out];unfold bg;rw [if_pos hz]
     have HX:=ab hx
     subst hz
     clear hx
     go_wp2
     go_round
     case rel=>exact⟨1,_,by omega,rfl,by go_num,fun h=>absurd h (by decide),fun _=>⟨HX.out,HC.out⟩,fun h=>absurd h (by decide),fun h=>absurd h (by decide),fun h=>absurd h (by decide)⟩
     case measure=>simp [intOf]
    ·have i2:(c1 != 0)=true:=by simpa using hz
     have hx:c1=r1:=by rw [←E1.out];unfold bg;rw [if_neg hz]
     have HX:=ab hx
     clear hz hx
     go_wp2
     go_round
     case rel=>exact⟨1,_,by omega,rfl,by go_num,fun h=>absurd h (by decide),fun _=>⟨HX.out,HC.out⟩,fun h=>absurd h (by decide),fun h=>absurd h (by decide),fun h=>absurd h (by decide)⟩
     case measure=>simp [intOf]
  ·obtain⟨rfl,n1⟩:=h1 rfl
   have N1:=ab n1
   clear h0 h1 h2 h3 h4 n1
   by_cases hc:c2=3
   ·subst hc
    have hr:=K3.out (.inr (.inl rfl))
    subst hr
    go_wp2
    go_ret
    exact⟨rfl,rfl⟩
   ·have i1:(c2 == 3)=false:=by rw [beq_eq_false_iff_ne];exact hc
    have HC:=ab hc
    clear hc
    by_cases hz:c2=0
    ·have hx:x=r2:=by rw [←E2.out];unfold bg;rw [if_pos hz]
     have HX:=ab hx
     subst hz
     clear hx
     go_wp2
     go_round
     case rel=>exact⟨2,_,by omega,rfl,by go_num,fun h=>absurd h (by decide),fun h=>absurd h (by decide),fun _=>⟨HX.out,N1.out,HC.out⟩,fun h=>absurd h (by decide),fun h=>absurd h (by decide)⟩
     case measure=>simp [intOf]
    ·have i2:(c2 != 0)=true:=by simpa using hz
     have hx:c2=r2:=by rw [←E2.out];unfold bg;rw [if_neg hz]
     have HX:=ab hx
     clear hz hx
     go_wp2
     go_round
     case rel=>exact⟨2,_,by omega,rfl,by go_num,fun h=>absurd h (by decide),fun h=>absurd h (by decide),fun _=>⟨HX.out,N1.out,HC.out⟩,fun h=>absurd h (by decide),fun h=>absurd h (by decide)⟩
     case measure=>simp [intOf]
  ·obtain⟨rfl,n1,n2⟩:=h2 rfl
   have N1:=ab n1
   have N2:=ab n2
   clear h0 h1 h2 h3 h4 n1 n2
   by_cases hc:c3=3
   ·subst hc
    have hr:=K3.out (.inr (.inr (.inl rfl)))
    subst hr
    go_wp2
    go_ret
    exact⟨rfl,rfl⟩
   ·have i1:(c3 == 3)=false:=by rw [beq_eq_false_iff_ne];exact hc
    have HC:=ab hc
    clear hc
    by_cases hz:c3=0
    ·have hx:x=r3:=by rw [←E3.out];unfold bg;rw [if_pos hz]
     have HX:=ab hx
     subst hz
     clear hx
     go_wp2
     go_round
     case rel=>exact⟨3,_,by omega,rfl,by go_num,fun h=>absurd h (by decide),fun h=>absurd h (by decide),fun h=>absurd h (by decide),fun _=>⟨HX.out,N1.out,N2.out,HC.out⟩,fun h=>absurd h (by decide)⟩
     case measure=>simp [intOf]
    ·have i2:(c3 != 0)=true:=by simpa using hz
     have hx:c3=r3:=by rw [←E3.out];unfold bg;rw [if_neg hz]
     have HX:=ab hx
     clear hz hx
     go_wp2
     go_round
     case rel=>exact⟨3,_,by omega,rfl,by go_num,fun h=>absurd h (by decide),fun h=>absurd h (by decide),fun h=>absurd h (by decide),fun _=>⟨HX.out,N1.out,N2.out,HC.out⟩,fun h=>absurd h (by decide)⟩
     case measure=>simp [intOf]
  ·obtain⟨rfl,n1,n2,n3⟩:=h3 rfl
   have N1:=ab n1
   have N2:=ab n2
   have N3:=ab n3
   clear h0 h1 h2 h3 h4 n1 n2 n3
   by_cases hc:c4=3
   ·subst hc
    have hr:=K3.out (.inr (.inr (.inr rfl)))
    subst hr
    go_wp2
    go_ret
    exact⟨rfl,rfl⟩
   ·have i1:(c4 == 3)=false:=by rw [beq_eq_false_iff_ne];exact hc
    have HC:=ab hc
    clear hc
    by_cases hz:c4=0
    ·have hx:x=r4:=by rw [←E4.out];unfold bg;rw [if_pos hz]
     have HX:=ab hx
     subst hz
     clear hx
     go_wp2
     go_round
     case rel=>exact⟨4,_,by omega,rfl,by go_num,fun h=>absurd h (by decide),fun h=>absurd h (by decide),fun h=>absurd h (by decide),fun h=>absurd h (by decide),fun _=>⟨HX.out,N1.out,N2.out,N3.out,HC.out⟩⟩
     case measure=>simp [intOf]
    ·have i2:(c4 != 0)=true:=by simpa using hz
     have hx:c4=r4:=by rw [←E4.out];unfold bg;rw [if_neg hz]
     have HX:=ab hx
     clear hz hx
     go_wp2
     go_round
     case rel=>exact⟨4,_,by omega,rfl,by go_num,fun h=>absurd h (by decide),fun h=>absurd h (by decide),fun h=>absurd h (by decide),fun h=>absurd h (by decide),fun _=>⟨HX.out,N1.out,N2.out,N3.out,HC.out⟩⟩
     case measure=>simp [intOf]
  ·obtain⟨rfl,n1,n2,n3,n4⟩:=h4 rfl
   have hr:=KN.out n1 n2 n3 n4
   subst hr
   clear h0 h1 h2 h3 h4
   go_wp2
   go_ret
   exact⟨rfl,rfl⟩
end Go.Proofs.YtkfbobefkbpdoaaGreatDoor

