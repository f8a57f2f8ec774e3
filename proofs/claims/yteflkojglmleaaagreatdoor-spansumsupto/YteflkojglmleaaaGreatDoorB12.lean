/- Package span: sums and differences, outward, with what they refuse. -/
import Derived.Test.YteflkojglmleaaaGreatDoorB11
set_option maxRecDepth 20000
set_option maxHeartbeats 4000000
namespace Go.Proofs.YteflkojglmleaaaGreatDoor
open Go.RowKit
open Lm
attribute [local go_sem ↓] Go.wp_at_zero Go.wp_at_succ

theorem jl (b1:Bool)(a1:Option Addr)(k1:Nat)(X:List Nat)(ex1:Int)(b2:Bool)(a2:Option Addr)(k2:Nat)(Y:List Nat)(ex2:Int)(w:World)(hT:Tab w)(hA:Arg w (.slice a1 X.length k1) X)(hB:Arg w (.slice a2 Y.length k2) Y)(hf:X.length≤17592186043904)(hg:Y.length≤17592186043904)(hE1:aj ex1=true)(hE2:aj ex2=true) :
  Calls Tryz.prog 50 #[.agg #[.bool b1,.slice a1 X.length k1,.int .i64 ex1],.agg #[.bool b2,.slice a2 Y.length k2,.int .i64 ex2]] w fun e w'=>aO w' w.heap.size e (omz (sm (omz (zz b1 (val X))) (oe (zz b1 (val X)) ex1) (omz (zz b2 (val Y))) (oe (zz b2 (val Y)) ex2))) (oe (sm (omz (zz b1 (val X))) (oe (zz b1 (val X)) ex1) (omz (zz b2 (val Y))) (oe (zz b2 (val Y)) ex2)) (min (oe (zz b1 (val X)) ex1) (oe (zz b2 (val Y)) ex2)))∧Below w.heap.size w w':=by
 have F1:=bJ (b:=b1) (ex:=ex1) hA hf hE1
 have F2:=bJ (b:=b2) (ex:=ex2) hB hg hE2
 exact jp b1 a1 _ k1 ex1 b2 a2 _ k2 ex2 _ _ w (fun W hg'=>mb b1 a1 k1 X ex1 b2 a2 k2 Y ex2 _ _ W (hT.below hg') (hA.below hg') (hB.below hg') hf hg hE1 hE2 (fun W2 b3 a3 c3 X3 b4 a4 c4 X4 t3 m3 m4 l3 l4=>ia b3 a3 c3 X3 _ _ b4 a4 c4 X4 _ _ W2 m3 m4 F1.2.2.2 F2.2.2.2 l3 l4 F1.2.1 F2.2.2.1 F2.2.1 F1.2.2.1))

theorem lA (b1:Bool)(a1:Option Addr)(n1 k1:Nat)(ex1:Int)(b2:Bool)(a2:Option Addr)(n2 k2:Nat)(ex2:Int)(md M E:Int)(w:World)(hC:∀W,Below w.heap.size w W→Calls Tryz.prog 50 #[.agg #[.bool b1,.slice a1 n1 k1,.int .i64 ex1],.agg #[.bool b2,.slice a2 n2 k2,.int .i64 ex2]] W fun e w'=>aO w' W.heap.size e M E∧Below W.heap.size W w') :
  Calls Tryz.prog 49 #[.agg #[.bool b1,.slice a1 n1 k1,.int .i64 ex1,.bool b2,.slice a2 n2 k2,.int .i64 ex2],.int .i64 md] w fun e w'=>aO w' w.heap.size e M E∧Below w.heap.size w w':=by
 obtain⟨w0,hw0,hb0,q0,q1⟩:=aA w (.cells #[.bool b1,.slice a1 n1 k1,.int .i64 ex1,.bool b2,.slice a2 n2 k2,.int .i64 ex2] 92) (.cells #[.bool false,.slice none 0 0,.int .i64 0] 31)
 obtain⟨y0,y1,y2,y3,y4,y5⟩:=hexa q0
 have C:=hC w0 hb0
 have HC:=ab q1
 have HB:=ab hb0
 clear q0 q1 hb0 hC
 go_enter Tryz.func49,Tryz.ntmps49
 go_wp2_with fail
 refine C.mono ?_
 rintro e t1 ⟨⟨b6,a6,n6,c6,e6,d6,rfl,hg⟩,g1⟩
 have HC1:=ab (ac g1 HC.out)
 have HG:=ab (ae HB.out g1)
 have HDR:=ab (hg.base HB.out.size)
 have hf1:=am HC1.out
 obtain⟨m0,m1,m2⟩:=tri8 HC1.out
 clear g1 hg C
 go_wp2
 have T3:=ay HC1.out (.bool b6) (.slice a6 n6 c6) (.int .i64 e6)
 have T4:=an HG.out (show w.heap.size≤w.heap.size+1 by omega) (.bool b6) (.slice a6 n6 c6) (.int .i64 e6)
 have T5:=HDR.out.tri8 HC1.out (by decide) (.bool b6) (.slice a6 n6 c6) (.int .i64 e6)
 obtain⟨p0,p1,p2⟩:=tri8 T3
 have HE:=ab (And.intro T5 T4)
 clear T3 T4 T5
 generalize ((t1.setCell ⟨w.heap.size+1,0,none⟩ (.bool b6)).setCell ⟨w.heap.size+1,1,none⟩ (.slice a6 n6 c6)).setCell ⟨w.heap.size+1,2,none⟩ (.int .i64 e6)=w9 at *
 refine bodyPost_ret (v:=.tuple #[.agg #[.bool b6,.slice a6 n6 c6,.int .i64 e6],.int .i64 d6]) (by simp [results,Tryz.results49,go_sem,p0,p1,p2]) rfl ?_
 exact⟨⟨_,_,_,_,_,_,rfl,HE.out.1⟩,HE.out.2⟩

theorem mh (b1:Bool)(a1:Option Addr)(n1 k1:Nat)(ex1:Int)(b2:Bool)(a2:Option Addr)(n2 k2:Nat)(ex2:Int)(md M E:Int)(w:World)(hC:∀W,Below w.heap.size w W→Calls Tryz.prog 52 #[.agg #[.bool b1,.slice a1 n1 k1,.int .i64 ex1],.agg #[.bool b2,.slice a2 n2 k2,.int .i64 ex2]] W fun e w'=>aO w' W.heap.size e M E∧Below W.heap.size W w') :
  Calls Tryz.prog 51 #[.agg #[.bool b1,.slice a1 n1 k1,.int .i64 ex1,.bool b2,.slice a2 n2 k2,.int .i64 ex2],.int .i64 md] w fun e w'=>aO w' w.heap.size e M E∧Below w.heap.size w w':=by
 obtain⟨w0,hw0,hb0,q0,q1⟩:=aA w (.cells #[.bool b1,.slice a1 n1 k1,.int .i64 ex1,.bool b2,.slice a2 n2 k2,.int .i64 ex2] 92) (.cells #[.bool false,.slice none 0 0,.int .i64 0] 31)
 obtain⟨y0,y1,y2,y3,y4,y5⟩:=hexa q0
 have C:=hC w0 hb0
 have HC:=ab q1
 have HB:=ab hb0
 clear q0 q1 hb0 hC
 go_enter Tryz.func51,Tryz.ntmps51
 go_wp2_with fail
 refine C.mono ?_
 rintro e t1 ⟨⟨b6,a6,n6,c6,e6,d6,rfl,hg⟩,g1⟩
 have HC1:=ab (ac g1 HC.out)
 have HG:=ab (ae HB.out g1)
 have HDR:=ab (hg.base HB.out.size)
 have hf1:=am HC1.out
 obtain⟨m0,m1,m2⟩:=tri8 HC1.out
 clear g1 hg C
 go_wp2
 have T3:=ay HC1.out (.bool b6) (.slice a6 n6 c6) (.int .i64 e6)
 have T4:=an HG.out (show w.heap.size≤w.heap.size+1 by omega) (.bool b6) (.slice a6 n6 c6) (.int .i64 e6)
 have T5:=HDR.out.tri8 HC1.out (by decide) (.bool b6) (.slice a6 n6 c6) (.int .i64 e6)
 obtain⟨p0,p1,p2⟩:=tri8 T3
 have HE:=ab (And.intro T5 T4)
 clear T3 T4 T5
 generalize ((t1.setCell ⟨w.heap.size+1,0,none⟩ (.bool b6)).setCell ⟨w.heap.size+1,1,none⟩ (.slice a6 n6 c6)).setCell ⟨w.heap.size+1,2,none⟩ (.int .i64 e6)=w9 at *
 refine bodyPost_ret (v:=.tuple #[.agg #[.bool b6,.slice a6 n6 c6,.int .i64 e6],.int .i64 d6]) (by simp [results,Tryz.results51,go_sem,p0,p1,p2]) rfl ?_
 exact⟨⟨_,_,_,_,_,_,rfl,HE.out.1⟩,HE.out.2⟩

theorem kE (gp:Nat)(pos:Int)(b1:Bool)(a1:Option Addr)(n1 k1:Nat)(ex1:Int)(md M E:Int)(w:World)(hp:w.heap[gp]?=some (.cells #[.int .i64 pos] 3))(hC:∀W,Below w.heap.size w W→Calls Tryz.prog 96 #[.agg #[.bool b1,.slice a1 n1 k1,.int .i64 ex1],.int .i64 pos,.int .i64 md] W fun e w'=>aO w' W.heap.size e M E∧Below W.heap.size W w') :
  Calls Tryz.prog 95 #[.agg #[.bool b1,.slice a1 n1 k1,.int .i64 ex1],.int .i64 md,.pointer (some ⟨gp,0,none⟩)] w fun e w'=>aO w' w.heap.size e M E∧Below w.heap.size w w':=by
 obtain⟨w0,hw0,hb0,q0,q1⟩:=aA w (.cells #[.bool b1,.slice a1 n1 k1,.int .i64 ex1] 31) (.cells #[.bool false,.slice none 0 0,.int .i64 0] 31)
 obtain⟨y0,y1,y2⟩:=tri8 q0
 have kp:w0.cell? ⟨gp,0,none⟩=some (.int .i64 pos):=by have:=ac hb0 hp;simp [World.cell?,this]
 have C:=hC w0 hb0
 have HC:=ab q1
 have HB:=ab hb0
 clear q0 q1 hb0 hC hp
 go_enter Tryz.func95,Tryz.ntmps95
 go_wp2_with fail
 refine C.mono ?_
 rintro e t1 ⟨⟨b6,a6,n6,c6,e6,d6,rfl,hg⟩,g1⟩
 have HC1:=ab (ac g1 HC.out)
 have HG:=ab (ae HB.out g1)
 have HDR:=ab (hg.base HB.out.size)
 have hf1:=am HC1.out
 obtain⟨m0,m1,m2⟩:=tri8 HC1.out
 clear g1 hg C
 go_wp2
 have T3:=ay HC1.out (.bool b6) (.slice a6 n6 c6) (.int .i64 e6)
 have T4:=an HG.out (show w.heap.size≤w.heap.size+1 by omega) (.bool b6) (.slice a6 n6 c6) (.int .i64 e6)
 have T5:=HDR.out.tri8 HC1.out (by decide) (.bool b6) (.slice a6 n6 c6) (.int .i64 e6)
 obtain⟨p0,p1,p2⟩:=tri8 T3
 have HE:=ab (And.intro T5 T4)
 clear T3 T4 T5
 generalize ((t1.setCell ⟨w.heap.size+1,0,none⟩ (.bool b6)).setCell ⟨w.heap.size+1,1,none⟩ (.slice a6 n6 c6)).setCell ⟨w.heap.size+1,2,none⟩ (.int .i64 e6)=w9 at *
 refine bodyPost_ret (v:=.tuple #[.agg #[.bool b6,.slice a6 n6 c6,.int .i64 e6],.int .i64 d6]) (by simp [results,Tryz.results95,go_sem,p0,p1,p2]) rfl ?_
 exact⟨⟨_,_,_,_,_,_,rfl,HE.out.1⟩,HE.out.2⟩

theorem qU (b1:Bool)(a1:Option Addr)(n1 k1:Nat)(ex1:Int)(b2:Bool)(a2:Option Addr)(n2 k2:Nat)(ex2:Int)(b3:Bool)(a3:Option Addr)(n3 k3:Nat)(ex3:Int)(b4:Bool)(a4:Option Addr)(n4 k4:Nat)(ex4:Int)(M1 E1 M2 E2:Int)(w:World)(hC1:∀W,Below w.heap.size w W→Calls Tryz.prog 49 #[.agg #[.bool b1,.slice a1 n1 k1,.int .i64 ex1,.bool b2,.slice a2 n2 k2,.int .i64 ex2],.int .i64 0] W fun e w'=>aO w' W.heap.size e M1 E1∧Below W.heap.size W w')(hC2:∀W,Below w.heap.size w W→Calls Tryz.prog 49 #[.agg #[.bool b3,.slice a3 n3 k3,.int .i64 ex3,.bool b4,.slice a4 n4 k4,.int .i64 ex4],.int .i64 1] W fun e w'=>aO w' W.heap.size e M2 E2∧Below W.heap.size W w') :
  Calls Tryz.prog 48 #[.agg #[.bool b1,.slice a1 n1 k1,.int .i64 ex1,.bool b2,.slice a2 n2 k2,.int .i64 ex2],.agg #[.bool b3,.slice a3 n3 k3,.int .i64 ex3,.bool b4,.slice a4 n4 k4,.int .i64 ex4],.func (.func 49) #[] #[]] w fun e w'=>bW w e w' M1 E1 M2 E2:=by
 obtain⟨w0,hw0,hb0,q0,q1,q9⟩:=aE w (.cells #[.bool b1,.slice a1 n1 k1,.int .i64 ex1,.bool b2,.slice a2 n2 k2,.int .i64 ex2] 92) (.cells #[.bool b3,.slice a3 n3 k3,.int .i64 ex3,.bool b4,.slice a4 n4 k4,.int .i64 ex4] 92) (.cells #[.bool false,.slice none 0 0,.int .i64 0,.bool false,.slice none 0 0,.int .i64 0] 33)
 obtain⟨y0,y1,y2,y3,y4,y5⟩:=hexa q0
 have HU0:=ab hb0
 have HQ0:=ab q1
 have HR0:Hid (w0.heap[w.heap.size+1+1]?=some (.cells #[.bool false,.slice none 0 0,.int .i64 0,.bool false,.slice none 0 0,.int .i64 0] 33)):=ab q9
 have C1:=ab hC1
 have C2:=ab hC2
 clear q0 q1 q9 hb0 hC1 hC2
 go_enter Tryz.func48,Tryz.ntmps48
 go_wp2_with fail
 refine (C1.out w0 HU0.out).mono ?_
 rintro e t1 ⟨⟨b6,a6,n6,c6,e6,d6,rfl,hg⟩,g1⟩
 obtain⟨w2,hw2,hb2,q2⟩:=af t1 (.cells #[.bool b6,.slice a6 n6 c6,.int .i64 e6] 31)
 have s2:=ae g1 hb2
 have HU2:=ab (ae HU0.out s2)
 have HX2:=ab q2
 have HD1:=ab ((hg.below hb2).base HU0.out.size)
 have HQ1:=ab (ac s2 HQ0.out)
 have HR1:=ab (ac s2 HR0.out)
 clear g1 hg hb2 q2 s2 y0 y1 y2 y3 y4 y5 hw0
 obtain⟨z0,z1,z2,z3,z4,z5⟩:=hexa HQ1.out
 go_wp2_with fail
 refine (C2.out w2 HU2.out).mono ?_
 rintro e t3 ⟨⟨b7,a7,n7,c7,e7,d7,rfl,hg⟩,g1⟩
 obtain⟨w4,hw4,hb4,q4⟩:=af t3 (.cells #[.bool b7,.slice a7 n7 c7,.int .i64 e7] 31)
 obtain⟨w6,hw6,hb6,q6⟩:=af w4 (.cells #[.int .i64 d6,.int .i64 d7] 47)
 have s4:=ae (ae g1 hb4) hb6
 have hap:(Value.slice a6 n6 c6).ownBlock=none∨(Value.slice a6 n6 c6).ownBlock≠(Value.slice a7 n7 c7).ownBlock:=by
  obtain⟨r1,i1,_⟩:=HD1.out
  obtain⟨r2,i2,_⟩:=hg
  exact iM (m:=w2.heap.size) (fun g hg'=>(i1.own.lt g hg').2) i2
 have HG:=ab (ae HU2.out s4)
 have HX4:=ab (ac s4 HX2.out)
 have HX5:=ab (ac hb6 q4)
 have hd1:=HD1.out.below s4
 have hd2:=(((hg.below hb4).below hb6).base HU2.out.size)
 have hc1:=hd1.code
 have hc2:=hd2.code
 have HSR:Hid ((ak d6 d7=0→SR w6 w.heap.size b6 (.slice a6 n6 c6) e6 b7 (.slice a7 n7 c7) e7 0 M1 E1 M2 E2)∧(ak d6 d7≠0→∀W,SR W w.heap.size false (.slice none 0 0) 0 false (.slice none 0 0) 0 (ak d6 d7) M1 E1 M2 E2)):=by
  refine ab ⟨fun h0=>?_,fun h0 W=>?_⟩
  ·obtain⟨x1,x2⟩:=cK.1 h0
   rw [x1] at hd1
   rw [x2] at hd2
   exact⟨by rw [←hc1,←hc2,h0],fun _=>⟨hd1,hd2,hap⟩,fun h=>absurd rfl h⟩
  ·exact⟨by rw [←hc1,←hc2],fun h=>absurd h h0,fun _=>⟨rfl,rfl,rfl,rfl,rfl,rfl⟩⟩
 have HC1:=ab (ac s4 HR1.out)
 have RF:=gP w4.heap.size d6 d7 w6 q6
 clear g1 hg hb4 q4 s4 z0 z1 z2 z3 z4 z5 hw2 HD1 hb6 q6 hd1 hd2 hc1 hc2 hap
 generalize ak d6 d7=R at *
 obtain⟨x0,x1,x2⟩:=tri8 HX4.out
 obtain⟨x3,x4,x5⟩:=tri8 HX5.out
 have hf1:=aD HC1.out
 obtain⟨m0,m1,m2,m3,m4,m5⟩:=hexa HC1.out
 by_cases hR:R=0
 ·subst hR
  have HS2:=ab (HSR.out.1 rfl)
  clear HSR
  have HSR:=HS2
  clear HS2
  go_wp2_with fail
  refine RF.mono ?_
  rintro e wn ⟨rfl,hw⟩;rw [hw];clear hw wn RF
  go_wp2
  have T3:=aK HC1.out (.bool b6) (.slice a6 n6 c6) (.int .i64 e6) (.bool b7) (.slice a7 n7 c7) (.int .i64 e7)
  have T4:=aG HG.out (show w.heap.size≤w.heap.size+1+1 by omega) (.bool b6) (.slice a6 n6 c6) (.int .i64 e6) (.bool b7) (.slice a7 n7 c7) (.int .i64 e7)
  have T5:=HSR.out.hexa HC1.out (by decide) (.bool b6) (.slice a6 n6 c6) (.int .i64 e6) (.bool b7) (.slice a7 n7 c7) (.int .i64 e7)
  obtain⟨p0,p1,p2,p3,p4,p5⟩:=hexa T3
  have HE:=ab (And.intro T5 T4)
  clear T3 T4 T5
  generalize (((((w6.setCell ⟨w.heap.size+1+1,0,none⟩ (.bool b6)).setCell ⟨w.heap.size+1+1,1,none⟩ (.slice a6 n6 c6)).setCell ⟨w.heap.size+1+1,2,none⟩ (.int .i64 e6)).setCell ⟨w.heap.size+1+1,3,none⟩ (.bool b7)).setCell ⟨w.heap.size+1+1,4,none⟩ (.slice a7 n7 c7)).setCell ⟨w.heap.size+1+1,5,none⟩ (.int .i64 e7)=w9 at *
  refine bodyPost_ret (v:=.tuple #[.agg #[.bool b6,.slice a6 n6 c6,.int .i64 e6,.bool b7,.slice a7 n7 c7,.int .i64 e7],.int .i64 0]) (by simp [results,Tryz.results48,go_sem,p0,p1,p2,p3,p4,p5]) rfl ?_
  exact⟨⟨_,_,_,_,_,_,_,_,_,_,_,rfl,HE.out.1⟩,HE.out.2⟩
 ·have i9:(R != 0)=true:=by simpa using hR
  have HS2:=ab (HSR.out.2 hR)
  clear HSR hR
  go_wp2_with fail
  refine RF.mono ?_
  rintro e wn ⟨rfl,hw⟩;rw [hw];clear hw wn RF
  go_wp2
  have T3:=aK HC1.out (.bool false) (.slice none 0 0) (.int .i64 0) (.bool false) (.slice none 0 0) (.int .i64 0)
  have T4:=aG HG.out (show w.heap.size≤w.heap.size+1+1 by omega) (.bool false) (.slice none 0 0) (.int .i64 0) (.bool false) (.slice none 0 0) (.int .i64 0)
  obtain⟨p0,p1,p2,p3,p4,p5⟩:=hexa T3
  have HE:=ab T4
  clear T3 T4
  generalize (((((w6.setCell ⟨w.heap.size+1+1,0,none⟩ (.bool false)).setCell ⟨w.heap.size+1+1,1,none⟩ (.slice none 0 0)).setCell ⟨w.heap.size+1+1,2,none⟩ (.int .i64 0)).setCell ⟨w.heap.size+1+1,3,none⟩ (.bool false)).setCell ⟨w.heap.size+1+1,4,none⟩ (.slice none 0 0)).setCell ⟨w.heap.size+1+1,5,none⟩ (.int .i64 0)=w9 at *
  refine bodyPost_ret (v:=.tuple #[.agg #[.bool false,.slice none 0 0,.int .i64 0,.bool false,.slice none 0 0,.int .i64 0],.int .i64 R]) (by simp [results,Tryz.results48,go_sem,p0,p1,p2,p3,p4,p5]) rfl ?_
  exact⟨⟨_,_,_,_,_,_,_,_,_,_,_,rfl,HS2.out _⟩,HE.out⟩

theorem pD (b1:Bool)(a1:Option Addr)(n1 k1:Nat)(ex1:Int)(b2:Bool)(a2:Option Addr)(n2 k2:Nat)(ex2:Int)(b3:Bool)(a3:Option Addr)(n3 k3:Nat)(ex3:Int)(b4:Bool)(a4:Option Addr)(n4 k4:Nat)(ex4:Int)(M1 E1 M2 E2:Int)(w:World)(hC1:∀W,Below w.heap.size w W→Calls Tryz.prog 51 #[.agg #[.bool b1,.slice a1 n1 k1,.int .i64 ex1,.bool b2,.slice a2 n2 k2,.int .i64 ex2],.int .i64 0] W fun e w'=>aO w' W.heap.size e M1 E1∧Below W.heap.size W w')(hC2:∀W,Below w.heap.size w W→Calls Tryz.prog 51 #[.agg #[.bool b3,.slice a3 n3 k3,.int .i64 ex3,.bool b4,.slice a4 n4 k4,.int .i64 ex4],.int .i64 1] W fun e w'=>aO w' W.heap.size e M2 E2∧Below W.heap.size W w') :
  Calls Tryz.prog 48 #[.agg #[.bool b1,.slice a1 n1 k1,.int .i64 ex1,.bool b2,.slice a2 n2 k2,.int .i64 ex2],.agg #[.bool b3,.slice a3 n3 k3,.int .i64 ex3,.bool b4,.slice a4 n4 k4,.int .i64 ex4],.func (.func 51) #[] #[]] w fun e w'=>bW w e w' M1 E1 M2 E2:=by
 obtain⟨w0,hw0,hb0,q0,q1,q9⟩:=aE w (.cells #[.bool b1,.slice a1 n1 k1,.int .i64 ex1,.bool b2,.slice a2 n2 k2,.int .i64 ex2] 92) (.cells #[.bool b3,.slice a3 n3 k3,.int .i64 ex3,.bool b4,.slice a4 n4 k4,.int .i64 ex4] 92) (.cells #[.bool false,.slice none 0 0,.int .i64 0,.bool false,.slice none 0 0,.int .i64 0] 33)
 obtain⟨y0,y1,y2,y3,y4,y5⟩:=hexa q0
 have HU0:=ab hb0
 have HQ0:=ab q1
 have HR0:Hid (w0.heap[w.heap.size+1+1]?=some (.cells #[.bool false,.slice none 0 0,.int .i64 0,.bool false,.slice none 0 0,.int .i64 0] 33)):=ab q9
 have C1:=ab hC1
 have C2:=ab hC2
 clear q0 q1 q9 hb0 hC1 hC2
 go_enter Tryz.func48,Tryz.ntmps48
 go_wp2_with fail
 refine (C1.out w0 HU0.out).mono ?_
 rintro e t1 ⟨⟨b6,a6,n6,c6,e6,d6,rfl,hg⟩,g1⟩
 obtain⟨w2,hw2,hb2,q2⟩:=af t1 (.cells #[.bool b6,.slice a6 n6 c6,.int .i64 e6] 31)
 have s2:=ae g1 hb2
 have HU2:=ab (ae HU0.out s2)
 have HX2:=ab q2
 have HD1:=ab ((hg.below hb2).base HU0.out.size)
 have HQ1:=ab (ac s2 HQ0.out)
 have HR1:=ab (ac s2 HR0.out)
 clear g1 hg hb2 q2 s2 y0 y1 y2 y3 y4 y5 hw0
 obtain⟨z0,z1,z2,z3,z4,z5⟩:=hexa HQ1.out
 go_wp2_with fail
 refine (C2.out w2 HU2.out).mono ?_
 rintro e t3 ⟨⟨b7,a7,n7,c7,e7,d7,rfl,hg⟩,g1⟩
 obtain⟨w4,hw4,hb4,q4⟩:=af t3 (.cells #[.bool b7,.slice a7 n7 c7,.int .i64 e7] 31)
 obtain⟨w6,hw6,hb6,q6⟩:=af w4 (.cells #[.int .i64 d6,.int .i64 d7] 47)
 have s4:=ae (ae g1 hb4) hb6
 have hap:(Value.slice a6 n6 c6).ownBlock=none∨(Value.slice a6 n6 c6).ownBlock≠(Value.slice a7 n7 c7).ownBlock:=by
  obtain⟨r1,i1,_⟩:=HD1.out
  obtain⟨r2,i2,_⟩:=hg
  exact iM (m:=w2.heap.size) (fun g hg'=>(i1.own.lt g hg').2) i2
 have HG:=ab (ae HU2.out s4)
 have HX4:=ab (ac s4 HX2.out)
 have HX5:=ab (ac hb6 q4)
 have hd1:=HD1.out.below s4
 have hd2:=(((hg.below hb4).below hb6).base HU2.out.size)
 have hc1:=hd1.code
 have hc2:=hd2.code
 have HSR:Hid ((ak d6 d7=0→SR w6 w.heap.size b6 (.slice a6 n6 c6) e6 b7 (.slice a7 n7 c7) e7 0 M1 E1 M2 E2)∧(ak d6 d7≠0→∀W,SR W w.heap.size false (.slice none 0 0) 0 false (.slice none 0 0) 0 (ak d6 d7) M1 E1 M2 E2)):=by
  refine ab ⟨fun h0=>?_,fun h0 W=>?_⟩
  ·obtain⟨x1,x2⟩:=cK.1 h0
   rw [x1] at hd1
   rw [x2] at hd2
   exact⟨by rw [←hc1,←hc2,h0],fun _=>⟨hd1,hd2,hap⟩,fun h=>absurd rfl h⟩
  ·exact⟨by rw [←hc1,←hc2],fun h=>absurd h h0,fun _=>⟨rfl,rfl,rfl,rfl,rfl,rfl⟩⟩
 have HC1:=ab (ac s4 HR1.out)
 have RF:=gP w4.heap.size d6 d7 w6 q6
 clear g1 hg hb4 q4 s4 z0 z1 z2 z3 z4 z5 hw2 HD1 hb6 q6 hd1 hd2 hc1 hc2 hap
 generalize ak d6 d7=R at *
 obtain⟨x0,x1,x2⟩:=tri8 HX4.out
 obtain⟨x3,x4,x5⟩:=tri8 HX5.out
 have hf1:=aD HC1.out
 obtain⟨m0,m1,m2,m3,m4,m5⟩:=hexa HC1.out
 by_cases hR:R=0
 ·subst hR
  have HS2:=ab (HSR.out.1 rfl)
  clear HSR
  have HSR:=HS2
  clear HS2
  go_wp2_with fail
  refine RF.mono ?_
  rintro e wn ⟨rfl,hw⟩;rw [hw];clear hw wn RF
  go_wp2
  have T3:=aK HC1.out (.bool b6) (.slice a6 n6 c6) (.int .i64 e6) (.bool b7) (.slice a7 n7 c7) (.int .i64 e7)
  have T4:=aG HG.out (show w.heap.size≤w.heap.size+1+1 by omega) (.bool b6) (.slice a6 n6 c6) (.int .i64 e6) (.bool b7) (.slice a7 n7 c7) (.int .i64 e7)
  have T5:=HSR.out.hexa HC1.out (by decide) (.bool b6) (.slice a6 n6 c6) (.int .i64 e6) (.bool b7) (.slice a7 n7 c7) (.int .i64 e7)
  obtain⟨p0,p1,p2,p3,p4,p5⟩:=hexa T3
  have HE:=ab (And.intro T5 T4)
  clear T3 T4 T5
  generalize (((((w6.setCell ⟨w.heap.size+1+1,0,none⟩ (.bool b6)).setCell ⟨w.heap.size+1+1,1,none⟩ (.slice a6 n6 c6)).setCell ⟨w.heap.size+1+1,2,none⟩ (.int .i64 e6)).setCell ⟨w.heap.size+1+1,3,none⟩ (.bool b7)).setCell ⟨w.heap.size+1+1,4,none⟩ (.slice a7 n7 c7)).setCell ⟨w.heap.size+1+1,5,none⟩ (.int .i64 e7)=w9 at *
  refine bodyPost_ret (v:=.tuple #[.agg #[.bool b6,.slice a6 n6 c6,.int .i64 e6,.bool b7,.slice a7 n7 c7,.int .i64 e7],.int .i64 0]) (by simp [results,Tryz.results48,go_sem,p0,p1,p2,p3,p4,p5]) rfl ?_
  exact⟨⟨_,_,_,_,_,_,_,_,_,_,_,rfl,HE.out.1⟩,HE.out.2⟩
 ·have i9:(R != 0)=true:=by simpa using hR
  have HS2:=ab (HSR.out.2 hR)
  clear HSR hR
  go_wp2_with fail
  refine RF.mono ?_
  rintro e wn ⟨rfl,hw⟩;rw [hw];clear hw wn RF
  go_wp2
  have T3:=aK HC1.out (.bool false) (.slice none 0 0) (.int .i64 0) (.bool false) (.slice none 0 0) (.int .i64 0)
  have T4:=aG HG.out (show w.heap.size≤w.heap.size+1+1 by omega) (.bool false) (.slice none 0 0) (.int .i64 0) (.bool false) (.slice none 0 0) (.int .i64 0)
  obtain⟨p0,p1,p2,p3,p4,p5⟩:=hexa T3
  have HE:=ab T4
  clear T3 T4
  generalize (((((w6.setCell ⟨w.heap.size+1+1,0,none⟩ (.bool false)).setCell ⟨w.heap.size+1+1,1,none⟩ (.slice none 0 0)).setCell ⟨w.heap.size+1+1,2,none⟩ (.int .i64 0)).setCell ⟨w.heap.size+1+1,3,none⟩ (.bool false)).setCell ⟨w.heap.size+1+1,4,none⟩ (.slice none 0 0)).setCell ⟨w.heap.size+1+1,5,none⟩ (.int .i64 0)=w9 at *
  refine bodyPost_ret (v:=.tuple #[.agg #[.bool false,.slice none 0 0,.int .i64 0,.bool false,.slice none 0 0,.int .i64 0],.int .i64 R]) (by simp [results,Tryz.results48,go_sem,p0,p1,p2,p3,p4,p5]) rfl ?_
  exact⟨⟨_,_,_,_,_,_,_,_,_,_,_,rfl,HS2.out _⟩,HE.out⟩

theorem rP (gp:Nat)(b1:Bool)(a1:Option Addr)(n1 k1:Nat)(ex1:Int)(b2:Bool)(a2:Option Addr)(n2 k2:Nat)(ex2:Int)(M1 E1 M2 E2:Int)(w:World)(hC1:∀W,Below w.heap.size w W→Calls Tryz.prog 95 #[.agg #[.bool b1,.slice a1 n1 k1,.int .i64 ex1],.int .i64 0,.pointer (some ⟨gp,0,none⟩)] W fun e w'=>aO w' W.heap.size e M1 E1∧Below W.heap.size W w')(hC2:∀W,Below w.heap.size w W→Calls Tryz.prog 95 #[.agg #[.bool b2,.slice a2 n2 k2,.int .i64 ex2],.int .i64 1,.pointer (some ⟨gp,0,none⟩)] W fun e w'=>aO w' W.heap.size e M2 E2∧Below W.heap.size W w') :
  Calls Tryz.prog 94 #[.agg #[.bool b1,.slice a1 n1 k1,.int .i64 ex1],.agg #[.bool b2,.slice a2 n2 k2,.int .i64 ex2],.func (.func 95) #[] #[.pointer (some ⟨gp,0,none⟩)]] w fun e w'=>bW w e w' M1 E1 M2 E2:=by
 obtain⟨w0,hw0,hb0,q0,q1,q9⟩:=aE w (.cells #[.bool b1,.slice a1 n1 k1,.int .i64 ex1] 31) (.cells #[.bool b2,.slice a2 n2 k2,.int .i64 ex2] 31) (.cells #[.bool false,.slice none 0 0,.int .i64 0,.bool false,.slice none 0 0,.int .i64 0] 33)
 obtain⟨y0,y1,y2⟩:=tri8 q0
 have HU0:=ab hb0
 have HQ0:=ab q1
 have HR0:Hid (w0.heap[w.heap.size+1+1]?=some (.cells #[.bool false,.slice none 0 0,.int .i64 0,.bool false,.slice none 0 0,.int .i64 0] 33)):=ab q9
 have C1:=ab hC1
 have C2:=ab hC2
 clear q0 q1 q9 hb0 hC1 hC2
 go_enter Tryz.func94,Tryz.ntmps94
 go_wp2_with fail
 refine (C1.out w0 HU0.out).mono ?_
 rintro e t1 ⟨⟨b6,a6,n6,c6,e6,d6,rfl,hg⟩,g1⟩
 obtain⟨w2,hw2,hb2,q2⟩:=af t1 (.cells #[.bool b6,.slice a6 n6 c6,.int .i64 e6] 31)
 have s2:=ae g1 hb2
 have HU2:=ab (ae HU0.out s2)
 have HX2:=ab q2
 have HD1:=ab ((hg.below hb2).base HU0.out.size)
 have HQ1:=ab (ac s2 HQ0.out)
 have HR1:=ab (ac s2 HR0.out)
 clear g1 hg hb2 q2 s2 y0 y1 y2 hw0
 obtain⟨z0,z1,z2⟩:=tri8 HQ1.out
 go_wp2_with fail
 refine (C2.out w2 HU2.out).mono ?_
 rintro e t3 ⟨⟨b7,a7,n7,c7,e7,d7,rfl,hg⟩,g1⟩
 obtain⟨w4,hw4,hb4,q4⟩:=af t3 (.cells #[.bool b7,.slice a7 n7 c7,.int .i64 e7] 31)
 obtain⟨w6,hw6,hb6,q6⟩:=af w4 (.cells #[.int .i64 d6,.int .i64 d7] 47)
 have s4:=ae (ae g1 hb4) hb6
 have hap:(Value.slice a6 n6 c6).ownBlock=none∨(Value.slice a6 n6 c6).ownBlock≠(Value.slice a7 n7 c7).ownBlock:=by
  obtain⟨r1,i1,_⟩:=HD1.out
  obtain⟨r2,i2,_⟩:=hg
  exact iM (m:=w2.heap.size) (fun g hg'=>(i1.own.lt g hg').2) i2
 have HG:=ab (ae HU2.out s4)
 have HX4:=ab (ac s4 HX2.out)
 have HX5:=ab (ac hb6 q4)
 have hd1:=HD1.out.below s4
 have hd2:=(((hg.below hb4).below hb6).base HU2.out.size)
 have hc1:=hd1.code
 have hc2:=hd2.code
 have HSR:Hid ((ak d6 d7=0→SR w6 w.heap.size b6 (.slice a6 n6 c6) e6 b7 (.slice a7 n7 c7) e7 0 M1 E1 M2 E2)∧(ak d6 d7≠0→∀W,SR W w.heap.size false (.slice none 0 0) 0 false (.slice none 0 0) 0 (ak d6 d7) M1 E1 M2 E2)):=by
  refine ab ⟨fun h0=>?_,fun h0 W=>?_⟩
  ·obtain⟨x1,x2⟩:=cK.1 h0
   rw [x1] at hd1
   rw [x2] at hd2
   exact⟨by rw [←hc1,←hc2,h0],fun _=>⟨hd1,hd2,hap⟩,fun h=>absurd rfl h⟩
  ·exact⟨by rw [←hc1,←hc2],fun h=>absurd h h0,fun _=>⟨rfl,rfl,rfl,rfl,rfl,rfl⟩⟩
 have HC1:=ab (ac s4 HR1.out)
 have RF:=gP w4.heap.size d6 d7 w6 q6
 clear g1 hg hb4 q4 s4 z0 z1 z2 hw2 HD1 hb6 q6 hd1 hd2 hc1 hc2 hap
 generalize ak d6 d7=R at *
 obtain⟨x0,x1,x2⟩:=tri8 HX4.out
 obtain⟨x3,x4,x5⟩:=tri8 HX5.out
 have hf1:=aD HC1.out
 obtain⟨m0,m1,m2,m3,m4,m5⟩:=hexa HC1.out
 by_cases hR:R=0
 ·subst hR
  have HS2:=ab (HSR.out.1 rfl)
  clear HSR
  have HSR:=HS2
  clear HS2
  go_wp2_with fail
  refine RF.mono ?_
  rintro e wn ⟨rfl,hw⟩;rw [hw];clear hw wn RF
  go_wp2
  have T3:=aK HC1.out (.bool b6) (.slice a6 n6 c6) (.int .i64 e6) (.bool b7) (.slice a7 n7 c7) (.int .i64 e7)
  have T4:=aG HG.out (show w.heap.size≤w.heap.size+1+1 by omega) (.bool b6) (.slice a6 n6 c6) (.int .i64 e6) (.bool b7) (.slice a7 n7 c7) (.int .i64 e7)
  have T5:=HSR.out.hexa HC1.out (by decide) (.bool b6) (.slice a6 n6 c6) (.int .i64 e6) (.bool b7) (.slice a7 n7 c7) (.int .i64 e7)
  obtain⟨p0,p1,p2,p3,p4,p5⟩:=hexa T3
  have HE:=ab (And.intro T5 T4)
  clear T3 T4 T5
  generalize (((((w6.setCell ⟨w.heap.size+1+1,0,none⟩ (.bool b6)).setCell ⟨w.heap.size+1+1,1,none⟩ (.slice a6 n6 c6)).setCell ⟨w.heap.size+1+1,2,none⟩ (.int .i64 e6)).setCell ⟨w.heap.size+1+1,3,none⟩ (.bool b7)).setCell ⟨w.heap.size+1+1,4,none⟩ (.slice a7 n7 c7)).setCell ⟨w.heap.size+1+1,5,none⟩ (.int .i64 e7)=w9 at *
  refine bodyPost_ret (v:=.tuple #[.agg #[.bool b6,.slice a6 n6 c6,.int .i64 e6,.bool b7,.slice a7 n7 c7,.int .i64 e7],.int .i64 0]) (by simp [results,Tryz.results94,go_sem,p0,p1,p2,p3,p4,p5]) rfl ?_
  exact⟨⟨_,_,_,_,_,_,_,_,_,_,_,rfl,HE.out.1⟩,HE.out.2⟩
 ·have i9:(R != 0)=true:=by simpa using hR
  have HS2:=ab (HSR.out.2 hR)
  clear HSR hR
  go_wp2_with fail
  refine RF.mono ?_
  rintro e wn ⟨rfl,hw⟩;rw [hw];clear hw wn RF
  go_wp2
  have T3:=aK HC1.out (.bool false) (.slice none 0 0) (.int .i64 0) (.bool false) (.slice none 0 0) (.int .i64 0)
  have T4:=aG HG.out (show w.heap.size≤w.heap.size+1+1 by omega) (.bool false) (.slice none 0 0) (.int .i64 0) (.bool false) (.slice none 0 0) (.int .i64 0)
  obtain⟨p0,p1,p2,p3,p4,p5⟩:=hexa T3
  have HE:=ab T4
  clear T3 T4
  generalize (((((w6.setCell ⟨w.heap.size+1+1,0,none⟩ (.bool false)).setCell ⟨w.heap.size+1+1,1,none⟩ (.slice none 0 0)).setCell ⟨w.heap.size+1+1,2,none⟩ (.int .i64 0)).setCell ⟨w.heap.size+1+1,3,none⟩ (.bool false)).setCell ⟨w.heap.size+1+1,4,none⟩ (.slice none 0 0)).setCell ⟨w.heap.size+1+1,5,none⟩ (.int .i64 0)=w9 at *
  refine bodyPost_ret (v:=.tuple #[.agg #[.bool false,.slice none 0 0,.int .i64 0,.bool false,.slice none 0 0,.int .i64 0],.int .i64 R]) (by simp [results,Tryz.results94,go_sem,p0,p1,p2,p3,p4,p5]) rfl ?_
  exact⟨⟨_,_,_,_,_,_,_,_,_,_,_,rfl,HS2.out _⟩,HE.out⟩

theorem pJ (b1:Bool)(a1:Option Addr)(n1 k1:Nat)(ex1:Int)(b2:Bool)(a2:Option Addr)(n2 k2:Nat)(ex2:Int)(b3:Bool)(a3:Option Addr)(n3 k3:Nat)(ex3:Int)(b4:Bool)(a4:Option Addr)(n4 k4:Nat)(ex4:Int)(M1 E1 M2 E2:Int)(w:World)(hC:∀W,Below w.heap.size w W→Calls Tryz.prog 48 #[.agg #[.bool b1,.slice a1 n1 k1,.int .i64 ex1,.bool b3,.slice a3 n3 k3,.int .i64 ex3],.agg #[.bool b2,.slice a2 n2 k2,.int .i64 ex2,.bool b4,.slice a4 n4 k4,.int .i64 ex4],.func (.func 49) #[] #[]] W fun e w'=>bW W e w' M1 E1 M2 E2) :
  Calls Tryz.prog 22 #[.agg #[.bool b1,.slice a1 n1 k1,.int .i64 ex1,.bool b2,.slice a2 n2 k2,.int .i64 ex2],.agg #[.bool b3,.slice a3 n3 k3,.int .i64 ex3,.bool b4,.slice a4 n4 k4,.int .i64 ex4]] w fun e w'=>bW w e w' M1 E1 M2 E2:=by
 obtain⟨w0,hw0,hb0,q0,q1,q9⟩:=aE w (.cells #[.bool b1,.slice a1 n1 k1,.int .i64 ex1,.bool b2,.slice a2 n2 k2,.int .i64 ex2] 33) (.cells #[.bool b3,.slice a3 n3 k3,.int .i64 ex3,.bool b4,.slice a4 n4 k4,.int .i64 ex4] 33) (.cells #[.bool false,.slice none 0 0,.int .i64 0,.bool false,.slice none 0 0,.int .i64 0] 33)
 obtain⟨y0,y1,y2,y3,y4,y5⟩:=hexa q0
 obtain⟨z0,z1,z2,z3,z4,z5⟩:=hexa q1
 have C:=hC w0 hb0
 have HU0:=ab hb0
 have HR0:Hid (w0.heap[w.heap.size+1+1]?=some (.cells #[.bool false,.slice none 0 0,.int .i64 0,.bool false,.slice none 0 0,.int .i64 0] 33)):=ab q9
 clear q0 q1 q9 hb0 hC
 go_enter Tryz.func22,Tryz.ntmps22
 go_wp2_with fail
 refine C.mono ?_
 rintro e t1 ⟨⟨b6,a6,n6,c6,e6,b7,a7,n7,c7,e7,d7,rfl,hg1⟩,g1⟩
 have HC1:=ab (ac g1 HR0.out)
 have HG:=ab (ae HU0.out g1)
 have HSR:=ab (hg1.base HU0.out.size)
 have hf1:=aD HC1.out
 obtain⟨m0,m1,m2,m3,m4,m5⟩:=hexa HC1.out
 clear g1 C hg1
 go_wp2
 have T3:=aK HC1.out (.bool b6) (.slice a6 n6 c6) (.int .i64 e6) (.bool b7) (.slice a7 n7 c7) (.int .i64 e7)
 have T4:=aG HG.out (show w.heap.size≤w.heap.size+1+1 by omega) (.bool b6) (.slice a6 n6 c6) (.int .i64 e6) (.bool b7) (.slice a7 n7 c7) (.int .i64 e7)
 have T5:=HSR.out.hexa HC1.out (by decide) (.bool b6) (.slice a6 n6 c6) (.int .i64 e6) (.bool b7) (.slice a7 n7 c7) (.int .i64 e7)
 obtain⟨p0,p1,p2,p3,p4,p5⟩:=hexa T3
 have HE:=ab (And.intro T5 T4)
 clear T3 T4 T5
 generalize (((((t1.setCell ⟨w.heap.size+1+1,0,none⟩ (.bool b6)).setCell ⟨w.heap.size+1+1,1,none⟩ (.slice a6 n6 c6)).setCell ⟨w.heap.size+1+1,2,none⟩ (.int .i64 e6)).setCell ⟨w.heap.size+1+1,3,none⟩ (.bool b7)).setCell ⟨w.heap.size+1+1,4,none⟩ (.slice a7 n7 c7)).setCell ⟨w.heap.size+1+1,5,none⟩ (.int .i64 e7)=w9 at *
 refine bodyPost_ret (v:=.tuple #[.agg #[.bool b6,.slice a6 n6 c6,.int .i64 e6,.bool b7,.slice a7 n7 c7,.int .i64 e7],.int .i64 d7]) (by simp [results,Tryz.results22,go_sem,p0,p1,p2,p3,p4,p5]) rfl ?_
 exact⟨⟨_,_,_,_,_,_,_,_,_,_,_,rfl,HE.out.1⟩,HE.out.2⟩

theorem pj (b1:Bool)(a1:Option Addr)(n1 k1:Nat)(ex1:Int)(b2:Bool)(a2:Option Addr)(n2 k2:Nat)(ex2:Int)(b3:Bool)(a3:Option Addr)(n3 k3:Nat)(ex3:Int)(b4:Bool)(a4:Option Addr)(n4 k4:Nat)(ex4:Int)(M1 E1 M2 E2:Int)(w:World)(hC:∀W,Below w.heap.size w W→Calls Tryz.prog 48 #[.agg #[.bool b1,.slice a1 n1 k1,.int .i64 ex1,.bool b4,.slice a4 n4 k4,.int .i64 ex4],.agg #[.bool b2,.slice a2 n2 k2,.int .i64 ex2,.bool b3,.slice a3 n3 k3,.int .i64 ex3],.func (.func 51) #[] #[]] W fun e w'=>bW W e w' M1 E1 M2 E2) :
  Calls Tryz.prog 23 #[.agg #[.bool b1,.slice a1 n1 k1,.int .i64 ex1,.bool b2,.slice a2 n2 k2,.int .i64 ex2],.agg #[.bool b3,.slice a3 n3 k3,.int .i64 ex3,.bool b4,.slice a4 n4 k4,.int .i64 ex4]] w fun e w'=>bW w e w' M1 E1 M2 E2:=by
 obtain⟨w0,hw0,hb0,q0,q1,q9⟩:=aE w (.cells #[.bool b1,.slice a1 n1 k1,.int .i64 ex1,.bool b2,.slice a2 n2 k2,.int .i64 ex2] 33) (.cells #[.bool b3,.slice a3 n3 k3,.int .i64 ex3,.bool b4,.slice a4 n4 k4,.int .i64 ex4] 33) (.cells #[.bool false,.slice none 0 0,.int .i64 0,.bool false,.slice none 0 0,.int .i64 0] 33)
 obtain⟨y0,y1,y2,y3,y4,y5⟩:=hexa q0
 obtain⟨z0,z1,z2,z3,z4,z5⟩:=hexa q1
 have C:=hC w0 hb0
 have HU0:=ab hb0
 have HR0:Hid (w0.heap[w.heap.size+1+1]?=some (.cells #[.bool false,.slice none 0 0,.int .i64 0,.bool false,.slice none 0 0,.int .i64 0] 33)):=ab q9
 clear q0 q1 q9 hb0 hC
 go_enter Tryz.func23,Tryz.ntmps23
 go_wp2_with fail
 refine C.mono ?_
 rintro e t1 ⟨⟨b6,a6,n6,c6,e6,b7,a7,n7,c7,e7,d7,rfl,hg1⟩,g1⟩
 have HC1:=ab (ac g1 HR0.out)
 have HG:=ab (ae HU0.out g1)
 have HSR:=ab (hg1.base HU0.out.size)
 have hf1:=aD HC1.out
 obtain⟨m0,m1,m2,m3,m4,m5⟩:=hexa HC1.out
 clear g1 C hg1
 go_wp2
 have T3:=aK HC1.out (.bool b6) (.slice a6 n6 c6) (.int .i64 e6) (.bool b7) (.slice a7 n7 c7) (.int .i64 e7)
 have T4:=aG HG.out (show w.heap.size≤w.heap.size+1+1 by omega) (.bool b6) (.slice a6 n6 c6) (.int .i64 e6) (.bool b7) (.slice a7 n7 c7) (.int .i64 e7)
 have T5:=HSR.out.hexa HC1.out (by decide) (.bool b6) (.slice a6 n6 c6) (.int .i64 e6) (.bool b7) (.slice a7 n7 c7) (.int .i64 e7)
 obtain⟨p0,p1,p2,p3,p4,p5⟩:=hexa T3
 have HE:=ab (And.intro T5 T4)
 clear T3 T4 T5
 generalize (((((t1.setCell ⟨w.heap.size+1+1,0,none⟩ (.bool b6)).setCell ⟨w.heap.size+1+1,1,none⟩ (.slice a6 n6 c6)).setCell ⟨w.heap.size+1+1,2,none⟩ (.int .i64 e6)).setCell ⟨w.heap.size+1+1,3,none⟩ (.bool b7)).setCell ⟨w.heap.size+1+1,4,none⟩ (.slice a7 n7 c7)).setCell ⟨w.heap.size+1+1,5,none⟩ (.int .i64 e7)=w9 at *
 refine bodyPost_ret (v:=.tuple #[.agg #[.bool b6,.slice a6 n6 c6,.int .i64 e6,.bool b7,.slice a7 n7 c7,.int .i64 e7],.int .i64 d7]) (by simp [results,Tryz.results23,go_sem,p0,p1,p2,p3,p4,p5]) rfl ?_
 exact⟨⟨_,_,_,_,_,_,_,_,_,_,_,rfl,HE.out.1⟩,HE.out.2⟩

theorem pR (b1:Bool)(a1:Option Addr)(n1 k1:Nat)(ex1:Int)(b2:Bool)(a2:Option Addr)(n2 k2:Nat)(ex2:Int)(pos M1 E1 M2 E2:Int)(w:World)(hC1:∀W,Below w.heap.size w W→Calls Tryz.prog 96 #[.agg #[.bool b1,.slice a1 n1 k1,.int .i64 ex1],.int .i64 pos,.int .i64 0] W fun e w'=>aO w' W.heap.size e M1 E1∧Below W.heap.size W w')(hC2:∀W,Below w.heap.size w W→Calls Tryz.prog 96 #[.agg #[.bool b2,.slice a2 n2 k2,.int .i64 ex2],.int .i64 pos,.int .i64 1] W fun e w'=>aO w' W.heap.size e M2 E2∧Below W.heap.size W w') :
  Calls Tryz.prog 76 #[.agg #[.bool b1,.slice a1 n1 k1,.int .i64 ex1,.bool b2,.slice a2 n2 k2,.int .i64 ex2],.int .i64 pos] w fun e w'=>bW w e w' M1 E1 M2 E2:=by
 obtain⟨w0,hw0,hb0,q0,q1,q9⟩:=aE w (.cells #[.bool b1,.slice a1 n1 k1,.int .i64 ex1,.bool b2,.slice a2 n2 k2,.int .i64 ex2] 33) (.cells #[.int .i64 pos] 3) (.cells #[.bool false,.slice none 0 0,.int .i64 0,.bool false,.slice none 0 0,.int .i64 0] 33)
 obtain⟨y0,y1,y2,y3,y4,y5⟩:=hexa q0
 have C:=rP (w.heap.size+1) b1 a1 n1 k1 ex1 b2 a2 n2 k2 ex2 M1 E1 M2 E2 w0 (fun W hg=>kE (w.heap.size+1) pos b1 a1 n1 k1 ex1 0 M1 E1 W (ac hg q1) (fun Z hz=>hC1 Z (ae (ae hb0 hg) hz))) (fun W hg=>kE (w.heap.size+1) pos b2 a2 n2 k2 ex2 1 M2 E2 W (ac hg q1) (fun Z hz=>hC2 Z (ae (ae hb0 hg) hz)))
 have HU0:=ab hb0
 have HR0:Hid (w0.heap[w.heap.size+1+1]?=some (.cells #[.bool false,.slice none 0 0,.int .i64 0,.bool false,.slice none 0 0,.int .i64 0] 33)):=ab q9
 clear q0 q1 q9 hb0 hC1 hC2
 go_enter Tryz.func76,Tryz.ntmps76
 go_wp2_with fail
 refine C.mono ?_
 rintro e t1 ⟨⟨b6,a6,n6,c6,e6,b7,a7,n7,c7,e7,d7,rfl,hg1⟩,g1⟩
 have HC1:=ab (ac g1 HR0.out)
 have HG:=ab (ae HU0.out g1)
 have HSR:=ab (hg1.base HU0.out.size)
 have hf1:=aD HC1.out
 obtain⟨m0,m1,m2,m3,m4,m5⟩:=hexa HC1.out
 clear g1 C hg1
 go_wp2
 have T3:=aK HC1.out (.bool b6) (.slice a6 n6 c6) (.int .i64 e6) (.bool b7) (.slice a7 n7 c7) (.int .i64 e7)
 have T4:=aG HG.out (show w.heap.size≤w.heap.size+1+1 by omega) (.bool b6) (.slice a6 n6 c6) (.int .i64 e6) (.bool b7) (.slice a7 n7 c7) (.int .i64 e7)
 have T5:=HSR.out.hexa HC1.out (by decide) (.bool b6) (.slice a6 n6 c6) (.int .i64 e6) (.bool b7) (.slice a7 n7 c7) (.int .i64 e7)
 obtain⟨p0,p1,p2,p3,p4,p5⟩:=hexa T3
 have HE:=ab (And.intro T5 T4)
 clear T3 T4 T5
 generalize (((((t1.setCell ⟨w.heap.size+1+1,0,none⟩ (.bool b6)).setCell ⟨w.heap.size+1+1,1,none⟩ (.slice a6 n6 c6)).setCell ⟨w.heap.size+1+1,2,none⟩ (.int .i64 e6)).setCell ⟨w.heap.size+1+1,3,none⟩ (.bool b7)).setCell ⟨w.heap.size+1+1,4,none⟩ (.slice a7 n7 c7)).setCell ⟨w.heap.size+1+1,5,none⟩ (.int .i64 e7)=w9 at *
 refine bodyPost_ret (v:=.tuple #[.agg #[.bool b6,.slice a6 n6 c6,.int .i64 e6,.bool b7,.slice a7 n7 c7,.int .i64 e7],.int .i64 d7]) (by simp [results,Tryz.results76,go_sem,p0,p1,p2,p3,p4,p5]) rfl ?_
 exact⟨⟨_,_,_,_,_,_,_,_,_,_,_,rfl,HE.out.1⟩,HE.out.2⟩

theorem rY (b1:Bool)(a1:Option Addr)(n1 k1:Nat)(ex1:Int)(b2:Bool)(a2:Option Addr)(n2 k2:Nat)(ex2:Int)(pos M1 E1 M2 E2:Int)(w:World)(hC:∀W,Below w.heap.size w W→Calls Tryz.prog 76 #[.agg #[.bool b1,.slice a1 n1 k1,.int .i64 ex1,.bool b2,.slice a2 n2 k2,.int .i64 ex2],.int .i64 pos] W fun e w'=>bW W e w' M1 E1 M2 E2) :
  Calls Tryz.prog 47 #[.agg #[.bool b1,.slice a1 n1 k1,.int .i64 ex1,.bool b2,.slice a2 n2 k2,.int .i64 ex2],.int .i64 0,.int .i64 pos] w fun e w'=>bW w e w' M1 E1 M2 E2:=by
 obtain⟨w0,hw0,hb0,q0,q9⟩:=aA w (.cells #[.bool b1,.slice a1 n1 k1,.int .i64 ex1,.bool b2,.slice a2 n2 k2,.int .i64 ex2] 33) (.cells #[.bool false,.slice none 0 0,.int .i64 0,.bool false,.slice none 0 0,.int .i64 0] 33)
 obtain⟨y0,y1,y2,y3,y4,y5⟩:=hexa q0
 have C:=hC w0 hb0
 have HU0:=ab hb0
 have HR0:=ab q9
 clear q0 q9 hb0 hC
 go_enter Tryz.func47,Tryz.ntmps47
 go_wp2_with fail
 refine C.mono ?_
 rintro e t1 ⟨⟨b6,a6,n6,c6,e6,b7,a7,n7,c7,e7,d7,rfl,hg1⟩,g1⟩
 have HC1:=ab (ac g1 HR0.out)
 have HG:=ab (ae HU0.out g1)
 have HSR:=ab (hg1.base HU0.out.size)
 have hf1:=aD HC1.out
 obtain⟨m0,m1,m2,m3,m4,m5⟩:=hexa HC1.out
 clear g1 C hg1
 go_wp2
 have T3:=aK HC1.out (.bool b6) (.slice a6 n6 c6) (.int .i64 e6) (.bool b7) (.slice a7 n7 c7) (.int .i64 e7)
 have T4:=aG HG.out (show w.heap.size≤w.heap.size+1 by omega) (.bool b6) (.slice a6 n6 c6) (.int .i64 e6) (.bool b7) (.slice a7 n7 c7) (.int .i64 e7)
 have T5:=HSR.out.hexa HC1.out (by decide) (.bool b6) (.slice a6 n6 c6) (.int .i64 e6) (.bool b7) (.slice a7 n7 c7) (.int .i64 e7)
 obtain⟨p0,p1,p2,p3,p4,p5⟩:=hexa T3
 have HE:=ab (And.intro T5 T4)
 clear T3 T4 T5
 generalize (((((t1.setCell ⟨w.heap.size+1,0,none⟩ (.bool b6)).setCell ⟨w.heap.size+1,1,none⟩ (.slice a6 n6 c6)).setCell ⟨w.heap.size+1,2,none⟩ (.int .i64 e6)).setCell ⟨w.heap.size+1,3,none⟩ (.bool b7)).setCell ⟨w.heap.size+1,4,none⟩ (.slice a7 n7 c7)).setCell ⟨w.heap.size+1,5,none⟩ (.int .i64 e7)=w9 at *
 refine bodyPost_ret (v:=.tuple #[.agg #[.bool b6,.slice a6 n6 c6,.int .i64 e6,.bool b7,.slice a7 n7 c7,.int .i64 e7],.int .i64 d7]) (by simp [results,Tryz.results47,go_sem,p0,p1,p2,p3,p4,p5]) rfl ?_
 exact⟨⟨_,_,_,_,_,_,_,_,_,_,_,rfl,HE.out.1⟩,HE.out.2⟩

theorem ig (b1:Bool)(a1:Option Addr)(n1 k1:Nat)(ex1:Int)(b2:Bool)(a2:Option Addr)(n2 k2:Nat)(ex2:Int)(m pos:Int)(w:World)(hm:m≠0) :
  Calls Tryz.prog 47 #[.agg #[.bool b1,.slice a1 n1 k1,.int .i64 ex1,.bool b2,.slice a2 n2 k2,.int .i64 ex2],.int .i64 m,.int .i64 pos] w fun e w'=>bK w m e w':=by
 obtain⟨w0,hw0,hb0,q0,q9⟩:=aA w (.cells #[.bool b1,.slice a1 n1 k1,.int .i64 ex1,.bool b2,.slice a2 n2 k2,.int .i64 ex2] 33) (.cells #[.bool false,.slice none 0 0,.int .i64 0,.bool false,.slice none 0 0,.int .i64 0] 33)
 have HG:=ab hb0
 have HC1:=ab q9
 have i9:(m != 0)=true:=by simpa using hm
 have hf1:=aD HC1.out
 obtain⟨m0,m1,m2,m3,m4,m5⟩:=hexa HC1.out
 clear q0 q9 hb0 hm
 go_enter Tryz.func47,Tryz.ntmps47
 go_wp2
 have T3:=aK HC1.out (.bool false) (.slice none 0 0) (.int .i64 0) (.bool false) (.slice none 0 0) (.int .i64 0)
 have T4:=aG HG.out (show w.heap.size≤w.heap.size+1 by omega) (.bool false) (.slice none 0 0) (.int .i64 0) (.bool false) (.slice none 0 0) (.int .i64 0)
 obtain⟨p0,p1,p2,p3,p4,p5⟩:=hexa T3
 have HE:=ab T4
 clear T3 T4
 generalize (((((w0.setCell ⟨w.heap.size+1,0,none⟩ (.bool false)).setCell ⟨w.heap.size+1,1,none⟩ (.slice none 0 0)).setCell ⟨w.heap.size+1,2,none⟩ (.int .i64 0)).setCell ⟨w.heap.size+1,3,none⟩ (.bool false)).setCell ⟨w.heap.size+1,4,none⟩ (.slice none 0 0)).setCell ⟨w.heap.size+1,5,none⟩ (.int .i64 0)=w9 at *
 refine bodyPost_ret (v:=.tuple #[.agg #[.bool false,.slice none 0 0,.int .i64 0,.bool false,.slice none 0 0,.int .i64 0],.int .i64 m]) (by simp [results,Tryz.results47,go_sem,p0,p1,p2,p3,p4,p5]) rfl ?_
 exact⟨rfl,HE.out⟩

def ca (w:World)(b1:Bool)(a1:Option Addr)(n1 k1:Nat)(ex1:Int)(b2:Bool)(a2:Option Addr)(n2 k2:Nat)(ex2:Int)(b3:Bool)(a3:Option Addr)(n3 k3:Nat)(ex3:Int)(b4:Bool)(a4:Option Addr)(n4 k4:Nat)(ex4:Int)(pos F:Int):Prop:=
 ∀W gs,Below w.heap.size w W→W.heap[gs]?=some (.cells #[.bool b1,.slice a1 n1 k1,.int .i64 ex1,.bool b2,.slice a2 n2 k2,.int .i64 ex2,.bool b3,.slice a3 n3 k3,.int .i64 ex3,.bool b4,.slice a4 n4 k4,.int .i64 ex4] 33)→Calls Tryz.prog 46 #[.int .i64 pos,.slice (some ⟨gs,0,none⟩) 2 2] W fun e w'=>e=.returned (.int .i64 F)∧Below W.heap.size W w'

theorem gD.at {w:World}{b1:Bool}{a1:Option Addr}{n1 k1:Nat}{ex1:Int}{b2:Bool}{a2:Option Addr}{n2 k2:Nat}{ex2:Int}{b3:Bool}{a3:Option Addr}{n3 k3:Nat}{ex3:Int}{b4:Bool}{a4:Option Addr}{n4 k4:Nat}{ex4 F:Int}(h:gD w b1 a1 n1 k1 ex1 b2 a2 n2 k2 ex2 b3 a3 n3 k3 ex3 b4 a4 n4 k4 ex4 F)(pos:Int):ca w b1 a1 n1 k1 ex1 b2 a2 n2 k2 ex2 b3 a3 n3 k3 ex3 b4 a4 n4 k4 ex4 pos (aY F pos):=
 fun W gs hb hg=>sD _ F pos W (h W gs hb hg)

end Go.Proofs.YteflkojglmleaaaGreatDoor
