/- Package span: joined over sums, differences and products; Add, Sub, Mul, with what they refuse. -/
import Derived.Test.YteflkojglmleaaaGreatDoorB12
set_option maxRecDepth 20000
set_option maxHeartbeats 4000000
namespace Go.Proofs.YteflkojglmleaaaGreatDoor
open Go.RowKit
open Lm
attribute [local go_sem ↓] Go.wp_at_zero Go.wp_at_succ

theorem nH (b1:Bool)(a1:Option Addr)(n1 k1:Nat)(ex1:Int)(b2:Bool)(a2:Option Addr)(n2 k2:Nat)(ex2:Int)(b3:Bool)(a3:Option Addr)(n3 k3:Nat)(ex3:Int)(b4:Bool)(a4:Option Addr)(n4 k4:Nat)(ex4:Int)(pos F:Int)(w:World)(hF:ca w b1 a1 n1 k1 ex1 b2 a2 n2 k2 ex2 b3 a3 n3 k3 ex3 b4 a4 n4 k4 ex4 pos F)(h0:F≠0) :
  Calls Tryz.prog 21 #[.agg #[.bool b1,.slice a1 n1 k1,.int .i64 ex1,.bool b2,.slice a2 n2 k2,.int .i64 ex2],.agg #[.bool b3,.slice a3 n3 k3,.int .i64 ex3,.bool b4,.slice a4 n4 k4,.int .i64 ex4],.int .i64 pos,.func (.func 22) #[] #[]] w fun e w'=>bK w F e w':=by
 obtain⟨w0,hw0,hb0,q0,q1,q9⟩:=aE w (.cells #[.bool b1,.slice a1 n1 k1,.int .i64 ex1,.bool b2,.slice a2 n2 k2,.int .i64 ex2] 33) (.cells #[.bool b3,.slice a3 n3 k3,.int .i64 ex3,.bool b4,.slice a4 n4 k4,.int .i64 ex4] 33) (.cells #[.bool false,.slice none 0 0,.int .i64 0,.bool false,.slice none 0 0,.int .i64 0] 33)
 obtain⟨w1,hw1,hb1,q2⟩:=af w0 (.cells #[.bool b1,.slice a1 n1 k1,.int .i64 ex1,.bool b2,.slice a2 n2 k2,.int .i64 ex2,.bool b3,.slice a3 n3 k3,.int .i64 ex3,.bool b4,.slice a4 n4 k4,.int .i64 ex4] 33)
 obtain⟨y0,y1,y2,y3,y4,y5⟩:=hexa q0
 obtain⟨z0,z1,z2,z3,z4,z5⟩:=hexa q1
 have CF:=hF w1 w0.heap.size (ae hb0 hb1) q2
 have HU1:=ab (ae hb0 hb1)
 have HQ0:=ab (ac hb1 q0)
 have HQ1:=ab (ac hb1 q1)
 have HR1:Hid (w1.heap[w.heap.size+1+1]?=some (.cells #[.bool false,.slice none 0 0,.int .i64 0,.bool false,.slice none 0 0,.int .i64 0] 33)):=ab (ac hb1 q9)
 have i9:(F != 0)=true:=by simpa using h0
 clear q0 q1 q2 q9 hb0 hb1 hF h0
 go_enter Tryz.func21,Tryz.ntmps21
 go_wp2_with fail
 refine CF.mono ?_
 rintro e t1 ⟨rfl,g1⟩
 have HC1:=ab (ac g1 HR1.out)
 have HG:=ab (ae HU1.out g1)
 have hf1:=aD HC1.out
 obtain⟨m0,m1,m2,m3,m4,m5⟩:=hexa HC1.out
 clear g1 CF y0 y1 y2 y3 y4 y5 z0 z1 z2 z3 z4 z5 hw0 hw1
 go_wp2
 have T3:=aK HC1.out (.bool false) (.slice none 0 0) (.int .i64 0) (.bool false) (.slice none 0 0) (.int .i64 0)
 have T4:=aG HG.out (show w.heap.size≤w.heap.size+1+1 by omega) (.bool false) (.slice none 0 0) (.int .i64 0) (.bool false) (.slice none 0 0) (.int .i64 0)
 obtain⟨p0,p1,p2,p3,p4,p5⟩:=hexa T3
 have HE:=ab T4
 clear T3 T4
 generalize (((((t1.setCell ⟨w.heap.size+1+1,0,none⟩ (.bool false)).setCell ⟨w.heap.size+1+1,1,none⟩ (.slice none 0 0)).setCell ⟨w.heap.size+1+1,2,none⟩ (.int .i64 0)).setCell ⟨w.heap.size+1+1,3,none⟩ (.bool false)).setCell ⟨w.heap.size+1+1,4,none⟩ (.slice none 0 0)).setCell ⟨w.heap.size+1+1,5,none⟩ (.int .i64 0)=w9 at *
 refine bodyPost_ret (v:=.tuple #[.agg #[.bool false,.slice none 0 0,.int .i64 0,.bool false,.slice none 0 0,.int .i64 0],.int .i64 F]) (by simp [results,Tryz.results21,go_sem,p0,p1,p2,p3,p4,p5]) rfl ?_
 exact⟨rfl,HE.out⟩

theorem sz (b1:Bool)(a1:Option Addr)(n1 k1:Nat)(ex1:Int)(b2:Bool)(a2:Option Addr)(n2 k2:Nat)(ex2:Int)(b3:Bool)(a3:Option Addr)(n3 k3:Nat)(ex3:Int)(b4:Bool)(a4:Option Addr)(n4 k4:Nat)(ex4:Int)(pos m:Int)(w:World)(hF:ca w b1 a1 n1 k1 ex1 b2 a2 n2 k2 ex2 b3 a3 n3 k3 ex3 b4 a4 n4 k4 ex4 pos 0)(h0:m≠0)(hW:∀W,Below w.heap.size w W→Calls Tryz.prog 22 #[.agg #[.bool b1,.slice a1 n1 k1,.int .i64 ex1,.bool b2,.slice a2 n2 k2,.int .i64 ex2],.agg #[.bool b3,.slice a3 n3 k3,.int .i64 ex3,.bool b4,.slice a4 n4 k4,.int .i64 ex4]] W fun e w'=>(∃b1 a1 n1 k1 e1 b2 a2 n2 k2 e2,e=.returned (.tuple #[.agg #[.bool b1,.slice a1 n1 k1,.int .i64 e1,.bool b2,.slice a2 n2 k2,.int .i64 e2],.int .i64 m]))∧Below W.heap.size W w') :
  Calls Tryz.prog 21 #[.agg #[.bool b1,.slice a1 n1 k1,.int .i64 ex1,.bool b2,.slice a2 n2 k2,.int .i64 ex2],.agg #[.bool b3,.slice a3 n3 k3,.int .i64 ex3,.bool b4,.slice a4 n4 k4,.int .i64 ex4],.int .i64 pos,.func (.func 22) #[] #[]] w fun e w'=>bK w m e w':=by
 obtain⟨w0,hw0,hb0,q0,q1,q9⟩:=aE w (.cells #[.bool b1,.slice a1 n1 k1,.int .i64 ex1,.bool b2,.slice a2 n2 k2,.int .i64 ex2] 33) (.cells #[.bool b3,.slice a3 n3 k3,.int .i64 ex3,.bool b4,.slice a4 n4 k4,.int .i64 ex4] 33) (.cells #[.bool false,.slice none 0 0,.int .i64 0,.bool false,.slice none 0 0,.int .i64 0] 33)
 obtain⟨w1,hw1,hb1,q2⟩:=af w0 (.cells #[.bool b1,.slice a1 n1 k1,.int .i64 ex1,.bool b2,.slice a2 n2 k2,.int .i64 ex2,.bool b3,.slice a3 n3 k3,.int .i64 ex3,.bool b4,.slice a4 n4 k4,.int .i64 ex4] 33)
 obtain⟨y0,y1,y2,y3,y4,y5⟩:=hexa q0
 obtain⟨z0,z1,z2,z3,z4,z5⟩:=hexa q1
 have CF:=hF w1 w0.heap.size (ae hb0 hb1) q2
 have HU1:=ab (ae hb0 hb1)
 have HQ0:=ab (ac hb1 q0)
 have HQ1:=ab (ac hb1 q1)
 have HR1:Hid (w1.heap[w.heap.size+1+1]?=some (.cells #[.bool false,.slice none 0 0,.int .i64 0,.bool false,.slice none 0 0,.int .i64 0] 33)):=ab (ac hb1 q9)
 have HWK:=ab hW
 have HM0:=ab h0
 clear q0 q1 q2 q9 hb0 hb1 hF h0 hW
 go_enter Tryz.func21,Tryz.ntmps21
 go_wp2_with fail
 refine CF.mono ?_
 rintro e t2 ⟨rfl,g2⟩
 have HU2:=ab (ae HU1.out g2)
 have HR2:=ab (ac g2 HR1.out)
 have C:=HWK.out t2 HU2.out
 clear y0 y1 y2 y3 y4 y5 z0 z1 z2 z3 z4 z5 CF hw0 hw1
 obtain⟨y0,y1,y2,y3,y4,y5⟩:=hexa (ac g2 HQ0.out)
 obtain⟨z0,z1,z2,z3,z4,z5⟩:=hexa (ac g2 HQ1.out)
 clear g2
 go_wp2_with fail
 refine C.mono ?_
 rintro e t3 ⟨⟨b8,a8,n8,c8,e8,b9,a9,n9,c9,e9,rfl⟩,g3⟩
 obtain⟨w4,hw4,hb4,q4⟩:=af t3 (.cells #[.bool b8,.slice a8 n8 c8,.int .i64 e8,.bool b9,.slice a9 n9 c9,.int .i64 e9] 33)
 have s4:=ae g3 hb4
 have HU0:=ab (ae HU2.out s4)
 have HR0:=ab (ac s4 HR2.out)
 have C4:=ig b8 a8 n8 c8 e8 b9 a9 n9 c9 e9 m pos w4 HM0.out
 clear y0 y1 y2 y3 y4 y5 z0 z1 z2 z3 z4 z5 C g3 hb4 s4
 obtain⟨x0,x1,x2,x3,x4,x5⟩:=hexa q4
 clear q4
 have C:=C4
 clear C4
 go_wp2_with fail
 refine C.mono ?_
 rintro e t1 ⟨rfl,g1⟩
 have HC1:=ab (ac g1 HR0.out)
 have HG:=ab (ae HU0.out g1)
 have hf1:=aD HC1.out
 obtain⟨m0,m1,m2,m3,m4,m5⟩:=hexa HC1.out
 clear g1 C
 go_wp2
 have T3:=aK HC1.out (.bool false) (.slice none 0 0) (.int .i64 0) (.bool false) (.slice none 0 0) (.int .i64 0)
 have T4:=aG HG.out (show w.heap.size≤w.heap.size+1+1 by omega) (.bool false) (.slice none 0 0) (.int .i64 0) (.bool false) (.slice none 0 0) (.int .i64 0)
 obtain⟨p0,p1,p2,p3,p4,p5⟩:=hexa T3
 have HE:=ab T4
 clear T3 T4
 generalize (((((t1.setCell ⟨w.heap.size+1+1,0,none⟩ (.bool false)).setCell ⟨w.heap.size+1+1,1,none⟩ (.slice none 0 0)).setCell ⟨w.heap.size+1+1,2,none⟩ (.int .i64 0)).setCell ⟨w.heap.size+1+1,3,none⟩ (.bool false)).setCell ⟨w.heap.size+1+1,4,none⟩ (.slice none 0 0)).setCell ⟨w.heap.size+1+1,5,none⟩ (.int .i64 0)=w9 at *
 refine bodyPost_ret (v:=.tuple #[.agg #[.bool false,.slice none 0 0,.int .i64 0,.bool false,.slice none 0 0,.int .i64 0],.int .i64 m]) (by simp [results,Tryz.results21,go_sem,p0,p1,p2,p3,p4,p5]) rfl ?_
 exact⟨rfl,HE.out⟩

theorem tB (b1:Bool)(a1:Option Addr)(n1 k1:Nat)(ex1:Int)(b2:Bool)(a2:Option Addr)(n2 k2:Nat)(ex2:Int)(b3:Bool)(a3:Option Addr)(n3 k3:Nat)(ex3:Int)(b4:Bool)(a4:Option Addr)(n4 k4:Nat)(ex4:Int)(pos:Int)(K:Nat)(VA VB VC VD:Int)(w:World)(hF:ca w b1 a1 n1 k1 ex1 b2 a2 n2 k2 ex2 b3 a3 n3 k3 ex3 b4 a4 n4 k4 ex4 pos 0)(hW:∀W,Below w.heap.size w W→Calls Tryz.prog 22 #[.agg #[.bool b1,.slice a1 n1 k1,.int .i64 ex1,.bool b2,.slice a2 n2 k2,.int .i64 ex2],.agg #[.bool b3,.slice a3 n3 k3,.int .i64 ex3,.bool b4,.slice a4 n4 k4,.int .i64 ex4]] W fun e w'=>(∃b1 a1 n1 k1 e1 b2 a2 n2 k2 e2,e=.returned (.tuple #[.agg #[.bool b1,.slice a1 n1 k1,.int .i64 e1,.bool b2,.slice a2 n2 k2,.int .i64 e2],.int .i64 0])∧N8 w' b1 a1 n1 k1 e1 K VA∧N8 w' b2 a2 n2 k2 e2 K VB)∧Below W.heap.size W w')(hO:∀W (b1:Bool) (a1:Option Addr) (n1 k1:Nat) (ex1:Int) (b2:Bool) (a2:Option Addr) (n2 k2:Nat) (ex2:Int),Below w.heap.size w W→N8 W b1 a1 n1 k1 ex1 K VA→N8 W b2 a2 n2 k2 ex2 K VB→Calls Tryz.prog 47 #[.agg #[.bool b1,.slice a1 n1 k1,.int .i64 ex1,.bool b2,.slice a2 n2 k2,.int .i64 ex2],.int .i64 0,.int .i64 pos] W fun e w'=>bB W e w' 0 K VC VD) :
  Calls Tryz.prog 21 #[.agg #[.bool b1,.slice a1 n1 k1,.int .i64 ex1,.bool b2,.slice a2 n2 k2,.int .i64 ex2],.agg #[.bool b3,.slice a3 n3 k3,.int .i64 ex3,.bool b4,.slice a4 n4 k4,.int .i64 ex4],.int .i64 pos,.func (.func 22) #[] #[]] w fun e w'=>bB w e w' 0 K VC VD:=by
 obtain⟨w0,hw0,hb0,q0,q1,q9⟩:=aE w (.cells #[.bool b1,.slice a1 n1 k1,.int .i64 ex1,.bool b2,.slice a2 n2 k2,.int .i64 ex2] 33) (.cells #[.bool b3,.slice a3 n3 k3,.int .i64 ex3,.bool b4,.slice a4 n4 k4,.int .i64 ex4] 33) (.cells #[.bool false,.slice none 0 0,.int .i64 0,.bool false,.slice none 0 0,.int .i64 0] 33)
 obtain⟨w1,hw1,hb1,q2⟩:=af w0 (.cells #[.bool b1,.slice a1 n1 k1,.int .i64 ex1,.bool b2,.slice a2 n2 k2,.int .i64 ex2,.bool b3,.slice a3 n3 k3,.int .i64 ex3,.bool b4,.slice a4 n4 k4,.int .i64 ex4] 33)
 obtain⟨y0,y1,y2,y3,y4,y5⟩:=hexa q0
 obtain⟨z0,z1,z2,z3,z4,z5⟩:=hexa q1
 have CF:=hF w1 w0.heap.size (ae hb0 hb1) q2
 have HU1:=ab (ae hb0 hb1)
 have HQ0:=ab (ac hb1 q0)
 have HQ1:=ab (ac hb1 q1)
 have HR1:Hid (w1.heap[w.heap.size+1+1]?=some (.cells #[.bool false,.slice none 0 0,.int .i64 0,.bool false,.slice none 0 0,.int .i64 0] 33)):=ab (ac hb1 q9)
 have HWK:=ab hW
 have HOO:=ab hO
 clear q0 q1 q2 q9 hb0 hb1 hF hW hO
 go_enter Tryz.func21,Tryz.ntmps21
 go_wp2_with fail
 refine CF.mono ?_
 rintro e t2 ⟨rfl,g2⟩
 have HU2:=ab (ae HU1.out g2)
 have HR2:=ab (ac g2 HR1.out)
 have C:=HWK.out t2 HU2.out
 clear y0 y1 y2 y3 y4 y5 z0 z1 z2 z3 z4 z5 CF hw0 hw1
 obtain⟨y0,y1,y2,y3,y4,y5⟩:=hexa (ac g2 HQ0.out)
 obtain⟨z0,z1,z2,z3,z4,z5⟩:=hexa (ac g2 HQ1.out)
 clear g2
 go_wp2_with fail
 refine C.mono ?_
 rintro e t3 ⟨⟨b8,a8,n8,c8,e8,b9,a9,n9,c9,e9,rfl,hn1,hn2⟩,g3⟩
 obtain⟨w4,hw4,hb4,q4⟩:=af t3 (.cells #[.bool b8,.slice a8 n8 c8,.int .i64 e8,.bool b9,.slice a9 n9 c9,.int .i64 e9] 33)
 have s4:=ae g3 hb4
 have HU0:=ab (ae HU2.out s4)
 have HR0:=ab (ac s4 HR2.out)
 have C4:=HOO.out w4 b8 a8 n8 c8 e8 b9 a9 n9 c9 e9 HU0.out (hn1.below hb4) (hn2.below hb4)
 clear y0 y1 y2 y3 y4 y5 z0 z1 z2 z3 z4 z5 C g3 hb4 s4 hn1 hn2
 obtain⟨x0,x1,x2,x3,x4,x5⟩:=hexa q4
 clear q4
 have C:=C4
 clear C4
 go_wp2_with fail
 refine C.mono ?_
 rintro e t1 ⟨⟨b6,a6,n6,c6,e6,b7,a7,n7,c7,e7,d7,rfl,hg1⟩,g1⟩
 have HC1:=ab (ac g1 HR0.out)
 have HG:=ab (ae HU0.out g1)
 have HSR:=ab (hg1.base HU0.out.size)
 have hf1:=aD HC1.out
 obtain⟨m0,m1,m2,m3,m4,m5⟩:=hexa HC1.out
 clear g1 C hg1
 go_wp2
 have T3:=aK HC1.out (.bool b6) (.slice a6 n6 c6) (.int .i64 e6) (.bool b7) (.slice a7 n7 c7) (.int .i64 e7)
 have T4:=aG HG.out (show w.heap.size≤w.heap.size+1+1 by omega) (.bool b6) (.slice a6 n6 c6) (.int .i64 e6) (.bool b7) (.slice a7 n7 c7) (.int .i64 e7)
 have T5:=HSR.out.hexa HC1.out (by decide) (.bool b6) (.slice a6 n6 c6) (.int .i64 e6) (.bool b7) (.slice a7 n7 c7) (.int .i64 e7)
 obtain⟨p0,p1,p2,p3,p4,p5⟩:=hexa T3
 have HE:=ab (And.intro T5 T4)
 clear T3 T4 T5
 generalize (((((t1.setCell ⟨w.heap.size+1+1,0,none⟩ (.bool b6)).setCell ⟨w.heap.size+1+1,1,none⟩ (.slice a6 n6 c6)).setCell ⟨w.heap.size+1+1,2,none⟩ (.int .i64 e6)).setCell ⟨w.heap.size+1+1,3,none⟩ (.bool b7)).setCell ⟨w.heap.size+1+1,4,none⟩ (.slice a7 n7 c7)).setCell ⟨w.heap.size+1+1,5,none⟩ (.int .i64 e7)=w9 at *
 refine bodyPost_ret (v:=.tuple #[.agg #[.bool b6,.slice a6 n6 c6,.int .i64 e6,.bool b7,.slice a7 n7 c7,.int .i64 e7],.int .i64 d7]) (by simp [results,Tryz.results21,go_sem,p0,p1,p2,p3,p4,p5]) rfl ?_
 exact⟨⟨_,_,_,_,_,_,_,_,_,_,_,rfl,HE.out.1⟩,HE.out.2⟩

theorem jP (b1:Bool)(a1:Option Addr)(n1 k1:Nat)(ex1:Int)(b2:Bool)(a2:Option Addr)(n2 k2:Nat)(ex2:Int)(b3:Bool)(a3:Option Addr)(n3 k3:Nat)(ex3:Int)(b4:Bool)(a4:Option Addr)(n4 k4:Nat)(ex4:Int)(pos F:Int)(w:World)(hJ:∀W,Below w.heap.size w W→Calls Tryz.prog 21 #[.agg #[.bool b1,.slice a1 n1 k1,.int .i64 ex1,.bool b2,.slice a2 n2 k2,.int .i64 ex2],.agg #[.bool b3,.slice a3 n3 k3,.int .i64 ex3,.bool b4,.slice a4 n4 k4,.int .i64 ex4],.int .i64 pos,.func (.func 22) #[] #[]] W fun e w'=>bK W F e w') :
  Calls Tryz.prog 7 #[.agg #[.bool b1,.slice a1 n1 k1,.int .i64 ex1,.bool b2,.slice a2 n2 k2,.int .i64 ex2],.agg #[.bool b3,.slice a3 n3 k3,.int .i64 ex3,.bool b4,.slice a4 n4 k4,.int .i64 ex4],.int .i64 pos] w fun e w'=>bK w F e w':=by
 obtain⟨w0,hw0,hb0,q0,q1,q9⟩:=aE w (.cells #[.bool b1,.slice a1 n1 k1,.int .i64 ex1,.bool b2,.slice a2 n2 k2,.int .i64 ex2] 33) (.cells #[.bool b3,.slice a3 n3 k3,.int .i64 ex3,.bool b4,.slice a4 n4 k4,.int .i64 ex4] 33) (.cells #[.bool false,.slice none 0 0,.int .i64 0,.bool false,.slice none 0 0,.int .i64 0] 33)
 obtain⟨y0,y1,y2,y3,y4,y5⟩:=hexa q0
 obtain⟨z0,z1,z2,z3,z4,z5⟩:=hexa q1
 have C:=hJ w0 hb0
 have HU0:=ab hb0
 have HR0:Hid (w0.heap[w.heap.size+1+1]?=some (.cells #[.bool false,.slice none 0 0,.int .i64 0,.bool false,.slice none 0 0,.int .i64 0] 33)):=ab q9
 clear q0 q1 q9 hb0 hJ
 go_enter Tryz.func7,Tryz.ntmps7
 go_wp2_with fail
 refine C.mono ?_
 rintro e t1 ⟨he,g1⟩
 obtain⟨b6,a6,n6,c6,e6,b7,a7,n7,c7,e7,rfl,heq⟩:∃b6 a6 n6 c6 e6 b7 a7 n7 c7 e7,e=.returned (.tuple #[.agg #[.bool b6,.slice a6 n6 c6,.int .i64 e6,.bool b7,.slice a7 n7 c7,.int .i64 e7],.int .i64 F])∧(b6=false∧a6=none∧n6=0∧c6=0∧e6=0∧b7=false∧a7=none∧n7=0∧c7=0∧e7=0):=⟨_,_,_,_,_,_,_,_,_,_,he,rfl,rfl,rfl,rfl,rfl,rfl,rfl,rfl,rfl,rfl⟩
 have HQ:=ab heq
 clear he heq
 have HC1:=ab (ac g1 HR0.out)
 have HG:=ab (ae HU0.out g1)
 have hf1:=aD HC1.out
 obtain⟨m0,m1,m2,m3,m4,m5⟩:=hexa HC1.out
 clear g1 C
 go_wp2
 have T3:=aK HC1.out (.bool b6) (.slice a6 n6 c6) (.int .i64 e6) (.bool b7) (.slice a7 n7 c7) (.int .i64 e7)
 have T4:=aG HG.out (show w.heap.size≤w.heap.size+1+1 by omega) (.bool b6) (.slice a6 n6 c6) (.int .i64 e6) (.bool b7) (.slice a7 n7 c7) (.int .i64 e7)
 obtain⟨p0,p1,p2,p3,p4,p5⟩:=hexa T3
 have HE:=ab T4
 clear T3 T4
 generalize (((((t1.setCell ⟨w.heap.size+1+1,0,none⟩ (.bool b6)).setCell ⟨w.heap.size+1+1,1,none⟩ (.slice a6 n6 c6)).setCell ⟨w.heap.size+1+1,2,none⟩ (.int .i64 e6)).setCell ⟨w.heap.size+1+1,3,none⟩ (.bool b7)).setCell ⟨w.heap.size+1+1,4,none⟩ (.slice a7 n7 c7)).setCell ⟨w.heap.size+1+1,5,none⟩ (.int .i64 e7)=w9 at *
 refine bodyPost_ret (v:=.tuple #[.agg #[.bool b6,.slice a6 n6 c6,.int .i64 e6,.bool b7,.slice a7 n7 c7,.int .i64 e7],.int .i64 F]) (by simp [results,Tryz.results7,go_sem,p0,p1,p2,p3,p4,p5]) rfl ?_
 obtain⟨rfl,rfl,rfl,rfl,rfl,rfl,rfl,rfl,rfl,rfl⟩:=HQ.out
 exact⟨rfl,HE.out⟩

theorem qZ (b1:Bool)(a1:Option Addr)(n1 k1:Nat)(ex1:Int)(b2:Bool)(a2:Option Addr)(n2 k2:Nat)(ex2:Int)(b3:Bool)(a3:Option Addr)(n3 k3:Nat)(ex3:Int)(b4:Bool)(a4:Option Addr)(n4 k4:Nat)(ex4:Int)(pos:Int)(K:Nat)(VC VD:Int)(w:World)(hJ:∀W,Below w.heap.size w W→Calls Tryz.prog 21 #[.agg #[.bool b1,.slice a1 n1 k1,.int .i64 ex1,.bool b2,.slice a2 n2 k2,.int .i64 ex2],.agg #[.bool b3,.slice a3 n3 k3,.int .i64 ex3,.bool b4,.slice a4 n4 k4,.int .i64 ex4],.int .i64 pos,.func (.func 22) #[] #[]] W fun e w'=>bB W e w' 0 K VC VD) :
  Calls Tryz.prog 7 #[.agg #[.bool b1,.slice a1 n1 k1,.int .i64 ex1,.bool b2,.slice a2 n2 k2,.int .i64 ex2],.agg #[.bool b3,.slice a3 n3 k3,.int .i64 ex3,.bool b4,.slice a4 n4 k4,.int .i64 ex4],.int .i64 pos] w fun e w'=>bB w e w' 0 K VC VD:=by
 obtain⟨w0,hw0,hb0,q0,q1,q9⟩:=aE w (.cells #[.bool b1,.slice a1 n1 k1,.int .i64 ex1,.bool b2,.slice a2 n2 k2,.int .i64 ex2] 33) (.cells #[.bool b3,.slice a3 n3 k3,.int .i64 ex3,.bool b4,.slice a4 n4 k4,.int .i64 ex4] 33) (.cells #[.bool false,.slice none 0 0,.int .i64 0,.bool false,.slice none 0 0,.int .i64 0] 33)
 obtain⟨y0,y1,y2,y3,y4,y5⟩:=hexa q0
 obtain⟨z0,z1,z2,z3,z4,z5⟩:=hexa q1
 have C:=hJ w0 hb0
 have HU0:=ab hb0
 have HR0:Hid (w0.heap[w.heap.size+1+1]?=some (.cells #[.bool false,.slice none 0 0,.int .i64 0,.bool false,.slice none 0 0,.int .i64 0] 33)):=ab q9
 clear q0 q1 q9 hb0 hJ
 go_enter Tryz.func7,Tryz.ntmps7
 go_wp2_with fail
 refine C.mono ?_
 rintro e t1 ⟨⟨b6,a6,n6,c6,e6,b7,a7,n7,c7,e7,d7,rfl,hg1⟩,g1⟩
 have HC1:=ab (ac g1 HR0.out)
 have HG:=ab (ae HU0.out g1)
 have HSR:=ab (hg1.base HU0.out.size)
 have hf1:=aD HC1.out
 obtain⟨m0,m1,m2,m3,m4,m5⟩:=hexa HC1.out
 clear g1 C hg1
 go_wp2
 have T3:=aK HC1.out (.bool b6) (.slice a6 n6 c6) (.int .i64 e6) (.bool b7) (.slice a7 n7 c7) (.int .i64 e7)
 have T4:=aG HG.out (show w.heap.size≤w.heap.size+1+1 by omega) (.bool b6) (.slice a6 n6 c6) (.int .i64 e6) (.bool b7) (.slice a7 n7 c7) (.int .i64 e7)
 have T5:=HSR.out.hexa HC1.out (by decide) (.bool b6) (.slice a6 n6 c6) (.int .i64 e6) (.bool b7) (.slice a7 n7 c7) (.int .i64 e7)
 obtain⟨p0,p1,p2,p3,p4,p5⟩:=hexa T3
 have HE:=ab (And.intro T5 T4)
 clear T3 T4 T5
 generalize (((((t1.setCell ⟨w.heap.size+1+1,0,none⟩ (.bool b6)).setCell ⟨w.heap.size+1+1,1,none⟩ (.slice a6 n6 c6)).setCell ⟨w.heap.size+1+1,2,none⟩ (.int .i64 e6)).setCell ⟨w.heap.size+1+1,3,none⟩ (.bool b7)).setCell ⟨w.heap.size+1+1,4,none⟩ (.slice a7 n7 c7)).setCell ⟨w.heap.size+1+1,5,none⟩ (.int .i64 e7)=w9 at *
 refine bodyPost_ret (v:=.tuple #[.agg #[.bool b6,.slice a6 n6 c6,.int .i64 e6,.bool b7,.slice a7 n7 c7,.int .i64 e7],.int .i64 d7]) (by simp [results,Tryz.results7,go_sem,p0,p1,p2,p3,p4,p5]) rfl ?_
 exact⟨⟨_,_,_,_,_,_,_,_,_,_,_,rfl,HE.out.1⟩,HE.out.2⟩

theorem tI (b1:Bool)(a1:Option Addr)(n1 k1:Nat)(ex1:Int)(b2:Bool)(a2:Option Addr)(n2 k2:Nat)(ex2:Int)(b3:Bool)(a3:Option Addr)(n3 k3:Nat)(ex3:Int)(b4:Bool)(a4:Option Addr)(n4 k4:Nat)(ex4:Int)(pos F:Int)(w:World)(hF:ca w b1 a1 n1 k1 ex1 b2 a2 n2 k2 ex2 b3 a3 n3 k3 ex3 b4 a4 n4 k4 ex4 pos F)(h0:F≠0) :
  Calls Tryz.prog 21 #[.agg #[.bool b1,.slice a1 n1 k1,.int .i64 ex1,.bool b2,.slice a2 n2 k2,.int .i64 ex2],.agg #[.bool b3,.slice a3 n3 k3,.int .i64 ex3,.bool b4,.slice a4 n4 k4,.int .i64 ex4],.int .i64 pos,.func (.func 23) #[] #[]] w fun e w'=>bK w F e w':=by
 obtain⟨w0,hw0,hb0,q0,q1,q9⟩:=aE w (.cells #[.bool b1,.slice a1 n1 k1,.int .i64 ex1,.bool b2,.slice a2 n2 k2,.int .i64 ex2] 33) (.cells #[.bool b3,.slice a3 n3 k3,.int .i64 ex3,.bool b4,.slice a4 n4 k4,.int .i64 ex4] 33) (.cells #[.bool false,.slice none 0 0,.int .i64 0,.bool false,.slice none 0 0,.int .i64 0] 33)
 obtain⟨w1,hw1,hb1,q2⟩:=af w0 (.cells #[.bool b1,.slice a1 n1 k1,.int .i64 ex1,.bool b2,.slice a2 n2 k2,.int .i64 ex2,.bool b3,.slice a3 n3 k3,.int .i64 ex3,.bool b4,.slice a4 n4 k4,.int .i64 ex4] 33)
 obtain⟨y0,y1,y2,y3,y4,y5⟩:=hexa q0
 obtain⟨z0,z1,z2,z3,z4,z5⟩:=hexa q1
 have CF:=hF w1 w0.heap.size (ae hb0 hb1) q2
 have HU1:=ab (ae hb0 hb1)
 have HQ0:=ab (ac hb1 q0)
 have HQ1:=ab (ac hb1 q1)
 have HR1:Hid (w1.heap[w.heap.size+1+1]?=some (.cells #[.bool false,.slice none 0 0,.int .i64 0,.bool false,.slice none 0 0,.int .i64 0] 33)):=ab (ac hb1 q9)
 have i9:(F != 0)=true:=by simpa using h0
 clear q0 q1 q2 q9 hb0 hb1 hF h0
 go_enter Tryz.func21,Tryz.ntmps21
 go_wp2_with fail
 refine CF.mono ?_
 rintro e t1 ⟨rfl,g1⟩
 have HC1:=ab (ac g1 HR1.out)
 have HG:=ab (ae HU1.out g1)
 have hf1:=aD HC1.out
 obtain⟨m0,m1,m2,m3,m4,m5⟩:=hexa HC1.out
 clear g1 CF y0 y1 y2 y3 y4 y5 z0 z1 z2 z3 z4 z5 hw0 hw1
 go_wp2
 have T3:=aK HC1.out (.bool false) (.slice none 0 0) (.int .i64 0) (.bool false) (.slice none 0 0) (.int .i64 0)
 have T4:=aG HG.out (show w.heap.size≤w.heap.size+1+1 by omega) (.bool false) (.slice none 0 0) (.int .i64 0) (.bool false) (.slice none 0 0) (.int .i64 0)
 obtain⟨p0,p1,p2,p3,p4,p5⟩:=hexa T3
 have HE:=ab T4
 clear T3 T4
 generalize (((((t1.setCell ⟨w.heap.size+1+1,0,none⟩ (.bool false)).setCell ⟨w.heap.size+1+1,1,none⟩ (.slice none 0 0)).setCell ⟨w.heap.size+1+1,2,none⟩ (.int .i64 0)).setCell ⟨w.heap.size+1+1,3,none⟩ (.bool false)).setCell ⟨w.heap.size+1+1,4,none⟩ (.slice none 0 0)).setCell ⟨w.heap.size+1+1,5,none⟩ (.int .i64 0)=w9 at *
 refine bodyPost_ret (v:=.tuple #[.agg #[.bool false,.slice none 0 0,.int .i64 0,.bool false,.slice none 0 0,.int .i64 0],.int .i64 F]) (by simp [results,Tryz.results21,go_sem,p0,p1,p2,p3,p4,p5]) rfl ?_
 exact⟨rfl,HE.out⟩

theorem tX (b1:Bool)(a1:Option Addr)(n1 k1:Nat)(ex1:Int)(b2:Bool)(a2:Option Addr)(n2 k2:Nat)(ex2:Int)(b3:Bool)(a3:Option Addr)(n3 k3:Nat)(ex3:Int)(b4:Bool)(a4:Option Addr)(n4 k4:Nat)(ex4:Int)(pos m:Int)(w:World)(hF:ca w b1 a1 n1 k1 ex1 b2 a2 n2 k2 ex2 b3 a3 n3 k3 ex3 b4 a4 n4 k4 ex4 pos 0)(h0:m≠0)(hW:∀W,Below w.heap.size w W→Calls Tryz.prog 23 #[.agg #[.bool b1,.slice a1 n1 k1,.int .i64 ex1,.bool b2,.slice a2 n2 k2,.int .i64 ex2],.agg #[.bool b3,.slice a3 n3 k3,.int .i64 ex3,.bool b4,.slice a4 n4 k4,.int .i64 ex4]] W fun e w'=>(∃b1 a1 n1 k1 e1 b2 a2 n2 k2 e2,e=.returned (.tuple #[.agg #[.bool b1,.slice a1 n1 k1,.int .i64 e1,.bool b2,.slice a2 n2 k2,.int .i64 e2],.int .i64 m]))∧Below W.heap.size W w') :
  Calls Tryz.prog 21 #[.agg #[.bool b1,.slice a1 n1 k1,.int .i64 ex1,.bool b2,.slice a2 n2 k2,.int .i64 ex2],.agg #[.bool b3,.slice a3 n3 k3,.int .i64 ex3,.bool b4,.slice a4 n4 k4,.int .i64 ex4],.int .i64 pos,.func (.func 23) #[] #[]] w fun e w'=>bK w m e w':=by
 obtain⟨w0,hw0,hb0,q0,q1,q9⟩:=aE w (.cells #[.bool b1,.slice a1 n1 k1,.int .i64 ex1,.bool b2,.slice a2 n2 k2,.int .i64 ex2] 33) (.cells #[.bool b3,.slice a3 n3 k3,.int .i64 ex3,.bool b4,.slice a4 n4 k4,.int .i64 ex4] 33) (.cells #[.bool false,.slice none 0 0,.int .i64 0,.bool false,.slice none 0 0,.int .i64 0] 33)
 obtain⟨w1,hw1,hb1,q2⟩:=af w0 (.cells #[.bool b1,.slice a1 n1 k1,.int .i64 ex1,.bool b2,.slice a2 n2 k2,.int .i64 ex2,.bool b3,.slice a3 n3 k3,.int .i64 ex3,.bool b4,.slice a4 n4 k4,.int .i64 ex4] 33)
 obtain⟨y0,y1,y2,y3,y4,y5⟩:=hexa q0
 obtain⟨z0,z1,z2,z3,z4,z5⟩:=hexa q1
 have CF:=hF w1 w0.heap.size (ae hb0 hb1) q2
 have HU1:=ab (ae hb0 hb1)
 have HQ0:=ab (ac hb1 q0)
 have HQ1:=ab (ac hb1 q1)
 have HR1:Hid (w1.heap[w.heap.size+1+1]?=some (.cells #[.bool false,.slice none 0 0,.int .i64 0,.bool false,.slice none 0 0,.int .i64 0] 33)):=ab (ac hb1 q9)
 have HWK:=ab hW
 have HM0:=ab h0
 clear q0 q1 q2 q9 hb0 hb1 hF h0 hW
 go_enter Tryz.func21,Tryz.ntmps21
 go_wp2_with fail
 refine CF.mono ?_
 rintro e t2 ⟨rfl,g2⟩
 have HU2:=ab (ae HU1.out g2)
 have HR2:=ab (ac g2 HR1.out)
 have C:=HWK.out t2 HU2.out
 clear y0 y1 y2 y3 y4 y5 z0 z1 z2 z3 z4 z5 CF hw0 hw1
 obtain⟨y0,y1,y2,y3,y4,y5⟩:=hexa (ac g2 HQ0.out)
 obtain⟨z0,z1,z2,z3,z4,z5⟩:=hexa (ac g2 HQ1.out)
 clear g2
 go_wp2_with fail
 refine C.mono ?_
 rintro e t3 ⟨⟨b8,a8,n8,c8,e8,b9,a9,n9,c9,e9,rfl⟩,g3⟩
 obtain⟨w4,hw4,hb4,q4⟩:=af t3 (.cells #[.bool b8,.slice a8 n8 c8,.int .i64 e8,.bool b9,.slice a9 n9 c9,.int .i64 e9] 33)
 have s4:=ae g3 hb4
 have HU0:=ab (ae HU2.out s4)
 have HR0:=ab (ac s4 HR2.out)
 have C4:=ig b8 a8 n8 c8 e8 b9 a9 n9 c9 e9 m pos w4 HM0.out
 clear y0 y1 y2 y3 y4 y5 z0 z1 z2 z3 z4 z5 C g3 hb4 s4
 obtain⟨x0,x1,x2,x3,x4,x5⟩:=hexa q4
 clear q4
 have C:=C4
 clear C4
 go_wp2_with fail
 refine C.mono ?_
 rintro e t1 ⟨rfl,g1⟩
 have HC1:=ab (ac g1 HR0.out)
 have HG:=ab (ae HU0.out g1)
 have hf1:=aD HC1.out
 obtain⟨m0,m1,m2,m3,m4,m5⟩:=hexa HC1.out
 clear g1 C
 go_wp2
 have T3:=aK HC1.out (.bool false) (.slice none 0 0) (.int .i64 0) (.bool false) (.slice none 0 0) (.int .i64 0)
 have T4:=aG HG.out (show w.heap.size≤w.heap.size+1+1 by omega) (.bool false) (.slice none 0 0) (.int .i64 0) (.bool false) (.slice none 0 0) (.int .i64 0)
 obtain⟨p0,p1,p2,p3,p4,p5⟩:=hexa T3
 have HE:=ab T4
 clear T3 T4
 generalize (((((t1.setCell ⟨w.heap.size+1+1,0,none⟩ (.bool false)).setCell ⟨w.heap.size+1+1,1,none⟩ (.slice none 0 0)).setCell ⟨w.heap.size+1+1,2,none⟩ (.int .i64 0)).setCell ⟨w.heap.size+1+1,3,none⟩ (.bool false)).setCell ⟨w.heap.size+1+1,4,none⟩ (.slice none 0 0)).setCell ⟨w.heap.size+1+1,5,none⟩ (.int .i64 0)=w9 at *
 refine bodyPost_ret (v:=.tuple #[.agg #[.bool false,.slice none 0 0,.int .i64 0,.bool false,.slice none 0 0,.int .i64 0],.int .i64 m]) (by simp [results,Tryz.results21,go_sem,p0,p1,p2,p3,p4,p5]) rfl ?_
 exact⟨rfl,HE.out⟩

theorem nd (b1:Bool)(a1:Option Addr)(n1 k1:Nat)(ex1:Int)(b2:Bool)(a2:Option Addr)(n2 k2:Nat)(ex2:Int)(b3:Bool)(a3:Option Addr)(n3 k3:Nat)(ex3:Int)(b4:Bool)(a4:Option Addr)(n4 k4:Nat)(ex4:Int)(pos:Int)(K:Nat)(VA VB VC VD:Int)(w:World)(hF:ca w b1 a1 n1 k1 ex1 b2 a2 n2 k2 ex2 b3 a3 n3 k3 ex3 b4 a4 n4 k4 ex4 pos 0)(hW:∀W,Below w.heap.size w W→Calls Tryz.prog 23 #[.agg #[.bool b1,.slice a1 n1 k1,.int .i64 ex1,.bool b2,.slice a2 n2 k2,.int .i64 ex2],.agg #[.bool b3,.slice a3 n3 k3,.int .i64 ex3,.bool b4,.slice a4 n4 k4,.int .i64 ex4]] W fun e w'=>(∃b1 a1 n1 k1 e1 b2 a2 n2 k2 e2,e=.returned (.tuple #[.agg #[.bool b1,.slice a1 n1 k1,.int .i64 e1,.bool b2,.slice a2 n2 k2,.int .i64 e2],.int .i64 0])∧N8 w' b1 a1 n1 k1 e1 K VA∧N8 w' b2 a2 n2 k2 e2 K VB)∧Below W.heap.size W w')(hO:∀W (b1:Bool) (a1:Option Addr) (n1 k1:Nat) (ex1:Int) (b2:Bool) (a2:Option Addr) (n2 k2:Nat) (ex2:Int),Below w.heap.size w W→N8 W b1 a1 n1 k1 ex1 K VA→N8 W b2 a2 n2 k2 ex2 K VB→Calls Tryz.prog 47 #[.agg #[.bool b1,.slice a1 n1 k1,.int .i64 ex1,.bool b2,.slice a2 n2 k2,.int .i64 ex2],.int .i64 0,.int .i64 pos] W fun e w'=>bB W e w' 0 K VC VD) :
  Calls Tryz.prog 21 #[.agg #[.bool b1,.slice a1 n1 k1,.int .i64 ex1,.bool b2,.slice a2 n2 k2,.int .i64 ex2],.agg #[.bool b3,.slice a3 n3 k3,.int .i64 ex3,.bool b4,.slice a4 n4 k4,.int .i64 ex4],.int .i64 pos,.func (.func 23) #[] #[]] w fun e w'=>bB w e w' 0 K VC VD:=by
 obtain⟨w0,hw0,hb0,q0,q1,q9⟩:=aE w (.cells #[.bool b1,.slice a1 n1 k1,.int .i64 ex1,.bool b2,.slice a2 n2 k2,.int .i64 ex2] 33) (.cells #[.bool b3,.slice a3 n3 k3,.int .i64 ex3,.bool b4,.slice a4 n4 k4,.int .i64 ex4] 33) (.cells #[.bool false,.slice none 0 0,.int .i64 0,.bool false,.slice none 0 0,.int .i64 0] 33)
 obtain⟨w1,hw1,hb1,q2⟩:=af w0 (.cells #[.bool b1,.slice a1 n1 k1,.int .i64 ex1,.bool b2,.slice a2 n2 k2,.int .i64 ex2,.bool b3,.slice a3 n3 k3,.int .i64 ex3,.bool b4,.slice a4 n4 k4,.int .i64 ex4] 33)
 obtain⟨y0,y1,y2,y3,y4,y5⟩:=hexa q0
 obtain⟨z0,z1,z2,z3,z4,z5⟩:=hexa q1
 have CF:=hF w1 w0.heap.size (ae hb0 hb1) q2
 have HU1:=ab (ae hb0 hb1)
 have HQ0:=ab (ac hb1 q0)
 have HQ1:=ab (ac hb1 q1)
 have HR1:Hid (w1.heap[w.heap.size+1+1]?=some (.cells #[.bool false,.slice none 0 0,.int .i64 0,.bool false,.slice none 0 0,.int .i64 0] 33)):=ab (ac hb1 q9)
 have HWK:=ab hW
 have HOO:=ab hO
 clear q0 q1 q2 q9 hb0 hb1 hF hW hO
 go_enter Tryz.func21,Tryz.ntmps21
 go_wp2_with fail
 refine CF.mono ?_
 rintro e t2 ⟨rfl,g2⟩
 have HU2:=ab (ae HU1.out g2)
 have HR2:=ab (ac g2 HR1.out)
 have C:=HWK.out t2 HU2.out
 clear y0 y1 y2 y3 y4 y5 z0 z1 z2 z3 z4 z5 CF hw0 hw1
 obtain⟨y0,y1,y2,y3,y4,y5⟩:=hexa (ac g2 HQ0.out)
 obtain⟨z0,z1,z2,z3,z4,z5⟩:=hexa (ac g2 HQ1.out)
 clear g2
 go_wp2_with fail
 refine C.mono ?_
 rintro e t3 ⟨⟨b8,a8,n8,c8,e8,b9,a9,n9,c9,e9,rfl,hn1,hn2⟩,g3⟩
 obtain⟨w4,hw4,hb4,q4⟩:=af t3 (.cells #[.bool b8,.slice a8 n8 c8,.int .i64 e8,.bool b9,.slice a9 n9 c9,.int .i64 e9] 33)
 have s4:=ae g3 hb4
 have HU0:=ab (ae HU2.out s4)
 have HR0:=ab (ac s4 HR2.out)
 have C4:=HOO.out w4 b8 a8 n8 c8 e8 b9 a9 n9 c9 e9 HU0.out (hn1.below hb4) (hn2.below hb4)
 clear y0 y1 y2 y3 y4 y5 z0 z1 z2 z3 z4 z5 C g3 hb4 s4 hn1 hn2
 obtain⟨x0,x1,x2,x3,x4,x5⟩:=hexa q4
 clear q4
 have C:=C4
 clear C4
 go_wp2_with fail
 refine C.mono ?_
 rintro e t1 ⟨⟨b6,a6,n6,c6,e6,b7,a7,n7,c7,e7,d7,rfl,hg1⟩,g1⟩
 have HC1:=ab (ac g1 HR0.out)
 have HG:=ab (ae HU0.out g1)
 have HSR:=ab (hg1.base HU0.out.size)
 have hf1:=aD HC1.out
 obtain⟨m0,m1,m2,m3,m4,m5⟩:=hexa HC1.out
 clear g1 C hg1
 go_wp2
 have T3:=aK HC1.out (.bool b6) (.slice a6 n6 c6) (.int .i64 e6) (.bool b7) (.slice a7 n7 c7) (.int .i64 e7)
 have T4:=aG HG.out (show w.heap.size≤w.heap.size+1+1 by omega) (.bool b6) (.slice a6 n6 c6) (.int .i64 e6) (.bool b7) (.slice a7 n7 c7) (.int .i64 e7)
 have T5:=HSR.out.hexa HC1.out (by decide) (.bool b6) (.slice a6 n6 c6) (.int .i64 e6) (.bool b7) (.slice a7 n7 c7) (.int .i64 e7)
 obtain⟨p0,p1,p2,p3,p4,p5⟩:=hexa T3
 have HE:=ab (And.intro T5 T4)
 clear T3 T4 T5
 generalize (((((t1.setCell ⟨w.heap.size+1+1,0,none⟩ (.bool b6)).setCell ⟨w.heap.size+1+1,1,none⟩ (.slice a6 n6 c6)).setCell ⟨w.heap.size+1+1,2,none⟩ (.int .i64 e6)).setCell ⟨w.heap.size+1+1,3,none⟩ (.bool b7)).setCell ⟨w.heap.size+1+1,4,none⟩ (.slice a7 n7 c7)).setCell ⟨w.heap.size+1+1,5,none⟩ (.int .i64 e7)=w9 at *
 refine bodyPost_ret (v:=.tuple #[.agg #[.bool b6,.slice a6 n6 c6,.int .i64 e6,.bool b7,.slice a7 n7 c7,.int .i64 e7],.int .i64 d7]) (by simp [results,Tryz.results21,go_sem,p0,p1,p2,p3,p4,p5]) rfl ?_
 exact⟨⟨_,_,_,_,_,_,_,_,_,_,_,rfl,HE.out.1⟩,HE.out.2⟩

theorem ln (b1:Bool)(a1:Option Addr)(n1 k1:Nat)(ex1:Int)(b2:Bool)(a2:Option Addr)(n2 k2:Nat)(ex2:Int)(b3:Bool)(a3:Option Addr)(n3 k3:Nat)(ex3:Int)(b4:Bool)(a4:Option Addr)(n4 k4:Nat)(ex4:Int)(pos F:Int)(w:World)(hJ:∀W,Below w.heap.size w W→Calls Tryz.prog 21 #[.agg #[.bool b1,.slice a1 n1 k1,.int .i64 ex1,.bool b2,.slice a2 n2 k2,.int .i64 ex2],.agg #[.bool b3,.slice a3 n3 k3,.int .i64 ex3,.bool b4,.slice a4 n4 k4,.int .i64 ex4],.int .i64 pos,.func (.func 23) #[] #[]] W fun e w'=>bK W F e w') :
  Calls Tryz.prog 8 #[.agg #[.bool b1,.slice a1 n1 k1,.int .i64 ex1,.bool b2,.slice a2 n2 k2,.int .i64 ex2],.agg #[.bool b3,.slice a3 n3 k3,.int .i64 ex3,.bool b4,.slice a4 n4 k4,.int .i64 ex4],.int .i64 pos] w fun e w'=>bK w F e w':=by
 obtain⟨w0,hw0,hb0,q0,q1,q9⟩:=aE w (.cells #[.bool b1,.slice a1 n1 k1,.int .i64 ex1,.bool b2,.slice a2 n2 k2,.int .i64 ex2] 33) (.cells #[.bool b3,.slice a3 n3 k3,.int .i64 ex3,.bool b4,.slice a4 n4 k4,.int .i64 ex4] 33) (.cells #[.bool false,.slice none 0 0,.int .i64 0,.bool false,.slice none 0 0,.int .i64 0] 33)
 obtain⟨y0,y1,y2,y3,y4,y5⟩:=hexa q0
 obtain⟨z0,z1,z2,z3,z4,z5⟩:=hexa q1
 have C:=hJ w0 hb0
 have HU0:=ab hb0
 have HR0:Hid (w0.heap[w.heap.size+1+1]?=some (.cells #[.bool false,.slice none 0 0,.int .i64 0,.bool false,.slice none 0 0,.int .i64 0] 33)):=ab q9
 clear q0 q1 q9 hb0 hJ
 go_enter Tryz.func8,Tryz.ntmps8
 go_wp2_with fail
 refine C.mono ?_
 rintro e t1 ⟨he,g1⟩
 obtain⟨b6,a6,n6,c6,e6,b7,a7,n7,c7,e7,rfl,heq⟩:∃b6 a6 n6 c6 e6 b7 a7 n7 c7 e7,e=.returned (.tuple #[.agg #[.bool b6,.slice a6 n6 c6,.int .i64 e6,.bool b7,.slice a7 n7 c7,.int .i64 e7],.int .i64 F])∧(b6=false∧a6=none∧n6=0∧c6=0∧e6=0∧b7=false∧a7=none∧n7=0∧c7=0∧e7=0):=⟨_,_,_,_,_,_,_,_,_,_,he,rfl,rfl,rfl,rfl,rfl,rfl,rfl,rfl,rfl,rfl⟩
 have HQ:=ab heq
 clear he heq
 have HC1:=ab (ac g1 HR0.out)
 have HG:=ab (ae HU0.out g1)
 have hf1:=aD HC1.out
 obtain⟨m0,m1,m2,m3,m4,m5⟩:=hexa HC1.out
 clear g1 C
 go_wp2
 have T3:=aK HC1.out (.bool b6) (.slice a6 n6 c6) (.int .i64 e6) (.bool b7) (.slice a7 n7 c7) (.int .i64 e7)
 have T4:=aG HG.out (show w.heap.size≤w.heap.size+1+1 by omega) (.bool b6) (.slice a6 n6 c6) (.int .i64 e6) (.bool b7) (.slice a7 n7 c7) (.int .i64 e7)
 obtain⟨p0,p1,p2,p3,p4,p5⟩:=hexa T3
 have HE:=ab T4
 clear T3 T4
 generalize (((((t1.setCell ⟨w.heap.size+1+1,0,none⟩ (.bool b6)).setCell ⟨w.heap.size+1+1,1,none⟩ (.slice a6 n6 c6)).setCell ⟨w.heap.size+1+1,2,none⟩ (.int .i64 e6)).setCell ⟨w.heap.size+1+1,3,none⟩ (.bool b7)).setCell ⟨w.heap.size+1+1,4,none⟩ (.slice a7 n7 c7)).setCell ⟨w.heap.size+1+1,5,none⟩ (.int .i64 e7)=w9 at *
 refine bodyPost_ret (v:=.tuple #[.agg #[.bool b6,.slice a6 n6 c6,.int .i64 e6,.bool b7,.slice a7 n7 c7,.int .i64 e7],.int .i64 F]) (by simp [results,Tryz.results8,go_sem,p0,p1,p2,p3,p4,p5]) rfl ?_
 obtain⟨rfl,rfl,rfl,rfl,rfl,rfl,rfl,rfl,rfl,rfl⟩:=HQ.out
 exact⟨rfl,HE.out⟩

theorem uh (b1:Bool)(a1:Option Addr)(n1 k1:Nat)(ex1:Int)(b2:Bool)(a2:Option Addr)(n2 k2:Nat)(ex2:Int)(b3:Bool)(a3:Option Addr)(n3 k3:Nat)(ex3:Int)(b4:Bool)(a4:Option Addr)(n4 k4:Nat)(ex4:Int)(pos:Int)(K:Nat)(VC VD:Int)(w:World)(hJ:∀W,Below w.heap.size w W→Calls Tryz.prog 21 #[.agg #[.bool b1,.slice a1 n1 k1,.int .i64 ex1,.bool b2,.slice a2 n2 k2,.int .i64 ex2],.agg #[.bool b3,.slice a3 n3 k3,.int .i64 ex3,.bool b4,.slice a4 n4 k4,.int .i64 ex4],.int .i64 pos,.func (.func 23) #[] #[]] W fun e w'=>bB W e w' 0 K VC VD) :
  Calls Tryz.prog 8 #[.agg #[.bool b1,.slice a1 n1 k1,.int .i64 ex1,.bool b2,.slice a2 n2 k2,.int .i64 ex2],.agg #[.bool b3,.slice a3 n3 k3,.int .i64 ex3,.bool b4,.slice a4 n4 k4,.int .i64 ex4],.int .i64 pos] w fun e w'=>bB w e w' 0 K VC VD:=by
 obtain⟨w0,hw0,hb0,q0,q1,q9⟩:=aE w (.cells #[.bool b1,.slice a1 n1 k1,.int .i64 ex1,.bool b2,.slice a2 n2 k2,.int .i64 ex2] 33) (.cells #[.bool b3,.slice a3 n3 k3,.int .i64 ex3,.bool b4,.slice a4 n4 k4,.int .i64 ex4] 33) (.cells #[.bool false,.slice none 0 0,.int .i64 0,.bool false,.slice none 0 0,.int .i64 0] 33)
 obtain⟨y0,y1,y2,y3,y4,y5⟩:=hexa q0
 obtain⟨z0,z1,z2,z3,z4,z5⟩:=hexa q1
 have C:=hJ w0 hb0
 have HU0:=ab hb0
 have HR0:Hid (w0.heap[w.heap.size+1+1]?=some (.cells #[.bool false,.slice none 0 0,.int .i64 0,.bool false,.slice none 0 0,.int .i64 0] 33)):=ab q9
 clear q0 q1 q9 hb0 hJ
 go_enter Tryz.func8,Tryz.ntmps8
 go_wp2_with fail
 refine C.mono ?_
 rintro e t1 ⟨⟨b6,a6,n6,c6,e6,b7,a7,n7,c7,e7,d7,rfl,hg1⟩,g1⟩
 have HC1:=ab (ac g1 HR0.out)
 have HG:=ab (ae HU0.out g1)
 have HSR:=ab (hg1.base HU0.out.size)
 have hf1:=aD HC1.out
 obtain⟨m0,m1,m2,m3,m4,m5⟩:=hexa HC1.out
 clear g1 C hg1
 go_wp2
 have T3:=aK HC1.out (.bool b6) (.slice a6 n6 c6) (.int .i64 e6) (.bool b7) (.slice a7 n7 c7) (.int .i64 e7)
 have T4:=aG HG.out (show w.heap.size≤w.heap.size+1+1 by omega) (.bool b6) (.slice a6 n6 c6) (.int .i64 e6) (.bool b7) (.slice a7 n7 c7) (.int .i64 e7)
 have T5:=HSR.out.hexa HC1.out (by decide) (.bool b6) (.slice a6 n6 c6) (.int .i64 e6) (.bool b7) (.slice a7 n7 c7) (.int .i64 e7)
 obtain⟨p0,p1,p2,p3,p4,p5⟩:=hexa T3
 have HE:=ab (And.intro T5 T4)
 clear T3 T4 T5
 generalize (((((t1.setCell ⟨w.heap.size+1+1,0,none⟩ (.bool b6)).setCell ⟨w.heap.size+1+1,1,none⟩ (.slice a6 n6 c6)).setCell ⟨w.heap.size+1+1,2,none⟩ (.int .i64 e6)).setCell ⟨w.heap.size+1+1,3,none⟩ (.bool b7)).setCell ⟨w.heap.size+1+1,4,none⟩ (.slice a7 n7 c7)).setCell ⟨w.heap.size+1+1,5,none⟩ (.int .i64 e7)=w9 at *
 refine bodyPost_ret (v:=.tuple #[.agg #[.bool b6,.slice a6 n6 c6,.int .i64 e6,.bool b7,.slice a7 n7 c7,.int .i64 e7],.int .i64 d7]) (by simp [results,Tryz.results8,go_sem,p0,p1,p2,p3,p4,p5]) rfl ?_
 exact⟨⟨_,_,_,_,_,_,_,_,_,_,_,rfl,HE.out.1⟩,HE.out.2⟩

theorem qz (b1:Bool)(a1:Option Addr)(n1 k1:Nat)(ex1:Int)(b2:Bool)(a2:Option Addr)(n2 k2:Nat)(ex2:Int)(b3:Bool)(a3:Option Addr)(n3 k3:Nat)(ex3:Int)(b4:Bool)(a4:Option Addr)(n4 k4:Nat)(ex4:Int)(pos F:Int)(w:World)(hF:ca w b1 a1 n1 k1 ex1 b2 a2 n2 k2 ex2 b3 a3 n3 k3 ex3 b4 a4 n4 k4 ex4 pos F)(h0:F≠0) :
  Calls Tryz.prog 21 #[.agg #[.bool b1,.slice a1 n1 k1,.int .i64 ex1,.bool b2,.slice a2 n2 k2,.int .i64 ex2],.agg #[.bool b3,.slice a3 n3 k3,.int .i64 ex3,.bool b4,.slice a4 n4 k4,.int .i64 ex4],.int .i64 pos,.func (.func 24) #[] #[]] w fun e w'=>bK w F e w':=by
 obtain⟨w0,hw0,hb0,q0,q1,q9⟩:=aE w (.cells #[.bool b1,.slice a1 n1 k1,.int .i64 ex1,.bool b2,.slice a2 n2 k2,.int .i64 ex2] 33) (.cells #[.bool b3,.slice a3 n3 k3,.int .i64 ex3,.bool b4,.slice a4 n4 k4,.int .i64 ex4] 33) (.cells #[.bool false,.slice none 0 0,.int .i64 0,.bool false,.slice none 0 0,.int .i64 0] 33)
 obtain⟨w1,hw1,hb1,q2⟩:=af w0 (.cells #[.bool b1,.slice a1 n1 k1,.int .i64 ex1,.bool b2,.slice a2 n2 k2,.int .i64 ex2,.bool b3,.slice a3 n3 k3,.int .i64 ex3,.bool b4,.slice a4 n4 k4,.int .i64 ex4] 33)
 obtain⟨y0,y1,y2,y3,y4,y5⟩:=hexa q0
 obtain⟨z0,z1,z2,z3,z4,z5⟩:=hexa q1
 have CF:=hF w1 w0.heap.size (ae hb0 hb1) q2
 have HU1:=ab (ae hb0 hb1)
 have HQ0:=ab (ac hb1 q0)
 have HQ1:=ab (ac hb1 q1)
 have HR1:Hid (w1.heap[w.heap.size+1+1]?=some (.cells #[.bool false,.slice none 0 0,.int .i64 0,.bool false,.slice none 0 0,.int .i64 0] 33)):=ab (ac hb1 q9)
 have i9:(F != 0)=true:=by simpa using h0
 clear q0 q1 q2 q9 hb0 hb1 hF h0
 go_enter Tryz.func21,Tryz.ntmps21
 go_wp2_with fail
 refine CF.mono ?_
 rintro e t1 ⟨rfl,g1⟩
 have HC1:=ab (ac g1 HR1.out)
 have HG:=ab (ae HU1.out g1)
 have hf1:=aD HC1.out
 obtain⟨m0,m1,m2,m3,m4,m5⟩:=hexa HC1.out
 clear g1 CF y0 y1 y2 y3 y4 y5 z0 z1 z2 z3 z4 z5 hw0 hw1
 go_wp2
 have T3:=aK HC1.out (.bool false) (.slice none 0 0) (.int .i64 0) (.bool false) (.slice none 0 0) (.int .i64 0)
 have T4:=aG HG.out (show w.heap.size≤w.heap.size+1+1 by omega) (.bool false) (.slice none 0 0) (.int .i64 0) (.bool false) (.slice none 0 0) (.int .i64 0)
 obtain⟨p0,p1,p2,p3,p4,p5⟩:=hexa T3
 have HE:=ab T4
 clear T3 T4
 generalize (((((t1.setCell ⟨w.heap.size+1+1,0,none⟩ (.bool false)).setCell ⟨w.heap.size+1+1,1,none⟩ (.slice none 0 0)).setCell ⟨w.heap.size+1+1,2,none⟩ (.int .i64 0)).setCell ⟨w.heap.size+1+1,3,none⟩ (.bool false)).setCell ⟨w.heap.size+1+1,4,none⟩ (.slice none 0 0)).setCell ⟨w.heap.size+1+1,5,none⟩ (.int .i64 0)=w9 at *
 refine bodyPost_ret (v:=.tuple #[.agg #[.bool false,.slice none 0 0,.int .i64 0,.bool false,.slice none 0 0,.int .i64 0],.int .i64 F]) (by simp [results,Tryz.results21,go_sem,p0,p1,p2,p3,p4,p5]) rfl ?_
 exact⟨rfl,HE.out⟩

theorem nD (b1:Bool)(a1:Option Addr)(n1 k1:Nat)(ex1:Int)(b2:Bool)(a2:Option Addr)(n2 k2:Nat)(ex2:Int)(b3:Bool)(a3:Option Addr)(n3 k3:Nat)(ex3:Int)(b4:Bool)(a4:Option Addr)(n4 k4:Nat)(ex4:Int)(pos m:Int)(w:World)(hF:ca w b1 a1 n1 k1 ex1 b2 a2 n2 k2 ex2 b3 a3 n3 k3 ex3 b4 a4 n4 k4 ex4 pos 0)(h0:m≠0)(hW:∀W,Below w.heap.size w W→Calls Tryz.prog 24 #[.agg #[.bool b1,.slice a1 n1 k1,.int .i64 ex1,.bool b2,.slice a2 n2 k2,.int .i64 ex2],.agg #[.bool b3,.slice a3 n3 k3,.int .i64 ex3,.bool b4,.slice a4 n4 k4,.int .i64 ex4]] W fun e w'=>(∃b1 a1 n1 k1 e1 b2 a2 n2 k2 e2,e=.returned (.tuple #[.agg #[.bool b1,.slice a1 n1 k1,.int .i64 e1,.bool b2,.slice a2 n2 k2,.int .i64 e2],.int .i64 m]))∧Below W.heap.size W w') :
  Calls Tryz.prog 21 #[.agg #[.bool b1,.slice a1 n1 k1,.int .i64 ex1,.bool b2,.slice a2 n2 k2,.int .i64 ex2],.agg #[.bool b3,.slice a3 n3 k3,.int .i64 ex3,.bool b4,.slice a4 n4 k4,.int .i64 ex4],.int .i64 pos,.func (.func 24) #[] #[]] w fun e w'=>bK w m e w':=by
 obtain⟨w0,hw0,hb0,q0,q1,q9⟩:=aE w (.cells #[.bool b1,.slice a1 n1 k1,.int .i64 ex1,.bool b2,.slice a2 n2 k2,.int .i64 ex2] 33) (.cells #[.bool b3,.slice a3 n3 k3,.int .i64 ex3,.bool b4,.slice a4 n4 k4,.int .i64 ex4] 33) (.cells #[.bool false,.slice none 0 0,.int .i64 0,.bool false,.slice none 0 0,.int .i64 0] 33)
 obtain⟨w1,hw1,hb1,q2⟩:=af w0 (.cells #[.bool b1,.slice a1 n1 k1,.int .i64 ex1,.bool b2,.slice a2 n2 k2,.int .i64 ex2,.bool b3,.slice a3 n3 k3,.int .i64 ex3,.bool b4,.slice a4 n4 k4,.int .i64 ex4] 33)
 obtain⟨y0,y1,y2,y3,y4,y5⟩:=hexa q0
 obtain⟨z0,z1,z2,z3,z4,z5⟩:=hexa q1
 have CF:=hF w1 w0.heap.size (ae hb0 hb1) q2
 have HU1:=ab (ae hb0 hb1)
 have HQ0:=ab (ac hb1 q0)
 have HQ1:=ab (ac hb1 q1)
 have HR1:Hid (w1.heap[w.heap.size+1+1]?=some (.cells #[.bool false,.slice none 0 0,.int .i64 0,.bool false,.slice none 0 0,.int .i64 0] 33)):=ab (ac hb1 q9)
 have HWK:=ab hW
 have HM0:=ab h0
 clear q0 q1 q2 q9 hb0 hb1 hF h0 hW
 go_enter Tryz.func21,Tryz.ntmps21
 go_wp2_with fail
 refine CF.mono ?_
 rintro e t2 ⟨rfl,g2⟩
 have HU2:=ab (ae HU1.out g2)
 have HR2:=ab (ac g2 HR1.out)
 have C:=HWK.out t2 HU2.out
 clear y0 y1 y2 y3 y4 y5 z0 z1 z2 z3 z4 z5 CF hw0 hw1
 obtain⟨y0,y1,y2,y3,y4,y5⟩:=hexa (ac g2 HQ0.out)
 obtain⟨z0,z1,z2,z3,z4,z5⟩:=hexa (ac g2 HQ1.out)
 clear g2
 go_wp2_with fail
 refine C.mono ?_
 rintro e t3 ⟨⟨b8,a8,n8,c8,e8,b9,a9,n9,c9,e9,rfl⟩,g3⟩
 obtain⟨w4,hw4,hb4,q4⟩:=af t3 (.cells #[.bool b8,.slice a8 n8 c8,.int .i64 e8,.bool b9,.slice a9 n9 c9,.int .i64 e9] 33)
 have s4:=ae g3 hb4
 have HU0:=ab (ae HU2.out s4)
 have HR0:=ab (ac s4 HR2.out)
 have C4:=ig b8 a8 n8 c8 e8 b9 a9 n9 c9 e9 m pos w4 HM0.out
 clear y0 y1 y2 y3 y4 y5 z0 z1 z2 z3 z4 z5 C g3 hb4 s4
 obtain⟨x0,x1,x2,x3,x4,x5⟩:=hexa q4
 clear q4
 have C:=C4
 clear C4
 go_wp2_with fail
 refine C.mono ?_
 rintro e t1 ⟨rfl,g1⟩
 have HC1:=ab (ac g1 HR0.out)
 have HG:=ab (ae HU0.out g1)
 have hf1:=aD HC1.out
 obtain⟨m0,m1,m2,m3,m4,m5⟩:=hexa HC1.out
 clear g1 C
 go_wp2
 have T3:=aK HC1.out (.bool false) (.slice none 0 0) (.int .i64 0) (.bool false) (.slice none 0 0) (.int .i64 0)
 have T4:=aG HG.out (show w.heap.size≤w.heap.size+1+1 by omega) (.bool false) (.slice none 0 0) (.int .i64 0) (.bool false) (.slice none 0 0) (.int .i64 0)
 obtain⟨p0,p1,p2,p3,p4,p5⟩:=hexa T3
 have HE:=ab T4
 clear T3 T4
 generalize (((((t1.setCell ⟨w.heap.size+1+1,0,none⟩ (.bool false)).setCell ⟨w.heap.size+1+1,1,none⟩ (.slice none 0 0)).setCell ⟨w.heap.size+1+1,2,none⟩ (.int .i64 0)).setCell ⟨w.heap.size+1+1,3,none⟩ (.bool false)).setCell ⟨w.heap.size+1+1,4,none⟩ (.slice none 0 0)).setCell ⟨w.heap.size+1+1,5,none⟩ (.int .i64 0)=w9 at *
 refine bodyPost_ret (v:=.tuple #[.agg #[.bool false,.slice none 0 0,.int .i64 0,.bool false,.slice none 0 0,.int .i64 0],.int .i64 m]) (by simp [results,Tryz.results21,go_sem,p0,p1,p2,p3,p4,p5]) rfl ?_
 exact⟨rfl,HE.out⟩

theorem rK (b1:Bool)(a1:Option Addr)(n1 k1:Nat)(ex1:Int)(b2:Bool)(a2:Option Addr)(n2 k2:Nat)(ex2:Int)(b3:Bool)(a3:Option Addr)(n3 k3:Nat)(ex3:Int)(b4:Bool)(a4:Option Addr)(n4 k4:Nat)(ex4:Int)(pos:Int)(K:Nat)(VA VB VC VD:Int)(w:World)(hF:ca w b1 a1 n1 k1 ex1 b2 a2 n2 k2 ex2 b3 a3 n3 k3 ex3 b4 a4 n4 k4 ex4 pos 0)(hW:∀W,Below w.heap.size w W→Calls Tryz.prog 24 #[.agg #[.bool b1,.slice a1 n1 k1,.int .i64 ex1,.bool b2,.slice a2 n2 k2,.int .i64 ex2],.agg #[.bool b3,.slice a3 n3 k3,.int .i64 ex3,.bool b4,.slice a4 n4 k4,.int .i64 ex4]] W fun e w'=>(∃b1 a1 n1 k1 e1 b2 a2 n2 k2 e2,e=.returned (.tuple #[.agg #[.bool b1,.slice a1 n1 k1,.int .i64 e1,.bool b2,.slice a2 n2 k2,.int .i64 e2],.int .i64 0])∧N8 w' b1 a1 n1 k1 e1 K VA∧N8 w' b2 a2 n2 k2 e2 K VB)∧Below W.heap.size W w')(hO:∀W (b1:Bool) (a1:Option Addr) (n1 k1:Nat) (ex1:Int) (b2:Bool) (a2:Option Addr) (n2 k2:Nat) (ex2:Int),Below w.heap.size w W→N8 W b1 a1 n1 k1 ex1 K VA→N8 W b2 a2 n2 k2 ex2 K VB→Calls Tryz.prog 47 #[.agg #[.bool b1,.slice a1 n1 k1,.int .i64 ex1,.bool b2,.slice a2 n2 k2,.int .i64 ex2],.int .i64 0,.int .i64 pos] W fun e w'=>bB W e w' 0 K VC VD) :
  Calls Tryz.prog 21 #[.agg #[.bool b1,.slice a1 n1 k1,.int .i64 ex1,.bool b2,.slice a2 n2 k2,.int .i64 ex2],.agg #[.bool b3,.slice a3 n3 k3,.int .i64 ex3,.bool b4,.slice a4 n4 k4,.int .i64 ex4],.int .i64 pos,.func (.func 24) #[] #[]] w fun e w'=>bB w e w' 0 K VC VD:=by
 obtain⟨w0,hw0,hb0,q0,q1,q9⟩:=aE w (.cells #[.bool b1,.slice a1 n1 k1,.int .i64 ex1,.bool b2,.slice a2 n2 k2,.int .i64 ex2] 33) (.cells #[.bool b3,.slice a3 n3 k3,.int .i64 ex3,.bool b4,.slice a4 n4 k4,.int .i64 ex4] 33) (.cells #[.bool false,.slice none 0 0,.int .i64 0,.bool false,.slice none 0 0,.int .i64 0] 33)
 obtain⟨w1,hw1,hb1,q2⟩:=af w0 (.cells #[.bool b1,.slice a1 n1 k1,.int .i64 ex1,.bool b2,.slice a2 n2 k2,.int .i64 ex2,.bool b3,.slice a3 n3 k3,.int .i64 ex3,.bool b4,.slice a4 n4 k4,.int .i64 ex4] 33)
 obtain⟨y0,y1,y2,y3,y4,y5⟩:=hexa q0
 obtain⟨z0,z1,z2,z3,z4,z5⟩:=hexa q1
 have CF:=hF w1 w0.heap.size (ae hb0 hb1) q2
 have HU1:=ab (ae hb0 hb1)
 have HQ0:=ab (ac hb1 q0)
 have HQ1:=ab (ac hb1 q1)
 have HR1:Hid (w1.heap[w.heap.size+1+1]?=some (.cells #[.bool false,.slice none 0 0,.int .i64 0,.bool false,.slice none 0 0,.int .i64 0] 33)):=ab (ac hb1 q9)
 have HWK:=ab hW
 have HOO:=ab hO
 clear q0 q1 q2 q9 hb0 hb1 hF hW hO
 go_enter Tryz.func21,Tryz.ntmps21
 go_wp2_with fail
 refine CF.mono ?_
 rintro e t2 ⟨rfl,g2⟩
 have HU2:=ab (ae HU1.out g2)
 have HR2:=ab (ac g2 HR1.out)
 have C:=HWK.out t2 HU2.out
 clear y0 y1 y2 y3 y4 y5 z0 z1 z2 z3 z4 z5 CF hw0 hw1
 obtain⟨y0,y1,y2,y3,y4,y5⟩:=hexa (ac g2 HQ0.out)
 obtain⟨z0,z1,z2,z3,z4,z5⟩:=hexa (ac g2 HQ1.out)
 clear g2
 go_wp2_with fail
 refine C.mono ?_
 rintro e t3 ⟨⟨b8,a8,n8,c8,e8,b9,a9,n9,c9,e9,rfl,hn1,hn2⟩,g3⟩
 obtain⟨w4,hw4,hb4,q4⟩:=af t3 (.cells #[.bool b8,.slice a8 n8 c8,.int .i64 e8,.bool b9,.slice a9 n9 c9,.int .i64 e9] 33)
 have s4:=ae g3 hb4
 have HU0:=ab (ae HU2.out s4)
 have HR0:=ab (ac s4 HR2.out)
 have C4:=HOO.out w4 b8 a8 n8 c8 e8 b9 a9 n9 c9 e9 HU0.out (hn1.below hb4) (hn2.below hb4)
 clear y0 y1 y2 y3 y4 y5 z0 z1 z2 z3 z4 z5 C g3 hb4 s4 hn1 hn2
 obtain⟨x0,x1,x2,x3,x4,x5⟩:=hexa q4
 clear q4
 have C:=C4
 clear C4
 go_wp2_with fail
 refine C.mono ?_
 rintro e t1 ⟨⟨b6,a6,n6,c6,e6,b7,a7,n7,c7,e7,d7,rfl,hg1⟩,g1⟩
 have HC1:=ab (ac g1 HR0.out)
 have HG:=ab (ae HU0.out g1)
 have HSR:=ab (hg1.base HU0.out.size)
 have hf1:=aD HC1.out
 obtain⟨m0,m1,m2,m3,m4,m5⟩:=hexa HC1.out
 clear g1 C hg1
 go_wp2
 have T3:=aK HC1.out (.bool b6) (.slice a6 n6 c6) (.int .i64 e6) (.bool b7) (.slice a7 n7 c7) (.int .i64 e7)
 have T4:=aG HG.out (show w.heap.size≤w.heap.size+1+1 by omega) (.bool b6) (.slice a6 n6 c6) (.int .i64 e6) (.bool b7) (.slice a7 n7 c7) (.int .i64 e7)
 have T5:=HSR.out.hexa HC1.out (by decide) (.bool b6) (.slice a6 n6 c6) (.int .i64 e6) (.bool b7) (.slice a7 n7 c7) (.int .i64 e7)
 obtain⟨p0,p1,p2,p3,p4,p5⟩:=hexa T3
 have HE:=ab (And.intro T5 T4)
 clear T3 T4 T5
 generalize (((((t1.setCell ⟨w.heap.size+1+1,0,none⟩ (.bool b6)).setCell ⟨w.heap.size+1+1,1,none⟩ (.slice a6 n6 c6)).setCell ⟨w.heap.size+1+1,2,none⟩ (.int .i64 e6)).setCell ⟨w.heap.size+1+1,3,none⟩ (.bool b7)).setCell ⟨w.heap.size+1+1,4,none⟩ (.slice a7 n7 c7)).setCell ⟨w.heap.size+1+1,5,none⟩ (.int .i64 e7)=w9 at *
 refine bodyPost_ret (v:=.tuple #[.agg #[.bool b6,.slice a6 n6 c6,.int .i64 e6,.bool b7,.slice a7 n7 c7,.int .i64 e7],.int .i64 d7]) (by simp [results,Tryz.results21,go_sem,p0,p1,p2,p3,p4,p5]) rfl ?_
 exact⟨⟨_,_,_,_,_,_,_,_,_,_,_,rfl,HE.out.1⟩,HE.out.2⟩

theorem lN (b1:Bool)(a1:Option Addr)(n1 k1:Nat)(ex1:Int)(b2:Bool)(a2:Option Addr)(n2 k2:Nat)(ex2:Int)(b3:Bool)(a3:Option Addr)(n3 k3:Nat)(ex3:Int)(b4:Bool)(a4:Option Addr)(n4 k4:Nat)(ex4:Int)(pos F:Int)(w:World)(hJ:∀W,Below w.heap.size w W→Calls Tryz.prog 21 #[.agg #[.bool b1,.slice a1 n1 k1,.int .i64 ex1,.bool b2,.slice a2 n2 k2,.int .i64 ex2],.agg #[.bool b3,.slice a3 n3 k3,.int .i64 ex3,.bool b4,.slice a4 n4 k4,.int .i64 ex4],.int .i64 pos,.func (.func 24) #[] #[]] W fun e w'=>bK W F e w') :
  Calls Tryz.prog 9 #[.agg #[.bool b1,.slice a1 n1 k1,.int .i64 ex1,.bool b2,.slice a2 n2 k2,.int .i64 ex2],.agg #[.bool b3,.slice a3 n3 k3,.int .i64 ex3,.bool b4,.slice a4 n4 k4,.int .i64 ex4],.int .i64 pos] w fun e w'=>bK w F e w':=by
 obtain⟨w0,hw0,hb0,q0,q1,q9⟩:=aE w (.cells #[.bool b1,.slice a1 n1 k1,.int .i64 ex1,.bool b2,.slice a2 n2 k2,.int .i64 ex2] 33) (.cells #[.bool b3,.slice a3 n3 k3,.int .i64 ex3,.bool b4,.slice a4 n4 k4,.int .i64 ex4] 33) (.cells #[.bool false,.slice none 0 0,.int .i64 0,.bool false,.slice none 0 0,.int .i64 0] 33)
 obtain⟨y0,y1,y2,y3,y4,y5⟩:=hexa q0
 obtain⟨z0,z1,z2,z3,z4,z5⟩:=hexa q1
 have C:=hJ w0 hb0
 have HU0:=ab hb0
 have HR0:Hid (w0.heap[w.heap.size+1+1]?=some (.cells #[.bool false,.slice none 0 0,.int .i64 0,.bool false,.slice none 0 0,.int .i64 0] 33)):=ab q9
 clear q0 q1 q9 hb0 hJ
 go_enter Tryz.func9,Tryz.ntmps9
 go_wp2_with fail
 refine C.mono ?_
 rintro e t1 ⟨he,g1⟩
 obtain⟨b6,a6,n6,c6,e6,b7,a7,n7,c7,e7,rfl,heq⟩:∃b6 a6 n6 c6 e6 b7 a7 n7 c7 e7,e=.returned (.tuple #[.agg #[.bool b6,.slice a6 n6 c6,.int .i64 e6,.bool b7,.slice a7 n7 c7,.int .i64 e7],.int .i64 F])∧(b6=false∧a6=none∧n6=0∧c6=0∧e6=0∧b7=false∧a7=none∧n7=0∧c7=0∧e7=0):=⟨_,_,_,_,_,_,_,_,_,_,he,rfl,rfl,rfl,rfl,rfl,rfl,rfl,rfl,rfl,rfl⟩
 have HQ:=ab heq
 clear he heq
 have HC1:=ab (ac g1 HR0.out)
 have HG:=ab (ae HU0.out g1)
 have hf1:=aD HC1.out
 obtain⟨m0,m1,m2,m3,m4,m5⟩:=hexa HC1.out
 clear g1 C
 go_wp2
 have T3:=aK HC1.out (.bool b6) (.slice a6 n6 c6) (.int .i64 e6) (.bool b7) (.slice a7 n7 c7) (.int .i64 e7)
 have T4:=aG HG.out (show w.heap.size≤w.heap.size+1+1 by omega) (.bool b6) (.slice a6 n6 c6) (.int .i64 e6) (.bool b7) (.slice a7 n7 c7) (.int .i64 e7)
 obtain⟨p0,p1,p2,p3,p4,p5⟩:=hexa T3
 have HE:=ab T4
 clear T3 T4
 generalize (((((t1.setCell ⟨w.heap.size+1+1,0,none⟩ (.bool b6)).setCell ⟨w.heap.size+1+1,1,none⟩ (.slice a6 n6 c6)).setCell ⟨w.heap.size+1+1,2,none⟩ (.int .i64 e6)).setCell ⟨w.heap.size+1+1,3,none⟩ (.bool b7)).setCell ⟨w.heap.size+1+1,4,none⟩ (.slice a7 n7 c7)).setCell ⟨w.heap.size+1+1,5,none⟩ (.int .i64 e7)=w9 at *
 refine bodyPost_ret (v:=.tuple #[.agg #[.bool b6,.slice a6 n6 c6,.int .i64 e6,.bool b7,.slice a7 n7 c7,.int .i64 e7],.int .i64 F]) (by simp [results,Tryz.results9,go_sem,p0,p1,p2,p3,p4,p5]) rfl ?_
 obtain⟨rfl,rfl,rfl,rfl,rfl,rfl,rfl,rfl,rfl,rfl⟩:=HQ.out
 exact⟨rfl,HE.out⟩

theorem ro (b1:Bool)(a1:Option Addr)(n1 k1:Nat)(ex1:Int)(b2:Bool)(a2:Option Addr)(n2 k2:Nat)(ex2:Int)(b3:Bool)(a3:Option Addr)(n3 k3:Nat)(ex3:Int)(b4:Bool)(a4:Option Addr)(n4 k4:Nat)(ex4:Int)(pos:Int)(K:Nat)(VC VD:Int)(w:World)(hJ:∀W,Below w.heap.size w W→Calls Tryz.prog 21 #[.agg #[.bool b1,.slice a1 n1 k1,.int .i64 ex1,.bool b2,.slice a2 n2 k2,.int .i64 ex2],.agg #[.bool b3,.slice a3 n3 k3,.int .i64 ex3,.bool b4,.slice a4 n4 k4,.int .i64 ex4],.int .i64 pos,.func (.func 24) #[] #[]] W fun e w'=>bB W e w' 0 K VC VD) :
  Calls Tryz.prog 9 #[.agg #[.bool b1,.slice a1 n1 k1,.int .i64 ex1,.bool b2,.slice a2 n2 k2,.int .i64 ex2],.agg #[.bool b3,.slice a3 n3 k3,.int .i64 ex3,.bool b4,.slice a4 n4 k4,.int .i64 ex4],.int .i64 pos] w fun e w'=>bB w e w' 0 K VC VD:=by
 obtain⟨w0,hw0,hb0,q0,q1,q9⟩:=aE w (.cells #[.bool b1,.slice a1 n1 k1,.int .i64 ex1,.bool b2,.slice a2 n2 k2,.int .i64 ex2] 33) (.cells #[.bool b3,.slice a3 n3 k3,.int .i64 ex3,.bool b4,.slice a4 n4 k4,.int .i64 ex4] 33) (.cells #[.bool false,.slice none 0 0,.int .i64 0,.bool false,.slice none 0 0,.int .i64 0] 33)
 obtain⟨y0,y1,y2,y3,y4,y5⟩:=hexa q0
 obtain⟨z0,z1,z2,z3,z4,z5⟩:=hexa q1
 have C:=hJ w0 hb0
 have HU0:=ab hb0
 have HR0:Hid (w0.heap[w.heap.size+1+1]?=some (.cells #[.bool false,.slice none 0 0,.int .i64 0,.bool false,.slice none 0 0,.int .i64 0] 33)):=ab q9
 clear q0 q1 q9 hb0 hJ
 go_enter Tryz.func9,Tryz.ntmps9
 go_wp2_with fail
 refine C.mono ?_
 rintro e t1 ⟨⟨b6,a6,n6,c6,e6,b7,a7,n7,c7,e7,d7,rfl,hg1⟩,g1⟩
 have HC1:=ab (ac g1 HR0.out)
 have HG:=ab (ae HU0.out g1)
 have HSR:=ab (hg1.base HU0.out.size)
 have hf1:=aD HC1.out
 obtain⟨m0,m1,m2,m3,m4,m5⟩:=hexa HC1.out
 clear g1 C hg1
 go_wp2
 have T3:=aK HC1.out (.bool b6) (.slice a6 n6 c6) (.int .i64 e6) (.bool b7) (.slice a7 n7 c7) (.int .i64 e7)
 have T4:=aG HG.out (show w.heap.size≤w.heap.size+1+1 by omega) (.bool b6) (.slice a6 n6 c6) (.int .i64 e6) (.bool b7) (.slice a7 n7 c7) (.int .i64 e7)
 have T5:=HSR.out.hexa HC1.out (by decide) (.bool b6) (.slice a6 n6 c6) (.int .i64 e6) (.bool b7) (.slice a7 n7 c7) (.int .i64 e7)
 obtain⟨p0,p1,p2,p3,p4,p5⟩:=hexa T3
 have HE:=ab (And.intro T5 T4)
 clear T3 T4 T5
 generalize (((((t1.setCell ⟨w.heap.size+1+1,0,none⟩ (.bool b6)).setCell ⟨w.heap.size+1+1,1,none⟩ (.slice a6 n6 c6)).setCell ⟨w.heap.size+1+1,2,none⟩ (.int .i64 e6)).setCell ⟨w.heap.size+1+1,3,none⟩ (.bool b7)).setCell ⟨w.heap.size+1+1,4,none⟩ (.slice a7 n7 c7)).setCell ⟨w.heap.size+1+1,5,none⟩ (.int .i64 e7)=w9 at *
 refine bodyPost_ret (v:=.tuple #[.agg #[.bool b6,.slice a6 n6 c6,.int .i64 e6,.bool b7,.slice a7 n7 c7,.int .i64 e7],.int .i64 d7]) (by simp [results,Tryz.results9,go_sem,p0,p1,p2,p3,p4,p5]) rfl ?_
 exact⟨⟨_,_,_,_,_,_,_,_,_,_,_,rfl,HE.out.1⟩,HE.out.2⟩

end Go.Proofs.YteflkojglmleaaaGreatDoor
