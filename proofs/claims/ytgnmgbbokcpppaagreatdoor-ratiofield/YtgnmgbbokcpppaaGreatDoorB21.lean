/- The walk of the law RatioField. -/
import Derived.Test.YtgnmgbbokcpppaaGreatDoorB17
import Derived.Test.YtgnmgbbokcpppaaGreatDoorB20
namespace Go.Proofs.YtgnmgbbokcpppaaGreatDoor
open Go.RowKit
open Lm
attribute [local go_sem ↓] Go.wp_at_zero Go.wp_at_succ

theorem ra (b:Bool)(v1 v2:Value)(x d:Nat)(w:World)(hA:Qn w v1 v2 x d) :
  Calls Tryz.prog 21 #[.agg #[.bool b,v1,v2]] w fun e w'=>e=.returned (.tuple #[.int .i64 (sg b x),.int .i64 0])∧Below w.heap.size w w':=by
 obtain⟨⟨X,h1,rfl,_⟩,⟨Y,h2,rfl,_⟩,h3⟩:=hA
 exact pz b v1 v2 X Y w h1 h2 h3

def RBx (w:World)(g:Nat)(b:Bool)(a1:Option Addr)(n1 k1:Nat)(a2:Option Addr)(n2 k2:Nat)(z:Int)(d M:Nat):Prop:=w.heap[g]?=some (.cells #[.bool b,.slice a1 n1 k1,.slice a2 n2 k2] 27)∧Qr w b (.slice a1 n1 k1) (.slice a2 n2 k2) z d M

theorem RBx.below {w w':World}{g:Nat}{b:Bool}{a1:Option Addr}{n1 k1:Nat}{a2:Option Addr}{n2 k2:Nat}{z:Int}{d M:Nat}(h:RBx w g b a1 n1 k1 a2 n2 k2 z d M)(hb:Below w.heap.size w w'):RBx w' g b a1 n1 k1 a2 n2 k2 z d M:=⟨ae hb h.1,h.2.below hb⟩

theorem fS {x y:Int}(h:x=y):aw x y=0:=by
 unfold aw
 rw [if_neg (by omega),if_neg (by omega)]

theorem nU {b:Bool}{x:Nat}:sg b x=0 ↔ zz b x=0:=by
 unfold sg zz
 cases b <;> simp <;> (repeat' split) <;> omega

theorem bF {x:Int}(h:0<x):x≠0:=by omega

set_option maxRecDepth 100000 in
set_option maxHeartbeats 32000000 in
theorem on (b0:Bool)(v0:Value)(z0:List Nat)(u0:Value)(y0:List Nat)(b1:Bool)(v1:Value)(z1:List Nat)(u1:Value)(y1:List Nat)(b2:Bool)(v2:Value)(z2:List Nat)(u2:Value)(y2:List Nat)(w:World)(hT:Tab w)(A0:Arg w v0 z0)(s0:z0.length≤17592186043904)(B0:Arg w u0 y0)(t0:y0.length≤17592186043904)(A1:Arg w v1 z1)(s1:z1.length≤17592186043904)(B1:Arg w u1 y1)(t1:y1.length≤17592186043904)(A2:Arg w v2 z2)(s2:z2.length≤17592186043904)(B2:Arg w u2 y2)(t2:y2.length≤17592186043904) :
  Calls Tryz.prog 4 #[.agg #[.bool b0,v0,u0],.agg #[.bool b1,v1,u1],.agg #[.bool b2,v2,u2]] w fun e w'=>e=.returned (.bool true)∧Below w.heap.size w w':=by
 have q1:Nn w v0 (val z0):=⟨z0,A0,rfl,s0⟩
 have q2:Nn w u0 (val y0):=⟨y0,B0,rfl,t0⟩
 have q3:Nn w v1 (val z1):=⟨z1,A1,rfl,s1⟩
 have q4:Nn w u1 (val y1):=⟨y1,B1,rfl,t1⟩
 have q5:Nn w v2 (val z2):=⟨z2,A2,rfl,s2⟩
 have q6:Nn w u2 (val y2):=⟨y2,B2,rfl,t2⟩
 clear A0 s0 B0 t0 A1 s1 B1 t1 A2 s2 B2 t2
 generalize val z0=xa at *
 generalize val y0=da at *
 generalize val z1=xb at *
 generalize val y1=db at *
 generalize val z2=xc at *
 generalize val y2=dc at *
 clear z0 y0 z1 y1 z2 y2
 obtain⟨a1,m1,n1,rfl⟩:=q1.form
 obtain⟨a2,m2,n2,rfl⟩:=q2.form
 obtain⟨a3,m3,n3,rfl⟩:=q3.form
 obtain⟨a4,m4,n4,rfl⟩:=q4.form
 obtain⟨a5,m5,n5,rfl⟩:=q5.form
 obtain⟨a6,m6,n6,rfl⟩:=q6.form
 obtain⟨w0,hw0,hb0,h0,h1,h2⟩:=aZ w (.cells #[.bool b0,.slice a1 m1 n1,.slice a2 m2 n2] 27) (.cells #[.bool b1,.slice a3 m3 n3,.slice a4 m4 n4] 27) (.cells #[.bool b2,.slice a5 m5 n5,.slice a6 m6 n6] 27)
 obtain⟨w1,hw1,hb1,hL⟩:=an w0 (.cells #[.bool b0,.slice a1 m1 n1,.slice a2 m2 n2,.bool b1,.slice a3 m3 n3,.slice a4 m4 n4,.bool b2,.slice a5 m5 n5,.slice a6 m6 n6] 27)
 have g1:=ah hb0 hb1
 have C:=pS w0.heap.size b0 b1 b2 _ _ _ _ _ _ xa da xb db xc dc w1 (q1.below g1) (q2.below g1) (q3.below g1) (q4.below g1) (q5.below g1) (q6.below g1) hL
 obtain⟨c0,c1,c2⟩:=tri h0
 obtain⟨c3,c4,c5⟩:=tri h1
 obtain⟨c6,c7,c8⟩:=tri h2
 have HT:=ac (hT.below g1)
 have HW:=ac g1
 have H0:=ac (ae hb1 h0)
 have H1:=ac (ae hb1 h1)
 have H2:=ac (ae hb1 h2)
 have HQ:=ac (And.intro (And.intro (q1.below g1) (q2.below g1)) (And.intro (And.intro (q3.below g1) (q4.below g1)) (And.intro (q5.below g1) (q6.below g1))))
 clear q1 q2 q3 q4 q5 q6 hb0 hb1 g1 h0 h1 h2 hL hT
 go_enter Tryz.func4,Tryz.ntmps4
 go_wp2_with fail
 refine C.mono ?_
 rintro e w2 ⟨hor,hb⟩
 replace HT:=ac (HT.out.below hb)
 replace HW:=ac (ah HW.out hb)
 clear hw0 hw1 C c0 c1 c2 c3 c4 c5 c6 c7 c8
 rcases hor with rfl|⟨rfl,hsa,hsb,hsc⟩
 ·clear HQ H0 H1 H2 hb
  have C:=gh w2 HT.out
  go_wp2_with fail
  refine C.mono ?_
  rintro e wl ⟨rfl,hb⟩
  have HF:=ac (ah HW.out hb)
  clear C hb
  go_wp2
  go_ret
  exact⟨rfl,HF.out⟩
 obtain⟨za,hza⟩:∃z,zz b0 xa=z:=⟨_,rfl⟩
 obtain⟨zb,hzb⟩:∃z,zz b1 xb=z:=⟨_,rfl⟩
 obtain⟨zc,hzc⟩:∃z,zz b2 xc=z:=⟨_,rfl⟩
 have RA:=ac (show RBx w2 w.heap.size b0 a1 m1 n1 a2 m2 n2 za da 1048576 from ⟨ae hb H0.out,xa,⟨HQ.out.1.1.below hb,HQ.out.1.2.below hb,hsa.1⟩,hza,hsa.2.2,hsa.2.1⟩)
 have RB:=ac (show RBx w2 (w.heap.size+1) b1 a3 m3 n3 a4 m4 n4 zb db 1048576 from ⟨ae hb H1.out,xb,⟨HQ.out.2.1.1.below hb,HQ.out.2.1.2.below hb,hsb.1⟩,hzb,hsb.2.2,hsb.2.1⟩)
 have RC:=ac (show RBx w2 (w.heap.size+2) b2 a5 m5 n5 a6 m6 n6 zc dc 1048576 from ⟨ae hb H2.out,xc,⟨HQ.out.2.2.1.below hb,HQ.out.2.2.2.below hb,hsc.1⟩,hzc,hsc.2.2,hsc.2.1⟩)
 clear HQ H0 H1 H2 hb hsa hsb hsc hza hzb hzc

 obtain⟨c0,c1,c2⟩:=tri RA.out.1
 obtain⟨c3,c4,c5⟩:=tri RB.out.1
 have C:=dk _ _ _ _ _ _ _ _ _ _ _ _ w2 RA.out.2 RB.out.2 HT.out (by omega)
 go_wp2_with fail
 refine C.mono ?_
 rintro e t1 ⟨⟨qb,qa,qn,qk,pa,pn,pk,zz1,dd1,rfl,hq,hp⟩,hb⟩
 replace HT:=ac (HT.out.below hb)
 replace HW:=ac (ah HW.out hb)
 (first | (replace RA:=ac (RA.out.below hb)) | skip)
 (first | (replace RB:=ac (RB.out.below hb)) | skip)
 (first | (replace RC:=ac (RC.out.below hb)) | skip)
 (first | (replace R1:=ac (R1.out.below hb)) | skip)
 (first | (replace R2:=ac (R2.out.below hb)) | skip)
 (first | (replace R3:=ac (R3.out.below hb)) | skip)
 (first | (replace R4:=ac (R4.out.below hb)) | skip)
 (first | (replace R5:=ac (R5.out.below hb)) | skip)
 (first | (replace R6:=ac (R6.out.below hb)) | skip)
 (first | (replace R7:=ac (R7.out.below hb)) | skip)
 (first | (replace R8:=ac (R8.out.below hb)) | skip)
 (first | (replace R9:=ac (R9.out.below hb)) | skip)
 (first | (replace R0:=ac (R0.out.below hb)) | skip)
 have E1:=ac hp
 clear C hb hp c0 c1 c2 c3 c4 c5
 obtain⟨u1,hu1,hbu,hxu⟩:=an t1 (.cells #[.bool qb,.slice qa qn qk,.slice pa pn pk] 27)
 replace HT:=ac (HT.out.below hbu)
 replace HW:=ac (ah HW.out hbu)
 (first | (replace RA:=ac (RA.out.below hbu)) | skip)
 (first | (replace RB:=ac (RB.out.below hbu)) | skip)
 (first | (replace RC:=ac (RC.out.below hbu)) | skip)
 (first | (replace R1:=ac (R1.out.below hbu)) | skip)
 (first | (replace R2:=ac (R2.out.below hbu)) | skip)
 (first | (replace R3:=ac (R3.out.below hbu)) | skip)
 (first | (replace R4:=ac (R4.out.below hbu)) | skip)
 (first | (replace R5:=ac (R5.out.below hbu)) | skip)
 (first | (replace R6:=ac (R6.out.below hbu)) | skip)
 (first | (replace R7:=ac (R7.out.below hbu)) | skip)
 (first | (replace R8:=ac (R8.out.below hbu)) | skip)
 (first | (replace R9:=ac (R9.out.below hbu)) | skip)
 (first | (replace R0:=ac (R0.out.below hbu)) | skip)
 have R1:=ac (show RBx u1 t1.heap.size qb qa qn qk pa pn pk zz1 dd1 _ from ⟨hxu,hq.below hbu⟩)
 clear hq hbu hxu
 obtain⟨c0,c1,c2⟩:=tri R1.out.1
 obtain⟨c3,c4,c5⟩:=tri RC.out.1
 have C:=dk _ _ _ _ _ _ _ _ _ _ _ _ u1 R1.out.2 RC.out.2 HT.out (by omega)
 go_wp2_with fail
 refine C.mono ?_
 rintro e t2 ⟨⟨qb,qa,qn,qk,pa,pn,pk,zz2,dd2,rfl,hq,hp⟩,hb⟩
 replace HT:=ac (HT.out.below hb)
 replace HW:=ac (ah HW.out hb)
 (first | (replace RA:=ac (RA.out.below hb)) | skip)
 (first | (replace RB:=ac (RB.out.below hb)) | skip)
 (first | (replace RC:=ac (RC.out.below hb)) | skip)
 (first | (replace R1:=ac (R1.out.below hb)) | skip)
 (first | (replace R2:=ac (R2.out.below hb)) | skip)
 (first | (replace R3:=ac (R3.out.below hb)) | skip)
 (first | (replace R4:=ac (R4.out.below hb)) | skip)
 (first | (replace R5:=ac (R5.out.below hb)) | skip)
 (first | (replace R6:=ac (R6.out.below hb)) | skip)
 (first | (replace R7:=ac (R7.out.below hb)) | skip)
 (first | (replace R8:=ac (R8.out.below hb)) | skip)
 (first | (replace R9:=ac (R9.out.below hb)) | skip)
 (first | (replace R0:=ac (R0.out.below hb)) | skip)
 have E2:=ac hp
 clear C hb hp c0 c1 c2 c3 c4 c5
 obtain⟨u2,hu2,hbu,hxu⟩:=an t2 (.cells #[.bool qb,.slice qa qn qk,.slice pa pn pk] 27)
 replace HT:=ac (HT.out.below hbu)
 replace HW:=ac (ah HW.out hbu)
 (first | (replace RA:=ac (RA.out.below hbu)) | skip)
 (first | (replace RB:=ac (RB.out.below hbu)) | skip)
 (first | (replace RC:=ac (RC.out.below hbu)) | skip)
 (first | (replace R1:=ac (R1.out.below hbu)) | skip)
 (first | (replace R2:=ac (R2.out.below hbu)) | skip)
 (first | (replace R3:=ac (R3.out.below hbu)) | skip)
 (first | (replace R4:=ac (R4.out.below hbu)) | skip)
 (first | (replace R5:=ac (R5.out.below hbu)) | skip)
 (first | (replace R6:=ac (R6.out.below hbu)) | skip)
 (first | (replace R7:=ac (R7.out.below hbu)) | skip)
 (first | (replace R8:=ac (R8.out.below hbu)) | skip)
 (first | (replace R9:=ac (R9.out.below hbu)) | skip)
 (first | (replace R0:=ac (R0.out.below hbu)) | skip)
 have R2:=ac (show RBx u2 t2.heap.size qb qa qn qk pa pn pk zz2 dd2 _ from ⟨hxu,hq.below hbu⟩)
 clear hq hbu hxu
 clear hu1
 obtain⟨c0,c1,c2⟩:=tri RB.out.1
 obtain⟨c3,c4,c5⟩:=tri RC.out.1
 have C:=dk _ _ _ _ _ _ _ _ _ _ _ _ u2 RB.out.2 RC.out.2 HT.out (by omega)
 go_wp2_with fail
 refine C.mono ?_
 rintro e t3 ⟨⟨qb,qa,qn,qk,pa,pn,pk,zz3,dd3,rfl,hq,hp⟩,hb⟩
 replace HT:=ac (HT.out.below hb)
 replace HW:=ac (ah HW.out hb)
 (first | (replace RA:=ac (RA.out.below hb)) | skip)
 (first | (replace RB:=ac (RB.out.below hb)) | skip)
 (first | (replace RC:=ac (RC.out.below hb)) | skip)
 (first | (replace R1:=ac (R1.out.below hb)) | skip)
 (first | (replace R2:=ac (R2.out.below hb)) | skip)
 (first | (replace R3:=ac (R3.out.below hb)) | skip)
 (first | (replace R4:=ac (R4.out.below hb)) | skip)
 (first | (replace R5:=ac (R5.out.below hb)) | skip)
 (first | (replace R6:=ac (R6.out.below hb)) | skip)
 (first | (replace R7:=ac (R7.out.below hb)) | skip)
 (first | (replace R8:=ac (R8.out.below hb)) | skip)
 (first | (replace R9:=ac (R9.out.below hb)) | skip)
 (first | (replace R0:=ac (R0.out.below hb)) | skip)
 have E3:=ac hp
 clear C hb hp c0 c1 c2 c3 c4 c5
 obtain⟨u3,hu3,hbu,hxu⟩:=an t3 (.cells #[.bool qb,.slice qa qn qk,.slice pa pn pk] 27)
 replace HT:=ac (HT.out.below hbu)
 replace HW:=ac (ah HW.out hbu)
 (first | (replace RA:=ac (RA.out.below hbu)) | skip)
 (first | (replace RB:=ac (RB.out.below hbu)) | skip)
 (first | (replace RC:=ac (RC.out.below hbu)) | skip)
 (first | (replace R1:=ac (R1.out.below hbu)) | skip)
 (first | (replace R2:=ac (R2.out.below hbu)) | skip)
 (first | (replace R3:=ac (R3.out.below hbu)) | skip)
 (first | (replace R4:=ac (R4.out.below hbu)) | skip)
 (first | (replace R5:=ac (R5.out.below hbu)) | skip)
 (first | (replace R6:=ac (R6.out.below hbu)) | skip)
 (first | (replace R7:=ac (R7.out.below hbu)) | skip)
 (first | (replace R8:=ac (R8.out.below hbu)) | skip)
 (first | (replace R9:=ac (R9.out.below hbu)) | skip)
 (first | (replace R0:=ac (R0.out.below hbu)) | skip)
 have R3:=ac (show RBx u3 t3.heap.size qb qa qn qk pa pn pk zz3 dd3 _ from ⟨hxu,hq.below hbu⟩)
 clear hq hbu hxu
 clear hu2
 obtain⟨c0,c1,c2⟩:=tri RA.out.1
 obtain⟨c3,c4,c5⟩:=tri R3.out.1
 have C:=dk _ _ _ _ _ _ _ _ _ _ _ _ u3 RA.out.2 R3.out.2 HT.out (by omega)
 go_wp2_with fail
 refine C.mono ?_
 rintro e t4 ⟨⟨qb,qa,qn,qk,pa,pn,pk,zz4,dd4,rfl,hq,hp⟩,hb⟩
 replace HT:=ac (HT.out.below hb)
 replace HW:=ac (ah HW.out hb)
 (first | (replace RA:=ac (RA.out.below hb)) | skip)
 (first | (replace RB:=ac (RB.out.below hb)) | skip)
 (first | (replace RC:=ac (RC.out.below hb)) | skip)
 (first | (replace R1:=ac (R1.out.below hb)) | skip)
 (first | (replace R2:=ac (R2.out.below hb)) | skip)
 (first | (replace R3:=ac (R3.out.below hb)) | skip)
 (first | (replace R4:=ac (R4.out.below hb)) | skip)
 (first | (replace R5:=ac (R5.out.below hb)) | skip)
 (first | (replace R6:=ac (R6.out.below hb)) | skip)
 (first | (replace R7:=ac (R7.out.below hb)) | skip)
 (first | (replace R8:=ac (R8.out.below hb)) | skip)
 (first | (replace R9:=ac (R9.out.below hb)) | skip)
 (first | (replace R0:=ac (R0.out.below hb)) | skip)
 have E4:=ac hp
 clear C hb hp c0 c1 c2 c3 c4 c5
 obtain⟨u4,hu4,hbu,hxu⟩:=an t4 (.cells #[.bool qb,.slice qa qn qk,.slice pa pn pk] 27)
 replace HT:=ac (HT.out.below hbu)
 replace HW:=ac (ah HW.out hbu)
 (first | (replace RA:=ac (RA.out.below hbu)) | skip)
 (first | (replace RB:=ac (RB.out.below hbu)) | skip)
 (first | (replace RC:=ac (RC.out.below hbu)) | skip)
 (first | (replace R1:=ac (R1.out.below hbu)) | skip)
 (first | (replace R2:=ac (R2.out.below hbu)) | skip)
 (first | (replace R3:=ac (R3.out.below hbu)) | skip)
 (first | (replace R4:=ac (R4.out.below hbu)) | skip)
 (first | (replace R5:=ac (R5.out.below hbu)) | skip)
 (first | (replace R6:=ac (R6.out.below hbu)) | skip)
 (first | (replace R7:=ac (R7.out.below hbu)) | skip)
 (first | (replace R8:=ac (R8.out.below hbu)) | skip)
 (first | (replace R9:=ac (R9.out.below hbu)) | skip)
 (first | (replace R0:=ac (R0.out.below hbu)) | skip)
 have R4:=ac (show RBx u4 t4.heap.size qb qa qn qk pa pn pk zz4 dd4 _ from ⟨hxu,hq.below hbu⟩)
 clear hq hbu hxu
 clear hu3
 obtain⟨c0,c1,c2⟩:=tri RA.out.1
 obtain⟨c3,c4,c5⟩:=tri R3.out.1
 have C:=fK _ _ _ _ _ _ _ _ _ _ _ _ u4 RA.out.2 R3.out.2 HT.out (by omega)
 go_wp2_with fail
 refine C.mono ?_
 rintro e t5 ⟨⟨qb,qa,qn,qk,pa,pn,pk,zz5,dd5,rfl,hq,hp⟩,hb⟩
 replace HT:=ac (HT.out.below hb)
 replace HW:=ac (ah HW.out hb)
 (first | (replace RA:=ac (RA.out.below hb)) | skip)
 (first | (replace RB:=ac (RB.out.below hb)) | skip)
 (first | (replace RC:=ac (RC.out.below hb)) | skip)
 (first | (replace R1:=ac (R1.out.below hb)) | skip)
 (first | (replace R2:=ac (R2.out.below hb)) | skip)
 (first | (replace R3:=ac (R3.out.below hb)) | skip)
 (first | (replace R4:=ac (R4.out.below hb)) | skip)
 (first | (replace R5:=ac (R5.out.below hb)) | skip)
 (first | (replace R6:=ac (R6.out.below hb)) | skip)
 (first | (replace R7:=ac (R7.out.below hb)) | skip)
 (first | (replace R8:=ac (R8.out.below hb)) | skip)
 (first | (replace R9:=ac (R9.out.below hb)) | skip)
 (first | (replace R0:=ac (R0.out.below hb)) | skip)
 have E5:=ac hp
 clear C hb hp c0 c1 c2 c3 c4 c5
 obtain⟨u5,hu5,hbu,hxu⟩:=an t5 (.cells #[.bool qb,.slice qa qn qk,.slice pa pn pk] 27)
 replace HT:=ac (HT.out.below hbu)
 replace HW:=ac (ah HW.out hbu)
 (first | (replace RA:=ac (RA.out.below hbu)) | skip)
 (first | (replace RB:=ac (RB.out.below hbu)) | skip)
 (first | (replace RC:=ac (RC.out.below hbu)) | skip)
 (first | (replace R1:=ac (R1.out.below hbu)) | skip)
 (first | (replace R2:=ac (R2.out.below hbu)) | skip)
 (first | (replace R3:=ac (R3.out.below hbu)) | skip)
 (first | (replace R4:=ac (R4.out.below hbu)) | skip)
 (first | (replace R5:=ac (R5.out.below hbu)) | skip)
 (first | (replace R6:=ac (R6.out.below hbu)) | skip)
 (first | (replace R7:=ac (R7.out.below hbu)) | skip)
 (first | (replace R8:=ac (R8.out.below hbu)) | skip)
 (first | (replace R9:=ac (R9.out.below hbu)) | skip)
 (first | (replace R0:=ac (R0.out.below hbu)) | skip)
 have R5:=ac (show RBx u5 t5.heap.size qb qa qn qk pa pn pk zz5 dd5 _ from ⟨hxu,hq.below hbu⟩)
 clear hq hbu hxu
 clear hu4
 obtain⟨c0,c1,c2⟩:=tri RA.out.1
 obtain⟨c3,c4,c5⟩:=tri RB.out.1
 have C:=fK _ _ _ _ _ _ _ _ _ _ _ _ u5 RA.out.2 RB.out.2 HT.out (by omega)
 go_wp2_with fail
 refine C.mono ?_
 rintro e t6 ⟨⟨qb,qa,qn,qk,pa,pn,pk,zz6,dd6,rfl,hq,hp⟩,hb⟩
 replace HT:=ac (HT.out.below hb)
 replace HW:=ac (ah HW.out hb)
 (first | (replace RA:=ac (RA.out.below hb)) | skip)
 (first | (replace RB:=ac (RB.out.below hb)) | skip)
 (first | (replace RC:=ac (RC.out.below hb)) | skip)
 (first | (replace R1:=ac (R1.out.below hb)) | skip)
 (first | (replace R2:=ac (R2.out.below hb)) | skip)
 (first | (replace R3:=ac (R3.out.below hb)) | skip)
 (first | (replace R4:=ac (R4.out.below hb)) | skip)
 (first | (replace R5:=ac (R5.out.below hb)) | skip)
 (first | (replace R6:=ac (R6.out.below hb)) | skip)
 (first | (replace R7:=ac (R7.out.below hb)) | skip)
 (first | (replace R8:=ac (R8.out.below hb)) | skip)
 (first | (replace R9:=ac (R9.out.below hb)) | skip)
 (first | (replace R0:=ac (R0.out.below hb)) | skip)
 have E6:=ac hp
 clear C hb hp c0 c1 c2 c3 c4 c5
 obtain⟨u6,hu6,hbu,hxu⟩:=an t6 (.cells #[.bool qb,.slice qa qn qk,.slice pa pn pk] 27)
 replace HT:=ac (HT.out.below hbu)
 replace HW:=ac (ah HW.out hbu)
 (first | (replace RA:=ac (RA.out.below hbu)) | skip)
 (first | (replace RB:=ac (RB.out.below hbu)) | skip)
 (first | (replace RC:=ac (RC.out.below hbu)) | skip)
 (first | (replace R1:=ac (R1.out.below hbu)) | skip)
 (first | (replace R2:=ac (R2.out.below hbu)) | skip)
 (first | (replace R3:=ac (R3.out.below hbu)) | skip)
 (first | (replace R4:=ac (R4.out.below hbu)) | skip)
 (first | (replace R5:=ac (R5.out.below hbu)) | skip)
 (first | (replace R6:=ac (R6.out.below hbu)) | skip)
 (first | (replace R7:=ac (R7.out.below hbu)) | skip)
 (first | (replace R8:=ac (R8.out.below hbu)) | skip)
 (first | (replace R9:=ac (R9.out.below hbu)) | skip)
 (first | (replace R0:=ac (R0.out.below hbu)) | skip)
 have R6:=ac (show RBx u6 t6.heap.size qb qa qn qk pa pn pk zz6 dd6 _ from ⟨hxu,hq.below hbu⟩)
 clear hq hbu hxu
 clear hu5
 obtain⟨c0,c1,c2⟩:=tri RA.out.1
 obtain⟨c3,c4,c5⟩:=tri RC.out.1
 have C:=fK _ _ _ _ _ _ _ _ _ _ _ _ u6 RA.out.2 RC.out.2 HT.out (by omega)
 go_wp2_with fail
 refine C.mono ?_
 rintro e t7 ⟨⟨qb,qa,qn,qk,pa,pn,pk,zz7,dd7,rfl,hq,hp⟩,hb⟩
 replace HT:=ac (HT.out.below hb)
 replace HW:=ac (ah HW.out hb)
 (first | (replace RA:=ac (RA.out.below hb)) | skip)
 (first | (replace RB:=ac (RB.out.below hb)) | skip)
 (first | (replace RC:=ac (RC.out.below hb)) | skip)
 (first | (replace R1:=ac (R1.out.below hb)) | skip)
 (first | (replace R2:=ac (R2.out.below hb)) | skip)
 (first | (replace R3:=ac (R3.out.below hb)) | skip)
 (first | (replace R4:=ac (R4.out.below hb)) | skip)
 (first | (replace R5:=ac (R5.out.below hb)) | skip)
 (first | (replace R6:=ac (R6.out.below hb)) | skip)
 (first | (replace R7:=ac (R7.out.below hb)) | skip)
 (first | (replace R8:=ac (R8.out.below hb)) | skip)
 (first | (replace R9:=ac (R9.out.below hb)) | skip)
 (first | (replace R0:=ac (R0.out.below hb)) | skip)
 have E7:=ac hp
 clear C hb hp c0 c1 c2 c3 c4 c5
 obtain⟨u7,hu7,hbu,hxu⟩:=an t7 (.cells #[.bool qb,.slice qa qn qk,.slice pa pn pk] 27)
 replace HT:=ac (HT.out.below hbu)
 replace HW:=ac (ah HW.out hbu)
 (first | (replace RA:=ac (RA.out.below hbu)) | skip)
 (first | (replace RB:=ac (RB.out.below hbu)) | skip)
 (first | (replace RC:=ac (RC.out.below hbu)) | skip)
 (first | (replace R1:=ac (R1.out.below hbu)) | skip)
 (first | (replace R2:=ac (R2.out.below hbu)) | skip)
 (first | (replace R3:=ac (R3.out.below hbu)) | skip)
 (first | (replace R4:=ac (R4.out.below hbu)) | skip)
 (first | (replace R5:=ac (R5.out.below hbu)) | skip)
 (first | (replace R6:=ac (R6.out.below hbu)) | skip)
 (first | (replace R7:=ac (R7.out.below hbu)) | skip)
 (first | (replace R8:=ac (R8.out.below hbu)) | skip)
 (first | (replace R9:=ac (R9.out.below hbu)) | skip)
 (first | (replace R0:=ac (R0.out.below hbu)) | skip)
 have R7:=ac (show RBx u7 t7.heap.size qb qa qn qk pa pn pk zz7 dd7 _ from ⟨hxu,hq.below hbu⟩)
 clear hq hbu hxu
 clear hu6
 obtain⟨c0,c1,c2⟩:=tri R6.out.1
 obtain⟨c3,c4,c5⟩:=tri R7.out.1
 have C:=dk _ _ _ _ _ _ _ _ _ _ _ _ u7 R6.out.2 R7.out.2 HT.out (by omega)
 go_wp2_with fail
 refine C.mono ?_
 rintro e t8 ⟨⟨qb,qa,qn,qk,pa,pn,pk,zz8,dd8,rfl,hq,hp⟩,hb⟩
 replace HT:=ac (HT.out.below hb)
 replace HW:=ac (ah HW.out hb)
 (first | (replace RA:=ac (RA.out.below hb)) | skip)
 (first | (replace RB:=ac (RB.out.below hb)) | skip)
 (first | (replace RC:=ac (RC.out.below hb)) | skip)
 (first | (replace R1:=ac (R1.out.below hb)) | skip)
 (first | (replace R2:=ac (R2.out.below hb)) | skip)
 (first | (replace R3:=ac (R3.out.below hb)) | skip)
 (first | (replace R4:=ac (R4.out.below hb)) | skip)
 (first | (replace R5:=ac (R5.out.below hb)) | skip)
 (first | (replace R6:=ac (R6.out.below hb)) | skip)
 (first | (replace R7:=ac (R7.out.below hb)) | skip)
 (first | (replace R8:=ac (R8.out.below hb)) | skip)
 (first | (replace R9:=ac (R9.out.below hb)) | skip)
 (first | (replace R0:=ac (R0.out.below hb)) | skip)
 have E8:=ac hp
 clear C hb hp c0 c1 c2 c3 c4 c5
 obtain⟨u8,hu8,hbu,hxu⟩:=an t8 (.cells #[.bool qb,.slice qa qn qk,.slice pa pn pk] 27)
 replace HT:=ac (HT.out.below hbu)
 replace HW:=ac (ah HW.out hbu)
 (first | (replace RA:=ac (RA.out.below hbu)) | skip)
 (first | (replace RB:=ac (RB.out.below hbu)) | skip)
 (first | (replace RC:=ac (RC.out.below hbu)) | skip)
 (first | (replace R1:=ac (R1.out.below hbu)) | skip)
 (first | (replace R2:=ac (R2.out.below hbu)) | skip)
 (first | (replace R3:=ac (R3.out.below hbu)) | skip)
 (first | (replace R4:=ac (R4.out.below hbu)) | skip)
 (first | (replace R5:=ac (R5.out.below hbu)) | skip)
 (first | (replace R6:=ac (R6.out.below hbu)) | skip)
 (first | (replace R7:=ac (R7.out.below hbu)) | skip)
 (first | (replace R8:=ac (R8.out.below hbu)) | skip)
 (first | (replace R9:=ac (R9.out.below hbu)) | skip)
 (first | (replace R0:=ac (R0.out.below hbu)) | skip)
 have R8:=ac (show RBx u8 t8.heap.size qb qa qn qk pa pn pk zz8 dd8 _ from ⟨hxu,hq.below hbu⟩)
 clear hq hbu hxu
 clear hu7
 obtain⟨c0,c1,c2⟩:=tri R2.out.1
 obtain⟨c3,c4,c5⟩:=tri R4.out.1
 have C:=dA _ _ _ _ _ _ _ _ _ _ _ _ u8 R2.out.2 R4.out.2 HT.out (by omega)
 rw [fS (me (bF RA.out.2.pos) (bF RB.out.2.pos) (bF RC.out.2.pos) (bF R1.out.2.pos) (bF R3.out.2.pos) E1.out E2.out E3.out E4.out)] at C
 go_wp2_with fail
 refine C.mono ?_
 rintro e s1 ⟨rfl,hb⟩
 replace HT:=ac (HT.out.below hb)
 replace HW:=ac (ah HW.out hb)
 (first | (replace RA:=ac (RA.out.below hb)) | skip)
 (first | (replace RB:=ac (RB.out.below hb)) | skip)
 (first | (replace RC:=ac (RC.out.below hb)) | skip)
 (first | (replace R1:=ac (R1.out.below hb)) | skip)
 (first | (replace R2:=ac (R2.out.below hb)) | skip)
 (first | (replace R3:=ac (R3.out.below hb)) | skip)
 (first | (replace R4:=ac (R4.out.below hb)) | skip)
 (first | (replace R5:=ac (R5.out.below hb)) | skip)
 (first | (replace R6:=ac (R6.out.below hb)) | skip)
 (first | (replace R7:=ac (R7.out.below hb)) | skip)
 (first | (replace R8:=ac (R8.out.below hb)) | skip)
 (first | (replace R9:=ac (R9.out.below hb)) | skip)
 (first | (replace R0:=ac (R0.out.below hb)) | skip)
 clear C hb c0 c1 c2 c3 c4 c5
 clear R2 R4 E2 E4 hu8
 obtain⟨c0,c1,c2⟩:=tri R5.out.1
 obtain⟨c3,c4,c5⟩:=tri R8.out.1
 have C:=dA _ _ _ _ _ _ _ _ _ _ _ _ s1 R5.out.2 R8.out.2 HT.out (by omega)
 rw [fS (pF (bF RA.out.2.pos) (bF RB.out.2.pos) (bF RC.out.2.pos) (bF R3.out.2.pos) (bF R6.out.2.pos) (bF R7.out.2.pos) E3.out E5.out E6.out E7.out E8.out)] at C
 go_wp2_with fail
 refine C.mono ?_
 rintro e s2 ⟨rfl,hb⟩
 replace HT:=ac (HT.out.below hb)
 replace HW:=ac (ah HW.out hb)
 (first | (replace RA:=ac (RA.out.below hb)) | skip)
 (first | (replace RB:=ac (RB.out.below hb)) | skip)
 (first | (replace RC:=ac (RC.out.below hb)) | skip)
 (first | (replace R1:=ac (R1.out.below hb)) | skip)
 (first | (replace R2:=ac (R2.out.below hb)) | skip)
 (first | (replace R3:=ac (R3.out.below hb)) | skip)
 (first | (replace R4:=ac (R4.out.below hb)) | skip)
 (first | (replace R5:=ac (R5.out.below hb)) | skip)
 (first | (replace R6:=ac (R6.out.below hb)) | skip)
 (first | (replace R7:=ac (R7.out.below hb)) | skip)
 (first | (replace R8:=ac (R8.out.below hb)) | skip)
 (first | (replace R9:=ac (R9.out.below hb)) | skip)
 (first | (replace R0:=ac (R0.out.below hb)) | skip)
 clear C hb c0 c1 c2 c3 c4 c5
 clear R5 R8 R7 R1 E1 E5 E7 E8
 obtain⟨c0,c1,c2⟩:=tri RA.out.1
 obtain⟨c3,c4,c5⟩:=tri RC.out.1
 have C:=dk _ _ _ _ _ _ _ _ _ _ _ _ s2 RA.out.2 RC.out.2 HT.out (by omega)
 go_wp2_with fail
 refine C.mono ?_
 rintro e t9 ⟨⟨qb,qa,qn,qk,pa,pn,pk,zz9,dd9,rfl,hq,hp⟩,hb⟩
 replace HT:=ac (HT.out.below hb)
 replace HW:=ac (ah HW.out hb)
 (first | (replace RA:=ac (RA.out.below hb)) | skip)
 (first | (replace RB:=ac (RB.out.below hb)) | skip)
 (first | (replace RC:=ac (RC.out.below hb)) | skip)
 (first | (replace R1:=ac (R1.out.below hb)) | skip)
 (first | (replace R2:=ac (R2.out.below hb)) | skip)
 (first | (replace R3:=ac (R3.out.below hb)) | skip)
 (first | (replace R4:=ac (R4.out.below hb)) | skip)
 (first | (replace R5:=ac (R5.out.below hb)) | skip)
 (first | (replace R6:=ac (R6.out.below hb)) | skip)
 (first | (replace R7:=ac (R7.out.below hb)) | skip)
 (first | (replace R8:=ac (R8.out.below hb)) | skip)
 (first | (replace R9:=ac (R9.out.below hb)) | skip)
 (first | (replace R0:=ac (R0.out.below hb)) | skip)
 have E9:=ac hp
 clear C hb hp c0 c1 c2 c3 c4 c5
 obtain⟨u9,hu9,hbu,hxu⟩:=an t9 (.cells #[.bool qb,.slice qa qn qk,.slice pa pn pk] 27)
 replace HT:=ac (HT.out.below hbu)
 replace HW:=ac (ah HW.out hbu)
 (first | (replace RA:=ac (RA.out.below hbu)) | skip)
 (first | (replace RB:=ac (RB.out.below hbu)) | skip)
 (first | (replace RC:=ac (RC.out.below hbu)) | skip)
 (first | (replace R1:=ac (R1.out.below hbu)) | skip)
 (first | (replace R2:=ac (R2.out.below hbu)) | skip)
 (first | (replace R3:=ac (R3.out.below hbu)) | skip)
 (first | (replace R4:=ac (R4.out.below hbu)) | skip)
 (first | (replace R5:=ac (R5.out.below hbu)) | skip)
 (first | (replace R6:=ac (R6.out.below hbu)) | skip)
 (first | (replace R7:=ac (R7.out.below hbu)) | skip)
 (first | (replace R8:=ac (R8.out.below hbu)) | skip)
 (first | (replace R9:=ac (R9.out.below hbu)) | skip)
 (first | (replace R0:=ac (R0.out.below hbu)) | skip)
 have R9:=ac (show RBx u9 t9.heap.size qb qa qn qk pa pn pk zz9 dd9 _ from ⟨hxu,hq.below hbu⟩)
 clear hq hbu hxu
 obtain⟨om,hom⟩:∃o,aw (za*(db:Int)) (zb*(da:Int))=o:=⟨_,rfl⟩
 have HOM:=ac hom
 obtain⟨c0,c1,c2⟩:=tri RA.out.1
 obtain⟨c3,c4,c5⟩:=tri RB.out.1
 have C:=dA _ _ _ _ _ _ _ _ _ _ _ _ u9 RA.out.2 RB.out.2 HT.out (by omega)
 rw [hom] at C
 go_wp2_with fail
 refine C.mono ?_
 rintro e s3 ⟨rfl,hb⟩
 replace HT:=ac (HT.out.below hb)
 replace HW:=ac (ah HW.out hb)
 (first | (replace RA:=ac (RA.out.below hb)) | skip)
 (first | (replace RB:=ac (RB.out.below hb)) | skip)
 (first | (replace RC:=ac (RC.out.below hb)) | skip)
 (first | (replace R1:=ac (R1.out.below hb)) | skip)
 (first | (replace R2:=ac (R2.out.below hb)) | skip)
 (first | (replace R3:=ac (R3.out.below hb)) | skip)
 (first | (replace R4:=ac (R4.out.below hb)) | skip)
 (first | (replace R5:=ac (R5.out.below hb)) | skip)
 (first | (replace R6:=ac (R6.out.below hb)) | skip)
 (first | (replace R7:=ac (R7.out.below hb)) | skip)
 (first | (replace R8:=ac (R8.out.below hb)) | skip)
 (first | (replace R9:=ac (R9.out.below hb)) | skip)
 (first | (replace R0:=ac (R0.out.below hb)) | skip)
 clear C hb c0 c1 c2 c3 c4 c5
 clear hom hu9
 have HSA:=ac (show aw (zz9*(dd3:Int)) (zz3*(dd9:Int))=om from by
  rw [←HOM.out]
  exact mH (Int.mul_pos (Int.mul_pos RA.out.2.pos RB.out.2.pos) RC.out.2.pos) (Int.mul_pos (Int.mul_pos R9.out.2.pos R3.out.2.pos) RC.out.2.pos) rfl rfl (mE E9.out E3.out))
 obtain⟨c0,c1,c2⟩:=tri R9.out.1
 obtain⟨c3,c4,c5⟩:=tri R3.out.1
 have C:=dA _ _ _ _ _ _ _ _ _ _ _ _ s3 R9.out.2 R3.out.2 HT.out (by omega)
 rw [HSA.out] at C
 go_wp2_with fail
 refine C.mono ?_
 rintro e s4 ⟨rfl,hb⟩
 replace HT:=ac (HT.out.below hb)
 replace HW:=ac (ah HW.out hb)
 (first | (replace RA:=ac (RA.out.below hb)) | skip)
 (first | (replace RB:=ac (RB.out.below hb)) | skip)
 (first | (replace RC:=ac (RC.out.below hb)) | skip)
 (first | (replace R1:=ac (R1.out.below hb)) | skip)
 (first | (replace R2:=ac (R2.out.below hb)) | skip)
 (first | (replace R3:=ac (R3.out.below hb)) | skip)
 (first | (replace R4:=ac (R4.out.below hb)) | skip)
 (first | (replace R5:=ac (R5.out.below hb)) | skip)
 (first | (replace R6:=ac (R6.out.below hb)) | skip)
 (first | (replace R7:=ac (R7.out.below hb)) | skip)
 (first | (replace R8:=ac (R8.out.below hb)) | skip)
 (first | (replace R9:=ac (R9.out.below hb)) | skip)
 (first | (replace R0:=ac (R0.out.below hb)) | skip)
 clear C hb c0 c1 c2 c3 c4 c5
 clear HSA HOM R9 R3 E9 E3 RC
 obtain⟨c0,c1,c2⟩:=tri RB.out.1
 obtain⟨xb',hQb,hzb',_⟩:=RB.out.2
 have C:=ra b1 _ _ xb' db s4 hQb
 have hsz:=nU (b:=b1) (x:=xb')
 rw [hzb'] at hsz
 have HSZ:=ac hsz
 obtain⟨sz,hsg⟩:∃s,sg b1 xb'=s:=⟨_,rfl⟩
 rw [hsg] at C HSZ
 clear hsz hsg hQb hzb'
 go_wp2_with fail
 refine C.mono ?_
 rintro e s5 ⟨rfl,hb⟩
 replace HT:=ac (HT.out.below hb)
 replace HW:=ac (ah HW.out hb)
 (first | (replace RA:=ac (RA.out.below hb)) | skip)
 (first | (replace RB:=ac (RB.out.below hb)) | skip)
 (first | (replace RC:=ac (RC.out.below hb)) | skip)
 (first | (replace R1:=ac (R1.out.below hb)) | skip)
 (first | (replace R2:=ac (R2.out.below hb)) | skip)
 (first | (replace R3:=ac (R3.out.below hb)) | skip)
 (first | (replace R4:=ac (R4.out.below hb)) | skip)
 (first | (replace R5:=ac (R5.out.below hb)) | skip)
 (first | (replace R6:=ac (R6.out.below hb)) | skip)
 (first | (replace R7:=ac (R7.out.below hb)) | skip)
 (first | (replace R8:=ac (R8.out.below hb)) | skip)
 (first | (replace R9:=ac (R9.out.below hb)) | skip)
 (first | (replace R0:=ac (R0.out.below hb)) | skip)
 clear C hb c0 c1 c2
 by_cases hs0:sz=0
 ·subst hs0
  clear HSZ RA RB R6
  have C:=gh s5 HT.out
  go_wp2_with fail
  refine C.mono ?_
  rintro e wl ⟨rfl,hb⟩
  have HF:=ac (ah HW.out hb)
  clear C hb
  go_wp2
  go_ret
  exact⟨rfl,HF.out⟩
 have hzne:=ac (show zb≠0 from fun h=>hs0 (HSZ.out.2 h))
 obtain⟨c0,c1,c2⟩:=tri R6.out.1
 obtain⟨c3,c4,c5⟩:=tri RB.out.1
 have C:=nD _ _ _ _ _ _ _ _ _ _ _ _ s5 R6.out.2 RB.out.2 HT.out (by omega) hzne.out
 clear HSZ
 go_wp2_with fail
 refine C.mono ?_
 rintro e t0 ⟨⟨qb,qa,qn,qk,pa,pn,pk,zz0,dd0,rfl,hq,hp⟩,hb⟩
 replace HT:=ac (HT.out.below hb)
 replace HW:=ac (ah HW.out hb)
 (first | (replace RA:=ac (RA.out.below hb)) | skip)
 (first | (replace RB:=ac (RB.out.below hb)) | skip)
 (first | (replace RC:=ac (RC.out.below hb)) | skip)
 (first | (replace R1:=ac (R1.out.below hb)) | skip)
 (first | (replace R2:=ac (R2.out.below hb)) | skip)
 (first | (replace R3:=ac (R3.out.below hb)) | skip)
 (first | (replace R4:=ac (R4.out.below hb)) | skip)
 (first | (replace R5:=ac (R5.out.below hb)) | skip)
 (first | (replace R6:=ac (R6.out.below hb)) | skip)
 (first | (replace R7:=ac (R7.out.below hb)) | skip)
 (first | (replace R8:=ac (R8.out.below hb)) | skip)
 (first | (replace R9:=ac (R9.out.below hb)) | skip)
 (first | (replace R0:=ac (R0.out.below hb)) | skip)
 have E0:=ac hp
 clear C hb hp c0 c1 c2 c3 c4 c5
 obtain⟨u0',hu0,hbu,hxu⟩:=an t0 (.cells #[.bool qb,.slice qa qn qk,.slice pa pn pk] 27)
 replace HT:=ac (HT.out.below hbu)
 replace HW:=ac (ah HW.out hbu)
 (first | (replace RA:=ac (RA.out.below hbu)) | skip)
 (first | (replace RB:=ac (RB.out.below hbu)) | skip)
 (first | (replace RC:=ac (RC.out.below hbu)) | skip)
 (first | (replace R1:=ac (R1.out.below hbu)) | skip)
 (first | (replace R2:=ac (R2.out.below hbu)) | skip)
 (first | (replace R3:=ac (R3.out.below hbu)) | skip)
 (first | (replace R4:=ac (R4.out.below hbu)) | skip)
 (first | (replace R5:=ac (R5.out.below hbu)) | skip)
 (first | (replace R6:=ac (R6.out.below hbu)) | skip)
 (first | (replace R7:=ac (R7.out.below hbu)) | skip)
 (first | (replace R8:=ac (R8.out.below hbu)) | skip)
 (first | (replace R9:=ac (R9.out.below hbu)) | skip)
 (first | (replace R0:=ac (R0.out.below hbu)) | skip)
 have R0:=ac (show RBx u0' t0.heap.size qb qa qn qk pa pn pk zz0 dd0 _ from ⟨hxu,hq.below hbu⟩)
 clear hq hbu hxu
 obtain⟨c0,c1,c2⟩:=tri R0.out.1
 obtain⟨c3,c4,c5⟩:=tri RA.out.1
 have C:=dA _ _ _ _ _ _ _ _ _ _ _ _ u0' R0.out.2 RA.out.2 HT.out (by omega)
 rw [fS (qP (bF RB.out.2.pos) hzne.out (bF R6.out.2.pos) E6.out E0.out)] at C
 go_wp2_with fail
 refine C.mono ?_
 rintro e s6 ⟨rfl,hb⟩
 replace HT:=ac (HT.out.below hb)
 replace HW:=ac (ah HW.out hb)
 (first | (replace RA:=ac (RA.out.below hb)) | skip)
 (first | (replace RB:=ac (RB.out.below hb)) | skip)
 (first | (replace RC:=ac (RC.out.below hb)) | skip)
 (first | (replace R1:=ac (R1.out.below hb)) | skip)
 (first | (replace R2:=ac (R2.out.below hb)) | skip)
 (first | (replace R3:=ac (R3.out.below hb)) | skip)
 (first | (replace R4:=ac (R4.out.below hb)) | skip)
 (first | (replace R5:=ac (R5.out.below hb)) | skip)
 (first | (replace R6:=ac (R6.out.below hb)) | skip)
 (first | (replace R7:=ac (R7.out.below hb)) | skip)
 (first | (replace R8:=ac (R8.out.below hb)) | skip)
 (first | (replace R9:=ac (R9.out.below hb)) | skip)
 (first | (replace R0:=ac (R0.out.below hb)) | skip)
 clear C hb c0 c1 c2 c3 c4 c5
 clear R0 RA RB R6 E0 E6 hu0
 have C:=gh s6 HT.out
 go_wp2_with fail
 refine C.mono ?_
 rintro e wl ⟨rfl,hb⟩
 have HF:=ac (ah HW.out hb)
 clear C hb
 go_wp2
 go_ret
 exact⟨rfl,HF.out⟩

end Go.Proofs.YtgnmgbbokcpppaaGreatDoor
