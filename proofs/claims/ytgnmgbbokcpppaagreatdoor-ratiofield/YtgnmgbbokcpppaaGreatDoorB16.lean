/- Package ratio: Make, where the terms fit. -/
import Derived.Test.YtgnmgbbokcpppaaGreatDoorB15
import Derived.Test.YtgnmgbbokcpppaaGreatDoorB08
import Derived.Test.YtgnmgbbokcpppaaGreatDoorB02
set_option maxRecDepth 20000
set_option maxHeartbeats 8000000
namespace Go.Proofs.YtgnmgbbokcpppaaGreatDoor
open Go.RowKit
open Lm
attribute [local go_sem ↓] Go.wp_at_zero Go.wp_at_succ

theorem pA (bn bd:Bool)(v1 v2:Value)(X Y:List Nat)(w:World)(hA:Arg w v1 X)(hB:Arg w v2 Y)(hT:Tab w)(hf1:X.length≤17592186043904)(hf2:Y.length≤17592186043904)(hY:val Y≠0)
  (q1:blen (val X / Nat.gcd (val X) (val Y))≤67108864) (q2:blen (val Y / Nat.gcd (val X) (val Y))≤67108864) :
  Calls Tryz.prog 38 #[.agg #[.bool bn,v1],.agg #[.bool bd,v2]] w (dz w (zz (bn != bd) (val X / Nat.gcd (val X) (val Y))) (val Y / Nat.gcd (val X) (val Y))):=by
 obtain⟨a,n,rfl,_,_,_⟩:=hA.form
 obtain⟨ad,nd,rfl,_,_,_⟩:=hB.form
 obtain⟨w0,hw0,hb0,h0,h1,h2⟩:=aZ w (.cells #[.bool bn,.slice a X.length n] 25) (.cells #[.bool bd,.slice ad Y.length nd] 25) (.cells #[.bool false,.slice none 0 0,.slice none 0 0] 27)
 obtain⟨c0,c1⟩:=duo h0
 obtain⟨d0,d1⟩:=duo h1
 obtain⟨sg9,hsg,hsg2⟩:∃sg9,(bn != bd)=sg9∧(!(bn == bd))=sg9:=⟨_,rfl,rfl⟩
 rw [hsg]
 have FA:=nW sg9 _ _ X Y w0 (hA.below hb0) (hB.below hb0) (hT.below hb0) hf1 hf2 hY q1 q2
 have H2:=ac h2
 have HB0:=ac hb0
 clear hA hB hT h0 h1 h2 hb0 q1 q2
 generalize zz sg9 (val X / Nat.gcd (val X) (val Y))=zq at *
 generalize val Y / Nat.gcd (val X) (val Y)=dq at *
 go_enter Tryz.func38,Tryz.ntmps38
 go_wp2_with fail
 refine FA.mono ?_
 rintro e t2 ⟨⟨bb,a1,n1,k1,a2,n2,k2,rfl,y1⟩,hb2⟩
 have hz3:=ae hb2 H2.out
 have T2:=TR.tri (u0:=.bool bb) (u1:=.slice a1 n1 k1) (u2:=.slice a2 n2 k2) (y1.base HB0.out.size) hz3
 have T3:=aG (u0:=.bool bb) (u1:=.slice a1 n1 k1) (u2:=.slice a2 n2 k2) hz3
 have T4:=aF (u0:=.bool bb) (u1:=.slice a1 n1 k1) (u2:=.slice a2 n2 k2) (HB0.out.trans (hb2.mono HB0.out.size)) (show w.heap.size≤w.heap.size+2 by omega)
 have HE:=ac (And.intro T2 T4)
 obtain⟨p0,p1,p2⟩:=tri T3
 have hf:=aE hz3
 obtain⟨m0,m1,m2⟩:=tri hz3
 clear T2 T3 T4 hz3 hb2 FA y1 c0 c1 d0 d1
 go_wp2
 clear hf m0 m1 m2
 generalize ((t2.setCell ⟨w.heap.size+2,0,none⟩ (.bool bb)).setCell ⟨w.heap.size+2,1,none⟩ (.slice a1 n1 k1)).setCell ⟨w.heap.size+2,2,none⟩ (.slice a2 n2 k2)=w5 at *
 refine bodyPost_ret (v:=.tuple #[.agg #[.bool bb,.slice a1 n1 k1,.slice a2 n2 k2],.int .i64 0]) (by simp [results,Tryz.results38,go_sem,p0,p1,p2]) rfl ?_
 exact⟨⟨_,_,_,_,_,_,_,rfl,HE.out.1⟩,HE.out.2⟩

theorem mR (L:Nat)(b1 b2 b3:Bool)(x1 y1 x2 y2 x3 y3:Value)(X1 Y1 X2 Y2 X3 Y3:List Nat)(w:World)(hX1:Arg w x1 X1)(hY1:Arg w y1 Y1)(hX2:Arg w x2 X2)(hY2:Arg w y2 Y2)(hX3:Arg w x3 X3)(hY3:Arg w y3 Y3)(hL:w.heap[L]?=some (.cells #[.bool b1,x1,y1,.bool b2,x2,y2,.bool b3,x3,y3] 27))(h1:val Y1≠0)(h2:val Y2≠0)(h3:val Y3=0) :
  Calls Tryz.prog 25 #[.slice (some ⟨L,0,none⟩) 3 3] w fun e w'=>cA 70 e∧Below w.heap.size w w':=by
 obtain⟨a1,n1,rfl,_,_,_⟩:=hX1.form
 obtain⟨a2,n2,rfl,_,_,_⟩:=hY1.form
 obtain⟨a3,n3,rfl,_,_,_⟩:=hX2.form
 obtain⟨a4,n4,rfl,_,_,_⟩:=hY2.form
 obtain⟨a5,n5,rfl,_,_,_⟩:=hX3.form
 obtain⟨a6,n6,rfl,_,_,_⟩:=hY3.form
 have cel:∀(W:World),W.heap[L]?=some (.cells #[.bool b1,.slice a1 X1.length n1,.slice a2 Y1.length n2,.bool b2,.slice a3 X2.length n3,.slice a4 Y2.length n4,.bool b3,.slice a5 X3.length n5,.slice a6 Y3.length n6] 27)→(W.cell? ⟨L,0,none⟩=some (.bool b1)∧W.cell? ⟨L,1,none⟩=some (.slice a1 X1.length n1)∧W.cell? ⟨L,2,none⟩=some (.slice a2 Y1.length n2)∧W.cell? ⟨L,3,none⟩=some (.bool b2)∧W.cell? ⟨L,4,none⟩=some (.slice a3 X2.length n3)∧W.cell? ⟨L,5,none⟩=some (.slice a4 Y2.length n4)∧W.cell? ⟨L,6,none⟩=some (.bool b3)∧W.cell? ⟨L,7,none⟩=some (.slice a5 X3.length n5)∧W.cell? ⟨L,8,none⟩=some (.slice a6 Y3.length n6)):=fun W h=>⟨by simp [World.cell?,h],by simp [World.cell?,h],by simp [World.cell?,h],by simp [World.cell?,h],by simp [World.cell?,h],by simp [World.cell?,h],by simp [World.cell?,h],by simp [World.cell?,h],by simp [World.cell?,h]⟩
 obtain⟨w1,hw1,hb1,k1⟩:=an w (.cells #[.bool b1,.slice a1 X1.length n1,.slice a2 Y1.length n2] 27)
 obtain⟨w2,hw2,hb2,k2⟩:=an w1 (.cells #[.bool b2,.slice a3 X2.length n3,.slice a4 Y2.length n4] 27)
 obtain⟨w3,hw3,hb3,k3⟩:=an w2 (.cells #[.bool b3,.slice a5 X3.length n5,.slice a6 Y3.length n6] 27)
 have g2:=ah hb1 hb2
 have g3:=ah g2 hb3
 have Z1:=dn _ Y1 w1 (hY1.below hb1)
 have Z2:=dn _ Y2 w2 (hY2.below g2)
 have Z3:=dn _ Y3 w3 (hY3.below g3)
 rw [decide_eq_false h1] at Z1
 rw [decide_eq_false h2] at Z2
 rw [decide_eq_true h3] at Z3
 have R1:=bR 70 w1
 have R2:=bR 70 w2
 have R3:=kQ 70 w3
 obtain⟨c0,c1,c2,_⟩:=cel w hL
 obtain⟨_,_,_,c3,c4,c5,_⟩:=cel w1 (ae hb1 hL)
 obtain⟨_,_,_,_,_,_,c6,c7,c8⟩:=cel w2 (ae g2 hL)
 obtain⟨d0,d1,d2⟩:=tri k1
 obtain⟨e0,e1,e2⟩:=tri k2
 obtain⟨f0,f1,f2⟩:=tri k3
 have HB0:=ac g3
 clear hX1 hY1 hX2 hY2 hX3 hY3 hL cel hb1 hb2 hb3 g2 g3 k1 k2 k3
 go_enter Tryz.func25,Tryz.ntmps25
 go_wp2
 refine wp_loop_rounds 4 ?_
 rw [rounds_succ]
 go_wp2_with fail
 refine Z1.mono ?_
 rintro e wn ⟨rfl,hw⟩;rw [hw];clear hw wn Z1
 go_wp2_with fail
 refine R1.mono ?_
 rintro e wn ⟨rfl,hw⟩;rw [hw];clear hw wn R1
 go_wp2
 rw [rounds_succ]
 go_wp2_with fail
 refine Z2.mono ?_
 rintro e wn ⟨rfl,hw⟩;rw [hw];clear hw wn Z2
 go_wp2_with fail
 refine R2.mono ?_
 rintro e wn ⟨rfl,hw⟩;rw [hw];clear hw wn R2
 go_wp2
 rw [rounds_succ]
 go_wp2_with fail
 refine Z3.mono ?_
 rintro e wn ⟨rfl,hw⟩;rw [hw];clear hw wn Z3
 go_wp2_with fail
 refine R3.mono ?_
 rintro e wn ⟨he,hw⟩;rw [hw];clear hw wn R3
 unfold cA at he
 subst he
 exact⟨rfl,rfl,HB0.out⟩

def ZA (w:World)(base:Nat)(b:Bool)(u:Value)(z:Int):Prop:=∃rs,Ans w base u rs∧b=decide (z<0)∧val rs=z.natAbs∧tr rs=rs

theorem mi (n:Int)(w:World)(h1:-9223372036854775808≤n)(h2:n≤9223372036854775807) :
  Calls Tryz.prog 78 #[.int .i64 n] w fun e w'=>(∃b a l k,e=.returned (.agg #[.bool b,.slice a l k])∧ZA w' w.heap.size b (.slice a l k) n)∧Below w.heap.size w w':=by
 obtain⟨w0,hw0,hb0,hx0⟩:=an w (.cells #[.bool false,.slice none 0 0] 25)
 by_cases hn:n<0
 ·obtain⟨m,hm⟩:∃m,IntKind.i64.wrap (-n)=m:=⟨_,rfl⟩
  have hm2:IntKind.u64.wrap m=((n.natAbs:Nat):Int):=by rw [←hm,IntKind.wrap_i64,IntKind.wrap_u64];omega
  have hm3:IntKind.u64.wrap ((n.natAbs:Nat):Int)=((n.natAbs:Nat):Int):=by rw [IntKind.wrap_u64];omega
  have HM:=cB n.natAbs w0 (by omega)
  have HB0:=ac hb0
  have HX0:=ac hx0
  clear hb0 hx0
  go_enter Tryz.func78,Tryz.ntmps78
  go_wp2_with fail
  refine HM.mono ?_
  rintro e w1 ⟨⟨v1,rfl,A1⟩,hb1⟩
  have HS:=ir true v1 _ _ w1 A1
  rw [dW true (tr_tr _) (val_tr _)] at HS
  have e1:zz true (val [n.natAbs])=n:=by simp [zz,val];omega
  rw [e1] at HS
  have hv:val (tr [n.natAbs])=n.natAbs:=by rw [val_tr];simp [val]
  have ht:=tr_tr [n.natAbs]
  generalize tr [n.natAbs]=rs at *
  obtain⟨a1,k1,rfl⟩:=A1.shape
  have HA1:=ac A1
  have HW1:=ac hb1
  have HV:=ac (And.intro hv ht)
  clear A1 hb1 HM e1 hv ht
  go_wp2_with fail
  refine HS.mono ?_
  rintro e w2 ⟨rfl,hb2⟩
  have HW:=ac (HW1.out.trans (hb2.mono HW1.out.size))
  have HAN:=ac ((HA1.out.below hb2).base HB0.out.size)
  have hbx:=ae HW.out HX0.out
  have hf1:=bT hbx
  obtain⟨l0,l1⟩:=duo hbx
  have HBX:=ac hbx
  have HBE:=ac (HB0.out.trans (HW.out.mono HB0.out.size))
  clear hbx hb2 HS hw0
  obtain⟨ub,hub⟩:∃ub,decide (n<0)=ub:=⟨_,rfl⟩
  rw [hub]
  go_wp2
  have R5:=cf HBX.out (a':=.bool ub) (b':=.slice a1 rs.length k1)
  have HD:=ac (And.intro (HAN.out.duo (u0:=.bool ub) (u1:=.slice a1 rs.length k1) HBX.out) (bS HBE.out (g:=w.heap.size) (u0:=.bool ub) (u1:=.slice a1 rs.length k1) (Nat.le_refl _)))
  generalize (w2.setCell ⟨w.heap.size,0,none⟩ (.bool ub)).setCell ⟨w.heap.size,1,none⟩ (.slice a1 rs.length k1)=w5 at *
  obtain⟨q0,q1⟩:=duo R5
  refine bodyPost_ret (v:=.agg #[.bool ub,.slice a1 rs.length k1]) (by simp [results,Tryz.results78,go_sem,q0,q1]) rfl ?_
  exact⟨⟨_,_,_,_,rfl,rs,HD.out.1,hub.symm,HV.out⟩,HD.out.2⟩
 ·have hm2:IntKind.u64.wrap n=((n.natAbs:Nat):Int):=by rw [IntKind.wrap_u64];omega
  have hm3:IntKind.u64.wrap ((n.natAbs:Nat):Int)=((n.natAbs:Nat):Int):=by rw [IntKind.wrap_u64];omega
  have HM:=cB n.natAbs w0 (by omega)
  have HB0:=ac hb0
  have HX0:=ac hx0
  clear hb0 hx0
  go_enter Tryz.func78,Tryz.ntmps78
  go_wp2_with fail
  refine HM.mono ?_
  rintro e w1 ⟨⟨v1,rfl,A1⟩,hb1⟩
  have HS:=ir false v1 _ _ w1 A1
  rw [dW false (tr_tr _) (val_tr _)] at HS
  have e1:zz false (val [n.natAbs])=n:=by simp [zz,val];omega
  rw [e1] at HS
  have hv:val (tr [n.natAbs])=n.natAbs:=by rw [val_tr];simp [val]
  have ht:=tr_tr [n.natAbs]
  generalize tr [n.natAbs]=rs at *
  obtain⟨a1,k1,rfl⟩:=A1.shape
  have HA1:=ac A1
  have HW1:=ac hb1
  have HV:=ac (And.intro hv ht)
  clear A1 hb1 HM e1 hv ht
  go_wp2_with fail
  refine HS.mono ?_
  rintro e w2 ⟨rfl,hb2⟩
  have HW:=ac (HW1.out.trans (hb2.mono HW1.out.size))
  have HAN:=ac ((HA1.out.below hb2).base HB0.out.size)
  have hbx:=ae HW.out HX0.out
  have hf1:=bT hbx
  obtain⟨l0,l1⟩:=duo hbx
  have HBX:=ac hbx
  have HBE:=ac (HB0.out.trans (HW.out.mono HB0.out.size))
  clear hbx hb2 HS hw0
  obtain⟨ub,hub⟩:∃ub,decide (n<0)=ub:=⟨_,rfl⟩
  rw [hub]
  go_wp2
  have R5:=cf HBX.out (a':=.bool ub) (b':=.slice a1 rs.length k1)
  have HD:=ac (And.intro (HAN.out.duo (u0:=.bool ub) (u1:=.slice a1 rs.length k1) HBX.out) (bS HBE.out (g:=w.heap.size) (u0:=.bool ub) (u1:=.slice a1 rs.length k1) (Nat.le_refl _)))
  generalize (w2.setCell ⟨w.heap.size,0,none⟩ (.bool ub)).setCell ⟨w.heap.size,1,none⟩ (.slice a1 rs.length k1)=w5 at *
  obtain⟨q0,q1⟩:=duo R5
  refine bodyPost_ret (v:=.agg #[.bool ub,.slice a1 rs.length k1]) (by simp [results,Tryz.results78,go_sem,q0,q1]) rfl ?_
  exact⟨⟨_,_,_,_,rfl,rs,HD.out.1,hub.symm,HV.out⟩,HD.out.2⟩

theorem kj (p p2:Addr)(c:Int)(w:World)
  (hw:∀W,Below w.heap.size w W→Calls Tryz.prog 30 #[.pointer (some p),.pointer (some p2)] W (fun e w'=>cA c e∧Below W.heap.size W w')) :
  Calls Tryz.prog 23 #[.func (.func 30) #[] #[.pointer (some p),.pointer (some p2)]] w fun e w'=>e=.returned (.tuple #[.agg #[.bool false,.slice none 0 0,.slice none 0 0],.int .i64 c])∧Below w.heap.size w w':=by
 have hmf:∀(fn:Fn) (first cap:Array Value) (w:World),(Instr.makeFunc fn first cap).run Tryz.prog w=.ok (.func fn first cap) w:=fun _ _ _ _=>rfl
 obtain⟨w0,hw0,hb0,h0,h1⟩:=aY w (.cells #[.bool false,.slice none 0 0,.slice none 0 0] 27) (.cells #[.int .i64 0] 33)
 have HW:=hw w0 hb0
 have HB0:=ac hb0
 have H0:=ac h0
 have H1:=ac h1
 clear hw hb0 h0 h1
 go_enter_defers Tryz.func23,Tryz.ntmps23
 go_wp2_with fail
 refine HW.mono ?_
 rintro e w1 ⟨he,hb1⟩
 unfold cA at he
 subst he
 have k0:=ae hb1 H0.out
 have k1:=ae hb1 H1.out
 have c3:w1.cell? ⟨w.heap.size+1,0,none⟩=some (.int .i64 0):=by simp [World.cell?,k1]
 have f3:w1.frozen? ⟨w.heap.size+1,0,none⟩=false:=by simp [World.frozen?,k1]
 refine leaves_cons (f:=52) (args:=#[.pointer (some ⟨w.heap.size+1,0,none⟩)]) (by simp) (by simp [go_sem]) ?_
 refine (kM ⟨w.heap.size+1,0,none⟩ c 0 [] w1 c3 f3).mono ?_
 rintro e u' w'' ⟨rfl,rfl,rfl⟩
 have m0:∀k,(w1.setCell ⟨w.heap.size+1,0,none⟩ (.int .i64 c)).cell? ⟨w.heap.size,k,none⟩=w1.cell? ⟨w.heap.size,k,none⟩:=fun k=>aB (by omega)
 have m1:w1.cell? ⟨w.heap.size,0,none⟩=some (.bool false):=by simp [World.cell?,k0]
 have m2:w1.cell? ⟨w.heap.size,1,none⟩=some (.slice none 0 0):=by simp [World.cell?,k0]
 have m3:w1.cell? ⟨w.heap.size,2,none⟩=some (.slice none 0 0):=by simp [World.cell?,k0]
 have m4:(w1.setCell ⟨w.heap.size+1,0,none⟩ (.int .i64 c)).cell? ⟨w.heap.size+1,0,none⟩=some (.int .i64 c):=by simp [go_sem,c3]
 have HFIN:=ac ((HB0.out.trans (hb1.mono HB0.out.size)).setCell (p:=⟨w.heap.size+1,0,none⟩) (by show w.heap.size≤w.heap.size+1;omega) (.int .i64 c))
 simp [Leaves,settle,results,Tryz.results23,go_sem,m0,m1,m2,m3,m4]
 exact HFIN.out

theorem oX (ga gb:Nat)(ba bb:Bool)(v1 v2 v3 v4:Value)(X Y S T:List Nat)(w:World)(hP:w.heap[ga]?=some (.cells #[.bool ba,v1,v2] 27))(hQ:w.heap[gb]?=some (.cells #[.bool bb,v3,v4] 27))(hA:Arg w v1 X)(hB:Arg w v2 Y)(hC:Arg w v3 S)(hD:Arg w v4 T)(hY:val Y≠0)(hT2:val T≠0)(hS:val S=0) :
  Calls Tryz.prog 30 #[.pointer (some ⟨gb,0,none⟩),.pointer (some ⟨ga,0,none⟩)] w (fun e w'=>cA 70 e∧Below w.heap.size w w'):=by
 obtain⟨a1,n1,rfl,_,_,_⟩:=hA.form
 obtain⟨a2,n2,rfl,_,_,_⟩:=hB.form
 obtain⟨a3,n3,rfl,_,_,_⟩:=hC.form
 obtain⟨a4,n4,rfl,_,_,_⟩:=hD.form
 obtain⟨w0,hw0,hb0,h0⟩:=an w (.cells #[.bool false,.slice none 0 0,.slice none 0 0] 27)
 obtain⟨w1,hw1,hb1,h1⟩:=an w0 (.cells #[.bool bb,.slice a4 T.length n4,.slice a3 S.length n3] 27)
 obtain⟨w2,hw2,hb2,h2⟩:=an w1 (.cells #[.bool ba,.slice a1 X.length n1,.slice a2 Y.length n2,.bool bb,.slice a3 S.length n3,.slice a4 T.length n4,.bool bb,.slice a4 T.length n4,.slice a3 S.length n3] 27)
 have g1:=ah hb0 hb1
 have g2:=ah g1 hb2
 have ME:=mR w1.heap.size ba bb bb _ _ _ _ _ _ X Y S T T S w2 (hA.below g2) (hB.below g2) (hC.below g2) (hD.below g2) (hD.below g2) (hC.below g2) h2 hY hT2 hS
 obtain⟨c0,c1,c2⟩:=tri (ae hb0 hQ)
 obtain⟨d0,d1,d2⟩:=tri (ae g1 hQ)
 obtain⟨e0,e1,e2⟩:=tri (ae g1 hP)
 obtain⟨f0,f1,f2⟩:=tri h1
 have HG:=ac g2
 clear hA hB hC hD hP hQ hb0 hb1 hb2 h0 h1 h2 g1 g2
 go_enter Tryz.func30,Tryz.ntmps30
 go_wp2_with fail
 refine ME.mono ?_
 rintro e t1 ⟨he,hb1⟩
 have HF:=ac (ah HG.out hb1)
 unfold cA at he
 subst he
 exact⟨rfl,rfl,HF.out⟩

theorem mm (ba bb:Bool)(v1 v2 v3 v4:Value)(X Y S T:List Nat)(w:World)(hA:Arg w v1 X)(hB:Arg w v2 Y)(hC:Arg w v3 S)(hD:Arg w v4 T)(hY:val Y≠0)(hT2:val T≠0)(hS:val S=0) :
  Calls Tryz.prog 9 #[.agg #[.bool ba,v1,v2],.agg #[.bool bb,v3,v4]] w fun e w'=>e=.returned (.tuple #[.agg #[.bool false,.slice none 0 0,.slice none 0 0],.int .i64 70])∧Below w.heap.size w w':=by
 have hmf:∀(fn:Fn) (first cap:Array Value) (w:World),(Instr.makeFunc fn first cap).run Tryz.prog w=.ok (.func fn first cap) w:=fun _ _ _ _=>rfl
 obtain⟨a1,n1,rfl,_,_,_⟩:=hA.form
 obtain⟨a2,n2,rfl,_,_,_⟩:=hB.form
 obtain⟨a3,n3,rfl,_,_,_⟩:=hC.form
 obtain⟨a4,n4,rfl,_,_,_⟩:=hD.form
 obtain⟨w0,hw0,hb0,h0,h1,h2⟩:=aZ w (.cells #[.bool ba,.slice a1 X.length n1,.slice a2 Y.length n2] 27) (.cells #[.bool bb,.slice a3 S.length n3,.slice a4 T.length n4] 27) (.cells #[.bool false,.slice none 0 0,.slice none 0 0] 27)
 have FA:=kj ⟨w.heap.size+1,0,none⟩ ⟨w.heap.size,0,none⟩ 70 w0 (fun W hg=>oX w.heap.size (w.heap.size+1) ba bb _ _ _ _ X Y S T W (ae hg h0) (ae hg h1) ((hA.below hb0).below hg) ((hB.below hb0).below hg) ((hC.below hb0).below hg) ((hD.below hb0).below hg) hY hT2 hS)
 have H2:=ac h2
 have HB0:=ac hb0
 clear hA hB hC hD h0 h1 h2 hb0
 go_enter Tryz.func9,Tryz.ntmps9
 go_wp2_with fail
 refine FA.mono ?_
 rintro e t2 ⟨rfl,hb2⟩
 have hz3:=ae hb2 H2.out
 have T3:=aG (u0:=.bool false) (u1:=.slice none 0 0) (u2:=.slice none 0 0) hz3
 have HE:=ac (aF (u0:=.bool false) (u1:=.slice none 0 0) (u2:=.slice none 0 0) (HB0.out.trans (hb2.mono HB0.out.size)) (show w.heap.size≤w.heap.size+2 by omega))
 obtain⟨p0,p1,p2⟩:=tri T3
 have hf:=aE hz3
 obtain⟨m0,m1,m2⟩:=tri hz3
 clear T3 hz3 hb2 FA
 go_wp2
 clear hf m0 m1 m2
 generalize ((t2.setCell ⟨w.heap.size+2,0,none⟩ (.bool false)).setCell ⟨w.heap.size+2,1,none⟩ (.slice none 0 0)).setCell ⟨w.heap.size+2,2,none⟩ (.slice none 0 0)=w5 at *
 refine bodyPost_ret (v:=.tuple #[.agg #[.bool false,.slice none 0 0,.slice none 0 0],.int .i64 70]) (by simp [results,Tryz.results9,go_sem,p0,p1,p2]) rfl ?_
 exact⟨rfl,HE.out⟩

theorem fv (z:Int)(w:World)(h1:-9223372036854775808≤z)(h2:z≤9223372036854775807) :
  Calls Tryz.prog 40 #[.int .i64 z] w (aD w z 1):=by
 obtain⟨w0,hw0,hb0,h0⟩:=an w (.cells #[.bool false,.slice none 0 0,.slice none 0 0] 27)
 have WO:=mi z w0 h1 h2
 have FR:=ac (fun (W:World)=>cB 1 W (by decide))
 have H0:=ac h0
 have HB0:=ac hb0
 clear h0 hb0
 go_enter Tryz.func40,Tryz.ntmps40
 go_wp2_with fail
 refine WO.mono ?_
 rintro e t1 ⟨⟨b,a1,n1,k1,rfl,rs,x1,x2,x3,x4⟩,hb1⟩
 have F1:=FR.out t1
 have HG1:=ac hb1
 have HX:=ac (And.intro x1 (And.intro x2 (And.intro x3 x4)))
 clear WO FR hb1 x1 x2 x3 x4
 go_wp2_with fail
 refine F1.mono ?_
 rintro e t2 ⟨⟨v,rfl,y1⟩,hb2⟩
 obtain⟨a2,k2,rfl⟩:=y1.shape
 have hz3:=ae (ah HG1.out hb2) H0.out
 have T1:TR t2 w.heap.size b (.slice a1 n1 k1) (.slice a2 (tr [1]).length k2) z 1:=
  ⟨HX.out.2.1,⟨rs,(HX.out.1.below hb2).base HB0.out.size,HX.out.2.2.1,HX.out.2.2.2⟩,t1.heap.size,Nat.le_trans HB0.out.size HG1.out.size,fun g hg=>(HX.out.1.own.lt g hg).2,tr [1],y1,by rw [val_tr];simp [val],tr_tr _⟩
 generalize (tr [1]).length=n2 at *
 have T2:=T1.tri (u0:=.bool b) (u1:=.slice a1 n1 k1) (u2:=.slice a2 n2 k2) hz3
 have T3:=aG (u0:=.bool b) (u1:=.slice a1 n1 k1) (u2:=.slice a2 n2 k2) hz3
 have T4:=aF (u0:=.bool b) (u1:=.slice a1 n1 k1) (u2:=.slice a2 n2 k2) (HB0.out.trans ((ah HG1.out hb2).mono HB0.out.size)) (Nat.le_refl w.heap.size)
 have HE:=ac (And.intro T2 T4)
 obtain⟨p0,p1,p2⟩:=tri T3
 have hf:=aE hz3
 obtain⟨m0,m1,m2⟩:=tri hz3
 clear T1 T2 T3 T4 hz3 hb2 F1 y1 HX
 go_wp2
 clear hf m0 m1 m2
 generalize ((t2.setCell ⟨w.heap.size,0,none⟩ (.bool b)).setCell ⟨w.heap.size,1,none⟩ (.slice a1 n1 k1)).setCell ⟨w.heap.size,2,none⟩ (.slice a2 n2 k2)=w5 at *
 refine bodyPost_ret (v:=.agg #[.bool b,.slice a1 n1 k1,.slice a2 n2 k2]) (by simp [results,Tryz.results40,go_sem,p0,p1,p2]) rfl ?_
 exact⟨⟨_,_,_,_,_,_,_,rfl,HE.out.1⟩,HE.out.2⟩

theorem kP (b:Bool)(v1 v2:Value)(x y:Nat)(w:World)(hA:Nn w v1 x)(hB:Nn w v2 y)(hT:Tab w)(hy:y≠0)(q1:blen x≤67108864)(q2:blen y≤67108864) :
  Calls Tryz.prog 66 #[.agg #[.bool b,v1],v2] w (aD w (zz b (x / Nat.gcd x y)) (y / Nat.gcd x y)):=by
 obtain⟨X,hA,rfl,fX⟩:=hA
 obtain⟨Y,hB,rfl,fY⟩:=hB
 exact ie b v1 v2 X Y w hA hB hT (by omega) (by omega) hy (Nat.le_trans (aH (Nat.div_le_self _ _)) q1) (Nat.le_trans (aH (Nat.div_le_self _ _)) q2)

theorem mB (x y:Nat)(w:World)(hx:x≤60000001)(hy:y≤60000001) :
  Calls Tryz.prog 65 #[.int .i64 (x:Int),.int .i64 (y:Int)] w fun e w'=>e=.returned (.bool false)∧w'=w:=by
 have h:=jp x y w (by omega) (by omega)
 rw [decide_eq_false (show ¬(67108864:Int)<max ((x:Int) - y) ((y:Int) - x) by omega)] at h
 exact h

theorem kh (B:Bool)(P g:Nat):zz (decide (zz B P<0)) (P / g)=zz B (P / g):=by
 rcases Nat.eq_zero_or_pos P with rfl|hP
 ·rw [Nat.zero_div]
  simp [zz]
 ·have e:decide (zz B P<0)=B:=by
   cases B
   ·exact decide_eq_false (by simp [zz])
   ·exact decide_eq_true (by simp [zz];omega)
  rw [e]

theorem iU (B:Bool)(x1 x2 d1 d2:Nat)(h:x1=0∨x2=0)(h1:d1≠0)(h2:d2≠0):zz B (x1*x2 / Nat.gcd (x1*x2) (d1*d2))=0∧d1*d2 / Nat.gcd (x1*x2) (d1*d2)=1:=by
 have e:x1*x2=0:=by rcases h with rfl|rfl <;> simp
 rw [e,Nat.gcd_zero_left,Nat.zero_div]
 exact⟨by simp [zz],Nat.div_self (Nat.pos_of_ne_zero (Nat.mul_ne_zero h1 h2))⟩

theorem nk (b1 b2:Bool)(v1 v2 v3 v4:Value)(x1 d1 x2 d2:Nat)(w:World)(hA:Qn w v1 v2 x1 d1)(hB:Qn w v3 v4 x2 d2)(hz:x1=0) :
  Calls Tryz.prog 29 #[.agg #[.bool b1,v1,v2],.agg #[.bool b2,v3,v4]] w (aD w 0 1):=by
 obtain⟨a1,n1,k1,rfl⟩:=hA.1.form
 obtain⟨a2,n2,k2,rfl⟩:=hA.2.1.form
 obtain⟨a3,n3,k3,rfl⟩:=hB.1.form
 obtain⟨a4,n4,k4,rfl⟩:=hB.2.1.form
 obtain⟨w0,hw0,hb0,h0,h1,h2⟩:=aZ w (.cells #[.bool b1,.slice a1 n1 k1,.slice a2 n2 k2] 27) (.cells #[.bool b2,.slice a3 n3 k3,.slice a4 n4 k4] 27) (.cells #[.bool false,.slice none 0 0,.slice none 0 0] 27)
 obtain⟨c0,c1,c2⟩:=tri h0
 obtain⟨c3,c4,c5⟩:=tri h1
 have Z1:=bP _ x1 w0 (hA.1.below hb0)
 have Z2:=bP _ x2 w0 (hB.1.below hb0)
 have H0:=ac h0
 have H1:=ac h1
 have H2:=ac h2
 have HB0:=ac hb0
 rw [decide_eq_true hz] at Z1
 clear hA hB hb0 h0 h1 h2 hz Z2
 go_enter Tryz.func29,Tryz.ntmps29
 go_wp2_with fail
 refine Z1.mono ?_
 rintro e wn ⟨rfl,hw⟩;rw [hw];clear hw wn Z1
 have C:=fv 0 w0 (by omega) (by omega)
 go_wp2_with fail
 refine C.mono ?_
 rintro e t1 ⟨⟨b9,y5,m5,l5,y6,m6,l6,rfl,hr⟩,hb⟩
 have hz3:=ae hb H2.out
 have T1:=hr.base HB0.out.size
 have T4:=HB0.out.trans (hb.mono HB0.out.size)
 have T3:=aG (u0:=.bool b9) (u1:=.slice y5 m5 l5) (u2:=.slice y6 m6 l6) hz3
 have HE:=ac (And.intro (T1.tri (u0:=.bool b9) (u1:=.slice y5 m5 l5) (u2:=.slice y6 m6 l6) hz3) (aF (u0:=.bool b9) (u1:=.slice y5 m5 l5) (u2:=.slice y6 m6 l6) T4 (show w.heap.size≤w.heap.size+1+1 by omega)))
 obtain⟨p0,p1',p2'⟩:=tri T3
 have hf:=aE hz3
 obtain⟨m0,m1',m2'⟩:=tri hz3
 clear T1 T3 T4 hz3 hb hr C c0 c1 c2 c3 c4 c5
 go_wp2
 clear hf m0 m1' m2'
 generalize ((t1.setCell ⟨w.heap.size+1+1,0,none⟩ (.bool b9)).setCell ⟨w.heap.size+1+1,1,none⟩ (.slice y5 m5 l5)).setCell ⟨w.heap.size+1+1,2,none⟩ (.slice y6 m6 l6)=w9 at *
 go_wp2
 refine bodyPost_ret (v:=.agg #[.bool b9,.slice y5 m5 l5,.slice y6 m6 l6]) (by simp [results,Tryz.results29,go_sem,p0,p1',p2']) rfl ?_
 exact⟨⟨_,_,_,_,_,_,_,rfl,HE.out.1⟩,HE.out.2⟩

theorem nh (b1 b2:Bool)(v1 v2 v3 v4:Value)(x1 d1 x2 d2:Nat)(w:World)(hA:Qn w v1 v2 x1 d1)(hB:Qn w v3 v4 x2 d2)(hy:x1≠0)(hz:x2=0) :
  Calls Tryz.prog 29 #[.agg #[.bool b1,v1,v2],.agg #[.bool b2,v3,v4]] w (aD w 0 1):=by
 obtain⟨a1,n1,k1,rfl⟩:=hA.1.form
 obtain⟨a2,n2,k2,rfl⟩:=hA.2.1.form
 obtain⟨a3,n3,k3,rfl⟩:=hB.1.form
 obtain⟨a4,n4,k4,rfl⟩:=hB.2.1.form
 obtain⟨w0,hw0,hb0,h0,h1,h2⟩:=aZ w (.cells #[.bool b1,.slice a1 n1 k1,.slice a2 n2 k2] 27) (.cells #[.bool b2,.slice a3 n3 k3,.slice a4 n4 k4] 27) (.cells #[.bool false,.slice none 0 0,.slice none 0 0] 27)
 obtain⟨c0,c1,c2⟩:=tri h0
 obtain⟨c3,c4,c5⟩:=tri h1
 have Z1:=bP _ x1 w0 (hA.1.below hb0)
 have Z2:=bP _ x2 w0 (hB.1.below hb0)
 have H0:=ac h0
 have H1:=ac h1
 have H2:=ac h2
 have HB0:=ac hb0
 rw [decide_eq_false hy] at Z1
 rw [decide_eq_true hz] at Z2
 clear hA hB hb0 h0 h1 h2 hz hy
 go_enter Tryz.func29,Tryz.ntmps29
 go_wp2_with fail
 refine Z1.mono ?_
 rintro e wn ⟨rfl,hw⟩;rw [hw];clear hw wn Z1
 go_wp2_with fail
 refine Z2.mono ?_
 rintro e wn ⟨rfl,hw⟩;rw [hw];clear hw wn Z2
 have C:=fv 0 w0 (by omega) (by omega)
 go_wp2_with fail
 refine C.mono ?_
 rintro e t1 ⟨⟨b9,y5,m5,l5,y6,m6,l6,rfl,hr⟩,hb⟩
 have hz3:=ae hb H2.out
 have T1:=hr.base HB0.out.size
 have T4:=HB0.out.trans (hb.mono HB0.out.size)
 have T3:=aG (u0:=.bool b9) (u1:=.slice y5 m5 l5) (u2:=.slice y6 m6 l6) hz3
 have HE:=ac (And.intro (T1.tri (u0:=.bool b9) (u1:=.slice y5 m5 l5) (u2:=.slice y6 m6 l6) hz3) (aF (u0:=.bool b9) (u1:=.slice y5 m5 l5) (u2:=.slice y6 m6 l6) T4 (show w.heap.size≤w.heap.size+1+1 by omega)))
 obtain⟨p0,p1',p2'⟩:=tri T3
 have hf:=aE hz3
 obtain⟨m0,m1',m2'⟩:=tri hz3
 clear T1 T3 T4 hz3 hb hr C c0 c1 c2 c3 c4 c5
 go_wp2
 clear hf m0 m1' m2'
 generalize ((t1.setCell ⟨w.heap.size+1+1,0,none⟩ (.bool b9)).setCell ⟨w.heap.size+1+1,1,none⟩ (.slice y5 m5 l5)).setCell ⟨w.heap.size+1+1,2,none⟩ (.slice y6 m6 l6)=w9 at *
 go_wp2
 refine bodyPost_ret (v:=.agg #[.bool b9,.slice y5 m5 l5,.slice y6 m6 l6]) (by simp [results,Tryz.results29,go_sem,p0,p1',p2']) rfl ?_
 exact⟨⟨_,_,_,_,_,_,_,rfl,HE.out.1⟩,HE.out.2⟩

theorem oU (b1 b2:Bool)(v1 v2 v3 v4:Value)(x1 d1 x2 d2 M1 M2:Nat)(w:World)(hA:Qn w v1 v2 x1 d1)(hB:Qn w v3 v4 x2 d2)(hT:Tab w)(hx:x1≠0)(hy:x2≠0)(hx1:blen x1≤M1)(hm1:blen d1≤M1)(hx2:blen x2≤M2)(hm2:blen d2≤M2)(hM:M1+M2≤60000000) :
  Calls Tryz.prog 29 #[.agg #[.bool b1,v1,v2],.agg #[.bool b2,v3,v4]] w (aD w (zz (b1 != b2) (x1*x2 / Nat.gcd (x1*x2) (d1*d2))) (d1*d2 / Nat.gcd (x1*x2) (d1*d2))):=by
 obtain⟨a1,n1,k1,rfl⟩:=hA.1.form
 obtain⟨a2,n2,k2,rfl⟩:=hA.2.1.form
 obtain⟨a3,n3,k3,rfl⟩:=hB.1.form
 obtain⟨a4,n4,k4,rfl⟩:=hB.2.1.form
 obtain⟨w0,hw0,hb0,h0,h1,h2⟩:=aZ w (.cells #[.bool b1,.slice a1 n1 k1,.slice a2 n2 k2] 27) (.cells #[.bool b2,.slice a3 n3 k3,.slice a4 n4 k4] 27) (.cells #[.bool false,.slice none 0 0,.slice none 0 0] 27)
 obtain⟨c0,c1,c2⟩:=tri h0
 obtain⟨c3,c4,c5⟩:=tri h1
 have Z1:=bP _ x1 w0 (hA.1.below hb0)
 have Z2:=bP _ x2 w0 (hB.1.below hb0)
 have H0:=ac h0
 have H1:=ac h1
 have H2:=ac h2
 have HB0:=ac hb0
 rw [decide_eq_false hx] at Z1
 rw [decide_eq_false hy] at Z2
 obtain⟨lx,hlx⟩:∃l,blen x1=l:=⟨_,rfl⟩
 obtain⟨ly,hly⟩:∃l,blen x2=l:=⟨_,rfl⟩
 obtain⟨ld,hld⟩:∃l,blen d1=l:=⟨_,rfl⟩
 obtain⟨le,hle⟩:∃l,blen d2=l:=⟨_,rfl⟩
 have px:0<lx:=by
  rcases Nat.eq_zero_or_pos lx with h|h
  ·rw [h] at hlx;exact absurd ((dh x1).1 hlx) hx
  ·exact h
 obtain⟨sA,hsA⟩:∃s:Nat,(lx:Int)+(ly:Int)=(s:Int):=⟨lx+ly,by omega⟩
 obtain⟨sB,hsB⟩:∃s:Nat,(ld:Int)+(le:Int)=(s:Int):=⟨ld+le,by omega⟩
 obtain⟨sC,hsC⟩:∃s:Nat,(sA:Int) - 1=(s:Int):=⟨sA - 1,by omega⟩
 have wA:IntKind.i64.wrap (sA:Int)=(sA:Int):=by rw [IntKind.wrap_i64];omega
 have wB:IntKind.i64.wrap (sB:Int)=(sB:Int):=by rw [IntKind.wrap_i64];omega
 have wA2:IntKind.i64.wrap ((lx:Int)+(ly:Int))=(sA:Int):=by rw [hsA];exact wA
 have wB2:IntKind.i64.wrap ((ld:Int)+(le:Int))=(sB:Int):=by rw [hsB];exact wB
 have bA:sA≤60000000:=by omega
 have bB:sB≤60000000:=by omega
 have bC:sC≤60000000:=by omega
 have L1:=ac (fun (W:World) (hg:Below w0.heap.size w0 W)=>hlx ▸ cJ _ x1 W ((hA.1.below hb0).below hg))
 have L2:=ac (fun (W:World) (hg:Below w0.heap.size w0 W)=>hly ▸ cJ _ x2 W ((hB.1.below hb0).below hg))
 have L3:=ac (fun (W:World) (hg:Below w0.heap.size w0 W)=>hld ▸ cJ _ d1 W ((hA.2.1.below hb0).below hg))
 have L4:=ac (fun (W:World) (hg:Below w0.heap.size w0 W)=>hle ▸ cJ _ d2 W ((hB.2.1.below hb0).below hg))
 have HPB:=ac (show blen (x1*x2)≤67108864 from Nat.le_trans (bI _ _) (by omega))
 have HDB:=ac (show blen (d1*d2)≤67108864 from Nat.le_trans (bI _ _) (by omega))
 have HDZ:=ac (Nat.mul_ne_zero hA.2.2 hB.2.2)
 have KP:=ac (fun (W:World) (hg:Below w0.heap.size w0 W)=>dl _ _ x1 x2 W ((hA.1.below hb0).below hg) ((hB.1.below hb0).below hg) ((hT.below hb0).below hg) HPB.out)
 have KD:=ac (fun (W:World) (hg:Below w0.heap.size w0 W)=>dl _ _ d1 d2 W ((hA.2.1.below hb0).below hg) ((hB.2.1.below hb0).below hg) ((hT.below hb0).below hg) HDB.out)
 have HT:=ac (hT.below hb0)
 have KS:=ac (fun (W:World) (hg:Below w0.heap.size w0 W)=>show (W.cell? ⟨w.heap.size,0,none⟩=some (.bool b1)∧W.cell? ⟨w.heap.size,1,none⟩=some (.slice a1 n1 k1)∧W.cell? ⟨w.heap.size,2,none⟩=some (.slice a2 n2 k2))∧W.cell? ⟨w.heap.size+1,0,none⟩=some (.bool b2)∧W.cell? ⟨w.heap.size+1,1,none⟩=some (.slice a3 n3 k3)∧W.cell? ⟨w.heap.size+1,2,none⟩=some (.slice a4 n4 k4) from ⟨aO hg H0.out,aO hg H1.out⟩)
 have F1:=ac (fun (W:World)=>mB sC sB W (by omega) (by omega))
 clear hA hB hT hb0 h0 h1 h2 hx hy hx1 hm1 hx2 hm2 hlx hly hld hle hM
 generalize x1*x2=P at *
 generalize d1*d2=D at *
 obtain⟨zp,hzp⟩:∃z,zz (b1 != b2) P=z:=⟨_,rfl⟩
 have HZP:=ac hzp
 have HZA:=ac (show zp.natAbs=P by rw [←hzp,aM])
 have KA:=ac (fun (W:World) (v v':Value) (hg:Below w0.heap.size w0 W) (h1:Nn W v P) (h2:Nn W v' D)=>show Calls Tryz.prog 66 #[.agg #[.bool (decide (zp<0)),v],v'] W (aD W (zz (b1 != b2) (P / Nat.gcd P D)) (D / Nat.gcd P D)) by
  have h:=kP (decide (zp<0)) v v' P D W h1 h2 (HT.out.below hg) HDZ.out HPB.out HDB.out
  rw [←HZP.out,kh] at h
  rw [←HZP.out]
  exact h)
 clear hzp
 generalize zz (b1 != b2) (P / Nat.gcd P D)=zq at *
 generalize D / Nat.gcd P D=dq at *
 have g0:Below w0.heap.size w0 w0.drew:=bk (Below.refl _ _)
 go_enter Tryz.func29,Tryz.ntmps29
 go_wp2_with fail
 refine Z1.mono ?_
 rintro e wn ⟨rfl,hw⟩;rw [hw];clear hw wn Z1
 go_wp2_with fail
 refine Z2.mono ?_
 rintro e wn ⟨rfl,hw⟩;rw [hw];clear hw wn Z2
 go_upto_region 3 with fail
 clear c0 c1 c2 c3 c4 c5
 go_region_held3 (fun w'=>(w'.cell? ⟨w.heap.size,0,none⟩=some (.bool b1)∧w'.cell? ⟨w.heap.size,1,none⟩=some (.slice a1 n1 k1)∧w'.cell? ⟨w.heap.size,2,none⟩=some (.slice a2 n2 k2))∧w'.cell? ⟨w.heap.size+1,0,none⟩=some (.bool b2)∧w'.cell? ⟨w.heap.size+1,1,none⟩=some (.slice a3 n3 k3)∧w'.cell? ⟨w.heap.size+1,2,none⟩=some (.slice a4 n4 k4)) (with_reducible exact KS.out _ g0) (first
  | (go_at_call_of 64 a1;refine (L1.out _ g0).mono ?_;rintro e' wn ⟨rfl,hw⟩;rw [hw];clear hw wn)
  | (go_at_call_of 64 a3;refine (L2.out _ g0).mono ?_;rintro e' wn ⟨rfl,hw⟩;rw [hw];clear hw wn))
 generalize w0.drew=u1 at *
 have g1:Below w0.heap.size w0 u1.drew:=bk g0
 go_upto_region 4 with fail
 go_region_held3 (fun w'=>(w'.cell? ⟨w.heap.size,0,none⟩=some (.bool b1)∧w'.cell? ⟨w.heap.size,1,none⟩=some (.slice a1 n1 k1)∧w'.cell? ⟨w.heap.size,2,none⟩=some (.slice a2 n2 k2))∧w'.cell? ⟨w.heap.size+1,0,none⟩=some (.bool b2)∧w'.cell? ⟨w.heap.size+1,1,none⟩=some (.slice a3 n3 k3)∧w'.cell? ⟨w.heap.size+1,2,none⟩=some (.slice a4 n4 k4)) (with_reducible exact KS.out _ g1) (first
  | (go_at_call_of 64 a2;refine (L3.out _ g1).mono ?_;rintro e' wn ⟨rfl,hw⟩;rw [hw];clear hw wn)
  | (go_at_call_of 64 a4;refine (L4.out _ g1).mono ?_;rintro e' wn ⟨rfl,hw⟩;rw [hw];clear hw wn))
 generalize u1.drew=u2 at *
 clear g0 L1 L2 L3 L4
 have C:=F1.out u2
 go_wp2_with fail
 refine C.mono ?_
 rintro e wn ⟨rfl,hw⟩;rw [hw];clear hw wn C F1
 have C:=bR 3 u2
 go_wp2_with fail
 refine C.mono ?_
 rintro e wn ⟨rfl,hw⟩;rw [hw];clear hw wn C
 obtain⟨⟨c0,c1,c2⟩,c3,c4,c5⟩:=KS.out u2 g1
 have C:=KP.out u2 g1
 go_wp2_with fail
 refine C.mono ?_
 rintro e u3 ⟨⟨v7,rfl,r7⟩,hb3⟩
 obtain⟨rs7,x71,x72,x73⟩:=id r7
 obtain⟨a7,k7,rfl⟩:=x71.shape
 have g3:=ah g1 hb3
 have g4:Below w0.heap.size w0 u3.drew:=bk g3
 have HP7:=ac (r7.nn HPB.out)
 have A7:=ac (x71.below (bk (Below.refl _ _):Below u3.heap.size u3 u3.drew))
 have V7:=ac (And.intro x72 x73)
 clear C KP c0 c1 c2 c3 c4 c5 r7 x71 x72 x73 hb3 g1 hsA hsB hsC wA wB wA2 wB2
 go_upto_region 7 with fail
 have so:∀(W:World) (k:Nat) (u:Value) (k':Nat),(W.setCell ⟨w.heap.size+1+1,k,none⟩ u).cell? ⟨w.heap.size,k',none⟩=W.cell? ⟨w.heap.size,k',none⟩:=fun W k u k'=>aB (by omega)
 have so2:∀(W:World) (k:Nat) (u:Value) (k':Nat),(W.setCell ⟨w.heap.size+1+1,k,none⟩ u).cell? ⟨w.heap.size+1,k',none⟩=W.cell? ⟨w.heap.size+1,k',none⟩:=fun W k u k'=>aB (by omega)
 clear bA bB bC
 go_region_held3 (fun w'=>(w'.cell? ⟨w.heap.size,0,none⟩=some (.bool b1)∧w'.cell? ⟨w.heap.size,1,none⟩=some (.slice a1 n1 k1)∧w'.cell? ⟨w.heap.size,2,none⟩=some (.slice a2 n2 k2))∧w'.cell? ⟨w.heap.size+1,0,none⟩=some (.bool b2)∧w'.cell? ⟨w.heap.size+1,1,none⟩=some (.slice a3 n3 k3)∧w'.cell? ⟨w.heap.size+1,2,none⟩=some (.slice a4 n4 k4)) (first|with_reducible exact KS.out _ g7|with_reducible exact KS.out _ g6|with_reducible exact KS.out _ g5|with_reducible exact KS.out _ g4 | (refine⟨⟨?_,?_,?_⟩,?_,?_,?_⟩ <;> (first|rw [so,so,so] | rw [so2,so2,so2]) <;> first|exact (KS.out _ g7).1.1|exact (KS.out _ g7).1.2.1|exact (KS.out _ g7).1.2.2|exact (KS.out _ g7).2.1|exact (KS.out _ g7).2.2.1|exact (KS.out _ g7).2.2.2)) (first
  | (go_at_call 66;refine (KA.out _ _ _ g6 N7 N8).mono ?_;rintro e' t3 ⟨⟨b9,y5,m5,l5,y6,m6,l6,rfl,hr⟩,hb3⟩;have g7:=ah g6 hb3;have hz3:=ae g7 H2.out;have hf:=aE hz3;obtain⟨m0,m1',m2'⟩:=tri hz3)
  | (go_at_call 63;refine (KD.out _ g5).mono ?_;rintro e' t2 ⟨⟨v8,rfl,r8⟩,hb2⟩;have g6:=ah g5 hb2;obtain⟨a8,n8,k8,rfl⟩:=r8.form;have N8:=r8.nn HDB.out;have N7:=((HP7.out.below (bk (Below.refl _ _):Below u3.heap.size u3 u3.drew)).below hb1).below hb2)
  | (go_at_call 67;refine (cT (b1 != b2) _ rs7 u2.heap.size u3.drew P zp HZP.out A7.out V7.out.1 V7.out.2).mono ?_;rintro e' t1 ⟨rfl,hb1⟩;have g5:=ah g4 hb1))
 have T1:=hr.base (Nat.le_trans HB0.out.size g6.size)
 have T4:=HB0.out.trans (g7.mono HB0.out.size)
 have T3:=aG (u0:=.bool b9) (u1:=.slice y5 m5 l5) (u2:=.slice y6 m6 l6) hz3
 have HE:=ac (And.intro (T1.tri (u0:=.bool b9) (u1:=.slice y5 m5 l5) (u2:=.slice y6 m6 l6) hz3) (aF (u0:=.bool b9) (u1:=.slice y5 m5 l5) (u2:=.slice y6 m6 l6) T4 (show w.heap.size≤w.heap.size+1+1 by omega)))
 obtain⟨p0,p1',p2'⟩:=tri T3
 clear T1 T3 T4 so so2 hz3 hf m0 m1' m2' hr hb1 hb2 hb3 g4 g5 g6 g7 N7 N8 r8 KS KD KA
 generalize ((t3.setCell ⟨w.heap.size+1+1,0,none⟩ (.bool b9)).setCell ⟨w.heap.size+1+1,1,none⟩ (.slice y5 m5 l5)).setCell ⟨w.heap.size+1+1,2,none⟩ (.slice y6 m6 l6)=w9 at *
 go_wp2
 refine bodyPost_ret (v:=.agg #[.bool b9,.slice y5 m5 l5,.slice y6 m6 l6]) (by simp [results,Tryz.results29,go_sem,p0,p1',p2']) rfl ?_
 exact⟨⟨_,_,_,_,_,_,_,rfl,HE.out.1⟩,HE.out.2⟩

theorem im {x:Nat}(hx:x≠0):2 ^ (blen x - 1)≤x:=by
 rcases Nat.lt_or_ge x (2 ^ (blen x - 1)) with h|h
 ·have h1:=(blen_le_iff x _).2 h
  have h2:blen x≠0:=fun e=>hx ((dh x).1 e)
  omega
 ·exact h

theorem jL {x y u v:Nat}(hx:x≠0)(hy:y≠0)(h:blen u+blen v+1<blen x+blen y):u*v<x*y:=by
 have h1:=im hx
 have h2:=im hy
 have h3:=(blen_le_iff u _).1 (Nat.le_refl _)
 have h4:=(blen_le_iff v _).1 (Nat.le_refl _)
 have h5:u*v<2 ^ (blen u+blen v):=by rw [Nat.pow_add];exact Nat.mul_lt_mul_of_lt_of_lt h3 h4
 have h6:2 ^ (blen x - 1+(blen y - 1))≤x*y:=by rw [Nat.pow_add];exact Nat.mul_le_mul h1 h2
 have px:blen x≠0:=fun e=>hx ((dh x).1 e)
 have py:blen y≠0:=fun e=>hy ((dh y).1 e)
 exact Nat.lt_of_lt_of_le h5 (Nat.le_trans (Nat.pow_le_pow_right (by omega) (by omega)) h6)

theorem fA (x y:Int)(w:World):Calls Tryz.prog 69 #[.int .i64 x,.int .i64 y] w fun e w'=>e=.returned (.int .i64 (aw x y))∧w'=w:=by
 unfold aw
 by_cases h1:x<y
 ·rw [if_pos h1]
  go_enter Tryz.func69,Tryz.ntmps69
  go_wp2
  go_ret
  exact⟨rfl,rfl⟩
 ·rw [if_neg h1]
  by_cases h2:y<x
  ·rw [if_pos h2]
   go_enter Tryz.func69,Tryz.ntmps69
   go_wp2
   go_ret
   exact⟨rfl,rfl⟩
  ·rw [if_neg h2]
   go_enter Tryz.func69,Tryz.ntmps69
   go_wp2
   go_ret
   exact⟨rfl,rfl⟩

theorem ni (va vb vc vd:Value)(x y u v:Nat)(w:World)(hA:Nn w va x)(hB:Nn w vb y)(hC:Nn w vc u)(hD:Nn w vd v)(hT:Tab w)(hx:x≠0)(hy:y≠0)(hu:u≠0)(hv:v≠0)(h1:blen x+blen y≤60000000)(h2:blen u+blen v≤60000000) :
  Calls Tryz.prog 70 #[va,vb,vc,vd] w fun e w'=>e=.returned (.int .i64 (cmpN (x*y) (u*v)))∧Below w.heap.size w w':=by
 have L1:=cJ _ x w hA
 have L2:=cJ _ y w hB
 have L3:=cJ _ u w hC
 have L4:=cJ _ v w hD
 have t1:=jL (u:=u) (v:=v) hx hy
 have t2:=jL (u:=x) (v:=y) hu hv
 have b1:blen (x*y)≤67108864:=Nat.le_trans (bI _ _) (by omega)
 have b2:blen (u*v)≤67108864:=Nat.le_trans (bI _ _) (by omega)
 have P1:=dl _ _ x y w hA hB hT b1
 have KP:=ac (fun (W:World) (hg:Below w.heap.size w W)=>dl _ _ u v W (hC.below hg) (hD.below hg) (hT.below hg) b2)
 have KC:=ac (fun (W:World) (v1 v2:Value) (h1:Nn W v1 (x*y)) (h2:Nn W v2 (u*v))=>dQ v1 v2 _ _ W h1 h2)
 have HB1:=ac b1
 have HB2:=ac b2
 obtain⟨a1,m1,n1,rfl⟩:=hA.form
 obtain⟨a2,m2,n2,rfl⟩:=hB.form
 obtain⟨a3,m3,n3,rfl⟩:=hC.form
 obtain⟨a4,m4,n4,rfl⟩:=hD.form
 clear hA hB hC hD hT hx hy hu hv b1 b2
 generalize blen x=lx at *
 generalize blen y=ly at *
 generalize blen u=lu at *
 generalize blen v=lv at *
 obtain⟨sA,hsA⟩:∃s:Nat,(lx:Int)+(ly:Int)=(s:Int):=⟨lx+ly,by omega⟩
 obtain⟨sB,hsB⟩:∃s:Nat,(lu:Int)+(lv:Int)=(s:Int):=⟨lu+lv,by omega⟩
 obtain⟨d,hd⟩:∃d:Int,(sA:Int) - (sB:Int)=d:=⟨_,rfl⟩
 obtain⟨d',hd'⟩:∃d:Int,(sB:Int) - (sA:Int)=d:=⟨_,rfl⟩
 have bA:sA≤60000000:=by omega
 have bB:sB≤60000000:=by omega
 have HT1:=ac (show 1<d→u*v<x*y from fun h=>t1 (by omega))
 have HT2:=ac (show 1<d'→x*y<u*v from fun h=>t2 (by omega))
 have HDD:=ac (And.intro hd hd')
 clear t1 t2 h1 h2
 generalize x*y=p at *
 generalize u*v=q at *
 by_cases hf:1<d∨1<d'
 ·have e:aw sA sB=cmpN p q:=by
   have h1:=HT1.out
   have h2:=HT2.out
   have h3:=HDD.out
   unfold aw cmpN
   rcases hf with hf|hf
   ·have:=h1 hf
    rw [if_neg (by omega),if_pos (by omega),if_neg (by omega),if_pos (by omega)]
   ·have:=h2 hf
    rw [if_pos (by omega),if_pos (by omega)]
  have C:=fA sA sB w
  rw [e] at C
  clear P1 e KP KC
  by_cases hf1:1<d
  ·go_enter Tryz.func70,Tryz.ntmps70
   go_wp2_with fail
   refine L1.mono ?_
   rintro e wn ⟨rfl,hw⟩;rw [hw];clear hw wn L1
   go_wp2_with fail
   refine L2.mono ?_
   rintro e wn ⟨rfl,hw⟩;rw [hw];clear hw wn L2
   go_wp2_with fail
   refine L3.mono ?_
   rintro e wn ⟨rfl,hw⟩;rw [hw];clear hw wn L3
   go_wp2_with fail
   refine L4.mono ?_
   rintro e wn ⟨rfl,hw⟩;rw [hw];clear hw wn L4
   go_wp2_with fail
   refine C.mono ?_
   rintro e wn ⟨rfl,hw⟩;rw [hw];clear hw wn C
   go_wp2
   go_ret
   exact⟨rfl,Below.refl _ _⟩
  ·have hf2:1<d':=by omega
   go_enter Tryz.func70,Tryz.ntmps70
   go_wp2_with fail
   refine L1.mono ?_
   rintro e wn ⟨rfl,hw⟩;rw [hw];clear hw wn L1
   go_wp2_with fail
   refine L2.mono ?_
   rintro e wn ⟨rfl,hw⟩;rw [hw];clear hw wn L2
   go_wp2_with fail
   refine L3.mono ?_
   rintro e wn ⟨rfl,hw⟩;rw [hw];clear hw wn L3
   go_wp2_with fail
   refine L4.mono ?_
   rintro e wn ⟨rfl,hw⟩;rw [hw];clear hw wn L4
   go_wp2_with fail
   refine C.mono ?_
   rintro e wn ⟨rfl,hw⟩;rw [hw];clear hw wn C
   go_wp2
   go_ret
   exact⟨rfl,Below.refl _ _⟩
 ·have hf1:¬1<d:=fun h=>hf (.inl h)
  have hf2:¬1<d':=fun h=>hf (.inr h)
  clear hf
  go_enter Tryz.func70,Tryz.ntmps70
  go_wp2_with fail
  refine L1.mono ?_
  rintro e wn ⟨rfl,hw⟩;rw [hw];clear hw wn L1
  go_wp2_with fail
  refine L2.mono ?_
  rintro e wn ⟨rfl,hw⟩;rw [hw];clear hw wn L2
  go_wp2_with fail
  refine L3.mono ?_
  rintro e wn ⟨rfl,hw⟩;rw [hw];clear hw wn L3
  go_wp2_with fail
  refine L4.mono ?_
  rintro e wn ⟨rfl,hw⟩;rw [hw];clear hw wn L4
  go_wp2_with fail
  refine P1.mono ?_
  rintro e w1 ⟨⟨v1,rfl,r1⟩,hb1⟩
  obtain⟨a5,m5,n5,rfl⟩:=r1.form
  have HN1:=ac (r1.nn HB1.out)
  have C:=KP.out w1 hb1
  have HW:=ac hb1
  clear P1 r1 hb1
  go_wp2_with fail
  refine C.mono ?_
  rintro e w2 ⟨⟨v2,rfl,r2⟩,hb2⟩
  obtain⟨a6,m6,n6,rfl⟩:=r2.form
  have C:=KC.out w2 _ _ (HN1.out.below hb2) (r2.nn HB2.out)
  replace HW:=ac (ah HW.out hb2)
  clear r2 hb2
  go_wp2_with fail
  refine C.mono ?_
  rintro e w3 ⟨rfl,hb3⟩
  replace HW:=ac (ah HW.out hb3)
  clear C hb3
  go_wp2
  go_ret
  exact⟨rfl,HW.out⟩

theorem eF (b:Bool)(v:Value)(x:Nat)(w:World)(h:Nn w v x):Calls Tryz.prog 51 #[.agg #[.bool b,v]] w fun e w'=>e=.returned (.int .i64 (sg b x))∧Below w.heap.size w w':=by
 obtain⟨X,hA,rfl,fX⟩:=h
 exact gH b v X w hA

theorem j4 (b:Bool)(x d:Nat)(hd:0<d):(sg b x=-1∧zz b x*(d:Int)<0)∨(sg b x=0∧zz b x*(d:Int)=0)∨(sg b x=1∧0<zz b x*(d:Int)):=by
 unfold sg zz
 rcases Nat.eq_zero_or_pos x with rfl|hx
 ·refine .inr (.inl ⟨by simp,?_⟩)
  cases b <;> simp
 ·have h1:(0:Int)<(x:Int)*(d:Int):=Int.mul_pos (by omega) (by omega)
  rw [if_neg (by omega)]
  cases b
  ·exact .inr (.inr ⟨rfl,h1⟩)
  ·refine .inl ⟨rfl,?_⟩
   simp only [if_true]
   rw [Int.neg_mul]
   omega

theorem qh {b1 b2:Bool}{x1 x2 d1 d2:Nat}(h1:0<d1)(h2:0<d2)(h:aw (sg b1 x1) (sg b2 x2)≠0∨sg b1 x1=0):aw (sg b1 x1) (sg b2 x2)=aw (zz b1 x1*(d2:Int)) (zz b2 x2*(d1:Int)):=by
 have p1:=j4 b1 x1 d2 h2
 have p2:=j4 b2 x2 d1 h1
 generalize sg b1 x1=s1 at *
 generalize sg b2 x2=s2 at *
 generalize zz b1 x1*(d2:Int)=z1 at *
 generalize zz b2 x2*(d1:Int)=z2 at *
 unfold aw at h ⊢
 rcases p1 with ⟨rfl,q1⟩|⟨rfl,q1⟩|⟨rfl,q1⟩ <;> rcases p2 with ⟨rfl,q2⟩|⟨rfl,q2⟩|⟨rfl,q2⟩ <;> simp at h ⊢ <;> (repeat' split) <;> omega

theorem nR {x y:Int}(h:aw x y=0):x=y:=by
 unfold aw at h
 split at h
 ·omega
 ·split at h <;> omega

theorem nv {b1 b2:Bool}{x1 x2 d1 d2:Nat}(h:sg b1 x1=sg b2 x2)(h0:sg b1 x1≠0):sg b1 x1*cmpN (x1*d2) (x2*d1)=aw (zz b1 x1*(d2:Int)) (zz b2 x2*(d1:Int)):=by
 have hb:b1=b2:=by
  unfold sg at h h0
  cases b1 <;> cases b2 <;> simp at h h0 ⊢ <;> (repeat' split at h) <;> simp_all
 subst hb
 have hx:x1≠0:=fun e=>h0 (by rw [e];rfl)
 rw [fg,fg]
 have e:sg b1 x1=if b1 then -1 else 1:=by unfold sg;rw [if_neg hx]
 rw [e]
 generalize x1*d2=p
 generalize x2*d1=q
 unfold cmpN aw zz
 cases b1 <;> simp <;> (repeat' split) <;> omega

theorem jo (b1 b2:Bool)(v1 v2 v3 v4:Value)(x1 d1 x2 d2:Nat)(w:World)(hA:Qn w v1 v2 x1 d1)(hB:Qn w v3 v4 x2 d2)(h:aw (sg b1 x1) (sg b2 x2)≠0∨sg b1 x1=0) :
  Calls Tryz.prog 33 #[.agg #[.bool b1,v1,v2],.agg #[.bool b2,v3,v4]] w fun e w'=>e=.returned (.int .i64 (aw (zz b1 x1*(d2:Int)) (zz b2 x2*(d1:Int))))∧Below w.heap.size w w':=by
 rw [←qh (Nat.pos_of_ne_zero hA.2.2) (Nat.pos_of_ne_zero hB.2.2) h]
 obtain⟨a1,n1,k1,rfl⟩:=hA.1.form
 obtain⟨a2,n2,k2,rfl⟩:=hA.2.1.form
 obtain⟨a3,n3,k3,rfl⟩:=hB.1.form
 obtain⟨a4,n4,k4,rfl⟩:=hB.2.1.form
 obtain⟨w0,hw0,hb0,h0,h1⟩:=aY w (.cells #[.bool b1,.slice a1 n1 k1,.slice a2 n2 k2] 27) (.cells #[.bool b2,.slice a3 n3 k3,.slice a4 n4 k4] 27)
 obtain⟨c0,c1,c2⟩:=tri h0
 have C:=eF b1 _ x1 w0 (hA.1.below hb0)
 have KS2:=ac (fun (W:World) (hg:Below w0.heap.size w0 W)=>eF b2 _ x2 W ((hB.1.below hb0).below hg))
 have KC:=ac (fun (W:World)=>fA (sg b1 x1) (sg b2 x2) W)
 have H0:=ac h0
 have H1:=ac h1
 have HB0:=ac hb0
 clear hA hB h0 h1 hb0
 generalize sg b1 x1=s1 at *
 generalize sg b2 x2=s2 at *
 generalize aw s1 s2=o at *
 by_cases ho:o=0
 ·have hs:s1=0:=h.resolve_left (fun hh=>hh ho)
  subst hs
  subst ho
  clear h
  go_enter Tryz.func33,Tryz.ntmps33
  go_wp2_with fail
  refine C.mono ?_
  rintro e t1 ⟨rfl,hb1⟩
  have C:=KS2.out t1 hb1
  obtain⟨c3,c4,c5⟩:=aO hb1 H1.out
  have HW:=ac hb1
  clear hb1 c0 c1 c2
  go_wp2_with fail
  refine C.mono ?_
  rintro e t2 ⟨rfl,hb2⟩
  have C:=KC.out t2
  have HW2:=ac (ah HW.out hb2)
  clear hb2 c3 c4 c5 HW
  go_wp2_with fail
  refine C.mono ?_
  rintro e wn ⟨rfl,hw⟩;rw [hw];clear hw wn C
  go_wp2
  go_ret
  exact⟨rfl,ah HB0.out HW2.out⟩
 ·have ho2:(o == 0)=false:=by rw [beq_eq_false_iff_ne];exact ho
  have ho3:decide (o=0)=false:=decide_eq_false ho
  clear h
  go_enter Tryz.func33,Tryz.ntmps33
  go_wp2_with fail
  refine C.mono ?_
  rintro e t1 ⟨rfl,hb1⟩
  have C:=KS2.out t1 hb1
  obtain⟨c3,c4,c5⟩:=aO hb1 H1.out
  have HW:=ac hb1
  clear hb1 c0 c1 c2
  go_wp2_with fail
  refine C.mono ?_
  rintro e t2 ⟨rfl,hb2⟩
  have C:=KC.out t2
  have HW2:=ac (ah HW.out hb2)
  clear hb2 c3 c4 c5 HW
  go_wp2_with fail
  refine C.mono ?_
  rintro e wn ⟨rfl,hw⟩;rw [hw];clear hw wn C
  go_wp2
  go_ret
  exact⟨rfl,ah HB0.out HW2.out⟩

theorem qG (b1 b2:Bool)(v1 v2 v3 v4:Value)(x1 d1 x2 d2 M1 M2:Nat)(w:World)(hA:Qn w v1 v2 x1 d1)(hB:Qn w v3 v4 x2 d2)(hT:Tab w)(h:aw (sg b1 x1) (sg b2 x2)=0)(hs:sg b1 x1≠0)(hx1:blen x1≤M1)(hm1:blen d1≤M1)(hx2:blen x2≤M2)(hm2:blen d2≤M2)(hM:M1+M2≤60000000) :
  Calls Tryz.prog 33 #[.agg #[.bool b1,v1,v2],.agg #[.bool b2,v3,v4]] w fun e w'=>e=.returned (.int .i64 (aw (zz b1 x1*(d2:Int)) (zz b2 x2*(d1:Int))))∧Below w.heap.size w w':=by
 have hse:=nR h
 rw [←nv hse hs]
 have hx0:x1≠0:=fun e=>hs (by rw [e];rfl)
 have hy0:x2≠0:=fun e=>hs (by rw [hse,e];rfl)
 have hsr:sg b1 x1=1∨sg b1 x1=-1:=by unfold sg;rw [if_neg hx0];cases b1 <;> simp
 obtain⟨a1,n1,k1,rfl⟩:=hA.1.form
 obtain⟨a2,n2,k2,rfl⟩:=hA.2.1.form
 obtain⟨a3,n3,k3,rfl⟩:=hB.1.form
 obtain⟨a4,n4,k4,rfl⟩:=hB.2.1.form
 obtain⟨w0,hw0,hb0,h0,h1⟩:=aY w (.cells #[.bool b1,.slice a1 n1 k1,.slice a2 n2 k2] 27) (.cells #[.bool b2,.slice a3 n3 k3,.slice a4 n4 k4] 27)
 obtain⟨c0,c1,c2⟩:=tri h0
 have C:=eF b1 _ x1 w0 (hA.1.below hb0)
 have KS2:=ac (fun (W:World) (hg:Below w0.heap.size w0 W)=>eF b2 _ x2 W ((hB.1.below hb0).below hg))
 have KC:=ac (fun (W:World)=>fA (sg b1 x1) (sg b2 x2) W)
 have H0:=ac h0
 have H1:=ac h1
 have HB0:=ac hb0
 have KP:=ac (fun (W:World) (hg:Below w0.heap.size w0 W)=>ni _ _ _ _ x1 d2 x2 d1 W ((hA.1.below hb0).below hg) ((hB.2.1.below hb0).below hg) ((hB.1.below hb0).below hg) ((hA.2.1.below hb0).below hg) ((hT.below hb0).below hg) hx0 hB.2.2 hy0 hA.2.2 (by omega) (by omega))
 rw [h] at KC
 obtain⟨c,hc,hc1,hc2⟩:∃c:Int,cmpN (x1*d2) (x2*d1)=c∧-1≤c∧c≤1:=⟨_,rfl,by unfold cmpN;(repeat' split) <;> omega,by unfold cmpN;(repeat' split) <;> omega⟩
 rw [hc] at KP ⊢
 clear hA hB hT h0 h1 hb0 hse h hc hx0 hy0 hx1 hm1 hx2 hm2 hM
 generalize sg b1 x1=s1 at *
 generalize sg b2 x2=s2 at *
 obtain⟨r,hr,hr1,hr2⟩:∃r:Int,s1*c=r∧-1≤r∧r≤1:=⟨_,rfl,by rcases hsr with rfl|rfl <;> omega,by rcases hsr with rfl|rfl <;> omega⟩
 have hs2:(s1 == 0)=false:=by rw [beq_eq_false_iff_ne];exact hs
 have hs3:decide (s1=0)=false:=decide_eq_false hs
 rw [hr]
 clear hsr
 go_enter Tryz.func33,Tryz.ntmps33
 go_wp2_with fail
 refine C.mono ?_
 rintro e t1 ⟨rfl,hb1⟩
 have C:=KS2.out t1 hb1
 obtain⟨c3,c4,c5⟩:=aO hb1 H1.out
 have HW:=ac hb1
 clear hb1 c0 c1 c2
 go_wp2_with fail
 refine C.mono ?_
 rintro e t2 ⟨rfl,hb2⟩
 have C:=KC.out t2
 have HW2:=ac (ah HW.out hb2)
 clear hb2 c3 c4 c5 HW
 go_wp2_with fail
 refine C.mono ?_
 rintro e wn ⟨rfl,hw⟩;rw [hw];clear hw wn C
 have C:=KP.out t2 HW2.out
 obtain⟨c0,c1,c2⟩:=aO HW2.out H0.out
 obtain⟨c3,c4,c5⟩:=aO HW2.out H1.out
 go_wp2_with fail
 refine C.mono ?_
 rintro e t3 ⟨rfl,hb3⟩
 have HF:=ac (ah HB0.out (ah HW2.out hb3))
 clear hb3 c0 c1 c2 c3 c4 c5 C
 go_wp2
 go_ret
 exact⟨rfl,HF.out⟩

theorem nP (b1 b2:Bool)(v1 v2 v3 v4:Value)(x1 d1 x2 d2 M1 M2:Nat)(w:World)(hA:Qn w v1 v2 x1 d1)(hB:Qn w v3 v4 x2 d2)(hT:Tab w)(hx1:blen x1≤M1)(hm1:blen d1≤M1)(hx2:blen x2≤M2)(hm2:blen d2≤M2)(hM:M1+M2≤60000000) :
  Calls Tryz.prog 33 #[.agg #[.bool b1,v1,v2],.agg #[.bool b2,v3,v4]] w fun e w'=>e=.returned (.int .i64 (aw (zz b1 x1*(d2:Int)) (zz b2 x2*(d1:Int))))∧Below w.heap.size w w':=by
 by_cases h:aw (sg b1 x1) (sg b2 x2)=0
 ·by_cases hs:sg b1 x1=0
  ·exact jo b1 b2 v1 v2 v3 v4 x1 d1 x2 d2 w hA hB (.inr hs)
  ·exact qG b1 b2 v1 v2 v3 v4 x1 d1 x2 d2 M1 M2 w hA hB hT h hs hx1 hm1 hx2 hm2 hM
 ·exact jo b1 b2 v1 v2 v3 v4 x1 d1 x2 d2 w hA hB (.inl h)




end Go.Proofs.YtgnmgbbokcpppaaGreatDoor
namespace Go.Proofs.YtgnmgbbokcpppaaGreatDoor
open Go.RowKit
open Lm

theorem iK (p:Addr)(w:World) :
  CallsD Tryz.prog 68 #[.pointer (some p)] .returning w fun e u' w'=>e=.returned (.tuple #[])∧u'=.returning∧w'=w:=by
 refine callsD_of_wpS Tryz.func68 rfl fun c₀ cs hu=>?_
 apply wpS_seq
 apply wpS_region
 simp [wpOpsS,go_sem,recoverD,hu,Tryz.ntmps68,Exit.thenS]
 refine wpS_of_wp ?_
 go_wp2
 cases c₀
 simp_all [bodyPostS,results,Tryz.results68]

theorem lZ (p:Addr)(s:Int)(w:World)
  (hw:∀W,Below w.heap.size w W→Calls Tryz.prog 50 #[.pointer (some p)] W (fun e w'=>e=.returned (.int .i64 s)∧Below W.heap.size W w')) :
  Calls Tryz.prog 31 #[.func (.func 50) #[] #[.pointer (some p)]] w fun e w'=>e=.returned (.tuple #[.int .i64 s,.int .i64 0])∧Below w.heap.size w w':=by
 have hmf:∀(fn:Fn) (first cap:Array Value) (w:World),(Instr.makeFunc fn first cap).run Tryz.prog w=.ok (.func fn first cap) w:=fun _ _ _ _=>rfl
 obtain⟨w0,hw0,hb0,h1⟩:=an w (.cells #[.int .i64 0] 33)
 have HW:=hw w0 hb0
 have HB0:=ac hb0
 have H1:=ac h1
 clear hw hb0 h1
 go_enter_defers Tryz.func31,Tryz.ntmps31
 go_wp2_with fail
 refine HW.mono ?_
 rintro e w1 ⟨rfl,hb1⟩
 have k1:=ae hb1 H1.out
 have c3:w1.cell? ⟨w.heap.size,0,none⟩=some (.int .i64 0):=by simp [World.cell?,k1]
 have f3:w1.frozen? ⟨w.heap.size,0,none⟩=false:=by simp [World.frozen?,k1]
 go_wp2
 have x2:=aj (k:=0) k1 (.int .i64 0)
 have HFIN:=ac ((HB0.out.trans (hb1.mono HB0.out.size)).setCell (p:=⟨w.heap.size,0,none⟩) (Nat.le_refl _) (.int .i64 0))
 clear c3 f3 k1 hb1
 generalize w1.setCell ⟨w.heap.size,0,none⟩ (.int .i64 0)=w5 at *
 have m3:w5.cell? ⟨w.heap.size,0,none⟩=some (.int .i64 0):=by simp [World.cell?,x2]
 refine leaves_cons (f:=68) (args:=#[.pointer (some ⟨w.heap.size,0,none⟩)]) (by simp) (by simp [go_sem]) ?_
 refine (iK ⟨w.heap.size,0,none⟩ w5).mono ?_
 rintro e u' w'' ⟨rfl,rfl,rfl⟩
 simp [Leaves,settle,results,Tryz.results31,go_sem,m3]
 exact HFIN.out

theorem pz (b:Bool)(v1 v2:Value)(X Y:List Nat)(w:World)(hA:Arg w v1 X)(hB:Arg w v2 Y)(hY:val Y≠0) :
  Calls Tryz.prog 21 #[.agg #[.bool b,v1,v2]] w fun e w'=>e=.returned (.tuple #[.int .i64 (sg b (val X)),.int .i64 0])∧Below w.heap.size w w':=by
 have hmf:∀(fn:Fn) (first cap:Array Value) (w:World),(Instr.makeFunc fn first cap).run Tryz.prog w=.ok (.func fn first cap) w:=fun _ _ _ _=>rfl
 obtain⟨a,n,rfl,_,_,_⟩:=hA.form
 obtain⟨ad,nd,rfl,_,_,_⟩:=hB.form
 obtain⟨w0,hw0,hb0,h0⟩:=an w (.cells #[.bool b,.slice a X.length n,.slice ad Y.length nd] 27)
 have FA:=lZ ⟨w.heap.size,0,none⟩ (sg b (val X)) w0 (fun W hg=>by
  have hP:=ae hg h0
  obtain⟨u0,hu0,hbu,hL⟩:=an W (.cells #[.bool b,.slice a X.length n,.slice ad Y.length nd] 27)
  have ME:=gL W.heap.size b _ _ X Y u0 (((hA.below hb0).below hg).below hbu) (((hB.below hb0).below hg).below hbu) hL hY
  have SG:=ac (fun (t:World) (h:Below u0.heap.size u0 t)=>gH b (.slice a X.length n) X t ((((hA.below hb0).below hg).below hbu).below h))
  obtain⟨c0,c1,c2⟩:=tri hP
  have HP:=ac (ae hbu hP)
  have HG:=ac hbu
  clear hP hL hbu
  generalize sg b (val X)=s at *
  go_enter Tryz.func50,Tryz.ntmps50
  go_wp2_with fail
  refine ME.mono ?_
  rintro e t1 ⟨rfl,hb1⟩
  have S1:=SG.out t1 hb1
  obtain⟨d0,d1,d2⟩:=tri (ae hb1 HP.out)
  have HG1:=ac (ah HG.out hb1)
  clear c0 c1 c2 ME SG hb1
  go_wp2_with fail
  refine S1.mono ?_
  rintro e t2 ⟨rfl,hb2⟩
  have HG2:=ac (ah HG1.out hb2)
  clear S1 hb2
  go_wp2
  go_ret
  exact⟨rfl,HG2.out⟩)
 have HB0:=ac hb0
 clear hA hB h0 hb0
 generalize sg b (val X)=s at *
 go_enter Tryz.func21,Tryz.ntmps21
 go_wp2_with fail
 refine FA.mono ?_
 rintro e t2 ⟨rfl,hb2⟩
 have HE:=ac (HB0.out.trans (hb2.mono HB0.out.size))
 clear hb2 FA
 go_wp2
 go_ret2
 exact⟨rfl,HE.out⟩
end Go.Proofs.YtgnmgbbokcpppaaGreatDoor

