/- Package whole: Bezout. -/
import Derived.Test.YtdbjbbdhlpfhjaaGreatDoorB12
import Derived.Test.YtdbjbbdhlpfhjaaGreatDoorB03
import Derived.Deep.RegionHeld3
import Derived.Test.YtdbjbbdhlpfhjaaGreatDoorB07
import Derived.Test.YtdbjbbdhlpfhjaaGreatDoorB06
import Derived.Test.YtdbjbbdhlpfhjaaGreatDoorB08
import Derived.Test.YtdbjbbdhlpfhjaaGreatDoorB01
import Derived.Test.YtdbjbbdhlpfhjaaGreatDoorB02
import Derived.Test.YtdbjbbdhlpfhjaaGreatDoorB04
set_option maxRecDepth 20000
set_option maxHeartbeats 4000000
namespace Go.Proofs.YtdbjbbdhlpfhjaaGreatDoor
open Go.RowKit
open Lm
attribute [local go_sem ↓] Go.wp_at_zero Go.wp_at_succ

def Ap (u v:Value):Prop:=∀k,u.ownBlock=some k→v.ownBlock≠some k

def fA (az bz:Int)(w:World)(e:Ending)(w':World):Prop:=
 (∃(g:Nat) (x y:Int) (b1:Bool) (a1:Option Addr) (n1 k1:Nat) (b2:Bool) (a2:Option Addr) (n2 k2:Nat) (b3:Bool) (a3:Option Addr) (n3 k3:Nat),e=.returned (.tuple #[.agg #[.bool b1,.slice a1 n1 k1],.agg #[.bool b2,.slice a2 n2 k2],.agg #[.bool b3,.slice a3 n3 k3],.int .i64 0]) ∧
  ZA w' w.heap.size b1 (.slice a1 n1 k1) (g:Int)∧ZA w' w.heap.size b2 (.slice a2 n2 k2) x∧ZA w' w.heap.size b3 (.slice a3 n3 k3) y∧Ap (.slice a1 n1 k1) (.slice a2 n2 k2)∧Ap (.slice a1 n1 k1) (.slice a3 n3 k3)∧Ap (.slice a2 n2 k2) (.slice a3 n3 k3)∧dX az bz g x y)∧Below w.heap.size w w'

theorem fI {w w':World}{b1:Nat}{u v:Value}{r s:List Nat}(h1:Ans w b1 u r)(h2:Ans w' w.heap.size v s):Ap u v:=by
 intro k e e2
 have:=(h1.own.lt k e).2
 have:=(h2.own.lt k e2).1
 omega

theorem cJ {x y:Nat}(h:x≤y):blen x≤blen y:=(blen_le_iff x _).2 (Nat.lt_of_le_of_lt h ((blen_le_iff y _).1 (Nat.le_refl _)))

theorem jw (x y:Nat):blen (x*y)≤blen x+blen y:=by
 refine (blen_le_iff _ _).2 ?_
 have h1:=(blen_le_iff x _).1 (Nat.le_refl _)
 have h2:=(blen_le_iff y _).1 (Nat.le_refl _)
 rw [Nat.pow_add]
 exact Nat.mul_lt_mul_of_lt_of_lt h1 h2

theorem cK {r:List Nat}(ht:tr r=r)(hb:blen (val r)≤67108864):r.length≤1048576:=by
 have h:=few_limbs r 1048576 (by omega)
 rw [ht] at h
 exact h

theorem nZ {r x:Nat}(hb:blen x≤67108864)(hv:r≤x∨r≤1):blen r≤67108864:=by
 rcases hv with h|h
 ·exact Nat.le_trans (cJ h) hb
 ·have h1:blen r≤1:=(blen_le_iff _ _).2 (by omega)
  omega

theorem lk (ba bb:Bool)(va vb:Value)(X Y:List Nat)(w:World)(hA:Arg w va X)(hB:Arg w vb Y)(hT:Tab w)(lX:X.length≤17592186043904)(lY:Y.length≤17592186043904)(bX:blen (val X)≤67108864)(bY:blen (val Y)≤67108864)(hy0:0<val Y) :
  Calls Tryz.prog 9 #[.agg #[.bool ba,va],.agg #[.bool bb,vb]] w (fA (zz ba (val X)) (zz bb (val Y)) w):=by
 obtain⟨a1,c1,rfl,_,_,_⟩:=hA.form
 obtain⟨a2,c2,rfl,_,_,_⟩:=hB.form
 obtain⟨w0,hw0,hb0,h0,h1,h2,h3,h4⟩:=iE w (.cells #[.bool ba,.slice a1 X.length c1] 27) (.cells #[.bool bb,.slice a2 Y.length c2] 27) (.cells #[.bool false,.slice none 0 0] 27) (.cells #[.bool false,.slice none 0 0] 27) (.cells #[.bool false,.slice none 0 0] 27)
 obtain⟨k0,k1⟩:=duo h0
 obtain⟨k2,k3⟩:=duo h1
 have C:=dW _ Y w0 (hB.below hb0)
 rw [decide_eq_false (by omega)] at C
 have H0:=aa h0
 have H1:=aa h1
 have HR:=aa (And.intro h2 (And.intro h3 h4))
 have HB0:=aa hb0
 have HA:=aa (hA.below hb0)
 have HB:=aa (hB.below hb0)
 have HT:=aa (hT.below hb0)
 have HY0:=aa hy0
 have HL:=aa (And.intro lX lY)
 have HBL:=aa (And.intro bX bY)
 clear hA hB hT hb0 h0 h1 h2 h3 h4 hy0 lX lY bX bY
 go_enter Tryz.func9,Tryz.ntmps9
 go_wp2_with fail
 refine C.mono ?_
 rintro e wn ⟨rfl,hw⟩;rw [hw];clear hw wn C
 have g0:Below w0.drew.heap.size w0.drew w0.drew:=Below.refl _ _
 have P2:=aa (fun (W:World) (v1:Value) (r1:List Nat) (hg:Below w0.drew.heap.size w0.drew W) (h1:Ans W w0.drew.heap.size v1 r1) (hv:val r1=er ba (val X) (val Y)) (ht:tr r1=r1)=>
  show Calls Tryz.prog 43 #[v1,.slice a2 Y.length c2] W (cT (val Y) (er ba (val X) (val Y)) W) by
   have hlt:=ii ba (val X) (val Y) HY0.out
   have hl:r1.length≤Y.length:=bO ht (by rw [hv];exact Nat.lt_trans hlt (val_lt HB.out.limbs))
   have hl2:=HL.out.2
   have h:=gY v1 _ r1 Y W (h1.arg (by omega)) ((HB.out.below (Below.refl _ _).drew).below hg) ((HT.out.below (Below.refl _ _).drew).below hg) (by rw [hv];exact hlt) (by omega) (by omega)
   rw [hv] at h
   exact h)
 have P1:=jq ba _ X _ Y w0.drew (HA.out.below (Below.refl _ _).drew) (HB.out.below (Below.refl _ _).drew) (HT.out.below (Below.refl _ _).drew) (by have:=HL.out;omega) (by have:=HL.out;omega) HY0.out
 have KS:=aa (fun (W:World) (hg:Below w0.drew.heap.size w0.drew W)=>show W.cell? ⟨w.heap.size,0,none⟩=some (.bool ba)∧W.cell? ⟨w.heap.size,1,none⟩=some (.slice a1 X.length c1)∧W.cell? ⟨w.heap.size+1,1,none⟩=some (.slice a2 Y.length c2) from
  ⟨(duo (ac hg (show w0.drew.heap[w.heap.size]?=some (.cells #[.bool ba,.slice a1 X.length c1] 27) from H0.out))).1,(duo (ac hg (show w0.drew.heap[w.heap.size]?=some (.cells #[.bool ba,.slice a1 X.length c1] 27) from H0.out))).2,(duo (ac hg (show w0.drew.heap[w.heap.size+1]?=some (.cells #[.bool bb,.slice a2 Y.length c2] 27) from H1.out))).2⟩)
 go_wp2
 go_region_held3 (fun w'=>w'.cell? ⟨w.heap.size,0,none⟩=some (.bool ba)∧w'.cell? ⟨w.heap.size,1,none⟩=some (.slice a1 X.length c1)∧w'.cell? ⟨w.heap.size+1,1,none⟩=some (.slice a2 Y.length c2)) (first|with_reducible exact KS.out _ g2|with_reducible exact KS.out _ g1|with_reducible exact KS.out _ g0) (first
  | (go_at_call 44;refine P1.mono ?_;rintro e' t1 ⟨⟨v1,r1,rfl,x1,x2,x3⟩,hb1⟩;have g1:=bt6 g0 hb1;obtain⟨a8,k8,rfl⟩:=x1.shape)
  | (go_at_call 43;refine (P2.out t1 _ r1 g1 x1 x2 x3).mono ?_;rintro e' t2 ⟨⟨v3,v4,r3,r4,rfl,y1,y2,y3,y4,y5,y6,y7⟩,hb2⟩;have g2:=bt6 g1 hb2;obtain⟨a3,c3,rfl⟩:=y1.shape;obtain⟨a4,c4,rfl⟩:=y2.shape))
 all_goals
  have hb02:Below w0.heap.size w0 t2:=cX g2
  have b3:blen (val r3)≤67108864:=Nat.le_trans (cJ (by rw [y3];exact Nat.gcd_le_left _ HY0.out)) HBL.out.2
  have b4:blen (val r4)≤67108864:=Nat.le_trans (cJ (Nat.le_of_lt (fc y5 HY0.out (Nat.gcd_pos_of_pos_left _ HY0.out)))) HBL.out.2
  have l3:=cK y4 b3
  have l4:=cK y6 b4
  have n3:¬67108864<blen (val r3):=by omega
  have n4:¬67108864<blen (val r4):=by omega
  obtain⟨wv,hwv,hbv,hxv⟩:=aO t2 (.cells #[.slice a3 r3.length c3,.slice a4 r4.length c4] 25)
  have AB:=fq t2.heap.size _ _ r3 r4 wv hxv ((y1.arg (by omega)).below hbv) ((y2.arg (by omega)).below hbv)
  rw [decide_eq_false (by rintro (h|h);exact n3 h;exact n4 h)] at AB
  have hb0v:Below w0.heap.size w0 wv:=ak hb02 hbv
  obtain⟨m0,m1⟩:=duo (ac hb0v H0.out)
  obtain⟨m2,m3⟩:=duo (ac hb0v H1.out)
  have OT:=oO ba bb _ _ _ _ X Y r3 r4 wv (HA.out.below hb0v) (HB.out.below hb0v) ((y1.arg (by omega)).below hbv) ((y2.arg (by omega)).below hbv) (HT.out.below hb0v) HY0.out HL.out.1 (by omega) (fun r hr ht=>by
   have h1:=jw (val X) (val r4)
   rw [←hr] at h1
   have h2:=HBL.out.1
   have h3:=few_limbs r 2097152 (by omega)
   rw [ht] at h3
   omega) (by omega) HL.out.2
  have HN:=aa (kC ba bb (val X) (val Y) (val r4) HY0.out y5)
  rw [y3] at OT
  obtain⟨G,hG⟩:∃G,Nat.gcd (val Y) (er ba (val X) (val Y))=G:=⟨_,rfl⟩
  rw [hG] at OT HN y3
  obtain⟨zy,hzy⟩:∃zy,oth ba bb (val X) (val Y) G (val r4)=zy:=⟨_,rfl⟩
  rw [hzy] at OT HN
  have hs1:w.heap.size≤t1.heap.size:=by have:=g1.size;have:=HB0.out.size;exact Nat.le_trans HB0.out.size g1.size
  have HA3:=aa ((y1.below hbv).base hs1)
  have HA4:=aa ((y2.below hbv).base hs1)
  have HV:=aa (And.intro y3 (And.intro y4 (And.intro y6 y7)))
  have HBV:=aa hb0v
  clear P1 P2 KS g0 g1 g2 hb1 hb2 x1 x2 x3 y1 y2 y3 y4 y5 y6 y7 n3 n4 hbv hxv hb0v hb02 hG hzy hs1 l3 l4 b3 b4 HA HB HT k0 k1 k2 k3
  go_wp2_with fail
  refine AB.mono ?_
  rintro e wn ⟨rfl,hw⟩;rw [hw];clear hw wn AB
  go_wp2_with fail
  clear hwv m0 m1 m2 m3
  refine OT.mono ?_
  rintro e t5 ⟨⟨b5,a5,n5,k5,r5,rfl,hb5z,hA5,hv5,ht5⟩,hb5⟩
  obtain⟨t6,ht6,hb6,hx6⟩:=aO t5 (.cells #[.bool false,.slice none 0 0] 27)
  obtain⟨z0,z1⟩:=duo hx6
  have zf:=av hx6
  have R7:=aI (a':=.bool b5) (b':=.slice a5 n5 k5) hx6
  have hb7:Below t5.heap.size t5 ((t6.setCell ⟨t5.heap.size,0,none⟩ (.bool b5)).setCell ⟨t5.heap.size,1,none⟩ (.slice a5 n5 k5)):=aC hb6 (Nat.le_refl _)
  obtain⟨t8,ht8,hb8,hx8⟩:=aO ((t6.setCell ⟨t5.heap.size,0,none⟩ (.bool b5)).setCell ⟨t5.heap.size,1,none⟩ (.slice a5 n5 k5)) (.cells #[.slice a5 n5 k5] 25)
  have hb58:Below t5.heap.size t5 t8:=ak hb7 hb8
  have R8:=ac hb8 R7
  have hx8':t8.heap[t6.heap.size]?=some (.cells #[.slice a5 n5 k5] 25):=by simpa using hx8
  have b5':blen (val r5)≤67108864:=nZ HBL.out.1 (by have h1:=HN.out.ly;rw [aF] at h1;rw [hv5];exact h1)
  have l5:=cK ht5 b5'
  have n5':¬67108864<blen (val r5):=by omega
  have AB:=gU t6.heap.size _ r5 t8 hx8' ((hA5.below hb58).arg (by omega))
  rw [decide_eq_false n5'] at AB
  have HA5:=aa ((hA5.below hb58).base (Nat.le_trans HB0.out.size HBV.out.size))
  have HP5:=aa (show Ap (.slice a3 r3.length c3) (.slice a5 n5 k5)∧Ap (.slice a4 r4.length c4) (.slice a5 n5 k5) from ⟨fI HA3.out hA5,fI HA4.out hA5⟩)
  have HV5:=aa (And.intro hb5z (And.intro hv5 ht5))
  have HBX:=aa (ak (ak HBV.out hb5) hb58)
  have HB5:=aa (ak hb5 hb58)
  have HR8:=aa R8
  have HNE:=aa (show w.heap.size+1+1≠t5.heap.size∧w.heap.size+1+1+1≠t5.heap.size by
   have h1:=bC HR.out.2.2
   have h2:=HBV.out.size
   have h3:=hb5.size
   omega)
  clear hb5z hA5 hv5 ht5 hb5 hb6 hx6 hb7 hb8 hx8 hx8' hb58 R8 n5' l5 b5' OT
  go_wp2_with fail
  refine AB.mono ?_
  rintro e wn ⟨rfl,hw⟩;rw [hw];clear hw wn AB
  clear ht6 ht8 z0 z1 zf R7
  have g0:Below t8.drew.heap.size t8.drew t8.drew:=Below.refl _ _
  have gw:∀W,Below t8.drew.heap.size t8.drew W→Below t8.heap.size t8 W:=fun W h=>cX h
  obtain⟨u1,hu1⟩:∃u1,decide ((G:Int)<0)=u1:=⟨_,rfl⟩
  obtain⟨u2,hu2⟩:∃u2,decide (((val r4:Nat):Int)<0)=u2:=⟨_,rfl⟩
  have S1:=aa (fun (W:World) (hg:Below t8.drew.heap.size t8.drew W)=>show Calls Tryz.prog 47 #[.bool false,.slice a3 r3.length c3] W fun e w'=>e=.returned (.agg #[.bool u1,.slice a3 r3.length c3])∧Below W.heap.size W w' by
   have h:=dz false _ r3 w.heap.size W G (G:Int) rfl ((HA3.out.below HB5.out).below (gw W hg)) HV.out.1 HV.out.2.1
   rw [hu1] at h
   exact h)
  have S2:=aa (fun (W:World) (hg:Below t8.drew.heap.size t8.drew W)=>show Calls Tryz.prog 47 #[.bool false,.slice a4 r4.length c4] W fun e w'=>e=.returned (.agg #[.bool u2,.slice a4 r4.length c4])∧Below W.heap.size W w' by
   have h:=dz false _ r4 w.heap.size W (val r4) ((val r4:Nat):Int) rfl ((HA4.out.below HB5.out).below (gw W hg)) rfl HV.out.2.2.1
   rw [hu2] at h
   exact h)
  have KY:=aa (fun (W:World) (hg:Below t8.drew.heap.size t8.drew W)=>show W.heap[t5.heap.size]?=some (.cells #[.bool b5,.slice a5 n5 k5] 27) from ac (gw W hg) HR8.out)
  have KR:=aa (fun (W:World) (hg:Below t8.drew.heap.size t8.drew W)=>show W.heap[w.heap.size+1+1]?=some (.cells #[.bool false,.slice none 0 0] 27)∧W.heap[w.heap.size+1+1+1]?=some (.cells #[.bool false,.slice none 0 0] 27)∧W.heap[w.heap.size+1+1+1+1]?=some (.cells #[.bool false,.slice none 0 0] 27) from
   ⟨ac (gw W hg) (ac HBX.out HR.out.1),ac (gw W hg) (ac HBX.out HR.out.2.1),ac (gw W hg) (ac HBX.out HR.out.2.2)⟩)
  obtain⟨q0,q1⟩:=duo (KY.out _ g0)
  have HU:=aa (And.intro hu1 hu2)
  clear hu1 hu2 gw
  go_wp2
  go_region_with (first
   | (go_at_call 47;refine (S2.out t10 g1).mono ?_;rintro e' t11 ⟨rfl,hb11⟩;have g2:=bt6 g1 hb11;obtain⟨q4,q5⟩:=duo (KY.out _ g2);have y2:((t11.setCell ⟨w.heap.size+1+1,0,none⟩ (.bool u1)).setCell ⟨w.heap.size+1+1,1,none⟩ (.slice a3 r3.length c3)).cell? ⟨t5.heap.size,0,none⟩=some (.bool b5):=(by rw [bh HNE.out.1,bh HNE.out.1];exact q4);have y3:((t11.setCell ⟨w.heap.size+1+1,0,none⟩ (.bool u1)).setCell ⟨w.heap.size+1+1,1,none⟩ (.slice a3 r3.length c3)).cell? ⟨t5.heap.size,1,none⟩=some (.slice a5 n5 k5):=(by rw [bh HNE.out.1,bh HNE.out.1];exact q5);have y4:((((t11.setCell ⟨w.heap.size+1+1,0,none⟩ (.bool u1)).setCell ⟨w.heap.size+1+1,1,none⟩ (.slice a3 r3.length c3)).setCell ⟨w.heap.size+1+1+1,0,none⟩ (.bool u2)).setCell ⟨w.heap.size+1+1+1,1,none⟩ (.slice a4 r4.length c4)).cell? ⟨t5.heap.size,0,none⟩=some (.bool b5):=(by rw [bh HNE.out.2,bh HNE.out.2,bh HNE.out.1,bh HNE.out.1];exact q4);have y5:((((t11.setCell ⟨w.heap.size+1+1,0,none⟩ (.bool u1)).setCell ⟨w.heap.size+1+1,1,none⟩ (.slice a3 r3.length c3)).setCell ⟨w.heap.size+1+1+1,0,none⟩ (.bool u2)).setCell ⟨w.heap.size+1+1+1,1,none⟩ (.slice a4 r4.length c4)).cell? ⟨t5.heap.size,1,none⟩=some (.slice a5 n5 k5):=(by rw [bh HNE.out.2,bh HNE.out.2,bh HNE.out.1,bh HNE.out.1];exact q5);obtain⟨x1,x2,x3⟩:=KR.out _ g2;have f1:=av x1;have f2:=av x2;have f3:=av x3;obtain⟨e0,e1⟩:=duo x1;obtain⟨e2,e3⟩:=duo x2;obtain⟨e4,e5⟩:=duo x3)
   | (go_at_call 47;refine (S1.out _ g0).mono ?_;rintro e' t10 ⟨rfl,hb10⟩;have g1:=bt6 g0 hb10;obtain⟨q2,q3⟩:=duo (KY.out _ g1)))
  all_goals
   have hbt:Below t8.heap.size t8 t11:=cX g2
   have HX:=aa (And.intro x1 (And.intro x2 (And.intro x3 hbt)))
   clear g0 g1 g2 hb10 hb11 hbt q0 q1 q2 q3 q4 q5 y2 y3 y4 y5 KY KR S1 S2 x1 x2 x3
   go_wp2
   have hq:=fO (u0:=.bool u1) (u1:=.slice a3 r3.length c3) (u2:=.bool u2) (u3:=.slice a4 r4.length c4) (u4:=.bool b5) (u5:=.slice a5 n5 k5) HX.out.1 HX.out.2.1 HX.out.2.2.1
   have HE:=aa (And.intro (hq.2.2.2.1 _ _ _ ((HA3.out.below HB5.out).below HX.out.2.2.2)) (And.intro (hq.2.2.2.1 _ _ _ ((HA4.out.below HB5.out).below HX.out.2.2.2)) (And.intro (hq.2.2.2.1 _ _ _ (HA5.out.below HX.out.2.2.2)) (hq.2.2.2.2 w.heap.size w (by omega) (ak (ak HB0.out HBX.out) HX.out.2.2.2)))))
   obtain⟨R5,R6,R7,_,_⟩:=hq
   generalize (((((t11.setCell ⟨w.heap.size+1+1,0,none⟩ (.bool u1)).setCell ⟨w.heap.size+1+1,1,none⟩ (.slice a3 r3.length c3)).setCell ⟨w.heap.size+1+1+1,0,none⟩ (.bool u2)).setCell ⟨w.heap.size+1+1+1,1,none⟩ (.slice a4 r4.length c4)).setCell ⟨w.heap.size+1+1+1+1,0,none⟩ (.bool b5)).setCell ⟨w.heap.size+1+1+1+1,1,none⟩ (.slice a5 n5 k5)=w12 at *
   obtain⟨p0,p1⟩:=duo R5
   obtain⟨p2,p3⟩:=duo R6
   obtain⟨p4,p5⟩:=duo R7
   refine bodyPost_ret (v:=.tuple #[.agg #[.bool u1,.slice a3 r3.length c3],.agg #[.bool u2,.slice a4 r4.length c4],.agg #[.bool b5,.slice a5 n5 k5],.int .i64 0]) (by simp [results,Tryz.results9,go_sem,p0,p1,p2,p3,p4,p5]) rfl ?_
   exact⟨⟨G,((val r4:Nat):Int),zy,_,_,_,_,_,_,_,_,_,_,_,_,rfl,⟨r3,HE.out.1,HU.out.1.symm,by rw [Int.natAbs_natCast];exact HV.out.1,HV.out.2.1⟩,⟨r4,HE.out.2.1,HU.out.2.symm,(Int.natAbs_natCast _).symm,HV.out.2.2.1⟩,⟨r5,HE.out.2.2.1,HV5.out⟩,HV.out.2.2.2,HP5.out.1,HP5.out.2,HN.out⟩,HE.out.2.2.2⟩

theorem nX (ba bb:Bool)(va vb:Value)(X Y:List Nat)(w:World)(hA:Arg w va X)(hB:Arg w vb Y)(lX:X.length≤17592186043904)(bX:blen (val X)≤67108864)(hy0:val Y=0) :
  Calls Tryz.prog 9 #[.agg #[.bool ba,va],.agg #[.bool bb,vb]] w (fA (zz ba (val X)) (zz bb (val Y)) w):=by
 obtain⟨a1,c1,rfl,_,_,_⟩:=hA.form
 obtain⟨a2,c2,rfl,_,_,_⟩:=hB.form
 obtain⟨w0,hw0,hb0,h0,h1,h2,h3,h4⟩:=iE w (.cells #[.bool ba,.slice a1 X.length c1] 27) (.cells #[.bool bb,.slice a2 Y.length c2] 27) (.cells #[.bool false,.slice none 0 0] 27) (.cells #[.bool false,.slice none 0 0] 27) (.cells #[.bool false,.slice none 0 0] 27)
 obtain⟨k0,k1⟩:=duo h0
 obtain⟨k2,k3⟩:=duo h1
 have C:=dW _ Y w0 (hB.below hb0)
 rw [decide_eq_true hy0] at C
 have CA:=kz ba _ X w0 (hA.below hb0) (by omega)
 have HN:Hid (dX (zz ba (val X)) (zz bb (val Y)) (val X) (zz ba (val X)).sign 0):=by rw [hy0];exact aa (o7 ba bb (val X))
 have hfit:¬67108864<blen (val X):=by omega
 have H0:=aa h0
 have HR:=aa (And.intro h2 (And.intro h3 h4))
 have HB0:=aa hb0
 have HA:=aa (hA.below hb0)
 have HF:=aa hfit
 clear hA hB hb0 h0 h1 h2 h3 h4 hy0 lX bX hfit
 go_enter Tryz.func9,Tryz.ntmps9
 go_wp2_with fail
 refine C.mono ?_
 rintro e wn ⟨rfl,hw⟩;rw [hw];clear hw wn C
 go_wp2_with fail
 refine CA.mono ?_
 rintro e t5 ⟨⟨b5,a5,n5,k5,c5,rfl,r5,hA5,hcase⟩,hb5⟩
 obtain⟨rfl,hb5z,hv5,ht5⟩:c5=0∧b5=decide (zz false (val X)<0)∧val r5=(zz false (val X)).natAbs∧tr r5=r5:=by
  rcases hcase with ⟨h1,h2,h3,h4,_⟩|⟨_,_,_,_,h⟩
  ·exact⟨h1,h2,h3,h4⟩
  ·rw [aF] at h
   exact absurd h HF.out
 obtain⟨t6,ht6,hb6,hx6⟩:=aO t5 (.cells #[.bool false,.slice none 0 0] 27)
 obtain⟨z0,z1⟩:=duo hx6
 have zf:=av hx6
 have R7:=aI (a':=.bool b5) (b':=.slice a5 n5 k5) hx6
 have hb7:Below t5.heap.size t5 ((t6.setCell ⟨t5.heap.size,0,none⟩ (.bool b5)).setCell ⟨t5.heap.size,1,none⟩ (.slice a5 n5 k5)):=aC hb6 (Nat.le_refl _)
 have HA5:=aa ((hA5.below hb7).base HB0.out.size)
 have HV5:=aa (And.intro hb5z (And.intro hv5 ht5))
 have HBX:=aa (ak hb5 hb7)
 have HR7:=aa R7
 clear hA5 hb5z hv5 ht5 hb5 hb6 hx6 hb7 hcase CA k2 k3
 obtain⟨t7,ht7⟩:∃t7,(t6.setCell ⟨t5.heap.size,0,none⟩ (.bool b5)).setCell ⟨t5.heap.size,1,none⟩ (.slice a5 n5 k5)=t7:=⟨_,rfl⟩
 rw [ht7] at R7 HA5 HBX HR7
 go_wp2_with fail
 clear ht6 ht7 z0 z1 zf R7 k0 k1
 have g0:Below t7.drew.heap.size t7.drew t7.drew:=Below.refl _ _
 have gw:∀W,Below t7.drew.heap.size t7.drew W→Below t7.heap.size t7 W:=fun W h=>cX h
 obtain⟨s0,hs0⟩:∃s0,sg ba (val X)=s0:=⟨_,rfl⟩
 have hs1:-1≤s0∧s0≤1:=by rw [←hs0];unfold sg;split <;> (try split) <;> omega
 have HSG:=aa hs0
 have CS:=aa (fun (W:World) (hg:Below t7.drew.heap.size t7.drew W)=>show Calls Tryz.prog 42 #[.agg #[.bool ba,.slice a1 X.length c1]] W fun e w'=>e=.returned (.int .i64 s0)∧Below W.heap.size W w' by
  have h:=lI ba _ X W ((HA.out.below HBX.out).below (gw W hg))
  rw [hs0] at h
  exact h)
 have CO:=aa (fun (W:World)=>fJ s0 W (by omega) (by omega))
 have KG:=aa (fun (W:World) (hg:Below t7.drew.heap.size t7.drew W)=>show W.heap[t5.heap.size]?=some (.cells #[.bool b5,.slice a5 n5 k5] 27) from ac (gw W hg) HR7.out)
 have KR:=aa (fun (W:World) (hg:Below t7.drew.heap.size t7.drew W)=>show W.heap[w.heap.size+1+1]?=some (.cells #[.bool false,.slice none 0 0] 27)∧W.heap[w.heap.size+1+1+1]?=some (.cells #[.bool false,.slice none 0 0] 27)∧W.heap[w.heap.size+1+1+1+1]?=some (.cells #[.bool false,.slice none 0 0] 27) from
   ⟨ac (gw W hg) (ac HBX.out HR.out.1),ac (gw W hg) (ac HBX.out HR.out.2.1),ac (gw W hg) (ac HBX.out HR.out.2.2)⟩)
 obtain⟨k0,k1⟩:=duo (ac (gw _ g0) (ac HBX.out H0.out))
 obtain⟨q0,q1⟩:=duo (KG.out _ g0)
 clear hs0 hs1 gw
 go_wp2
 go_region_with (first
  | (go_at_call 42;refine (CS.out _ g0).mono ?_;rintro e' t9 ⟨rfl,hb9⟩;have g1:=bt6 g0 hb9;obtain⟨q2,q3⟩:=duo (KG.out _ g1))
  | (go_at_call 41;refine (CO.out t9).mono ?_;rintro e' t11 ⟨⟨b6,a6,n6,k6,rfl,hz6⟩,hb11⟩;have g2:=bt6 g1 hb11;obtain⟨q4,q5⟩:=duo (KG.out _ g2);obtain⟨x1,x2,x3⟩:=KR.out _ g2;have f1:=av x1;have f2:=av x2;have f3:=av x3;obtain⟨e0,e1⟩:=duo x1;obtain⟨e2,e3⟩:=duo x2;obtain⟨e4,e5⟩:=duo x3))
 all_goals
  have hbt:Below t7.heap.size t7 t11:=cX g2
  have hbt1:Below t7.heap.size t7 t9:=cX g1
  have HX:=aa (And.intro x1 (And.intro x2 (And.intro x3 hbt)))
  obtain⟨r6,z1,z2⟩:=hz6
  have HAP:=aa (fI (HA5.out.below hbt1) z1)
  have HA6:=aa (And.intro (z1.base (Nat.le_trans (Nat.le_trans HB0.out.size HBX.out.size) hbt1.size)) z2)
  clear g0 g1 g2 hb9 hb11 hbt hbt1 q0 q1 q2 q3 q4 q5 KG KR CS CO x1 x2 x3 z1 z2 k0 k1
  go_wp2
  have hq:=fO (u0:=.bool b5) (u1:=.slice a5 n5 k5) (u2:=.bool b6) (u3:=.slice a6 n6 k6) (u4:=.bool false) (u5:=.slice none 0 0) HX.out.1 HX.out.2.1 HX.out.2.2.1
  have HE:=aa (And.intro (hq.2.2.2.1 _ _ _ (HA5.out.below HX.out.2.2.2)) (And.intro (hq.2.2.2.1 _ _ _ HA6.out.1) (hq.2.2.2.2 w.heap.size w (by omega) (ak (ak HB0.out HBX.out) HX.out.2.2.2))))
  obtain⟨R5,R6,R7,_,_⟩:=hq
  generalize (((((t11.setCell ⟨w.heap.size+1+1,0,none⟩ (.bool b5)).setCell ⟨w.heap.size+1+1,1,none⟩ (.slice a5 n5 k5)).setCell ⟨w.heap.size+1+1+1,0,none⟩ (.bool b6)).setCell ⟨w.heap.size+1+1+1,1,none⟩ (.slice a6 n6 k6)).setCell ⟨w.heap.size+1+1+1+1,0,none⟩ (.bool false)).setCell ⟨w.heap.size+1+1+1+1,1,none⟩ (.slice none 0 0)=w12 at *
  obtain⟨p0,p1⟩:=duo R5
  obtain⟨p2,p3⟩:=duo R6
  obtain⟨p4,p5⟩:=duo R7
  refine bodyPost_ret (v:=.tuple #[.agg #[.bool b5,.slice a5 n5 k5],.agg #[.bool b6,.slice a6 n6 k6],.agg #[.bool false,.slice none 0 0],.int .i64 0]) (by simp [results,Tryz.results9,go_sem,p0,p1,p2,p3,p4,p5]) rfl ?_
  refine⟨⟨val X,(zz ba (val X)).sign,0,_,_,_,_,_,_,_,_,_,_,_,_,rfl,⟨r5,HE.out.1,HV5.out⟩,⟨r6,HE.out.2.1,?_⟩,⟨[],Ans.nil _ _,rfl,rfl,rfl⟩,HAP.out,fun k e=>by simp [Value.ownBlock],fun k e=>by simp [Value.ownBlock],HN.out⟩,HE.out.2.2⟩
  rw [←pH,HSG.out]
  exact HA6.out.2

def fs (az mz:Int)(w':World)(base:Nat)(b:Bool)(a:Option Addr)(n k:Nat)(c:Int):Prop:=
 (mz=0∧c=30∧b=false∧a=none∧n=0∧k=0) ∨
 (mz≠0∧Nat.gcd az.natAbs mz.natAbs≠1∧c=61∧b=false∧a=none∧n=0∧k=0) ∨
 (mz≠0∧Nat.gcd az.natAbs mz.natAbs=1∧c=0∧∃x:Nat,ZA w' base b (.slice a n k) (x:Int)∧x<mz.natAbs∧∃q:Int,az*(x:Int)=1+q*mz)

def nV (az mz:Int)(w:World)(e:Ending)(w':World):Prop:=
 (∃(b:Bool) (a:Option Addr) (n k:Nat) (c:Int),e=.returned (.tuple #[.agg #[.bool b,.slice a n k],.int .i64 c])∧fs az mz w' w.heap.size b a n k c)∧Below w.heap.size w w'

theorem jz {b:Bool}{B:Nat}(h:0<B):zz b B≠0:=fun e=>by
 have:=aF b B
 rw [e] at this
 simp at this
 omega

theorem nc (ba bm:Bool)(A M x:Nat)(hM:0<M)(hg:Nat.gcd M (er ba A M)=1)(hi:IsInv M (er ba A M) (Nat.gcd M (er ba A M)) x):x<M∧∃q:Int,zz ba A*(x:Int)=1+q*zz bm M:=by
 refine⟨fc hi hM (by rw [hg];exact Nat.one_pos),?_⟩
 obtain⟨k,hk⟩:=hi.eq
 obtain⟨l,hl⟩:=gk ba A M hM
 rw [hg] at hk
 cases bm
 ·refine⟨k+l*x,?_⟩
  have e:zz false M=(M:Int):=rfl
  rw [hl,e]
  grind
 ·refine⟨-(k+l*x),?_⟩
  have e:zz true M=-(M:Int):=rfl
  rw [hl,e]
  grind

theorem kD (ba bm:Bool)(va vm:Value)(X M:List Nat)(w:World)(hA:Arg w va X)(hM:Arg w vm M)(hT:Tab w)(lX:X.length≤17592186043904)(lM:M.length≤17592186043904)(bM:blen (val M)≤67108864) :
  Calls Tryz.prog 15 #[.agg #[.bool ba,va],.agg #[.bool bm,vm]] w (nV (zz ba (val X)) (zz bm (val M)) w):=by
 obtain⟨a1,c1,rfl,_,_,_⟩:=hA.form
 obtain⟨a2,c2,rfl,_,_,_⟩:=hM.form
 obtain⟨w0,hw0,hb0,h0,h1,h2⟩:=dh w (.cells #[.bool ba,.slice a1 X.length c1] 27) (.cells #[.bool bm,.slice a2 M.length c2] 27) (.cells #[.bool false,.slice none 0 0] 27)
 obtain⟨k0,k1⟩:=duo h0
 obtain⟨k2,k3⟩:=duo h1
 have C:=dW _ M w0 (hM.below hb0)
 have H0:=aa h0
 have H1:=aa h1
 have H2:=aa h2
 have HB0:=aa hb0
 have HA:=aa (hA.below hb0)
 have HM:=aa (hM.below hb0)
 have HT:=aa (hT.below hb0)
 have HL:=aa (And.intro lX (And.intro lM bM))
 clear hA hM hT hb0 h0 h1 h2 lX lM bM
 by_cases hm0:val M=0
 ·rw [decide_eq_true hm0] at C
  have HZA:=aa (fun (t:World) (u0 u1:Value) (_:t.heap[w.heap.size+2]?=some (.cells #[.bool false,.slice none 0 0] 27))=>show fs (zz ba (val X)) (zz bm (val M)) ((t.setCell ⟨w.heap.size+2,0,none⟩ u0).setCell ⟨w.heap.size+2,1,none⟩ u1) w.heap.size false none 0 0 30 from .inl ⟨by rw [hm0];exact fD bm,rfl,rfl,rfl,rfl,rfl⟩)
  clear hm0
  go_enter Tryz.func15,Tryz.ntmps15
  go_wp2_with fail
  refine C.mono ?_
  rintro e wn ⟨rfl,hw⟩;rw [hw];clear hw wn C
  have HBX:=H2
  have HBE:=HB0
  have hbx:=HBX.out
  have hf1:=av hbx
  obtain⟨l0,l1⟩:=duo hbx
  clear hbx
  go_wp2
  have R5:=aI HBX.out (a':=.bool false) (b':=.slice none 0 0)
  have HD:=aa (And.intro (HZA.out w0 (.bool false) (.slice none 0 0) HBX.out) (aC HBE.out (g:=w.heap.size+2) (u0:=.bool false) (u1:=.slice none 0 0) (by omega)))
  generalize (w0.setCell ⟨w.heap.size+2,0,none⟩ (.bool false)).setCell ⟨w.heap.size+2,1,none⟩ (.slice none 0 0)=w5 at *
  obtain⟨q0,q1⟩:=duo R5
  refine bodyPost_ret (v:=.tuple #[.agg #[.bool false,.slice none 0 0],.int .i64 30]) (by simp [results,Tryz.results15,go_sem,q0,q1]) rfl ?_
  exact⟨⟨_,_,_,_,_,rfl,HD.out.1⟩,HD.out.2⟩
 ·rw [decide_eq_false hm0] at C
  have hm1:0<val M:=by omega
  have HY0:=aa hm1
  clear hm0 hm1
  go_enter Tryz.func15,Tryz.ntmps15
  go_wp2_with fail
  refine C.mono ?_
  rintro e wn ⟨rfl,hw⟩;rw [hw];clear hw wn C
  have g0:Below w0.drew.heap.size w0.drew w0.drew:=Below.refl _ _
  have P2:=aa (fun (W:World) (v1:Value) (r1:List Nat) (hg:Below w0.drew.heap.size w0.drew W) (h1:Ans W w0.drew.heap.size v1 r1) (hv:val r1=er ba (val X) (val M)) (ht:tr r1=r1)=>
   show Calls Tryz.prog 43 #[v1,.slice a2 M.length c2] W (cT (val M) (er ba (val X) (val M)) W) by
    have hlt:=ii ba (val X) (val M) HY0.out
    have hl:r1.length≤M.length:=bO ht (by rw [hv];exact Nat.lt_trans hlt (val_lt HM.out.limbs))
    have hl2:=HL.out.2.1
    have h:=gY v1 _ r1 M W (h1.arg (by omega)) ((HM.out.below (Below.refl _ _).drew).below hg) ((HT.out.below (Below.refl _ _).drew).below hg) (by rw [hv];exact hlt) (by omega) (by omega)
    rw [hv] at h
    exact h)
  have P1:=jq ba _ X _ M w0.drew (HA.out.below (Below.refl _ _).drew) (HM.out.below (Below.refl _ _).drew) (HT.out.below (Below.refl _ _).drew) (by have:=HL.out;omega) (by have:=HL.out;omega) HY0.out
  have KS:=aa (fun (W:World) (hg:Below w0.drew.heap.size w0.drew W)=>show W.cell? ⟨w.heap.size,0,none⟩=some (.bool ba)∧W.cell? ⟨w.heap.size,1,none⟩=some (.slice a1 X.length c1)∧W.cell? ⟨w.heap.size+1,1,none⟩=some (.slice a2 M.length c2) from
   ⟨(duo (ac hg (show w0.drew.heap[w.heap.size]?=some (.cells #[.bool ba,.slice a1 X.length c1] 27) from H0.out))).1,(duo (ac hg (show w0.drew.heap[w.heap.size]?=some (.cells #[.bool ba,.slice a1 X.length c1] 27) from H0.out))).2,(duo (ac hg (show w0.drew.heap[w.heap.size+1]?=some (.cells #[.bool bm,.slice a2 M.length c2] 27) from H1.out))).2⟩)
  go_wp2
  go_region_held3 (fun w'=>w'.cell? ⟨w.heap.size,0,none⟩=some (.bool ba)∧w'.cell? ⟨w.heap.size,1,none⟩=some (.slice a1 X.length c1)∧w'.cell? ⟨w.heap.size+1,1,none⟩=some (.slice a2 M.length c2)) (first|with_reducible exact KS.out _ g2|with_reducible exact KS.out _ g1|with_reducible exact KS.out _ g0) (first
   | (go_at_call 44;refine P1.mono ?_;rintro e' t1 ⟨⟨v1,r1,rfl,x1,x2,x3⟩,hb1⟩;have g1:=bt6 g0 hb1;obtain⟨a8,k8,rfl⟩:=x1.shape)
   | (go_at_call 43;refine (P2.out t1 _ r1 g1 x1 x2 x3).mono ?_;rintro e' t2 ⟨⟨v3,v4,r3,r4,rfl,y1,y2,y3,y4,y5,y6,y7⟩,hb2⟩;have g2:=bt6 g1 hb2;obtain⟨a3,c3,rfl⟩:=y1.shape;obtain⟨a4,c4,rfl⟩:=y2.shape))
  all_goals
   have hb02:Below w0.heap.size w0 t2:=cX g2
   have b3:blen (val r3)≤67108864:=Nat.le_trans (cJ (by rw [y3];exact Nat.gcd_le_left _ HY0.out)) HL.out.2.2
   have b4:blen (val r4)≤67108864:=Nat.le_trans (cJ (Nat.le_of_lt (fc y5 HY0.out (Nat.gcd_pos_of_pos_left _ HY0.out)))) HL.out.2.2
   have l3:=cK y4 b3
   have l4:=cK y6 b4
   have n4:¬67108864<blen (val r4):=by omega
   have C:=oH _ r3 t2 (y1.arg (by omega)) y4
   have hs1:w.heap.size≤t1.heap.size:=Nat.le_trans HB0.out.size g1.size
   have hgc:Nat.gcd (zz ba (val X)).natAbs (zz bm (val M)).natAbs=Nat.gcd (val M) (er ba (val X) (val M)):=by rw [aF,aF];exact (iq ba (val X) (val M) HY0.out).symm
   have HA4:=aa (And.intro (y2.base hs1) (And.intro y6 (And.intro l4 n4)))
   have HI:=aa y5
   have HGC:=aa hgc
   have HBV:=aa hb02
   rw [y3] at C
   clear P1 P2 KS g0 g1 g2 hb1 hb2 x1 x2 x3 y1 y2 y3 y4 y5 y6 y7 n4 hb02 hs1 l3 l4 b3 b4 HA HM HT k0 k1 k2 k3
   by_cases hone:Nat.gcd (val M) (er ba (val X) (val M))=1
   ·rw [decide_eq_true hone] at C
    have HQ:=aa (nc ba bm (val X) (val M) (val r4) HY0.out hone HI.out)
    have HG1:=aa (hgc.trans hone)
    clear hone hgc HI
    go_wp2_with fail
    refine C.mono ?_
    rintro e t3 ⟨rfl,hb3⟩
    obtain⟨t4,ht4,hb4,hx4⟩:=aO t3 (.cells #[.slice a4 r4.length c4] 25)
    have hb34:=ak hb3 hb4
    have HA4b:=aa (And.intro (HA4.out.1.below hb34) HA4.out.2)
    have AB:=gU t3.heap.size _ r4 t4 hx4 (HA4b.out.1.arg (by have:=HA4b.out.2.2.1;omega))
    rw [decide_eq_false HA4b.out.2.2.2] at AB
    have HB4:=aa (ak HBV.out hb34)
    clear hb3 hb4 hx4 hb34 C HA4 HBV
    go_wp2_with fail
    refine AB.mono ?_
    rintro e wn ⟨rfl,hw⟩;rw [hw];clear hw wn AB ht4
    have C:=dz false _ r4 w.heap.size t4 (val r4) ((val r4:Nat):Int) rfl HA4b.out.1 rfl HA4b.out.2.1
    obtain⟨u2,hu2⟩:∃u2,decide (((val r4:Nat):Int)<0)=u2:=⟨_,rfl⟩
    rw [hu2] at C
    have HU:=aa hu2
    clear hu2
    go_wp2_with fail
    refine C.mono ?_
    rintro e t5 ⟨rfl,hb5⟩
    have HBX:=aa (ac (ak HB4.out hb5) H2.out)
    have HBE:=aa (ak HB0.out (ak HB4.out hb5))
    have HA5:=aa (HA4b.out.1.below hb5)
    have HZA:=aa (fun (t:World) (u0 u1:Value) (ht:t5.heap[w.heap.size+2]?=some (.cells #[.bool false,.slice none 0 0] 27))=>show fs (zz ba (val X)) (zz bm (val M)) ((t5.setCell ⟨w.heap.size+2,0,none⟩ u0).setCell ⟨w.heap.size+2,1,none⟩ u1) w.heap.size u2 a4 r4.length c4 0 from .inr (.inr ⟨jz HY0.out,HG1.out,rfl,val r4,⟨r4,HA5.out.duo ht,HU.out.symm,(Int.natAbs_natCast _).symm,HA4b.out.2.1⟩,by rw [aF];exact HQ.out.1,HQ.out.2⟩))
    clear C hb5
    have hbx:=HBX.out
    have hf1:=av hbx
    obtain⟨l0,l1⟩:=duo hbx
    clear hbx
    go_wp2
    have R5:=aI HBX.out (a':=.bool u2) (b':=.slice a4 r4.length c4)
    have HD:=aa (And.intro (HZA.out t5 (.bool u2) (.slice a4 r4.length c4) HBX.out) (aC HBE.out (g:=w.heap.size+2) (u0:=.bool u2) (u1:=.slice a4 r4.length c4) (by omega)))
    generalize (t5.setCell ⟨w.heap.size+2,0,none⟩ (.bool u2)).setCell ⟨w.heap.size+2,1,none⟩ (.slice a4 r4.length c4)=w5 at *
    obtain⟨q0,q1⟩:=duo R5
    refine bodyPost_ret (v:=.tuple #[.agg #[.bool u2,.slice a4 r4.length c4],.int .i64 0]) (by simp [results,Tryz.results15,go_sem,q0,q1]) rfl ?_
    exact⟨⟨_,_,_,_,_,rfl,HD.out.1⟩,HD.out.2⟩
   ·rw [decide_eq_false hone] at C
    have HG1:=aa (fun e=>hone (hgc.symm.trans e))
    have HZA:=aa (fun (t:World) (u0 u1:Value) (_:t.heap[w.heap.size+2]?=some (.cells #[.bool false,.slice none 0 0] 27))=>show fs (zz ba (val X)) (zz bm (val M)) ((t.setCell ⟨w.heap.size+2,0,none⟩ u0).setCell ⟨w.heap.size+2,1,none⟩ u1) w.heap.size false none 0 0 61 from .inr (.inl ⟨jz HY0.out,HG1.out,rfl,rfl,rfl,rfl,rfl⟩))
    clear hone hgc HI
    go_wp2_with fail
    refine C.mono ?_
    rintro e t3 ⟨rfl,hb3⟩
    have HBX:=aa (ac (ak HBV.out hb3) H2.out)
    have HBE:=aa (ak HB0.out (ak HBV.out hb3))
    clear C hb3 HA4 HBV
    have hbx:=HBX.out
    have hf1:=av hbx
    obtain⟨l0,l1⟩:=duo hbx
    clear hbx
    go_wp2
    have R5:=aI HBX.out (a':=.bool false) (b':=.slice none 0 0)
    have HD:=aa (And.intro (HZA.out t3 (.bool false) (.slice none 0 0) HBX.out) (aC HBE.out (g:=w.heap.size+2) (u0:=.bool false) (u1:=.slice none 0 0) (by omega)))
    generalize (t3.setCell ⟨w.heap.size+2,0,none⟩ (.bool false)).setCell ⟨w.heap.size+2,1,none⟩ (.slice none 0 0)=w5 at *
    obtain⟨q0,q1⟩:=duo R5
    refine bodyPost_ret (v:=.tuple #[.agg #[.bool false,.slice none 0 0],.int .i64 61]) (by simp [results,Tryz.results15,go_sem,q0,q1]) rfl ?_
    exact⟨⟨_,_,_,_,_,rfl,HD.out.1⟩,HD.out.2⟩


end Go.Proofs.YtdbjbbdhlpfhjaaGreatDoor
namespace Go.Proofs.YtdbjbbdhlpfhjaaGreatDoor
open Lm

theorem ik (B:Nat):∀(out:List Nat) (j n z:Nat),j<n→n≤out.length→vb B ((out.set j z).take n)+B ^ j*out.getD j 0=vb B (out.take n)+B ^ j*z
 | [],j,n,z,h1,h2=>by simp at h2;omega
 | a :: r,0,n+1,z,_,_=>by
  simp only [List.set_cons_zero,List.take_succ_cons,vb,List.getD_cons_zero,Nat.pow_zero,Nat.one_mul]
  omega
 | a :: r,j+1,n+1,z,h1,h2=>by
  have ih:=ik B r j n z (by omega) (by simpa using h2)
  simp only [List.set_cons_succ,List.take_succ_cons,vb,List.getD_cons_succ]
  rw [show B ^ (j+1)=B*B ^ j by rw [Nat.pow_succ,Nat.mul_comm]]
  grind

theorem oU (B:Nat)(Y out:List Nat)(i k n x cy s V:Nat)(hk:i+k<n)(hn:n≤out.length)
  (h:vb B (out.take n)+cy*B ^ (i+k)=V+B ^ i*(x*vb B (Y.take k))) (hs:s=x*Y.getD k 0+out.getD (i+k) 0+cy) :
  vb B ((out.set (i+k) (s % B)).take n)+s / B*B ^ (i+(k+1))=V+B ^ i*(x*vb B (Y.take (k+1))):=by
 have h1:=ik B out (i+k) n (s % B) hk hn
 have h2:=Nat.mod_add_div s B
 rw [vb_take_next Y k]
 have e1:B ^ (i+(k+1))=B ^ (i+k)*B:=by rw [←Nat.add_assoc,Nat.pow_succ]
 have e2:B ^ (i+k)=B ^ i*B ^ k:=Nat.pow_add _ _ _
 rw [e1]
 rw [e2] at h h1 ⊢
 generalize out.getD (i+k) 0=o at *
 generalize Y.getD k 0=y at *
 generalize vb B (Y.take k)=U at *
 generalize vb B (out.take n)=W at *
 generalize vb B ((out.set (i+k) (s % B)).take n)=W' at *
 generalize s % B=m at *
 generalize s / B=d at *
 generalize B ^ i=I at *
 generalize B ^ k=K at *
 subst hs
 grind

theorem om (B:Nat)(X Y out0 out:List Nat)(i x cy:Nat)(hx:x=X.getD i 0)(hn:i+Y.length<out.length)
  (h0:vb B (out0.take (i+Y.length))=vb B (X.take i)*vb B Y)
  (h:vb B (out.take (i+Y.length))+cy*B ^ (i+Y.length)=vb B (out0.take (i+Y.length))+B ^ i*(x*vb B (Y.take Y.length))) :
  vb B ((out.set (i+Y.length) cy).take (i+1+Y.length))=vb B (X.take (i+1))*vb B Y:=by
 rw [show i+1+Y.length=i+Y.length+1 by omega,vb_set_succ _ _ _ hn,vb_take_next X i,←hx]
 rw [List.take_length,h0] at h
 grind

theorem kJ (x y o cy:Nat)(hx:x<4294967296)(hy:y<4294967296)(ho:o<4294967296)(hc:cy<4294967296):x*y≤18446744065119617025∧x*y+o+cy<18446744073709551616:=by
 have:=Nat.mul_le_mul (Nat.le_sub_one_of_lt hx) (Nat.le_sub_one_of_lt hy)
 omega
end Go.Proofs.YtdbjbbdhlpfhjaaGreatDoor
namespace Go.Proofs.YtdbjbbdhlpfhjaaGreatDoor
open Go.RowKit
open Lm
attribute [local go_sem ↓] Go.wp_at_zero Go.wp_at_succ

theorem iD (out:List Nat)(j n z:Nat)(h:j≠n):(out.set j z).getD n 0=out.getD n 0:=by
 simp [List.getD,h]

theorem i6 {ds:List Nat}(hd:Digs 4294967296 ds)(ht:tr ds=ds):ds.length*32≤blen (vb 4294967296 ds)+31:=by
 rcases Nat.eq_zero_or_pos ds.length with h|h
 ·omega
 ·obtain⟨m,hm⟩:∃m,ds.length=m+1:=⟨ds.length - 1,by omega⟩
  have h1:=blen_vb hd ht m hm
  have h2:=blen_half _ (tr_last' ds m ht hm)
  omega

theorem pk (v1 v2:Value)(x y:Nat)(w:World)(h1:Num w v1 x)(h2:Num w v2 y)(hf:blen x+blen y≤1125899906840000) :
  Calls Tryz.prog 58 #[v1,v2] w fun e w'=>(∃v',e=.returned v'∧Num w' v' (x*y))∧Below w.heap.size w w':=by
 obtain⟨X,A1,hX,hXt,rfl,_⟩:=h1
 obtain⟨Y,A2,hY,hYt,rfl,_⟩:=h2
 have lX:=i6 hX hXt
 have lY:=i6 hY hYt
 have lXY:X.length+Y.length≤35184372088752:=by omega
 obtain⟨a1,c1,rfl,hc1,hm1,L1⟩:=A1.form
 obtain⟨a2,c2,rfl,hc2,hm2,L2⟩:=A2.form
 obtain⟨i0,hi,hz0,hz1,hz2⟩:=info_parts Tryz.infoU
 clear hf hXt hYt lX lY A1 A2
 obtain⟨N,hN1,hN2,eN⟩:∃N,N≤X.length+Y.length+1∧X.length+Y.length+1≤N∧(X.length:Int)+(Y.length:Int)+1=(N:Int):=⟨X.length+Y.length+1,by omega,by omega,by omega⟩
 go_enter Tryz.func58,Tryz.ntmps58
 go_wp2_with (at_make;refine wpList_make_full _ rfl _ _ 30 rfl w.heap.size 61 i0 (.int .u64 0) 1 Tryz.underlying30 hi hz0 hz1 .i64 .i64 _ _ N rfl rfl (by omega) (by omega) (by rw [hz2];omega) (by unfold maxLen;omega) (Nat.le_refl _) ?_;intro w1 hown hgrow)
 have hb1:=Blk.made hown
 have hbel:Below w.heap.size w w1:=(Below.refl _ _).grown hgrow (Nat.le_refl _) (fun k hk=>by cases hk)
 clear hown hgrow hi hz0 hz1 hz2
 go_loopw [21] (fun i wr=>∃(k:Nat) (out:List Nat),k≤X.length∧i=.int .i64 k∧out.length=N∧out.getD (X.length+Y.length) 0=0∧Digs 4294967296 out∧Blk wr w.heap.size out∧Below w.heap.size w wr ∧
   vb 4294967296 (out.take (k+Y.length))=vb 4294967296 (X.take k)*vb 4294967296 Y) (fun i _=>X.length - (intOf i).toNat)
 case atStart=>exact⟨0,_,Nat.zero_le _,rfl,by simp,iW _ _,digs_replicate (by omega) _,hb1,hbel,by rw [List.take_replicate,g8];simp [vb]⟩
 case round=>
  obtain⟨k,out,hk,rfl,hlen,htop,hdo,hblk,hbl,hval⟩:=hrel
  clear hb1 hbel
  have HT:=aa htop
  by_cases hkl:k<X.length
  ·rcases L1.below hbl with h0|⟨b,off,rfl,hcell⟩
   ·rw [h0] at hkl;simp at hkl
   ·have hck:=hcell k hkl
    have z1:=dig_lt (by omega) hX k
    have HX:Hid (X.getD k 0=X.getD k 0):=rfl
    obtain⟨x,hx⟩:∃x,x=X.getD k 0:=⟨_,rfl⟩
    rw [←hx] at hck z1
    have HXX:=aa hx
    have HV:=aa hval
    have HB:=aa hblk
    have HL:=aa hbl
    have HY:=aa hY
    clear hx htop hval hblk hbl hcell L1 hX HX hY
    go_wp2
    go_loopw [8,28] (fun c i wr2=>∃(j cy:Nat) (out2:List Nat),j≤Y.length∧i=.int .i64 j∧c=.int .u64 cy∧cy<4294967296∧out2.length=N∧out2.getD (X.length+Y.length) 0=0∧Digs 4294967296 out2∧Blk wr2 w.heap.size out2∧Below w.heap.size w wr2 ∧
      vb 4294967296 (out2.take (k+Y.length))+cy*4294967296 ^ (k+j)=vb 4294967296 (out.take (k+Y.length))+4294967296 ^ k*(x*vb 4294967296 (Y.take j))) (fun _ i _=>Y.length - (intOf i).toNat)
    case atStart=>exact⟨0,0,out,Nat.zero_le _,rfl,rfl,by omega,hlen,HT.out,hdo,HB.out,HL.out,by simp [vb]⟩
    case round=>
     obtain⟨j,cy,out2,hj,rfl,rfl,hcy,hlen2,htop2,hdo2,hblk,hbl,hval2⟩:=hrel
     have HT2:=aa htop2
     clear htop2
     by_cases hjl:j<Y.length
     ·rcases L2.below hbl with h0|⟨b2,off2,rfl,hcell⟩
      ·rw [h0] at hjl;simp at hjl
      ·have hcj:=hcell j hjl
       have hbw:=aD.block (L2:aD w (some ⟨b2,off2,none⟩) Y) (by omega)
       have hne1:¬b2=w.heap.size:=by omega
       have hne2:¬w.heap.size=b2:=by omega
       have z2:=dig_lt (by omega) HY.out j
       have hfr:=hblk.free (k+j)
       have hco:=hblk.cell (k+j) (by omega)
       have z3:=dig_lt (by omega) hdo2 (k+j)
       obtain⟨bP,bS⟩:=kJ x (Y.getD j 0) (out2.getD (k+j) 0) cy z1 z2 z3 hcy
       have HV2:=aa (oU 4294967296 Y out2 k j (k+Y.length) x cy _ _ (by omega) (by omega) hval2 rfl)
       generalize Y.getD j 0=y at *
       generalize out2.getD (k+j) 0=o at *
       have e0:(x:Int)*(y:Int)=((x*y:Nat):Int):=by push_cast;rfl
       generalize x*y=P at *
       have e1:(P:Int)+(o:Int)=((P+o:Nat):Int):=by omega
       have b1:P+o<18446744073709551616:=by omega
       generalize P+o=S1 at *
       have e2:(S1:Int)+(cy:Int)=((S1+cy:Nat):Int):=by omega
       generalize S1+cy=S at *
       have e3:(S:Int) % 4294967296=((S % 4294967296:Nat):Int):=by omega
       have e4:(S:Int) / 4294967296=((S / 4294967296:Nat):Int):=by omega
       have bm:S % 4294967296<4294967296:=by omega
       have bd:S / 4294967296<4294967296:=by omega
       generalize S % 4294967296=m at *
       generalize S / 4294967296=d at *
       have HB2:=aa hblk
       have HL2:=aa hbl
       clear hval2 hblk hbl hcell L2 HB HL HV
       go_wp2
       go_roundw
       case rel=>exact⟨j+1,d,out2.set (k+j) m,by omega,by go_num,rfl,bd,by simp;omega,by rw [iD _ _ _ _ (by omega)];exact HT2.out,digs_set hdo2 _ _ bm,HB2.out.set (k+j) m,HL2.out.setCell (Nat.le_refl _) _,HV2.out⟩
       case measure=>simp [intOf];omega
     ·have ej:j=Y.length:=by omega
      subst ej
      have HV3:=aa (om 4294967296 X Y out out2 k x cy HXX.out (by omega) HV.out hval2)
      have hfr:=hblk.free (k+Y.length)
      have hco:=hblk.cell (k+Y.length) (by omega)
      generalize out2.getD (k+Y.length) 0=o at *
      have HB2:=aa hblk
      have HL2:=aa hbl
      clear hval2 hblk hbl L2 HB HL HV
      go_wp2
      go_roundw
      case rel=>exact⟨k+1,out2.set (k+Y.length) cy,by omega,by go_num,by simp;omega,by rw [iD _ _ _ _ (by omega)];exact HT2.out,digs_set hdo2 _ _ hcy,HB2.out.set _ cy,HL2.out.setCell (Nat.le_refl _) _,HV3.out⟩
      case measure=>simp [intOf];omega
  ·have ek:k=X.length:=by omega
   subst ek
   have hA:=Ans.of_blk (base:=w.heap.size) (zs:=out) (Nat.le_refl _) hblk List.take_length.symm (Nat.le_refl _) (by omega) (digs_limbs hdo)
   have H:=fj _ _ _ (hA.arg (by omega)) hdo (by omega)
   have HL:=aa hbl
   have hve:vb 4294967296 out=vb 4294967296 X*vb 4294967296 Y:=by
    rw [List.take_length] at hval
    rw [←hval,←cP (X.length+Y.length+1) (by omega:out.length≤_),vb_take_next,htop];simp
   rw [hlen,hve] at H
   clear hval hblk hbl hX hY hA hve L1 L2
   go_wp2_with fail
   refine H.mono ?_
   rintro e w2 ⟨⟨v',rfl,hnum⟩,rfl⟩
   have HN:=aa hnum
   clear hnum H
   go_wp2
   go_ret
   exact⟨⟨v',rfl,HN.out⟩,HL.out⟩

theorem Zn.parts {w:World}{v:Value}{z:Int}(h:Zn w v z):∃b a n k,v=.agg #[.bool b,.slice a n k]∧b=decide (z<0)∧Num w (.slice a n k) z.natAbs∧z=zz b z.natAbs:=by
 obtain⟨u,h1,h2⟩:=h
 obtain⟨a,n,k,rfl⟩:=h2.sl
 exact⟨_,a,n,k,h1,rfl,h2,(fh z).symm⟩

theorem Zn.of {w:World}{b:Bool}{u:Value}{x:Nat}(h:Num w u x)(hb:x=0→b=false):Zn w (.agg #[.bool b,u]) (zz b x):=by
 refine⟨u,?_,by rw [aF];exact h⟩
 rw [←i9]
 cases b
 ·rfl
 ·have:¬x=0:=fun e=>by have:=hb e;cases this
  have h1:(x == 0)=false:=by simpa using this
  rw [h1];rfl

theorem Num.drew6 {w:World}{v:Value}{x:Nat}(h:Num w v x):Num w.drew v x:=h.below (Below.refl _ _).drew

theorem Zn.drew6 {w:World}{v:Value}{z:Int}(h:Zn w v z):Zn w.drew v z:=h.below (Below.refl _ _).drew

theorem cI {w w':World}(h:Below w.drew.heap.size w.drew w'):Below w.heap.size w w':=(Below.refl w.heap.size w).drew.trans h

theorem ae {w w':World}{g o:Nat}{v:Value}(hb:Below w.heap.size w w')(h:w.cell? ⟨g,o,none⟩=some v):w'.cell? ⟨g,o,none⟩=some v:=by
 rw [hb.cell (p:=⟨g,o,none⟩) ?_]
 ·exact h
 ·show g<w.heap.size
  rcases Nat.lt_or_ge g w.heap.size with h' | h'
  ·exact h'
  ·simp [World.cell?,Array.getElem?_eq_none h'] at h

theorem kK (v:Value)(z:Int)(w:World)(h:Zn w v z):Calls Tryz.prog 60 #[v] w (bj w (-z)):=by
 obtain⟨b,a,n,k,rfl,hb,hn,hz⟩:=h.parts
 obtain⟨w0,hw0,hb0,h0,hx0⟩:=bR w (.cells #[.bool b,.slice a n k] 32) (.cells #[.bool false,.slice none 0 0] 32)
 obtain⟨k0,k1⟩:=duo h0
 have HM:=ce (!b) _ z.natAbs w0 (hn.below hb0)
 rw [jL,←hz] at HM
 have HB0:=aa hb0
 have HX0:=aa hx0
 clear h hb hn hz hb0 h0 hx0
 go_enter Tryz.func60,Tryz.ntmps60
 go_wp2_with fail
 refine HM.mono ?_
 rintro e w1 ⟨⟨b1,a1,n1,k1,rfl,hzn⟩,hb1⟩
 have HZN:=aa hzn
 have HW:=aa hb1
 clear hzn hb1 HM hw0 k0
 have hbx:=ac HW.out HX0.out
 have hf1:=av hbx
 obtain⟨l0,l1⟩:=duo hbx
 have HBX:=aa hbx
 have HBE:=aa (HB0.out.trans (HW.out.mono HB0.out.size))
 clear hbx
 go_wp2
 have R5:=aI HBX.out (a':=.bool b1) (b':=.slice a1 n1 k1)
 have HD:=aa (And.intro (HZN.out.duo (p1:=b1) (r1:=.slice a1 n1 k1) HBX.out) (aC HBE.out (g:=w.heap.size+1) (u0:=.bool b1) (u1:=.slice a1 n1 k1) (by omega)))
 generalize (w1.setCell ⟨w.heap.size+1,0,none⟩ (.bool b1)).setCell ⟨w.heap.size+1,1,none⟩ (.slice a1 n1 k1)=w5 at *
 obtain⟨q0,q1⟩:=duo R5
 refine bodyPost_ret (v:=.agg #[.bool b1,.slice a1 n1 k1]) (by simp [results,Tryz.results60,go_sem,q0,q1]) rfl ?_
 exact⟨⟨_,_,_,_,rfl,HD.out.1⟩,HD.out.2⟩

theorem mR (v:Value)(z:Int)(w:World)(h:Zn w v z):Calls Tryz.prog 14 #[v] w (bj w (z.natAbs:Int)):=by
 obtain⟨b,a,n,k,rfl,hb,hn,hz⟩:=h.parts
 obtain⟨w0,hw0,hb0,h0,hx0⟩:=bR w (.cells #[.bool b,.slice a n k] 32) (.cells #[.bool false,.slice none 0 0] 32)
 obtain⟨k0,k1⟩:=duo h0
 have hzn:=Zn.of (b:=false) (hn.below hb0) (fun _=>rfl)
 have ez:zz false z.natAbs=(z.natAbs:Int):=by simp [zz]
 rw [ez] at hzn
 have HZN:=aa hzn
 have HB0:=aa hb0
 have HX0:=aa hx0
 have HW:Hid (Below w0.heap.size w0 w0):=aa (Below.refl _ _)
 clear h hb hn hz hb0 h0 hx0 hzn ez
 have hbx:=ac HW.out HX0.out
 have hf1:=av hbx
 obtain⟨l0,l1⟩:=duo hbx
 have HBX:=aa hbx
 have HBE:=aa (HB0.out.trans (HW.out.mono HB0.out.size))
 clear hbx
 go_enter Tryz.func14,Tryz.ntmps14
 go_wp2
 have R5:=aI HBX.out (a':=.bool false) (b':=.slice a n k)
 have HD:=aa (And.intro (HZN.out.duo (p1:=false) (r1:=.slice a n k) HBX.out) (aC HBE.out (g:=w.heap.size+1) (u0:=.bool false) (u1:=.slice a n k) (by omega)))
 generalize (w0.setCell ⟨w.heap.size+1,0,none⟩ (.bool false)).setCell ⟨w.heap.size+1,1,none⟩ (.slice a n k)=w5 at *
 obtain⟨q0,q1⟩:=duo R5
 refine bodyPost_ret (v:=.agg #[.bool false,.slice a n k]) (by simp [results,Tryz.results14,go_sem,q0,q1]) rfl ?_
 exact⟨⟨_,_,_,_,rfl,HD.out.1⟩,HD.out.2⟩

theorem nY {w:World}{v u:Value}{x:Nat}{rs:List Nat}(hn:Num w v x)(ha:Arg w u rs)(ht:tr rs=rs)(hv:val rs=x)(hf:blen x≤1125899906842624) :
  Calls Tryz.prog 88 #[v,u] w fun e w'=>e=.returned (.bool true)∧Below w.heap.size w w':=kT v u x rs w hn ha ht hv hf

theorem jf (v:Value)(z:Int)(u:Value)(rs:List Nat)(w:World)(h:Zn w v z)(ha:Arg w u rs)(ht:tr rs=rs)(hv:val rs=z.natAbs)(hf:blen z.natAbs≤1125899906842624) :
  Calls Tryz.prog 48 #[v,.bool (decide (z<0)),u] w fun e w'=>e=.returned (.bool true)∧Below w.heap.size w w':=by
 obtain⟨b,a,n,k,rfl,hb,hn,hz⟩:=h.parts
 rw [←hb]
 obtain⟨w0,hw0,hb0,h0⟩:=aO w (.cells #[.bool b,.slice a n k] 32)
 obtain⟨k0,k1⟩:=duo h0
 obtain⟨a2,k2,rfl,_,_,_⟩:=ha.form
 have HI:=nY (hn.below hb0) (ha.below hb0) ht hv hf
 have HB0:=aa hb0
 clear h hn hz hb0 h0 ha hb hv hf ht
 have hbb:(b == b)=true:=by simp
 go_enter Tryz.func48,Tryz.ntmps48
 go_wp2_with fail
 refine HI.mono ?_
 rintro e w1 ⟨rfl,hb1⟩
 have HB1:=aa (HB0.out.trans (hb1.mono HB0.out.size))
 clear hb1 HI
 go_wp2
 go_ret
 exact⟨rfl,HB1.out⟩

theorem cF (v:Value)(z:Int)(w:World)(h:Zn w v z):Calls Tryz.prog 12 #[v] w fun e w'=>e=.returned (.int .i64 z.sign)∧Below w.heap.size w w':=by
 obtain⟨b,a,n,k,rfl,hb,hn,hz⟩:=h.parts
 obtain⟨w0,hw0,hb0,h0⟩:=aO w (.cells #[.bool b,.slice a n k] 32)
 obtain⟨k0,k1⟩:=duo h0
 have HZ:=fT _ z.natAbs w0 (hn.below hb0)
 have HB0:=aa hb0
 clear h hn hb0 h0 hz
 by_cases hneg:z<0
 ·rw [decide_eq_true hneg] at hb
  subst hb
  rw [Int.sign_eq_neg_one_of_neg hneg]
  go_enter Tryz.func12,Tryz.ntmps12
  go_wp2
  go_ret
  exact⟨rfl,HB0.out⟩
 ·rw [decide_eq_false hneg] at hb
  subst hb
  by_cases h0:z=0
  ·subst h0
   rw [Int.sign_zero]
   simp only [Int.natAbs_zero,beq_self_eq_true] at HZ
   go_enter Tryz.func12,Tryz.ntmps12
   go_wp2_with fail
   refine HZ.mono ?_
   rintro e wn ⟨rfl,hw⟩;rw [hw];clear hw wn HZ
   go_wp2
   go_ret
   exact⟨rfl,HB0.out⟩
  ·rw [Int.sign_eq_one_of_pos (by omega)]
   have hne:(z.natAbs == 0)=false:=by rw [beq_eq_false_iff_ne];omega
   rw [hne] at HZ
   go_enter Tryz.func12,Tryz.ntmps12
   go_wp2_with fail
   refine HZ.mono ?_
   rintro e wn ⟨rfl,hw⟩;rw [hw];clear hw wn HZ
   go_wp2
   go_ret
   exact⟨rfl,HB0.out⟩

def cv (y z:Int):Int:=if y<z then -1 else if z<y then 1 else 0

theorem mA (b:Bool)(x y:Nat):cv (zz b x) (zz b y)=if b then -(cmpN x y) else cmpN x y:=by
 unfold cv cmpN
 cases b
 ·simp only [zz,Bool.false_eq_true,if_false]
  split <;> split <;> (try split) <;> omega
 ·simp only [zz,if_true]
  split <;> split <;> (try split) <;> (try split) <;> omega

theorem gV (v1 v2:Value)(y z:Int)(w:World)(h1:Zn w v1 y)(h2:Zn w v2 z) :
  Calls Tryz.prog 24 #[v1,v2] w fun e w'=>e=.returned (.int .i64 (cv y z))∧Below w.heap.size w w':=by
 obtain⟨b,a,n,k,rfl,hb,hn,hz⟩:=h1.parts
 obtain⟨b2,a2,n2,k2,rfl,hb2,hn2,hz2⟩:=h2.parts
 obtain⟨w0,hw0,hb0,h0,h1'⟩:=bR w (.cells #[.bool b,.slice a n k] 32) (.cells #[.bool b2,.slice a2 n2 k2] 32)
 obtain⟨c0,c1⟩:=duo h0
 obtain⟨c2,c3⟩:=duo h1'
 have HC:=dJ _ _ y.natAbs z.natAbs w0 (hn.below hb0) (hn2.below hb0)
 have HB0:=aa hb0
 have HK0:=aa h0
 have hcs:=mA b y.natAbs z.natAbs
 rw [←hz] at hcs
 have hds:b≠b2→cv y z=if b then -1 else 1:=by
  intro hne
  unfold cv
  rw [hb,hb2] at hne
  rw [hb]
  by_cases h:y<0
  ·have:¬z<0:=fun h'=>hne (by rw [decide_eq_true h,decide_eq_true h'])
   rw [if_pos (by omega),if_pos (by simpa using h)]
  ·have:z<0:=by
    by_cases h':z<0
    ·exact h'
    ·exact absurd (by rw [decide_eq_false h,decide_eq_false h']) hne
   rw [if_neg (by omega),if_pos (by omega),if_neg (by simpa using h)]
 have hse:b=b2→cv y z=if b then -(cmpN y.natAbs z.natAbs) else cmpN y.natAbs z.natAbs:=by
  intro he
  rw [←he] at hz2
  rw [←hz2] at hcs
  exact hcs
 clear h1 h2 hn hn2 hb0 h0 h1' hcs hz hz2 hb hb2
 have hcb:cmpN y.natAbs z.natAbs=-1∨cmpN y.natAbs z.natAbs=0∨cmpN y.natAbs z.natAbs=1:=by
  unfold cmpN
  split
  ·simp
  ·split <;> simp
 generalize cmpN y.natAbs z.natAbs=c at *
 cases b <;> cases b2
 ·have e:=hse rfl
  rw [if_neg (by simp)] at e
  rw [e]
  clear hse hds e
  go_enter Tryz.func24,Tryz.ntmps24
  go_wp2_with fail
  refine HC.mono ?_
  rintro e w1 ⟨rfl,hs⟩
  obtain⟨d0,d1⟩:=duo (ac (hs.below _) HK0.out)
  have HB1:=aa (HB0.out.trans ((hs.below _:Below w0.heap.size w0 w1).mono HB0.out.size))
  clear hs HC c0 c1 c2 c3
  go_wp2
  go_ret
  exact⟨rfl,HB1.out⟩
 ·have e:=hds (by simp)
  rw [if_neg (by simp)] at e
  rw [e]
  clear hse hds e HC
  go_enter Tryz.func24,Tryz.ntmps24
  go_wp2
  go_ret
  exact⟨rfl,HB0.out⟩
 ·have e:=hds (by simp)
  rw [if_pos rfl] at e
  rw [e]
  clear hse hds e HC
  go_enter Tryz.func24,Tryz.ntmps24
  go_wp2
  go_ret
  exact⟨rfl,HB0.out⟩
 ·have e:=hse rfl
  rw [if_pos rfl] at e
  rw [e]
  obtain⟨m,hm⟩:∃m:Int,-c=m:=⟨_,rfl⟩
  have wm:IntKind.i64.wrap m=m:=by rw [IntKind.wrap_i64];omega
  rw [hm]
  clear hse hds e
  go_enter Tryz.func24,Tryz.ntmps24
  go_wp2_with fail
  refine HC.mono ?_
  rintro e w1 ⟨rfl,hs⟩
  obtain⟨d0,d1⟩:=duo (ac (hs.below _) HK0.out)
  have HB1:=aa (HB0.out.trans ((hs.below _:Below w0.heap.size w0 w1).mono HB0.out.size))
  clear hs HC c0 c1 c2 c3
  go_wp2
  go_ret
  exact⟨rfl,HB1.out⟩

theorem dc (v1 v2:Value)(y z:Int)(w:World)(h1:Zn w v1 y)(h2:Zn w v2 z)(hf:blen y.natAbs+blen z.natAbs≤1125899906840000) :
  Calls Tryz.prog 23 #[v1,v2] w (bj w (y*z)):=by
 obtain⟨b,a,n,k,rfl,hb,hn,hz⟩:=h1.parts
 obtain⟨b2,a2,n2,k2,rfl,hb2,hn2,hz2⟩:=h2.parts
 obtain⟨w0,hw0,hb0,h0,h1',hx0⟩:=dh w (.cells #[.bool b,.slice a n k] 32) (.cells #[.bool b2,.slice a2 n2 k2] 32) (.cells #[.bool false,.slice none 0 0] 32)
 obtain⟨c0,c1⟩:=duo h0
 obtain⟨c2,c3⟩:=duo h1'
 have HM:=pk _ _ y.natAbs z.natAbs w0.drew (hn.below hb0).drew6 (hn2.below hb0).drew6 hf
 obtain⟨sg,hsg,hsg2⟩:∃sg,(b != b2)=sg∧(!(b == b2))=sg:=⟨_,rfl,rfl⟩
 have HEQ:Hid (zz sg (y.natAbs*z.natAbs)=y*z):=by
  refine aa ?_
  rw [←hsg,←nK,←hz,←hz2]
 have HMK:=aa (fun (w1:World) (v:Value) (hv:Num w1 v (y.natAbs*z.natAbs))=>ce sg v _ w1 hv)
 have HB0:=aa hb0
 have HX0:=aa hx0
 have HK0:=aa (show w0.drew.heap[w.heap.size]?=some (.cells #[.bool b,.slice a n k] 32) from h0)
 have HK1:=aa (show w0.drew.heap[w.heap.size+1]?=some (.cells #[.bool b2,.slice a2 n2 k2] 32) from h1')
 have HXD:=aa (show w0.drew.heap[w.heap.size+2]?=some (.cells #[.bool false,.slice none 0 0] 32) from hx0)
 have hso:∀(W:World) (k:Nat) (u:Value) (k':Nat),(W.setCell ⟨w.heap.size+2,k,none⟩ u).cell? ⟨w.heap.size,k',none⟩=W.cell? ⟨w.heap.size,k',none⟩:=fun W k u k'=>aK (by omega)
 have hso2:∀(W:World) (k:Nat) (u:Value) (k':Nat),(W.setCell ⟨w.heap.size+2,k,none⟩ u).cell? ⟨w.heap.size+1,k',none⟩=W.cell? ⟨w.heap.size+1,k',none⟩:=fun W k u k'=>aK (by omega)
 obtain⟨d0,d1⟩:=duo HK0.out
 obtain⟨d2,d3⟩:=duo HK1.out
 clear h1 h2 hn hn2 hb hb2 hz hz2 hb0 h0 h1' hx0 hsg
 go_enter Tryz.func23,Tryz.ntmps23
 go_wp2
 go_region_held3 (fun w'=>w'.cell? ⟨w.heap.size,0,none⟩=some (.bool b)∧w'.cell? ⟨w.heap.size,1,none⟩=some (.slice a n k)∧w'.cell? ⟨w.heap.size+1,0,none⟩=some (.bool b2)∧w'.cell? ⟨w.heap.size+1,1,none⟩=some (.slice a2 n2 k2)) (go_keep) (first
  | (go_at_call 58;refine HM.mono ?_;rintro e' w1 ⟨⟨v1,rfl,N1⟩,hb1⟩;have x0:=ae hb1 d0;have x1:=ae hb1 d1;have x2:=ae hb1 d2;have x3:=ae hb1 d3)
  | (go_at_call 53;refine (HMK.out w1 _ N1).mono ?_;rintro e' w2 ⟨⟨b1,a1,n1,k1,rfl,hzn⟩,hb2⟩;have y0:=ae hb2 x0;have y1:=ae hb2 x1;have y2:=ae hb2 x2;have y3:=ae hb2 x3;have hz4:=ac hb2 (ac hb1 HXD.out);have hf4:=av hz4;obtain⟨t0,t1⟩:=duo hz4))
 have hb1':=cI hb1
 rw [HEQ.out] at hzn
 have HZN:=aa hzn
 have HBX:=aa hz4
 have HBE:=aa (HB0.out.trans ((hb1'.trans (hb2.mono hb1'.size)).mono HB0.out.size))
 have R5:=aI HBX.out (a':=.bool b1) (b':=.slice a1 n1 k1)
 have HD:=aa (And.intro (HZN.out.duo (p1:=b1) (r1:=.slice a1 n1 k1) HBX.out) (aC HBE.out (g:=w.heap.size+2) (u0:=.bool b1) (u1:=.slice a1 n1 k1) (by omega)))
 clear hso hso2 hf4 t0 t1 y0 y1 y2 y3 x0 x1 x2 x3 hz4 N1 hb1 hb1' hb2 hzn
 generalize (w2.setCell ⟨w.heap.size+2,0,none⟩ (.bool b1)).setCell ⟨w.heap.size+2,1,none⟩ (.slice a1 n1 k1)=w5 at *
 obtain⟨q0,q1⟩:=duo R5
 go_wp2
 refine bodyPost_ret (v:=.agg #[.bool b1,.slice a1 n1 k1]) (by simp [results,Tryz.results23,go_sem,q0,q1]) rfl ?_
 exact⟨⟨_,_,_,_,rfl,HD.out.1⟩,HD.out.2⟩

theorem jn (v1 v2:Value)(y z:Int)(w:World)(h1:Zn w v1 y)(h2:Zn w v2 z)(hf1:blen y.natAbs≤1125899906840000)(hf2:blen z.natAbs≤1125899906840000) :
  Calls Tryz.prog 22 #[v1,v2] w (bj w (y+z)):=by
 obtain⟨b,a,n,k,rfl,hb,hn,hz⟩:=h1.parts
 obtain⟨b2,a2,n2,k2,rfl,hb2,hn2,hz2⟩:=h2.parts
 obtain⟨w0,hw0,hb0,h0,h1',hx0⟩:=dh w (.cells #[.bool b,.slice a n k] 32) (.cells #[.bool b2,.slice a2 n2 k2] 32) (.cells #[.bool false,.slice none 0 0] 32)
 obtain⟨c0,c1⟩:=duo h0
 obtain⟨c2,c3⟩:=duo h1'
 have HB0:=aa hb0
 have HX0:=aa hx0
 have hso:∀(W:World) (k:Nat) (u:Value) (k':Nat),(W.setCell ⟨w.heap.size+2,k,none⟩ u).cell? ⟨w.heap.size,k',none⟩=W.cell? ⟨w.heap.size,k',none⟩:=fun W k u k'=>aK (by omega)
 have hso2:∀(W:World) (k:Nat) (u:Value) (k':Nat),(W.setCell ⟨w.heap.size+2,k,none⟩ u).cell? ⟨w.heap.size+1,k',none⟩=W.cell? ⟨w.heap.size+1,k',none⟩:=fun W k u k'=>aK (by omega)
 cases b <;> cases b2
 ·have HM:=jo _ _ y.natAbs z.natAbs w0.drew (hn.below hb0).drew6 (hn2.below hb0).drew6 hf1 hf2
  have HEQ:Hid (zz false (y.natAbs+z.natAbs)=y+z):=by
   refine aa ?_
   rw [←gJ,←hz,←hz2]
  have HMK:=aa (fun (w1:World) (v:Value) (hv:Num w1 v (y.natAbs+z.natAbs))=>ce false v _ w1 hv)
  have HXD:=aa (show w0.drew.heap[w.heap.size+2]?=some (.cells #[.bool false,.slice none 0 0] 32) from hx0)
  obtain⟨d0,d1⟩:=duo (show w0.drew.heap[w.heap.size]?=some (.cells #[.bool false,.slice a n k] 32) from h0)
  obtain⟨d2,d3⟩:=duo (show w0.drew.heap[w.heap.size+1]?=some (.cells #[.bool false,.slice a2 n2 k2] 32) from h1')
  clear h1 h2 hn hn2 hb hb2 hz hz2 hb0 h0 h1' hx0
  go_enter Tryz.func22,Tryz.ntmps22
  go_wp2
  go_region_held3 (fun w'=>w'.cell? ⟨w.heap.size,0,none⟩=some (.bool false)∧w'.cell? ⟨w.heap.size,1,none⟩=some (.slice a n k)∧w'.cell? ⟨w.heap.size+1,0,none⟩=some (.bool false)∧w'.cell? ⟨w.heap.size+1,1,none⟩=some (.slice a2 n2 k2)) (go_keep) (first
   | (go_at_call 55;refine HM.mono ?_;rintro e' w1 ⟨⟨v1,rfl,N1⟩,hb1⟩;have x0:=ae hb1 d0;have x1:=ae hb1 d1;have x2:=ae hb1 d2;have x3:=ae hb1 d3)
   | (go_at_call 53;refine (HMK.out w1 _ N1).mono ?_;rintro e' w2 ⟨⟨b1,a1,n1,k1,rfl,hzn⟩,hb2⟩;have y0:=ae hb2 x0;have y1:=ae hb2 x1;have y2:=ae hb2 x2;have y3:=ae hb2 x3;have hz4:=ac hb2 (ac hb1 HXD.out);have hf4:=av hz4;obtain⟨t0,t1⟩:=duo hz4))
  have hb1':=cI hb1
  rw [HEQ.out] at hzn
  have HZN:=aa hzn
  have HBX:=aa hz4
  have HBE:=aa (HB0.out.trans ((hb1'.trans (hb2.mono hb1'.size)).mono HB0.out.size))
  have R5:=aI HBX.out (a':=.bool b1) (b':=.slice a1 n1 k1)
  have HD:=aa (And.intro (HZN.out.duo (p1:=b1) (r1:=.slice a1 n1 k1) HBX.out) (aC HBE.out (g:=w.heap.size+2) (u0:=.bool b1) (u1:=.slice a1 n1 k1) (by omega)))
  clear hso hso2 hf4 t0 t1 y0 y1 y2 y3 x0 x1 x2 x3 hz4 N1 hb1 hb1' hb2 hzn
  generalize (w2.setCell ⟨w.heap.size+2,0,none⟩ (.bool b1)).setCell ⟨w.heap.size+2,1,none⟩ (.slice a1 n1 k1)=w5 at *
  obtain⟨q0,q1⟩:=duo R5
  go_wp2
  refine bodyPost_ret (v:=.agg #[.bool b1,.slice a1 n1 k1]) (by simp [results,Tryz.results22,go_sem,q0,q1]) rfl ?_
  exact⟨⟨_,_,_,_,rfl,HD.out.1⟩,HD.out.2⟩
 ·have HC:=dJ _ _ y.natAbs z.natAbs w0 (hn.below hb0) (hn2.below hb0)
  have HN:=aa (hn.below hb0)
  have HN2:=aa (hn2.below hb0)
  have HK0:=aa h0
  have HK1:=aa h1'
  clear h1 h2 hn hn2 hb hb2 hb0 h0 h1' hx0
  by_cases hle:z.natAbs≤y.natAbs
  ·obtain⟨cc,hcc,hc0⟩:∃cc:Int,cmpN y.natAbs z.natAbs=cc∧0≤cc:=⟨_,rfl,by unfold cmpN;rw [if_neg (by omega)];split <;> omega⟩
   rw [hcc] at HC
   clear hcc
   have hz9:=iR false (x:=y.natAbs) (y:=z.natAbs) (by omega)
   rw [show (!false)=true from rfl,←hz,←hz2] at hz9
   have HEQ:Hid (zz false (y.natAbs - z.natAbs)=y+z):=aa hz9.symm
   have HMK:=aa (fun (w1:World) (v:Value) (hv:Num w1 v (y.natAbs - z.natAbs))=>ce false v _ w1 hv)
   have HLE:=aa hle
   clear hz hz2 hz9 hle
   go_enter Tryz.func22,Tryz.ntmps22
   go_wp2_with fail
   refine HC.mono ?_
   rintro e ws ⟨rfl,hs⟩
   have hbs:Below w0.heap.size w0 ws:=hs.below _
   have hbw:=HB0.out.trans (hbs.mono HB0.out.size)
   have HM:=ee _ _ y.natAbs z.natAbs ws.drew (HN.out.below hbs).drew6 (HN2.out.below hbs).drew6 (by have:=HLE.out;omega) hf1
   have HXD:=aa (show ws.drew.heap[w.heap.size+2]?=some (.cells #[.bool false,.slice none 0 0] 32) from ac hbs.drew HX0.out)
   obtain⟨d0,d1⟩:=duo (show ws.drew.heap[w.heap.size]?=some (.cells #[.bool false,.slice a n k] 32) from ac hbs.drew HK0.out)
   obtain⟨d2,d3⟩:=duo (show ws.drew.heap[w.heap.size+1]?=some (.cells #[.bool true,.slice a2 n2 k2] 32) from ac hbs.drew HK1.out)
   obtain⟨f0,f1⟩:=duo (ac hbs HK0.out)
   obtain⟨f2,f3⟩:=duo (ac hbs HK1.out)
   clear HB0
   have HB0:=aa hbw
   clear hbs hs HC hbw c0 c1 c2 c3
   go_wp2
   go_region_held3 (fun w'=>w'.cell? ⟨w.heap.size,0,none⟩=some (.bool false)∧w'.cell? ⟨w.heap.size,1,none⟩=some (.slice a n k)∧w'.cell? ⟨w.heap.size+1,0,none⟩=some (.bool true)∧w'.cell? ⟨w.heap.size+1,1,none⟩=some (.slice a2 n2 k2)) (go_keep) (first
    | (go_at_call 57;refine HM.mono ?_;rintro e' w1 ⟨⟨v1,rfl,N1⟩,hb1⟩;have x0:=ae hb1 d0;have x1:=ae hb1 d1;have x2:=ae hb1 d2;have x3:=ae hb1 d3)
    | (go_at_call 53;refine (HMK.out w1 _ N1).mono ?_;rintro e' w2 ⟨⟨b1,a1,n1,k1,rfl,hzn⟩,hb2⟩;have y0:=ae hb2 x0;have y1:=ae hb2 x1;have y2:=ae hb2 x2;have y3:=ae hb2 x3;have hz4:=ac hb2 (ac hb1 HXD.out);have hf4:=av hz4;obtain⟨t0,t1⟩:=duo hz4))
   have hb1':=cI hb1
   rw [HEQ.out] at hzn
   have HZN:=aa hzn
   have HBX:=aa hz4
   have HBE:=aa (HB0.out.trans ((hb1'.trans (hb2.mono hb1'.size)).mono HB0.out.size))
   have R5:=aI HBX.out (a':=.bool b1) (b':=.slice a1 n1 k1)
   have HD:=aa (And.intro (HZN.out.duo (p1:=b1) (r1:=.slice a1 n1 k1) HBX.out) (aC HBE.out (g:=w.heap.size+2) (u0:=.bool b1) (u1:=.slice a1 n1 k1) (by omega)))
   clear hso hso2 hf4 t0 t1 y0 y1 y2 y3 x0 x1 x2 x3 hz4 N1 hb1 hb1' hb2 hzn
   generalize (w2.setCell ⟨w.heap.size+2,0,none⟩ (.bool b1)).setCell ⟨w.heap.size+2,1,none⟩ (.slice a1 n1 k1)=w5 at *
   obtain⟨q0,q1⟩:=duo R5
   go_wp2
   refine bodyPost_ret (v:=.agg #[.bool b1,.slice a1 n1 k1]) (by simp [results,Tryz.results22,go_sem,q0,q1]) rfl ?_
   exact⟨⟨_,_,_,_,rfl,HD.out.1⟩,HD.out.2⟩
  ·rw [cmpN_lt (by omega)] at HC
   have hz9:=iK false (x:=y.natAbs) (y:=z.natAbs) (by omega)
   rw [show (!false)=true from rfl,←hz,←hz2] at hz9
   have HEQ:Hid (zz true (z.natAbs - y.natAbs)=y+z):=aa hz9.symm
   have HMK:=aa (fun (w1:World) (v:Value) (hv:Num w1 v (z.natAbs - y.natAbs))=>ce true v _ w1 hv)
   have HLE:=aa hle
   clear hz hz2 hz9 hle
   go_enter Tryz.func22,Tryz.ntmps22
   go_wp2_with fail
   refine HC.mono ?_
   rintro e ws ⟨rfl,hs⟩
   have hbs:Below w0.heap.size w0 ws:=hs.below _
   have hbw:=HB0.out.trans (hbs.mono HB0.out.size)
   have HM:=ee _ _ z.natAbs y.natAbs ws.drew (HN2.out.below hbs).drew6 (HN.out.below hbs).drew6 (by have:=HLE.out;omega) hf2
   have HXD:=aa (show ws.drew.heap[w.heap.size+2]?=some (.cells #[.bool false,.slice none 0 0] 32) from ac hbs.drew HX0.out)
   obtain⟨d0,d1⟩:=duo (show ws.drew.heap[w.heap.size]?=some (.cells #[.bool false,.slice a n k] 32) from ac hbs.drew HK0.out)
   obtain⟨d2,d3⟩:=duo (show ws.drew.heap[w.heap.size+1]?=some (.cells #[.bool true,.slice a2 n2 k2] 32) from ac hbs.drew HK1.out)
   obtain⟨f0,f1⟩:=duo (ac hbs HK0.out)
   obtain⟨f2,f3⟩:=duo (ac hbs HK1.out)
   clear HB0
   have HB0:=aa hbw
   clear hbs hs HC hbw c0 c1 c2 c3
   go_wp2
   go_region_held3 (fun w'=>w'.cell? ⟨w.heap.size,0,none⟩=some (.bool false)∧w'.cell? ⟨w.heap.size,1,none⟩=some (.slice a n k)∧w'.cell? ⟨w.heap.size+1,0,none⟩=some (.bool true)∧w'.cell? ⟨w.heap.size+1,1,none⟩=some (.slice a2 n2 k2)) (go_keep) (first
    | (go_at_call 57;refine HM.mono ?_;rintro e' w1 ⟨⟨v1,rfl,N1⟩,hb1⟩;have x0:=ae hb1 d0;have x1:=ae hb1 d1;have x2:=ae hb1 d2;have x3:=ae hb1 d3)
    | (go_at_call 53;refine (HMK.out w1 _ N1).mono ?_;rintro e' w2 ⟨⟨b1,a1,n1,k1,rfl,hzn⟩,hb2⟩;have y0:=ae hb2 x0;have y1:=ae hb2 x1;have y2:=ae hb2 x2;have y3:=ae hb2 x3;have hz4:=ac hb2 (ac hb1 HXD.out);have hf4:=av hz4;obtain⟨t0,t1⟩:=duo hz4))
   have hb1':=cI hb1
   rw [HEQ.out] at hzn
   have HZN:=aa hzn
   have HBX:=aa hz4
   have HBE:=aa (HB0.out.trans ((hb1'.trans (hb2.mono hb1'.size)).mono HB0.out.size))
   have R5:=aI HBX.out (a':=.bool b1) (b':=.slice a1 n1 k1)
   have HD:=aa (And.intro (HZN.out.duo (p1:=b1) (r1:=.slice a1 n1 k1) HBX.out) (aC HBE.out (g:=w.heap.size+2) (u0:=.bool b1) (u1:=.slice a1 n1 k1) (by omega)))
   clear hso hso2 hf4 t0 t1 y0 y1 y2 y3 x0 x1 x2 x3 hz4 N1 hb1 hb1' hb2 hzn
   generalize (w2.setCell ⟨w.heap.size+2,0,none⟩ (.bool b1)).setCell ⟨w.heap.size+2,1,none⟩ (.slice a1 n1 k1)=w5 at *
   obtain⟨q0,q1⟩:=duo R5
   go_wp2
   refine bodyPost_ret (v:=.agg #[.bool b1,.slice a1 n1 k1]) (by simp [results,Tryz.results22,go_sem,q0,q1]) rfl ?_
   exact⟨⟨_,_,_,_,rfl,HD.out.1⟩,HD.out.2⟩
 ·have HC:=dJ _ _ y.natAbs z.natAbs w0 (hn.below hb0) (hn2.below hb0)
  have HN:=aa (hn.below hb0)
  have HN2:=aa (hn2.below hb0)
  have HK0:=aa h0
  have HK1:=aa h1'
  clear h1 h2 hn hn2 hb hb2 hb0 h0 h1' hx0
  by_cases hle:z.natAbs≤y.natAbs
  ·obtain⟨cc,hcc,hc0⟩:∃cc:Int,cmpN y.natAbs z.natAbs=cc∧0≤cc:=⟨_,rfl,by unfold cmpN;rw [if_neg (by omega)];split <;> omega⟩
   rw [hcc] at HC
   clear hcc
   have hz9:=iR true (x:=y.natAbs) (y:=z.natAbs) (by omega)
   rw [show (!true)=false from rfl,←hz,←hz2] at hz9
   have HEQ:Hid (zz true (y.natAbs - z.natAbs)=y+z):=aa hz9.symm
   have HMK:=aa (fun (w1:World) (v:Value) (hv:Num w1 v (y.natAbs - z.natAbs))=>ce true v _ w1 hv)
   have HLE:=aa hle
   clear hz hz2 hz9 hle
   go_enter Tryz.func22,Tryz.ntmps22
   go_wp2_with fail
   refine HC.mono ?_
   rintro e ws ⟨rfl,hs⟩
   have hbs:Below w0.heap.size w0 ws:=hs.below _
   have hbw:=HB0.out.trans (hbs.mono HB0.out.size)
   have HM:=ee _ _ y.natAbs z.natAbs ws.drew (HN.out.below hbs).drew6 (HN2.out.below hbs).drew6 (by have:=HLE.out;omega) hf1
   have HXD:=aa (show ws.drew.heap[w.heap.size+2]?=some (.cells #[.bool false,.slice none 0 0] 32) from ac hbs.drew HX0.out)
   obtain⟨d0,d1⟩:=duo (show ws.drew.heap[w.heap.size]?=some (.cells #[.bool true,.slice a n k] 32) from ac hbs.drew HK0.out)
   obtain⟨d2,d3⟩:=duo (show ws.drew.heap[w.heap.size+1]?=some (.cells #[.bool false,.slice a2 n2 k2] 32) from ac hbs.drew HK1.out)
   obtain⟨f0,f1⟩:=duo (ac hbs HK0.out)
   obtain⟨f2,f3⟩:=duo (ac hbs HK1.out)
   clear HB0
   have HB0:=aa hbw
   clear hbs hs HC hbw c0 c1 c2 c3
   go_wp2
   go_region_held3 (fun w'=>w'.cell? ⟨w.heap.size,0,none⟩=some (.bool true)∧w'.cell? ⟨w.heap.size,1,none⟩=some (.slice a n k)∧w'.cell? ⟨w.heap.size+1,0,none⟩=some (.bool false)∧w'.cell? ⟨w.heap.size+1,1,none⟩=some (.slice a2 n2 k2)) (go_keep) (first
    | (go_at_call 57;refine HM.mono ?_;rintro e' w1 ⟨⟨v1,rfl,N1⟩,hb1⟩;have x0:=ae hb1 d0;have x1:=ae hb1 d1;have x2:=ae hb1 d2;have x3:=ae hb1 d3)
    | (go_at_call 53;refine (HMK.out w1 _ N1).mono ?_;rintro e' w2 ⟨⟨b1,a1,n1,k1,rfl,hzn⟩,hb2⟩;have y0:=ae hb2 x0;have y1:=ae hb2 x1;have y2:=ae hb2 x2;have y3:=ae hb2 x3;have hz4:=ac hb2 (ac hb1 HXD.out);have hf4:=av hz4;obtain⟨t0,t1⟩:=duo hz4))
   have hb1':=cI hb1
   rw [HEQ.out] at hzn
   have HZN:=aa hzn
   have HBX:=aa hz4
   have HBE:=aa (HB0.out.trans ((hb1'.trans (hb2.mono hb1'.size)).mono HB0.out.size))
   have R5:=aI HBX.out (a':=.bool b1) (b':=.slice a1 n1 k1)
   have HD:=aa (And.intro (HZN.out.duo (p1:=b1) (r1:=.slice a1 n1 k1) HBX.out) (aC HBE.out (g:=w.heap.size+2) (u0:=.bool b1) (u1:=.slice a1 n1 k1) (by omega)))
   clear hso hso2 hf4 t0 t1 y0 y1 y2 y3 x0 x1 x2 x3 hz4 N1 hb1 hb1' hb2 hzn
   generalize (w2.setCell ⟨w.heap.size+2,0,none⟩ (.bool b1)).setCell ⟨w.heap.size+2,1,none⟩ (.slice a1 n1 k1)=w5 at *
   obtain⟨q0,q1⟩:=duo R5
   go_wp2
   refine bodyPost_ret (v:=.agg #[.bool b1,.slice a1 n1 k1]) (by simp [results,Tryz.results22,go_sem,q0,q1]) rfl ?_
   exact⟨⟨_,_,_,_,rfl,HD.out.1⟩,HD.out.2⟩
  ·rw [cmpN_lt (by omega)] at HC
   have hz9:=iK true (x:=y.natAbs) (y:=z.natAbs) (by omega)
   rw [show (!true)=false from rfl,←hz,←hz2] at hz9
   have HEQ:Hid (zz false (z.natAbs - y.natAbs)=y+z):=aa hz9.symm
   have HMK:=aa (fun (w1:World) (v:Value) (hv:Num w1 v (z.natAbs - y.natAbs))=>ce false v _ w1 hv)
   have HLE:=aa hle
   clear hz hz2 hz9 hle
   go_enter Tryz.func22,Tryz.ntmps22
   go_wp2_with fail
   refine HC.mono ?_
   rintro e ws ⟨rfl,hs⟩
   have hbs:Below w0.heap.size w0 ws:=hs.below _
   have hbw:=HB0.out.trans (hbs.mono HB0.out.size)
   have HM:=ee _ _ z.natAbs y.natAbs ws.drew (HN2.out.below hbs).drew6 (HN.out.below hbs).drew6 (by have:=HLE.out;omega) hf2
   have HXD:=aa (show ws.drew.heap[w.heap.size+2]?=some (.cells #[.bool false,.slice none 0 0] 32) from ac hbs.drew HX0.out)
   obtain⟨d0,d1⟩:=duo (show ws.drew.heap[w.heap.size]?=some (.cells #[.bool true,.slice a n k] 32) from ac hbs.drew HK0.out)
   obtain⟨d2,d3⟩:=duo (show ws.drew.heap[w.heap.size+1]?=some (.cells #[.bool false,.slice a2 n2 k2] 32) from ac hbs.drew HK1.out)
   obtain⟨f0,f1⟩:=duo (ac hbs HK0.out)
   obtain⟨f2,f3⟩:=duo (ac hbs HK1.out)
   clear HB0
   have HB0:=aa hbw
   clear hbs hs HC hbw c0 c1 c2 c3
   go_wp2
   go_region_held3 (fun w'=>w'.cell? ⟨w.heap.size,0,none⟩=some (.bool true)∧w'.cell? ⟨w.heap.size,1,none⟩=some (.slice a n k)∧w'.cell? ⟨w.heap.size+1,0,none⟩=some (.bool false)∧w'.cell? ⟨w.heap.size+1,1,none⟩=some (.slice a2 n2 k2)) (go_keep) (first
    | (go_at_call 57;refine HM.mono ?_;rintro e' w1 ⟨⟨v1,rfl,N1⟩,hb1⟩;have x0:=ae hb1 d0;have x1:=ae hb1 d1;have x2:=ae hb1 d2;have x3:=ae hb1 d3)
    | (go_at_call 53;refine (HMK.out w1 _ N1).mono ?_;rintro e' w2 ⟨⟨b1,a1,n1,k1,rfl,hzn⟩,hb2⟩;have y0:=ae hb2 x0;have y1:=ae hb2 x1;have y2:=ae hb2 x2;have y3:=ae hb2 x3;have hz4:=ac hb2 (ac hb1 HXD.out);have hf4:=av hz4;obtain⟨t0,t1⟩:=duo hz4))
   have hb1':=cI hb1
   rw [HEQ.out] at hzn
   have HZN:=aa hzn
   have HBX:=aa hz4
   have HBE:=aa (HB0.out.trans ((hb1'.trans (hb2.mono hb1'.size)).mono HB0.out.size))
   have R5:=aI HBX.out (a':=.bool b1) (b':=.slice a1 n1 k1)
   have HD:=aa (And.intro (HZN.out.duo (p1:=b1) (r1:=.slice a1 n1 k1) HBX.out) (aC HBE.out (g:=w.heap.size+2) (u0:=.bool b1) (u1:=.slice a1 n1 k1) (by omega)))
   clear hso hso2 hf4 t0 t1 y0 y1 y2 y3 x0 x1 x2 x3 hz4 N1 hb1 hb1' hb2 hzn
   generalize (w2.setCell ⟨w.heap.size+2,0,none⟩ (.bool b1)).setCell ⟨w.heap.size+2,1,none⟩ (.slice a1 n1 k1)=w5 at *
   obtain⟨q0,q1⟩:=duo R5
   go_wp2
   refine bodyPost_ret (v:=.agg #[.bool b1,.slice a1 n1 k1]) (by simp [results,Tryz.results22,go_sem,q0,q1]) rfl ?_
   exact⟨⟨_,_,_,_,rfl,HD.out.1⟩,HD.out.2⟩
 ·have HM:=jo _ _ y.natAbs z.natAbs w0.drew (hn.below hb0).drew6 (hn2.below hb0).drew6 hf1 hf2
  have HEQ:Hid (zz true (y.natAbs+z.natAbs)=y+z):=by
   refine aa ?_
   rw [←gJ,←hz,←hz2]
  have HMK:=aa (fun (w1:World) (v:Value) (hv:Num w1 v (y.natAbs+z.natAbs))=>ce true v _ w1 hv)
  have HXD:=aa (show w0.drew.heap[w.heap.size+2]?=some (.cells #[.bool false,.slice none 0 0] 32) from hx0)
  obtain⟨d0,d1⟩:=duo (show w0.drew.heap[w.heap.size]?=some (.cells #[.bool true,.slice a n k] 32) from h0)
  obtain⟨d2,d3⟩:=duo (show w0.drew.heap[w.heap.size+1]?=some (.cells #[.bool true,.slice a2 n2 k2] 32) from h1')
  clear h1 h2 hn hn2 hb hb2 hz hz2 hb0 h0 h1' hx0
  go_enter Tryz.func22,Tryz.ntmps22
  go_wp2
  go_region_held3 (fun w'=>w'.cell? ⟨w.heap.size,0,none⟩=some (.bool true)∧w'.cell? ⟨w.heap.size,1,none⟩=some (.slice a n k)∧w'.cell? ⟨w.heap.size+1,0,none⟩=some (.bool true)∧w'.cell? ⟨w.heap.size+1,1,none⟩=some (.slice a2 n2 k2)) (go_keep) (first
   | (go_at_call 55;refine HM.mono ?_;rintro e' w1 ⟨⟨v1,rfl,N1⟩,hb1⟩;have x0:=ae hb1 d0;have x1:=ae hb1 d1;have x2:=ae hb1 d2;have x3:=ae hb1 d3)
   | (go_at_call 53;refine (HMK.out w1 _ N1).mono ?_;rintro e' w2 ⟨⟨b1,a1,n1,k1,rfl,hzn⟩,hb2⟩;have y0:=ae hb2 x0;have y1:=ae hb2 x1;have y2:=ae hb2 x2;have y3:=ae hb2 x3;have hz4:=ac hb2 (ac hb1 HXD.out);have hf4:=av hz4;obtain⟨t0,t1⟩:=duo hz4))
  have hb1':=cI hb1
  rw [HEQ.out] at hzn
  have HZN:=aa hzn
  have HBX:=aa hz4
  have HBE:=aa (HB0.out.trans ((hb1'.trans (hb2.mono hb1'.size)).mono HB0.out.size))
  have R5:=aI HBX.out (a':=.bool b1) (b':=.slice a1 n1 k1)
  have HD:=aa (And.intro (HZN.out.duo (p1:=b1) (r1:=.slice a1 n1 k1) HBX.out) (aC HBE.out (g:=w.heap.size+2) (u0:=.bool b1) (u1:=.slice a1 n1 k1) (by omega)))
  clear hso hso2 hf4 t0 t1 y0 y1 y2 y3 x0 x1 x2 x3 hz4 N1 hb1 hb1' hb2 hzn
  generalize (w2.setCell ⟨w.heap.size+2,0,none⟩ (.bool b1)).setCell ⟨w.heap.size+2,1,none⟩ (.slice a1 n1 k1)=w5 at *
  obtain⟨q0,q1⟩:=duo R5
  go_wp2
  refine bodyPost_ret (v:=.agg #[.bool b1,.slice a1 n1 k1]) (by simp [results,Tryz.results22,go_sem,q0,q1]) rfl ?_
  exact⟨⟨_,_,_,_,rfl,HD.out.1⟩,HD.out.2⟩

theorem dD (v1 v2:Value)(y z:Int)(w:World)(h1:Zn w v1 y)(h2:Zn w v2 z)(hf1:blen y.natAbs≤1125899906840000)(hf2:blen z.natAbs≤1125899906840000) :
  Calls Tryz.prog 26 #[v1,v2] w (bj w (y - z)):=by
 obtain⟨b,a,n,k,rfl,hb,hn,hz⟩:=h1.parts
 obtain⟨b2,a2,n2,k2,rfl,hb2,hn2,hz2⟩:=h2.parts
 obtain⟨w0,hw0,hb0,h0,h1',hx0⟩:=dh w (.cells #[.bool b,.slice a n k] 32) (.cells #[.bool b2,.slice a2 n2 k2] 32) (.cells #[.bool false,.slice none 0 0] 32)
 obtain⟨c0,c1⟩:=duo h0
 obtain⟨c2,c3⟩:=duo h1'
 have HB0:=aa hb0
 have HX0:=aa hx0
 have hso:∀(W:World) (k:Nat) (u:Value) (k':Nat),(W.setCell ⟨w.heap.size+2,k,none⟩ u).cell? ⟨w.heap.size,k',none⟩=W.cell? ⟨w.heap.size,k',none⟩:=fun W k u k'=>aK (by omega)
 have hso2:∀(W:World) (k:Nat) (u:Value) (k':Nat),(W.setCell ⟨w.heap.size+2,k,none⟩ u).cell? ⟨w.heap.size+1,k',none⟩=W.cell? ⟨w.heap.size+1,k',none⟩:=fun W k u k'=>aK (by omega)
 have HM:=kK _ z w0.drew (h2.below hb0).drew6
 have HZ1:=aa (h1.below hb0).drew6
 have HEQ:Hid (y+-z=y - z):=aa (by omega)
 have HMK:=aa (fun (w1:World) (v:Value) (hb1:Below w0.drew.heap.size w0.drew w1) (hv:Zn w1 v (-z))=>jn _ v y (-z) w1 (HZ1.out.below hb1) hv hf1 (by rw [Int.natAbs_neg];exact hf2))
 have HXD:=aa (show w0.drew.heap[w.heap.size+2]?=some (.cells #[.bool false,.slice none 0 0] 32) from hx0)
 obtain⟨d0,d1⟩:=duo (show w0.drew.heap[w.heap.size]?=some (.cells #[.bool b,.slice a n k] 32) from h0)
 obtain⟨d2,d3⟩:=duo (show w0.drew.heap[w.heap.size+1]?=some (.cells #[.bool b2,.slice a2 n2 k2] 32) from h1')
 clear h1 h2 hn hn2 hb hb2 hz hz2 hb0 h0 h1' hx0
 go_enter Tryz.func26,Tryz.ntmps26
 go_wp2
 go_region_held3 (fun w'=>w'.cell? ⟨w.heap.size,0,none⟩=some (.bool b)∧w'.cell? ⟨w.heap.size,1,none⟩=some (.slice a n k)∧w'.cell? ⟨w.heap.size+1,0,none⟩=some (.bool b2)∧w'.cell? ⟨w.heap.size+1,1,none⟩=some (.slice a2 n2 k2)) (go_keep) (first
  | (go_at_call 60;refine HM.mono ?_;rintro e' w1 ⟨⟨b9,a9,n9,k9,rfl,N1⟩,hb1⟩;have x0:=ae hb1 d0;have x1:=ae hb1 d1;have x2:=ae hb1 d2;have x3:=ae hb1 d3)
  | (go_at_call 22;refine (HMK.out w1 _ hb1 N1).mono ?_;rintro e' w2 ⟨⟨b1,a1,n1,k1,rfl,hzn⟩,hb2⟩;have y0:=ae hb2 x0;have y1:=ae hb2 x1;have y2:=ae hb2 x2;have y3:=ae hb2 x3;have hz4:=ac hb2 (ac hb1 HXD.out);have hf4:=av hz4;obtain⟨t0,t1⟩:=duo hz4))
 have hb1':=cI hb1
 rw [HEQ.out] at hzn
 have HZN:=aa hzn
 have HBX:=aa hz4
 have HBE:=aa (HB0.out.trans ((hb1'.trans (hb2.mono hb1'.size)).mono HB0.out.size))
 have R5:=aI HBX.out (a':=.bool b1) (b':=.slice a1 n1 k1)
 have HD:=aa (And.intro (HZN.out.duo (p1:=b1) (r1:=.slice a1 n1 k1) HBX.out) (aC HBE.out (g:=w.heap.size+2) (u0:=.bool b1) (u1:=.slice a1 n1 k1) (by omega)))
 clear hso hso2 hf4 t0 t1 y0 y1 y2 y3 x0 x1 x2 x3 hz4 N1 hb1 hb1' hb2 hzn
 generalize (w2.setCell ⟨w.heap.size+2,0,none⟩ (.bool b1)).setCell ⟨w.heap.size+2,1,none⟩ (.slice a1 n1 k1)=w5 at *
 obtain⟨q0,q1⟩:=duo R5
 go_wp2
 refine bodyPost_ret (v:=.agg #[.bool b1,.slice a1 n1 k1]) (by simp [results,Tryz.results26,go_sem,q0,q1]) rfl ?_
 exact⟨⟨_,_,_,_,rfl,HD.out.1⟩,HD.out.2⟩

theorem lf (c:Nat)(w:World)(hc:c<9223372036854775808):Calls Tryz.prog 61 #[.int .i64 c] w fun e w'=>(∃v,e=.returned v∧Num w' v c)∧Below w.heap.size w w':=by
 have hA:=Arg.lits w [c] #[.int .u64 (c:Int)] 1 rfl rfl (by intro z hz;simp at hz;omega) (by simp)
 have hb:Below w.heap.size w (w.alloc (.cells #[.int .u64 (c:Int)] 61)):=(Below.refl _ _).alloc (Nat.le_refl _) _
 have HO:=gi _ [c] _ hA (by simp)
 rw [show val [c]=c by simp [val]] at HO
 have HB:=aa hb
 clear hA hb
 go_enter Tryz.func61,Tryz.ntmps61
 go_wp2_with fail
 refine HO.mono ?_
 rintro e w2 ⟨⟨v,rfl,N⟩,hb2⟩
 have HX:=aa (And.intro N (HB.out.trans (hb2.mono HB.out.size)))
 clear N hb2 HO
 go_wp2
 go_ret
 exact⟨⟨v,rfl,HX.out.1⟩,HX.out.2⟩
end Go.Proofs.YtdbjbbdhlpfhjaaGreatDoor

