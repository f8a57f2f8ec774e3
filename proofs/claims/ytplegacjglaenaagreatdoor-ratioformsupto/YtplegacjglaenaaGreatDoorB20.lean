/- The walk of the law RatioForms. -/
import Derived.Test.YtplegacjglaenaaGreatDoorB19
namespace Go.Proofs.YtplegacjglaenaaGreatDoor
open Go.RowKit
open Lm
attribute [local go_sem ↓] Go.wp_at_zero Go.wp_at_succ

theorem fm {W0 W:World}(h:Below W0.heap.size W0 W)(o:Obj):Below W0.heap.size W0 (W.alloc o):=h.alloc h.size _

set_option maxRecDepth 20000 in
set_option maxHeartbeats 8000000 in
theorem mu (b0:Bool)(v0:Value)(z0:List Nat)(v1:Value)(z1:List Nat)(b2:Bool)(v2:Value)(z2:List Nat)(v:Int)(w:World)(hT:Tab w)(A0:Arg w v0 z0)(s0:z0.length≤1048576)(A1:Arg w v1 z1)(s1:z1.length≤1048576)(A2:Arg w v2 z2)(s2:z2.length≤1048576)(hv1:-9223372036854775808≤v)(hv2:v≤9223372036854775807) :
  Calls Tryz.prog 4 #[.agg #[.bool b0,v0,v1],.agg #[.bool b2,v2],.int .i64 v] w fun e w'=>e=.returned (.bool true)∧Below w.heap.size w w':=by
 obtain⟨a0,n0,rfl,_,_,_⟩:=A0.form
 obtain⟨a1,n1,rfl,_,_,_⟩:=A1.form
 obtain⟨a2,n2,rfl,_,_,_⟩:=A2.form
 obtain⟨w0,hw0,hb0,h0,h1⟩:=aJ w (.cells #[.bool b0,.slice a0 z0.length n0,.slice a1 z1.length n1] 28) (.cells #[.bool b2,.slice a2 z2.length n2] 26)
 have HBX:=ac (((Bx.nil w0).cons h0).cons h1)
 have HA0:=ac (A0.below hb0)
 have HA1:=ac (A1.below hb0)
 have HA2:=ac (A2.below hb0)
 have HT:=ac (hT.below hb0)
 have HW:=ac hb0
 have hbl0:=du z0 A0.limbs
 have hbl2:=du z2 A2.limbs
 obtain⟨c0,c1,c2⟩:=tri h0
 obtain⟨d0,d1⟩:=duo h1
 have C1:=po b0 _ _ z0 z1 w0 HA0.out HA1.out s0 s1
 obtain⟨Z,hZ⟩:∃Z,zc b0 (val z0) (val z1)=Z:=⟨_,rfl⟩
 obtain⟨D,hD⟩:∃D,dc (val z0) (val z1)=D:=⟨_,rfl⟩
 obtain⟨c,ok,hc,hok,hcase⟩:∃c ok,cc (val z1)=c∧decide (val z1≠0)=ok∧((ok=true∧c=0)∨(ok=false∧c=70)):=by
  refine⟨_,_,rfl,rfl,?_⟩
  by_cases h:val z1=0
  ·exact .inr ⟨by simp [h],cN h⟩
  ·exact .inl ⟨by simp [h],cM h⟩
 rw [hZ,hD,hok] at C1
 clear A0 A1 A2 hT hb0 h0 h1 hok
 rcases hcase with ⟨rfl,rfl⟩|⟨rfl,rfl⟩
 ·skip
  go_enter Tryz.func4,Tryz.ntmps4
  go_wp2_with fail
  refine C1.mono ?_
  rintro e w1 ⟨⟨bx,ax,nx,kx,ay,ny,ky,rfl,hx⟩,hb⟩
  have HX:=ac hx
  replace HBX:=ac (HBX.out.below hb)
  replace HA0:=ac (HA0.out.below hb)
  replace HA1:=ac (HA1.out.below hb)
  replace HA2:=ac (HA2.out.below hb)
  replace HT:=ac (HT.out.below hb)
  replace HW:=ah HW hb
  clear C1 hx hb c0 c1 c2 d0 d1 hw0
  obtain⟨u1,hu1,hbu,hxu⟩:=am w1 (.cells #[.bool bx,.slice ax nx kx,.slice ay ny ky] 31)
  replace HBX:=ac (HBX.out.below hbu)
  replace HA0:=ac (HA0.out.below hbu)
  replace HA1:=ac (HA1.out.below hbu)
  replace HA2:=ac (HA2.out.below hbu)
  replace HT:=ac (HT.out.below hbu)
  replace HX:=ac (HX.out.below hbu)
  replace HW:=ah HW hbu
  replace HBX:=ac (HBX.out.cons hxu)
  obtain⟨c0,c1,c2⟩:=tri (HBX.out 2 _ _ rfl)
  have C2:=d9 b0 _ _ z0 z1 u1 HA0.out HA1.out HT.out s0 s1
  rw [hZ,hD,hc] at C2
  have HBB:Hid (Below u1.heap.size u1 u1):=ac (Below.refl _ _)
  have HAB0:=HA0
  have HAB1:=HA1
  have HAB2:=HA2
  have HTB:=HT
  have HXB:=HX
  have HWB:=HW
  clear hbu hxu
  go_wp2_with fail
  refine C2.mono ?_
  rintro e w2 ⟨⟨bn,p1,m1,l1,p2,m2,l2,rfl,hn⟩,hb⟩
  have HN:=ac hn
  replace HBB:=ah HBB hb
  replace HBX:=ac (HBX.out.below hb)
  replace HA0:=ac (HA0.out.below hb)
  replace HA1:=ac (HA1.out.below hb)
  replace HA2:=ac (HA2.out.below hb)
  replace HT:=ac (HT.out.below hb)
  replace HX:=ac (HX.out.below hb)
  replace HW:=ah HW hb
  clear C2 hn hb hu1 c0 c1 c2
  obtain⟨u2,hu2,hbu,hxu⟩:=am w2 (.cells #[.bool bn,.slice p1 m1 l1,.slice p2 m2 l2] 28)
  replace HBB:=ah HBB hbu
  replace HN:=ac (HN.out.below hbu)
  replace HBX:=ac (HBX.out.below hbu)
  replace HA0:=ac (HA0.out.below hbu)
  replace HA1:=ac (HA1.out.below hbu)
  replace HA2:=ac (HA2.out.below hbu)
  replace HT:=ac (HT.out.below hbu)
  replace HX:=ac (HX.out.below hbu)
  replace HW:=ah HW hbu
  replace HBX:=ac (HBX.out.cons hxu)
  obtain⟨c0,c1,c2⟩:=tri (HBX.out 3 _ _ rfl)
  have C3:=d9 b0 _ _ z0 z1 u2 HA0.out HA1.out HT.out s0 s1
  rw [hZ,hD,hc] at C3
  obtain⟨r1,r2,hch,hl1,hl2⟩:=HN.out.chain HBB.out.size
  have HCH:=ac hch
  clear hbu hxu hch
  go_wp2_with fail
  refine C3.mono ?_
  rintro e w3 ⟨⟨bm,q1,i1,j1,q2,i2,j2,rfl,hm⟩,hb⟩
  obtain⟨r3,r4,hch,hl3,hl4⟩:=hm.chain hb.size
  replace HCH:=ac (aD.app7 hb hch HCH.out HBB.out.size)
  replace HBB:=ah HBB hb
  replace HN:=ac (HN.out.below hb)
  replace HBX:=ac (HBX.out.below hb)
  replace HA0:=ac (HA0.out.below hb)
  replace HA1:=ac (HA1.out.below hb)
  replace HA2:=ac (HA2.out.below hb)
  replace HT:=ac (HT.out.below hb)
  replace HX:=ac (HX.out.below hb)
  replace HW:=ah HW hb
  clear C3 hm hb hu2 c0 c1 c2 hch
  obtain⟨u3,hu3,hbu,hxu⟩:=am w3 (.cells #[.bool bm,.slice q1 i1 j1,.slice q2 i2 j2] 28)
  replace HBB:=ah HBB hbu
  replace HN:=ac (HN.out.below hbu)
  replace HCH:=ac (HCH.out.below hbu)
  replace HBX:=ac (HBX.out.below hbu)
  replace HA0:=ac (HA0.out.below hbu)
  replace HA1:=ac (HA1.out.below hbu)
  replace HA2:=ac (HA2.out.below hbu)
  replace HT:=ac (HT.out.below hbu)
  replace HX:=ac (HX.out.below hbu)
  replace HW:=ah HW hbu
  replace HBX:=ac (HBX.out.cons hxu)
  obtain⟨c0,c1,c2⟩:=tri (HBX.out 1 _ _ rfl)
  obtain⟨e0,e1,e2⟩:=tri (HBX.out 2 _ _ rfl)
  have C4:=bR u1.heap.size bn p1 m1 l1 p2 m2 l2 bx ax nx kx ay ny ky Z D 0 u3 HN.out HX.out
  clear hbu hxu HN
  go_wp2_with fail
  refine C4.mono ?_
  rintro e w4 ⟨rfl,hb⟩
  replace HBB:=ah HBB hb
  replace HCH:=ac (HCH.out.below hb)
  replace HBX:=ac (HBX.out.below hb)
  replace HA0:=ac (HA0.out.below hb)
  replace HA1:=ac (HA1.out.below hb)
  replace HA2:=ac (HA2.out.below hb)
  replace HT:=ac (HT.out.below hb)
  replace HX:=ac (HX.out.below hb)
  replace HW:=ah HW hb
  clear C4 hb hu3 c0 c1 c2 e0 e1 e2
  obtain⟨c0,c1,c2⟩:=tri (HBX.out 1 _ _ rfl)
  obtain⟨e0,e1,e2⟩:=tri (HBX.out 0 _ _ rfl)
  obtain⟨u4,hu4,hbu,hxu⟩:=am w4 (.cells #[.bool bn,.slice p1 m1 l1,.slice p2 m2 l2,.bool bm,.slice q1 i1 j1,.slice q2 i2 j2] 28)
  replace HBB:=ah HBB hbu
  replace HCH:=ac (HCH.out.below hbu)
  replace HBX:=ac (HBX.out.below hbu)
  have C5:=gW w4.heap.size bn p1 m1 l1 p2 m2 l2 bm q1 i1 j1 q2 i2 j2 u1.heap.size _ u4 hxu HCH.out.aparts (by simp;omega) HBB.out.size
  clear hbu hxu HCH
  go_wp2_with fail
  refine C5.mono ?_
  rintro e w5 ⟨rfl,hk⟩
  have hbw:=HBB.out.trans hk.below
  replace HBX:=ac (HBX.out.bk hk (by rfl))
  replace HA0:=ac (HAB0.out.below hbw)
  replace HA1:=ac (HAB1.out.below hbw)
  replace HA2:=ac (HAB2.out.below hbw)
  replace HT:=ac (HTB.out.below hbw)
  replace HX:=ac (HXB.out.below hbw)
  replace HW:=ah HWB hbw
  clear C5 hk hbw hu4 HBB HAB0 HAB1 HAB2 HTB HXB HWB c0 c1 c2 e0 e1 e2 hl1 hl2 hl3 hl4
  have HBB:Hid (Below w5.heap.size w5 w5):=ac (Below.refl _ _)
  have HTB:=HT
  have HWB:=HW
  obtain⟨c0,c1,c2⟩:=tri (HBX.out 4 _ _ rfl)
  have C6:=gX b0 _ _ z0 z1 w5 HA0.out HA1.out HT.out s0 s1
  rw [hZ,hD,hc] at C6
  go_wp2_with fail
  refine C6.mono ?_
  rintro e w6 ⟨⟨ba,aa1,ma1,ka1,aa2,ma2,ka2,rfl,ha⟩,hb⟩
  have HNA:=ac ha
  replace HBB:=ah HBB hb
  replace HBX:=ac (HBX.out.below hb)
  replace HA0:=ac (HA0.out.below hb)
  replace HA1:=ac (HA1.out.below hb)
  replace HA2:=ac (HA2.out.below hb)
  replace HT:=ac (HT.out.below hb)
  replace HX:=ac (HX.out.below hb)
  replace HW:=ah HW hb
  clear C6 ha hb c0 c1 c2
  obtain⟨u6,hu6,hbu,hxu⟩:=am w6 (.cells #[.bool ba,.slice aa1 ma1 ka1,.slice aa2 ma2 ka2] 28)
  replace HBB:=ah HBB hbu
  replace HNA:=ac (HNA.out.below hbu)
  replace HBX:=ac (HBX.out.below hbu)
  replace HA0:=ac (HA0.out.below hbu)
  replace HA1:=ac (HA1.out.below hbu)
  replace HA2:=ac (HA2.out.below hbu)
  replace HT:=ac (HT.out.below hbu)
  replace HX:=ac (HX.out.below hbu)
  replace HW:=ah HW hbu
  replace HBX:=ac (HBX.out.cons hxu)
  obtain⟨c0,c1,c2⟩:=tri (HBX.out 5 _ _ rfl)
  have C7:=jE b0 _ _ z0 z1 u6 HA0.out HA1.out HT.out s0 s1
  rw [hZ,hD,hc] at C7
  obtain⟨r1,r2,hch,hl1,hl2⟩:=HNA.out.chain HBB.out.size
  have HCH:=ac hch
  clear hbu hxu hch
  go_wp2_with fail
  refine C7.mono ?_
  rintro e w7 ⟨⟨bb,ab1,mb1,kb1,ab2,mb2,kb2,rfl,hm⟩,hb⟩
  obtain⟨r3,r4,hch,hl3,hl4⟩:=hm.chain hb.size
  replace HCH:=ac (aD.app7 hb hch HCH.out HBB.out.size)
  replace HBB:=ah HBB hb
  replace HNA:=ac (HNA.out.below hb)
  have HNB:=ac hm
  replace HBX:=ac (HBX.out.below hb)
  replace HA0:=ac (HA0.out.below hb)
  replace HA1:=ac (HA1.out.below hb)
  replace HA2:=ac (HA2.out.below hb)
  replace HT:=ac (HT.out.below hb)
  replace HX:=ac (HX.out.below hb)
  replace HW:=ah HW hb
  clear C7 hm hb hu6 c0 c1 c2 hch
  obtain⟨u7,hu7,hbu,hxu⟩:=am w7 (.cells #[.bool bb,.slice ab1 mb1 kb1,.slice ab2 mb2 kb2] 28)
  replace HBB:=ah HBB hbu
  replace HNA:=ac (HNA.out.below hbu)
  replace HNB:=ac (HNB.out.below hbu)
  replace HCH:=ac (HCH.out.below hbu)
  replace HBX:=ac (HBX.out.below hbu)
  replace HA0:=ac (HA0.out.below hbu)
  replace HA1:=ac (HA1.out.below hbu)
  replace HA2:=ac (HA2.out.below hbu)
  replace HT:=ac (HT.out.below hbu)
  replace HX:=ac (HX.out.below hbu)
  replace HW:=ah HW hbu
  replace HBX:=ac (HBX.out.cons hxu)
  obtain⟨c0,c1,c2⟩:=tri (HBX.out 6 _ _ rfl)
  have C8:=g7 b0 _ _ z0 z1 u7 HA0.out HA1.out
  rw [hZ,hc] at C8
  clear hbu hxu
  go_wp2_with fail
  refine C8.mono ?_
  rintro e w8 ⟨rfl,hb⟩
  replace HBB:=ah HBB hb
  replace HNA:=ac (HNA.out.below hb)
  replace HNB:=ac (HNB.out.below hb)
  replace HCH:=ac (HCH.out.below hb)
  replace HBX:=ac (HBX.out.below hb)
  replace HA0:=ac (HA0.out.below hb)
  replace HA1:=ac (HA1.out.below hb)
  replace HA2:=ac (HA2.out.below hb)
  replace HT:=ac (HT.out.below hb)
  replace HX:=ac (HX.out.below hb)
  replace HW:=ah HW hb
  clear C8 hb hu7 c0 c1 c2
  go_upto_region 12 with fail
  obtain⟨td,htd⟩:∃td,w8.drew=td:=⟨_,rfl⟩
  have hbd:Below w8.heap.size w8 td:=by rw [←htd];exact (Below.refl _ _).drew
  replace HBB:=ah HBB hbd
  replace HNA:=ac (HNA.out.below hbd)
  replace HNB:=ac (HNB.out.below hbd)
  replace HCH:=ac (HCH.out.below hbd)
  replace HBX:=ac (HBX.out.below hbd)
  replace HA0:=ac (HA0.out.below hbd)
  replace HA1:=ac (HA1.out.below hbd)
  replace HA2:=ac (HA2.out.below hbd)
  replace HT:=ac (HT.out.below hbd)
  replace HX:=ac (HX.out.below hbd)
  replace HW:=ah HW hbd
  clear hbd
  have KS:=ac (fun (W:World) (hg:Below td.heap.size td W)=>have h:=HBX.out.below hg;show W.cell? ⟨w6.heap.size,0,none⟩=some (.bool ba)∧W.cell? ⟨w6.heap.size,1,none⟩=some (.slice aa1 ma1 ka1)∧W.cell? ⟨w6.heap.size,2,none⟩=some (.slice aa2 ma2 ka2)∧W.cell? ⟨w7.heap.size,0,none⟩=some (.bool bb)∧W.cell? ⟨w7.heap.size,1,none⟩=some (.slice ab1 mb1 kb1)∧W.cell? ⟨w7.heap.size,2,none⟩=some (.slice ab2 mb2 kb2)∧W.cell? ⟨w1.heap.size,0,none⟩=some (.bool bx)∧W.cell? ⟨w1.heap.size,1,none⟩=some (.slice ax nx kx)∧W.cell? ⟨w1.heap.size,2,none⟩=some (.slice ay ny ky) from
   ⟨(tri (h 1 _ _ rfl)).1,(tri (h 1 _ _ rfl)).2.1,(tri (h 1 _ _ rfl)).2.2,(tri (h 0 _ _ rfl)).1,(tri (h 0 _ _ rfl)).2.1,(tri (h 0 _ _ rfl)).2.2,(tri (h 4 _ _ rfl)).1,(tri (h 4 _ _ rfl)).2.1,(tri (h 4 _ _ rfl)).2.2⟩)
  have g0:Below td.heap.size td td:=Below.refl _ _
  have K1:=ac (fun (W:World) (hg:Below td.heap.size td W)=>jM bx ax nx kx ay ny ky Z D W (HX.out.below hg))
  have K2:=ac (fun (W:World) (b':Bool) (p1:Option Addr) (q1 r1:Nat) (p2:Option Addr) (q2 r2:Nat) (hr:Rn W (.agg #[.bool b',.slice p1 q1 r1,.slice p2 q2 r2]) (-Z) D) (hg:Below td.heap.size td W)=>bR w5.heap.size ba aa1 ma1 ka1 aa2 ma2 ka2 b' p1 q1 r1 p2 q2 r2 (-Z) D 0 W (HNA.out.below hg) hr)
  have K3:=ac (fun (W:World) (hg:Below td.heap.size td W)=>iT bx ax nx kx ay ny ky Z D W (HX.out.below hg))
  have K4:=ac (fun (W:World) (b':Bool) (p1:Option Addr) (q1 r1:Nat) (p2:Option Addr) (q2 r2:Nat) (hr:Rn W (.agg #[.bool b',.slice p1 q1 r1,.slice p2 q2 r2]) (Z.natAbs:Int) D) (hg:Below td.heap.size td W)=>bR u6.heap.size bb ab1 mb1 kb1 ab2 mb2 kb2 b' p1 q1 r1 p2 q2 r2 (Z.natAbs:Int) D 0 W (HNB.out.below hg) hr)
  have K5:=ac (fun (W:World) (hg:Below td.heap.size td W)=>gf bx ax nx kx ay ny ky Z D W (HX.out.below hg))
  subst htd
  go_region_held3 (fun w'=>w'.cell? ⟨w6.heap.size,0,none⟩=some (.bool ba)∧w'.cell? ⟨w6.heap.size,1,none⟩=some (.slice aa1 ma1 ka1)∧w'.cell? ⟨w6.heap.size,2,none⟩=some (.slice aa2 ma2 ka2)∧w'.cell? ⟨w7.heap.size,0,none⟩=some (.bool bb)∧w'.cell? ⟨w7.heap.size,1,none⟩=some (.slice ab1 mb1 kb1)∧w'.cell? ⟨w7.heap.size,2,none⟩=some (.slice ab2 mb2 kb2)∧w'.cell? ⟨w1.heap.size,0,none⟩=some (.bool bx)∧w'.cell? ⟨w1.heap.size,1,none⟩=some (.slice ax nx kx)∧w'.cell? ⟨w1.heap.size,2,none⟩=some (.slice ay ny ky)) (first|with_reducible exact KS.out _ g5|with_reducible exact KS.out _ g4|with_reducible exact KS.out _ g3|with_reducible exact KS.out _ g2|with_reducible exact KS.out _ g1|with_reducible exact KS.out _ g0) (first
   | (go_at_call 13;refine (K1.out _ g0).mono ?_;rintro e' t1 ⟨⟨b8,a8,n8,k8,a9,n9,k9,rfl,y1⟩,hb1⟩;have g1:=ae g0 hb1)
   | (go_at_call 8;refine (K4.out t3 b6 a6 n6 k6 a7 n7 k7 y3 g3).mono ?_;rintro e' t4 ⟨rfl,hb4⟩;have g4:=ae g3 hb4)
   | (go_at_call 8;refine (K2.out t1 b8 a8 n8 k8 a9 n9 k9 y1 g1).mono ?_;rintro e' t2 ⟨rfl,hb2⟩;have g2:=ae g1 hb2)
   | (go_at_call 14;refine (K3.out _ g2).mono ?_;rintro e' t3 ⟨⟨b6,a6,n6,k6,a7,n7,k7,rfl,y3⟩,hb3⟩;have g3:=ae g2 hb3)
   | (go_at_call 15;refine (K5.out _ g4).mono ?_;rintro e' t5 ⟨rfl,hb5⟩;have g5:=ae g4 hb5))
  replace HBB:=ah HBB g5
  replace HCH:=ac (HCH.out.below g5)
  replace HBX:=ac (HBX.out.below g5)
  replace HA0:=ac (HA0.out.below g5)
  replace HA1:=ac (HA1.out.below g5)
  replace HA2:=ac (HA2.out.below g5)
  replace HT:=ac (HT.out.below g5)
  replace HX:=ac (HX.out.below g5)
  replace HW:=ah HW g5
  clear K1 K2 K3 K4 K5 KS hb1 hb2 hb3 hb4 hb5 g0 g1 g2 g3 g4 g5 y1 y3 HNA HNB HX hZ hD hc
  obtain⟨d0,d1⟩:=duo (HBX.out 5 _ _ rfl)
  have C9:=dz b2 _ z2 t5 HA2.out (by omega)
  go_wp2_with fail
  refine C9.mono ?_
  rintro e w9 ⟨⟨bd,ad,nd,kd,rfl,hzd⟩,hb⟩
  have HZD:=ac hzd
  replace HBB:=ah HBB hb
  replace HCH:=ac (HCH.out.below hb)
  replace HBX:=ac (HBX.out.below hb)
  replace HA0:=ac (HA0.out.below hb)
  replace HA2:=ac (HA2.out.below hb)
  replace HT:=ac (HT.out.below hb)
  replace HW:=ah HW hb
  clear C9 hzd hb d0 d1
  obtain⟨u9,hu9,hbu,hxu⟩:=am w9 (.cells #[.bool bd,.slice ad nd kd] 44)
  replace HZD:=ac (HZD.out.below hbu)
  replace HBB:=ah HBB hbu
  replace HCH:=ac (HCH.out.below hbu)
  replace HBX:=ac (HBX.out.below hbu)
  replace HA0:=ac (HA0.out.below hbu)
  replace HA2:=ac (HA2.out.below hbu)
  replace HT:=ac (HT.out.below hbu)
  replace HW:=ah HW hbu
  replace HBX:=ac (HBX.out.cons hxu)
  obtain⟨c0,c1,c2⟩:=tri (HBX.out 7 _ _ rfl)
  obtain⟨d0,d1⟩:=duo (HBX.out 6 _ _ rfl)
  have C10:=jF b0 b2 _ _ z0 z2 u9 HA0.out HA2.out HT.out s0 s2
  obtain⟨Z3,hZ3⟩:∃Z3,zc (b0 != b2) (val z0) (val z2)=Z3:=⟨_,rfl⟩
  obtain⟨D3,hD3⟩:∃D3,dc (val z0) (val z2)=D3:=⟨_,rfl⟩
  rw [hZ3,hD3] at C10
  clear hbu hxu
  by_cases hz2:val z2=0
  ·rw [cN hz2] at C10
   go_wp2_with fail
   refine C10.mono ?_
   rintro e w10 ⟨⟨bc,ac1,mc1,kc1,ac2,mc2,kc2,rfl,hcc⟩,hb⟩
   have HNC:=ac hcc
   obtain rfl:Z3=0:=by rw [←hZ3];exact if_pos hz2
   obtain rfl:D3=0:=by rw [←hD3];exact if_pos hz2
   replace HZD:=ac (HZD.out.below hb)
   replace HBX:=ac (HBX.out.below hb)
   replace HA0:=ac (HA0.out.below hb)
   replace HA2:=ac (HA2.out.below hb)
   replace HT:=ac (HT.out.below hb)
   replace HW:=ah HW hb
   clear C10 hcc hb hu9 c0 c1 c2 d0 d1 HBB HCH
   obtain⟨u10,hu10,hbu,hxu⟩:=am w10 (.cells #[.bool bc,.slice ac1 mc1 kc1,.slice ac2 mc2 kc2] 28)
   replace HNC:=ac (HNC.out.below hbu)
   replace HZD:=ac (HZD.out.below hbu)
   replace HBX:=ac (HBX.out.below hbu)
   replace HA0:=ac (HA0.out.below hbu)
   replace HA2:=ac (HA2.out.below hbu)
   replace HT:=ac (HT.out.below hbu)
   replace HW:=ah HW hbu
   replace HBX:=ac (HBX.out.cons hxu)
   obtain⟨c0,c1,c2⟩:=tri (HBX.out 8 _ _ rfl)
   have C11:=dz b0 _ z0 u10 HA0.out (by omega)
   clear hbu hxu
   go_wp2_with fail
   refine C11.mono ?_
   rintro e w11 ⟨⟨bw,aw,nw,kw,rfl,_⟩,hb⟩
   replace HNC:=ac (HNC.out.below hb)
   replace HZD:=ac (HZD.out.below hb)
   replace HBX:=ac (HBX.out.below hb)
   replace HA0:=ac (HA0.out.below hb)
   replace HA2:=ac (HA2.out.below hb)
   replace HT:=ac (HT.out.below hb)
   replace HW:=ah HW hb
   clear C11 hb hu10 c0 c1 c2
   obtain⟨u11,hu11,hbu,hxu⟩:=am w11 (.cells #[.bool bw,.slice aw nw kw] 44)
   replace HZD:=ac (HZD.out.below hbu)
   replace HNC:=ac (HNC.out.below hbu)
   replace HBX:=ac (HBX.out.below hbu)
   replace HA0:=ac (HA0.out.below hbu)
   replace HA2:=ac (HA2.out.below hbu)
   replace HT:=ac (HT.out.below hbu)
   replace HW:=ah HW hbu
   replace HBX:=ac (HBX.out.cons hxu)
   obtain⟨d0,d1⟩:=duo (HBX.out 2 _ _ rfl)
   obtain⟨c0,c1,c2⟩:=tri (HBX.out 1 _ _ rfl)
   obtain⟨ud,hud,hnd⟩:=HZD.out
   simp only [Value.agg.injEq,Array.mk.injEq,List.cons.injEq,Value.bool.injEq,and_true] at hud
   obtain⟨_,rfl⟩:=hud
   rw [aY] at hnd
   have C12:=bW _ _ u11 hnd
   rw [show (val z2 == 0)=true by simp [hz2]] at C12
   have C13:=bR u9.heap.size bc ac1 mc1 kc1 ac2 mc2 kc2 false none 0 0 none 0 0 0 0 70 u11 HNC.out ⟨_,_,rfl,Num.nil _,Num.nil _⟩
   clear hbu hxu hnd
   go_wp2_with fail
   refine C12.mono ?_
   rintro e wn ⟨rfl,hw⟩;rw [hw];clear hw wn C12
   go_wp2_with fail
   refine C13.mono ?_
   rintro e w13 ⟨rfl,hb⟩
   have C14:=ez w13 (HT.out.below hb)
   replace HW:=ah HW hb
   clear C13 hb hu11 c0 c1 c2 d0 d1
   go_wp2_with fail
   refine C14.mono ?_
   rintro e w14 ⟨rfl,hb⟩
   replace HW:=ah HW hb
   clear C14 hb
   go_wp2
   go_ret
   exact⟨rfl,HW.out⟩
  ·rw [cM hz2] at C10
   go_wp2_with fail
   refine C10.mono ?_
   rintro e w10 ⟨⟨bc,ac1,mc1,kc1,ac2,mc2,kc2,rfl,hcc⟩,hb⟩
   obtain⟨r5,r6,hch,hl5,hl6⟩:=hcc.chain hb.size
   replace HCH:=ac (aD.app7 hb hch HCH.out HBB.out.size)
   replace HZD:=ac (HZD.out.below hb)
   replace HBB:=ah HBB hb
   have HNC:=ac hcc
   replace HBX:=ac (HBX.out.below hb)
   replace HA0:=ac (HA0.out.below hb)
   replace HA2:=ac (HA2.out.below hb)
   replace HT:=ac (HT.out.below hb)
   replace HW:=ah HW hb
   clear C10 hcc hch hb hu9 c0 c1 c2 d0 d1
   obtain⟨u10,hu10,hbu,hxu⟩:=am w10 (.cells #[.bool bc,.slice ac1 mc1 kc1,.slice ac2 mc2 kc2] 28)
   replace HZD:=ac (HZD.out.below hbu)
   replace HBB:=ah HBB hbu
   replace HCH:=ac (HCH.out.below hbu)
   replace HNC:=ac (HNC.out.below hbu)
   replace HBX:=ac (HBX.out.below hbu)
   replace HA0:=ac (HA0.out.below hbu)
   replace HA2:=ac (HA2.out.below hbu)
   replace HT:=ac (HT.out.below hbu)
   replace HW:=ah HW hbu
   replace HBX:=ac (HBX.out.cons hxu)
   obtain⟨c0,c1,c2⟩:=tri (HBX.out 8 _ _ rfl)
   have C11:=dz b0 _ z0 u10 HA0.out (by omega)
   clear hbu hxu
   go_wp2_with fail
   refine C11.mono ?_
   rintro e w11 ⟨⟨bw,aw,nw,kw,rfl,hzw⟩,hb⟩
   have HZW:=ac hzw
   replace HZD:=ac (HZD.out.below hb)
   replace HBB:=ah HBB hb
   replace HCH:=ac (HCH.out.below hb)
   replace HNC:=ac (HNC.out.below hb)
   replace HBX:=ac (HBX.out.below hb)
   replace HA0:=ac (HA0.out.below hb)
   replace HA2:=ac (HA2.out.below hb)
   replace HT:=ac (HT.out.below hb)
   replace HW:=ah HW hb
   clear C11 hzw hb hu10 c0 c1 c2
   obtain⟨u11,hu11,hbu,hxu⟩:=am w11 (.cells #[.bool bw,.slice aw nw kw] 44)
   replace HZW:=ac (HZW.out.below hbu)
   replace HZD:=ac (HZD.out.below hbu)
   replace HBB:=ah HBB hbu
   replace HCH:=ac (HCH.out.below hbu)
   replace HNC:=ac (HNC.out.below hbu)
   replace HBX:=ac (HBX.out.below hbu)
   replace HA0:=ac (HA0.out.below hbu)
   replace HA2:=ac (HA2.out.below hbu)
   replace HT:=ac (HT.out.below hbu)
   replace HW:=ah HW hbu
   replace HBX:=ac (HBX.out.cons hxu)
   obtain⟨d0,d1⟩:=duo (HBX.out 2 _ _ rfl)
   obtain⟨ud,hud,hnd⟩:=HZD.out
   simp only [Value.agg.injEq,Array.mk.injEq,List.cons.injEq,Value.bool.injEq,and_true] at hud
   obtain⟨hbd,rfl⟩:=hud
   obtain⟨uw,huw,hnw⟩:=HZW.out
   simp only [Value.agg.injEq,Array.mk.injEq,List.cons.injEq,Value.bool.injEq,and_true] at huw
   obtain⟨hbw,rfl⟩:=huw
   rw [aY] at hnd hnw
   have HND:=ac hnd
   have HNW:=ac hnw
   obtain⟨sg9,hsg,hsg2⟩:∃sg9,(bw != bd)=sg9∧(!(bw == bd))=sg9:=⟨_,rfl,rfl⟩
   have hz3:zz sg9 (val z0 / Nat.gcd (val z0) (val z2))=Z3:=by
    rw [←hZ3,←bF hz2]
    refine ib (fun hx=>?_)
    have e1:bw=b0:=by rw [hbw,←dP,beq_eq_false_iff_ne.2 hx,Bool.not_false,Bool.and_true]
    have e2:bd=b2:=by rw [hbd,←dP,beq_eq_false_iff_ne.2 hz2,Bool.not_false,Bool.and_true]
    rw [←hsg,e1,e2]
   have hd3:val z2 / Nat.gcd (val z0) (val z2)=D3:=by rw [←hD3,←bM hz2]
   have C12:=bW _ _ u11 hnd
   rw [show (val z2 == 0)=false by simp [hz2]] at C12
   clear hbu hxu hnd hnw hbd hbw HZD HZW
   go_wp2_with fail
   refine C12.mono ?_
   rintro e wn ⟨rfl,hw⟩;rw [hw];clear hw wn C12
   clear d0 d1
   go_upto_region 19 with fail
   obtain⟨td,htd⟩:∃td,u11.drew=td:=⟨_,rfl⟩
   have hbd:Below u11.heap.size u11 td:=by rw [←htd];exact (Below.refl _ _).drew
   replace HBB:=ah HBB hbd
   replace HCH:=ac (HCH.out.below hbd)
   replace HNC:=ac (HNC.out.below hbd)
   replace HND:=ac (HND.out.below hbd)
   replace HNW:=ac (HNW.out.below hbd)
   replace HBX:=ac (HBX.out.below hbd)
   replace HA0:=ac (HA0.out.below hbd)
   replace HA2:=ac (HA2.out.below hbd)
   replace HT:=ac (HT.out.below hbd)
   replace HW:=ah HW hbd
   clear hbd
   have KS:=ac (fun (W:World) (hg:Below td.heap.size td W)=>have h:=HBX.out.below hg;show W.cell? ⟨w10.heap.size,0,none⟩=some (.bool bc)∧W.cell? ⟨w10.heap.size,1,none⟩=some (.slice ac1 mc1 kc1)∧W.cell? ⟨w10.heap.size,2,none⟩=some (.slice ac2 mc2 kc2)∧W.cell? ⟨w11.heap.size,0,none⟩=some (.bool bw)∧W.cell? ⟨w11.heap.size,1,none⟩=some (.slice aw nw kw)∧W.cell? ⟨w9.heap.size,0,none⟩=some (.bool bd)∧W.cell? ⟨w9.heap.size,1,none⟩=some (.slice ad nd kd)∧W.cell? ⟨w7.heap.size,0,none⟩=some (.bool bb)∧W.cell? ⟨w7.heap.size,1,none⟩=some (.slice ab1 mb1 kb1)∧W.cell? ⟨w7.heap.size,2,none⟩=some (.slice ab2 mb2 kb2)∧W.cell? ⟨w6.heap.size,0,none⟩=some (.bool ba)∧W.cell? ⟨w6.heap.size,1,none⟩=some (.slice aa1 ma1 ka1)∧W.cell? ⟨w6.heap.size,2,none⟩=some (.slice aa2 ma2 ka2) from
    ⟨(tri (h 1 _ _ rfl)).1,(tri (h 1 _ _ rfl)).2.1,(tri (h 1 _ _ rfl)).2.2,(duo (h 0 _ _ rfl)).1,(duo (h 0 _ _ rfl)).2,(duo (h 2 _ _ rfl)).1,(duo (h 2 _ _ rfl)).2,(tri (h 3 _ _ rfl)).1,(tri (h 3 _ _ rfl)).2.1,(tri (h 3 _ _ rfl)).2.2,(tri (h 4 _ _ rfl)).1,(tri (h 4 _ _ rfl)).2.1,(tri (h 4 _ _ rfl)).2.2⟩)
   have KK:=ac (fun (W W' W2:World) (hg:Below td.heap.size td W) (hk:BK w5.heap.size W W') (h2:Below W'.heap.size W' W2)=>have h:=((HBX.out.below hg).bk hk (by rfl)).below h2;show W2.cell? ⟨w10.heap.size,0,none⟩=some (.bool bc)∧W2.cell? ⟨w10.heap.size,1,none⟩=some (.slice ac1 mc1 kc1)∧W2.cell? ⟨w10.heap.size,2,none⟩=some (.slice ac2 mc2 kc2)∧W2.cell? ⟨w11.heap.size,0,none⟩=some (.bool bw)∧W2.cell? ⟨w11.heap.size,1,none⟩=some (.slice aw nw kw)∧W2.cell? ⟨w9.heap.size,0,none⟩=some (.bool bd)∧W2.cell? ⟨w9.heap.size,1,none⟩=some (.slice ad nd kd)∧W2.cell? ⟨w7.heap.size,0,none⟩=some (.bool bb)∧W2.cell? ⟨w7.heap.size,1,none⟩=some (.slice ab1 mb1 kb1)∧W2.cell? ⟨w7.heap.size,2,none⟩=some (.slice ab2 mb2 kb2)∧W2.cell? ⟨w6.heap.size,0,none⟩=some (.bool ba)∧W2.cell? ⟨w6.heap.size,1,none⟩=some (.slice aa1 ma1 ka1)∧W2.cell? ⟨w6.heap.size,2,none⟩=some (.slice aa2 ma2 ka2) from
    ⟨(tri (h 1 _ _ rfl)).1,(tri (h 1 _ _ rfl)).2.1,(tri (h 1 _ _ rfl)).2.2,(duo (h 0 _ _ rfl)).1,(duo (h 0 _ _ rfl)).2,(duo (h 2 _ _ rfl)).1,(duo (h 2 _ _ rfl)).2,(tri (h 3 _ _ rfl)).1,(tri (h 3 _ _ rfl)).2.1,(tri (h 3 _ _ rfl)).2.2,(tri (h 4 _ _ rfl)).1,(tri (h 4 _ _ rfl)).2.1,(tri (h 4 _ _ rfl)).2.2⟩)
   have g0:Below td.heap.size td td:=Below.refl _ _
   have K1:=ac (fun (W:World) (hg:Below td.heap.size td W)=>fR sg9 (.slice aw nw kw) (.slice ad nd kd) (val z0) (val z2) W (HNW.out.below hg) (HND.out.below hg) hz2 (by omega) (by omega))
   rw [hz3,hd3] at K1
   have K2:=ac (fun (W:World) (b':Bool) (p1:Option Addr) (q1 r1:Nat) (p2:Option Addr) (q2 r2:Nat) (hr:Rn W (.agg #[.bool b',.slice p1 q1 r1,.slice p2 q2 r2]) Z3 D3) (hg:Below td.heap.size td W)=>bR u9.heap.size bc ac1 mc1 kc1 ac2 mc2 kc2 b' p1 q1 r1 p2 q2 r2 Z3 D3 0 W (HNC.out.below hg) hr)
   have K5:=ac (fun (W:World) (hg:Below td.heap.size td W)=>(jt W.heap.size ba aa1 ma1 ka1 aa2 ma2 ka2 bb ab1 mb1 kb1 ab2 mb2 kb2 bc ac1 mc1 kc1 ac2 mc2 kc2 w5.heap.size _ (W.alloc (.cells #[.bool ba,.slice aa1 ma1 ka1,.slice aa2 ma2 ka2,.bool bb,.slice ab1 mb1 kb1,.slice ab2 mb2 kb2,.bool bc,.slice ac1 mc1 kc1,.slice ac2 mc2 kc2] 28)) (heap_alloc_new _ _) (((HCH.out.below hg).below (bI _ _)).aparts) (by simp;omega) (Nat.le_trans HBB.out.size (fm hg _).size)).mono (fun e w' h=>(⟨h.1,h.2.after7 (bI _ _) (Nat.le_trans HBB.out.size hg.size)⟩:e=.returned (.bool true)∧BK w5.heap.size W w')))
   have K6:=ac (fun (W:World)=>eF v W hv1 hv2)
   have K7:=ac (fun (W:World)=>ig v W hv1 hv2)
   have K8:=ac (fun (W:World) (base:Nat) (b:Bool) (a1:Option Addr) (n1 k1:Nat) (a2:Option Addr) (n2 k2:Nat) (b':Bool) (p1:Option Addr) (q1 r1:Nat) (p2:Option Addr) (q2 r2:Nat) (h:TR W base b (.slice a1 n1 k1) (.slice a2 n2 k2) v 1) (hr:Rn W (.agg #[.bool b',.slice p1 q1 r1,.slice p2 q2 r2]) v 1)=>gN base b a1 n1 k1 a2 n2 k2 b' p1 q1 r1 p2 q2 r2 v 1 W h hr (Nat.le_trans ((blen_le_iff v.natAbs 64).2 (by omega)) (by decide)) (Nat.le_trans ((blen_le_iff 1 1).2 (by decide)) (by decide)))
   have K9:=ac (fun (W:World) (hg:Below w5.heap.size w5 W)=>ez W (HTB.out.below hg))
   clear hu11
   subst htd
   go_region_held3 (fun w'=>w'.cell? ⟨w10.heap.size,0,none⟩=some (.bool bc)∧w'.cell? ⟨w10.heap.size,1,none⟩=some (.slice ac1 mc1 kc1)∧w'.cell? ⟨w10.heap.size,2,none⟩=some (.slice ac2 mc2 kc2)∧w'.cell? ⟨w11.heap.size,0,none⟩=some (.bool bw)∧w'.cell? ⟨w11.heap.size,1,none⟩=some (.slice aw nw kw)∧w'.cell? ⟨w9.heap.size,0,none⟩=some (.bool bd)∧w'.cell? ⟨w9.heap.size,1,none⟩=some (.slice ad nd kd)∧w'.cell? ⟨w7.heap.size,0,none⟩=some (.bool bb)∧w'.cell? ⟨w7.heap.size,1,none⟩=some (.slice ab1 mb1 kb1)∧w'.cell? ⟨w7.heap.size,2,none⟩=some (.slice ab2 mb2 kb2)∧w'.cell? ⟨w6.heap.size,0,none⟩=some (.bool ba)∧w'.cell? ⟨w6.heap.size,1,none⟩=some (.slice aa1 ma1 ka1)∧w'.cell? ⟨w6.heap.size,2,none⟩=some (.slice aa2 ma2 ka2)) (first|with_reducible exact KK.out _ _ _ g2 hk3 k7|with_reducible exact KK.out _ _ _ g2 hk3 k6|with_reducible exact KK.out _ _ _ g2 hk3 k5|with_reducible exact KK.out _ _ _ g2 hk3 k4|with_reducible exact KK.out _ _ _ g2 hk3 (Below.refl _ _) | with_reducible exact KS.out _ g2|with_reducible exact KS.out _ (fm g2 _) | with_reducible exact KS.out _ g1|with_reducible exact KS.out _ g0) (first
    | (go_at_call 19;refine (K1.out _ g0).mono ?_;rintro e' t1 ⟨⟨b8,a8,n8,k8,a9,n9,k9,rfl,y1⟩,hb1⟩;have g1:=ae g0 hb1)
    | (go_at_call 8;refine (K8.out t5 _ b5 a5 n5 j5 a6 n6 j6 b7 a7 n7 j7 aq nq jq (y4.below hb5) y5).mono ?_;rintro e' t6 ⟨rfl,hb6⟩;have k6:=ae k5 hb6)
    | (go_at_call 8;refine (K2.out t1 b8 a8 n8 k8 a9 n9 k9 y1 g1).mono ?_;rintro e' t2 ⟨rfl,hb2⟩;have g2:=ae g1 hb2)
    | (go_at_call 9;refine (K5.out t2 g2).mono ?_;rintro e' t3 ⟨rfl,hk3⟩;have g3:=(ae HBB.out g2).trans hk3.below)
    | (go_at_call 20;refine (K6.out t3).mono ?_;rintro e' t4 ⟨⟨b5,a5,n5,j5,a6,n6,j6,rfl,y4⟩,hb4⟩;have k4:=hb4)
    | (go_at_call 21;refine (K7.out t4).mono ?_;rintro e' t5 ⟨⟨b7,a7,n7,j7,aq,nq,jq,rfl,y5⟩,hb5⟩;have k5:=ae k4 hb5)
    | (go_at_call 5;refine (K9.out _ (ae g3 k6)).mono ?_;rintro e' t7 ⟨rfl,hb7⟩;have k7:=ae k6 hb7))
   have HFIN:=ac (ae HWB.out (ae g3 k7))
   clear hb1 hb2 hb4 hb5 hb6 hb7 hk3 g0 g1 g2 g3 k4 k5 k6 k7 KK KS
   go_wp2
   go_ret
   exact⟨rfl,HFIN.out⟩
 ·skip
  go_enter Tryz.func4,Tryz.ntmps4
  go_wp2_with fail
  refine C1.mono ?_
  rintro e w1 ⟨⟨bx,ax,nx,kx,ay,ny,ky,rfl,hx⟩,hb⟩
  have HX:=ac hx
  replace HBX:=ac (HBX.out.below hb)
  replace HA0:=ac (HA0.out.below hb)
  replace HA1:=ac (HA1.out.below hb)
  replace HA2:=ac (HA2.out.below hb)
  replace HT:=ac (HT.out.below hb)
  replace HW:=ah HW hb
  clear C1 hx hb c0 c1 c2 d0 d1 hw0
  obtain⟨u1,hu1,hbu,hxu⟩:=am w1 (.cells #[.bool bx,.slice ax nx kx,.slice ay ny ky] 31)
  replace HBX:=ac (HBX.out.below hbu)
  replace HA0:=ac (HA0.out.below hbu)
  replace HA1:=ac (HA1.out.below hbu)
  replace HA2:=ac (HA2.out.below hbu)
  replace HT:=ac (HT.out.below hbu)
  replace HX:=ac (HX.out.below hbu)
  replace HW:=ah HW hbu
  replace HBX:=ac (HBX.out.cons hxu)
  obtain⟨c0,c1,c2⟩:=tri (HBX.out 2 _ _ rfl)
  have C2:=d9 b0 _ _ z0 z1 u1 HA0.out HA1.out HT.out s0 s1
  rw [hZ,hD,hc] at C2
  have HBB:Hid (Below u1.heap.size u1 u1):=ac (Below.refl _ _)
  have HAB0:=HA0
  have HAB1:=HA1
  have HAB2:=HA2
  have HTB:=HT
  have HXB:=HX
  have HWB:=HW
  clear hbu hxu
  go_wp2_with fail
  refine C2.mono ?_
  rintro e w2 ⟨⟨bn,p1,m1,l1,p2,m2,l2,rfl,hn⟩,hb⟩
  have HN:=ac hn
  replace HBB:=ah HBB hb
  replace HBX:=ac (HBX.out.below hb)
  replace HA0:=ac (HA0.out.below hb)
  replace HA1:=ac (HA1.out.below hb)
  replace HA2:=ac (HA2.out.below hb)
  replace HT:=ac (HT.out.below hb)
  replace HX:=ac (HX.out.below hb)
  replace HW:=ah HW hb
  clear C2 hn hb hu1 c0 c1 c2
  obtain⟨u2,hu2,hbu,hxu⟩:=am w2 (.cells #[.bool bn,.slice p1 m1 l1,.slice p2 m2 l2] 28)
  replace HBB:=ah HBB hbu
  replace HN:=ac (HN.out.below hbu)
  replace HBX:=ac (HBX.out.below hbu)
  replace HA0:=ac (HA0.out.below hbu)
  replace HA1:=ac (HA1.out.below hbu)
  replace HA2:=ac (HA2.out.below hbu)
  replace HT:=ac (HT.out.below hbu)
  replace HX:=ac (HX.out.below hbu)
  replace HW:=ah HW hbu
  replace HBX:=ac (HBX.out.cons hxu)
  obtain⟨c0,c1,c2⟩:=tri (HBX.out 3 _ _ rfl)
  have C3:=d9 b0 _ _ z0 z1 u2 HA0.out HA1.out HT.out s0 s1
  rw [hZ,hD,hc] at C3
  obtain⟨r1,r2,hch,hl1,hl2⟩:=HN.out.chain HBB.out.size
  have HCH:=ac hch
  clear hbu hxu hch
  go_wp2_with fail
  refine C3.mono ?_
  rintro e w3 ⟨⟨bm,q1,i1,j1,q2,i2,j2,rfl,hm⟩,hb⟩
  obtain⟨r3,r4,hch,hl3,hl4⟩:=hm.chain hb.size
  replace HCH:=ac (aD.app7 hb hch HCH.out HBB.out.size)
  replace HBB:=ah HBB hb
  replace HN:=ac (HN.out.below hb)
  replace HBX:=ac (HBX.out.below hb)
  replace HA0:=ac (HA0.out.below hb)
  replace HA1:=ac (HA1.out.below hb)
  replace HA2:=ac (HA2.out.below hb)
  replace HT:=ac (HT.out.below hb)
  replace HX:=ac (HX.out.below hb)
  replace HW:=ah HW hb
  clear C3 hm hb hu2 c0 c1 c2 hch
  obtain⟨u3,hu3,hbu,hxu⟩:=am w3 (.cells #[.bool bm,.slice q1 i1 j1,.slice q2 i2 j2] 28)
  replace HBB:=ah HBB hbu
  replace HN:=ac (HN.out.below hbu)
  replace HCH:=ac (HCH.out.below hbu)
  replace HBX:=ac (HBX.out.below hbu)
  replace HA0:=ac (HA0.out.below hbu)
  replace HA1:=ac (HA1.out.below hbu)
  replace HA2:=ac (HA2.out.below hbu)
  replace HT:=ac (HT.out.below hbu)
  replace HX:=ac (HX.out.below hbu)
  replace HW:=ah HW hbu
  replace HBX:=ac (HBX.out.cons hxu)
  obtain⟨c0,c1,c2⟩:=tri (HBX.out 1 _ _ rfl)
  obtain⟨e0,e1,e2⟩:=tri (HBX.out 2 _ _ rfl)
  have C4:=bR u1.heap.size bn p1 m1 l1 p2 m2 l2 bx ax nx kx ay ny ky Z D 70 u3 HN.out HX.out
  clear hbu hxu HN
  go_wp2_with fail
  refine C4.mono ?_
  rintro e w4 ⟨rfl,hb⟩
  replace HBB:=ah HBB hb
  replace HCH:=ac (HCH.out.below hb)
  replace HBX:=ac (HBX.out.below hb)
  replace HA0:=ac (HA0.out.below hb)
  replace HA1:=ac (HA1.out.below hb)
  replace HA2:=ac (HA2.out.below hb)
  replace HT:=ac (HT.out.below hb)
  replace HX:=ac (HX.out.below hb)
  replace HW:=ah HW hb
  clear C4 hb hu3 c0 c1 c2 e0 e1 e2
  obtain⟨c0,c1,c2⟩:=tri (HBX.out 1 _ _ rfl)
  obtain⟨e0,e1,e2⟩:=tri (HBX.out 0 _ _ rfl)
  obtain⟨u4,hu4,hbu,hxu⟩:=am w4 (.cells #[.bool bn,.slice p1 m1 l1,.slice p2 m2 l2,.bool bm,.slice q1 i1 j1,.slice q2 i2 j2] 28)
  replace HBB:=ah HBB hbu
  replace HCH:=ac (HCH.out.below hbu)
  replace HBX:=ac (HBX.out.below hbu)
  have C5:=gW w4.heap.size bn p1 m1 l1 p2 m2 l2 bm q1 i1 j1 q2 i2 j2 u1.heap.size _ u4 hxu HCH.out.aparts (by simp;omega) HBB.out.size
  clear hbu hxu HCH
  go_wp2_with fail
  refine C5.mono ?_
  rintro e w5 ⟨rfl,hk⟩
  have hbw:=HBB.out.trans hk.below
  replace HBX:=ac (HBX.out.bk hk (by rfl))
  replace HA0:=ac (HAB0.out.below hbw)
  replace HA1:=ac (HAB1.out.below hbw)
  replace HA2:=ac (HAB2.out.below hbw)
  replace HT:=ac (HTB.out.below hbw)
  replace HX:=ac (HXB.out.below hbw)
  replace HW:=ah HWB hbw
  clear C5 hk hbw hu4 HBB HAB0 HAB1 HAB2 HTB HXB HWB c0 c1 c2 e0 e1 e2 hl1 hl2 hl3 hl4
  have HBB:Hid (Below w5.heap.size w5 w5):=ac (Below.refl _ _)
  have HTB:=HT
  have HWB:=HW
  obtain⟨c0,c1,c2⟩:=tri (HBX.out 4 _ _ rfl)
  have C6:=gX b0 _ _ z0 z1 w5 HA0.out HA1.out HT.out s0 s1
  rw [hZ,hD,hc] at C6
  go_wp2_with fail
  refine C6.mono ?_
  rintro e w6 ⟨⟨ba,aa1,ma1,ka1,aa2,ma2,ka2,rfl,ha⟩,hb⟩
  have HNA:=ac ha
  replace HBB:=ah HBB hb
  replace HBX:=ac (HBX.out.below hb)
  replace HA0:=ac (HA0.out.below hb)
  replace HA1:=ac (HA1.out.below hb)
  replace HA2:=ac (HA2.out.below hb)
  replace HT:=ac (HT.out.below hb)
  replace HX:=ac (HX.out.below hb)
  replace HW:=ah HW hb
  clear C6 ha hb c0 c1 c2
  obtain⟨u6,hu6,hbu,hxu⟩:=am w6 (.cells #[.bool ba,.slice aa1 ma1 ka1,.slice aa2 ma2 ka2] 28)
  replace HBB:=ah HBB hbu
  replace HNA:=ac (HNA.out.below hbu)
  replace HBX:=ac (HBX.out.below hbu)
  replace HA0:=ac (HA0.out.below hbu)
  replace HA1:=ac (HA1.out.below hbu)
  replace HA2:=ac (HA2.out.below hbu)
  replace HT:=ac (HT.out.below hbu)
  replace HX:=ac (HX.out.below hbu)
  replace HW:=ah HW hbu
  replace HBX:=ac (HBX.out.cons hxu)
  obtain⟨c0,c1,c2⟩:=tri (HBX.out 5 _ _ rfl)
  have C7:=jE b0 _ _ z0 z1 u6 HA0.out HA1.out HT.out s0 s1
  rw [hZ,hD,hc] at C7
  obtain⟨r1,r2,hch,hl1,hl2⟩:=HNA.out.chain HBB.out.size
  have HCH:=ac hch
  clear hbu hxu hch
  go_wp2_with fail
  refine C7.mono ?_
  rintro e w7 ⟨⟨bb,ab1,mb1,kb1,ab2,mb2,kb2,rfl,hm⟩,hb⟩
  obtain⟨r3,r4,hch,hl3,hl4⟩:=hm.chain hb.size
  replace HCH:=ac (aD.app7 hb hch HCH.out HBB.out.size)
  replace HBB:=ah HBB hb
  replace HNA:=ac (HNA.out.below hb)
  have HNB:=ac hm
  replace HBX:=ac (HBX.out.below hb)
  replace HA0:=ac (HA0.out.below hb)
  replace HA1:=ac (HA1.out.below hb)
  replace HA2:=ac (HA2.out.below hb)
  replace HT:=ac (HT.out.below hb)
  replace HX:=ac (HX.out.below hb)
  replace HW:=ah HW hb
  clear C7 hm hb hu6 c0 c1 c2 hch
  obtain⟨u7,hu7,hbu,hxu⟩:=am w7 (.cells #[.bool bb,.slice ab1 mb1 kb1,.slice ab2 mb2 kb2] 28)
  replace HBB:=ah HBB hbu
  replace HNA:=ac (HNA.out.below hbu)
  replace HNB:=ac (HNB.out.below hbu)
  replace HCH:=ac (HCH.out.below hbu)
  replace HBX:=ac (HBX.out.below hbu)
  replace HA0:=ac (HA0.out.below hbu)
  replace HA1:=ac (HA1.out.below hbu)
  replace HA2:=ac (HA2.out.below hbu)
  replace HT:=ac (HT.out.below hbu)
  replace HX:=ac (HX.out.below hbu)
  replace HW:=ah HW hbu
  replace HBX:=ac (HBX.out.cons hxu)
  obtain⟨c0,c1,c2⟩:=tri (HBX.out 6 _ _ rfl)
  have C8:=g7 b0 _ _ z0 z1 u7 HA0.out HA1.out
  rw [hZ,hc] at C8
  clear hbu hxu
  go_wp2_with fail
  refine C8.mono ?_
  rintro e w8 ⟨rfl,hb⟩
  replace HBB:=ah HBB hb
  replace HNA:=ac (HNA.out.below hb)
  replace HNB:=ac (HNB.out.below hb)
  replace HCH:=ac (HCH.out.below hb)
  replace HBX:=ac (HBX.out.below hb)
  replace HA0:=ac (HA0.out.below hb)
  replace HA1:=ac (HA1.out.below hb)
  replace HA2:=ac (HA2.out.below hb)
  replace HT:=ac (HT.out.below hb)
  replace HX:=ac (HX.out.below hb)
  replace HW:=ah HW hb
  clear C8 hb hu7 c0 c1 c2
  go_upto_region 12 with fail
  obtain⟨td,htd⟩:∃td,w8.drew=td:=⟨_,rfl⟩
  have hbd:Below w8.heap.size w8 td:=by rw [←htd];exact (Below.refl _ _).drew
  replace HBB:=ah HBB hbd
  replace HNA:=ac (HNA.out.below hbd)
  replace HNB:=ac (HNB.out.below hbd)
  replace HCH:=ac (HCH.out.below hbd)
  replace HBX:=ac (HBX.out.below hbd)
  replace HA0:=ac (HA0.out.below hbd)
  replace HA1:=ac (HA1.out.below hbd)
  replace HA2:=ac (HA2.out.below hbd)
  replace HT:=ac (HT.out.below hbd)
  replace HX:=ac (HX.out.below hbd)
  replace HW:=ah HW hbd
  clear hbd
  have KS:=ac (fun (W:World) (hg:Below td.heap.size td W)=>have h:=HBX.out.below hg;show W.cell? ⟨w6.heap.size,0,none⟩=some (.bool ba)∧W.cell? ⟨w6.heap.size,1,none⟩=some (.slice aa1 ma1 ka1)∧W.cell? ⟨w6.heap.size,2,none⟩=some (.slice aa2 ma2 ka2)∧W.cell? ⟨w7.heap.size,0,none⟩=some (.bool bb)∧W.cell? ⟨w7.heap.size,1,none⟩=some (.slice ab1 mb1 kb1)∧W.cell? ⟨w7.heap.size,2,none⟩=some (.slice ab2 mb2 kb2)∧W.cell? ⟨w1.heap.size,0,none⟩=some (.bool bx)∧W.cell? ⟨w1.heap.size,1,none⟩=some (.slice ax nx kx)∧W.cell? ⟨w1.heap.size,2,none⟩=some (.slice ay ny ky) from
   ⟨(tri (h 1 _ _ rfl)).1,(tri (h 1 _ _ rfl)).2.1,(tri (h 1 _ _ rfl)).2.2,(tri (h 0 _ _ rfl)).1,(tri (h 0 _ _ rfl)).2.1,(tri (h 0 _ _ rfl)).2.2,(tri (h 4 _ _ rfl)).1,(tri (h 4 _ _ rfl)).2.1,(tri (h 4 _ _ rfl)).2.2⟩)
  have g0:Below td.heap.size td td:=Below.refl _ _
  have K1:=ac (fun (W:World) (hg:Below td.heap.size td W)=>jM bx ax nx kx ay ny ky Z D W (HX.out.below hg))
  have K2:=ac (fun (W:World) (b':Bool) (p1:Option Addr) (q1 r1:Nat) (p2:Option Addr) (q2 r2:Nat) (hr:Rn W (.agg #[.bool b',.slice p1 q1 r1,.slice p2 q2 r2]) (-Z) D) (hg:Below td.heap.size td W)=>bR w5.heap.size ba aa1 ma1 ka1 aa2 ma2 ka2 b' p1 q1 r1 p2 q2 r2 (-Z) D 70 W (HNA.out.below hg) hr)
  have K3:=ac (fun (W:World) (hg:Below td.heap.size td W)=>iT bx ax nx kx ay ny ky Z D W (HX.out.below hg))
  have K4:=ac (fun (W:World) (b':Bool) (p1:Option Addr) (q1 r1:Nat) (p2:Option Addr) (q2 r2:Nat) (hr:Rn W (.agg #[.bool b',.slice p1 q1 r1,.slice p2 q2 r2]) (Z.natAbs:Int) D) (hg:Below td.heap.size td W)=>bR u6.heap.size bb ab1 mb1 kb1 ab2 mb2 kb2 b' p1 q1 r1 p2 q2 r2 (Z.natAbs:Int) D 70 W (HNB.out.below hg) hr)
  have K5:=ac (fun (W:World) (hg:Below td.heap.size td W)=>gf bx ax nx kx ay ny ky Z D W (HX.out.below hg))
  subst htd
  go_region_held3 (fun w'=>w'.cell? ⟨w6.heap.size,0,none⟩=some (.bool ba)∧w'.cell? ⟨w6.heap.size,1,none⟩=some (.slice aa1 ma1 ka1)∧w'.cell? ⟨w6.heap.size,2,none⟩=some (.slice aa2 ma2 ka2)∧w'.cell? ⟨w7.heap.size,0,none⟩=some (.bool bb)∧w'.cell? ⟨w7.heap.size,1,none⟩=some (.slice ab1 mb1 kb1)∧w'.cell? ⟨w7.heap.size,2,none⟩=some (.slice ab2 mb2 kb2)∧w'.cell? ⟨w1.heap.size,0,none⟩=some (.bool bx)∧w'.cell? ⟨w1.heap.size,1,none⟩=some (.slice ax nx kx)∧w'.cell? ⟨w1.heap.size,2,none⟩=some (.slice ay ny ky)) (first|with_reducible exact KS.out _ g5|with_reducible exact KS.out _ g4|with_reducible exact KS.out _ g3|with_reducible exact KS.out _ g2|with_reducible exact KS.out _ g1|with_reducible exact KS.out _ g0) (first
   | (go_at_call 13;refine (K1.out _ g0).mono ?_;rintro e' t1 ⟨⟨b8,a8,n8,k8,a9,n9,k9,rfl,y1⟩,hb1⟩;have g1:=ae g0 hb1)
   | (go_at_call 8;refine (K4.out t3 b6 a6 n6 k6 a7 n7 k7 y3 g3).mono ?_;rintro e' t4 ⟨rfl,hb4⟩;have g4:=ae g3 hb4)
   | (go_at_call 8;refine (K2.out t1 b8 a8 n8 k8 a9 n9 k9 y1 g1).mono ?_;rintro e' t2 ⟨rfl,hb2⟩;have g2:=ae g1 hb2)
   | (go_at_call 14;refine (K3.out _ g2).mono ?_;rintro e' t3 ⟨⟨b6,a6,n6,k6,a7,n7,k7,rfl,y3⟩,hb3⟩;have g3:=ae g2 hb3)
   | (go_at_call 15;refine (K5.out _ g4).mono ?_;rintro e' t5 ⟨rfl,hb5⟩;have g5:=ae g4 hb5))
  replace HBB:=ah HBB g5
  replace HCH:=ac (HCH.out.below g5)
  replace HBX:=ac (HBX.out.below g5)
  replace HA0:=ac (HA0.out.below g5)
  replace HA1:=ac (HA1.out.below g5)
  replace HA2:=ac (HA2.out.below g5)
  replace HT:=ac (HT.out.below g5)
  replace HX:=ac (HX.out.below g5)
  replace HW:=ah HW g5
  clear K1 K2 K3 K4 K5 KS hb1 hb2 hb3 hb4 hb5 g0 g1 g2 g3 g4 g5 y1 y3 HNA HNB HX hZ hD hc
  obtain⟨d0,d1⟩:=duo (HBX.out 5 _ _ rfl)
  have C9:=dz b2 _ z2 t5 HA2.out (by omega)
  go_wp2_with fail
  refine C9.mono ?_
  rintro e w9 ⟨⟨bd,ad,nd,kd,rfl,hzd⟩,hb⟩
  have HZD:=ac hzd
  replace HBB:=ah HBB hb
  replace HCH:=ac (HCH.out.below hb)
  replace HBX:=ac (HBX.out.below hb)
  replace HA0:=ac (HA0.out.below hb)
  replace HA2:=ac (HA2.out.below hb)
  replace HT:=ac (HT.out.below hb)
  replace HW:=ah HW hb
  clear C9 hzd hb d0 d1
  obtain⟨u9,hu9,hbu,hxu⟩:=am w9 (.cells #[.bool bd,.slice ad nd kd] 44)
  replace HZD:=ac (HZD.out.below hbu)
  replace HBB:=ah HBB hbu
  replace HCH:=ac (HCH.out.below hbu)
  replace HBX:=ac (HBX.out.below hbu)
  replace HA0:=ac (HA0.out.below hbu)
  replace HA2:=ac (HA2.out.below hbu)
  replace HT:=ac (HT.out.below hbu)
  replace HW:=ah HW hbu
  replace HBX:=ac (HBX.out.cons hxu)
  obtain⟨c0,c1,c2⟩:=tri (HBX.out 7 _ _ rfl)
  obtain⟨d0,d1⟩:=duo (HBX.out 6 _ _ rfl)
  have C10:=jF b0 b2 _ _ z0 z2 u9 HA0.out HA2.out HT.out s0 s2
  obtain⟨Z3,hZ3⟩:∃Z3,zc (b0 != b2) (val z0) (val z2)=Z3:=⟨_,rfl⟩
  obtain⟨D3,hD3⟩:∃D3,dc (val z0) (val z2)=D3:=⟨_,rfl⟩
  rw [hZ3,hD3] at C10
  clear hbu hxu
  by_cases hz2:val z2=0
  ·rw [cN hz2] at C10
   go_wp2_with fail
   refine C10.mono ?_
   rintro e w10 ⟨⟨bc,ac1,mc1,kc1,ac2,mc2,kc2,rfl,hcc⟩,hb⟩
   have HNC:=ac hcc
   obtain rfl:Z3=0:=by rw [←hZ3];exact if_pos hz2
   obtain rfl:D3=0:=by rw [←hD3];exact if_pos hz2
   replace HZD:=ac (HZD.out.below hb)
   replace HBX:=ac (HBX.out.below hb)
   replace HA0:=ac (HA0.out.below hb)
   replace HA2:=ac (HA2.out.below hb)
   replace HT:=ac (HT.out.below hb)
   replace HW:=ah HW hb
   clear C10 hcc hb hu9 c0 c1 c2 d0 d1 HBB HCH
   obtain⟨u10,hu10,hbu,hxu⟩:=am w10 (.cells #[.bool bc,.slice ac1 mc1 kc1,.slice ac2 mc2 kc2] 28)
   replace HNC:=ac (HNC.out.below hbu)
   replace HZD:=ac (HZD.out.below hbu)
   replace HBX:=ac (HBX.out.below hbu)
   replace HA0:=ac (HA0.out.below hbu)
   replace HA2:=ac (HA2.out.below hbu)
   replace HT:=ac (HT.out.below hbu)
   replace HW:=ah HW hbu
   replace HBX:=ac (HBX.out.cons hxu)
   obtain⟨c0,c1,c2⟩:=tri (HBX.out 8 _ _ rfl)
   have C11:=dz b0 _ z0 u10 HA0.out (by omega)
   clear hbu hxu
   go_wp2_with fail
   refine C11.mono ?_
   rintro e w11 ⟨⟨bw,aw,nw,kw,rfl,_⟩,hb⟩
   replace HNC:=ac (HNC.out.below hb)
   replace HZD:=ac (HZD.out.below hb)
   replace HBX:=ac (HBX.out.below hb)
   replace HA0:=ac (HA0.out.below hb)
   replace HA2:=ac (HA2.out.below hb)
   replace HT:=ac (HT.out.below hb)
   replace HW:=ah HW hb
   clear C11 hb hu10 c0 c1 c2
   obtain⟨u11,hu11,hbu,hxu⟩:=am w11 (.cells #[.bool bw,.slice aw nw kw] 44)
   replace HZD:=ac (HZD.out.below hbu)
   replace HNC:=ac (HNC.out.below hbu)
   replace HBX:=ac (HBX.out.below hbu)
   replace HA0:=ac (HA0.out.below hbu)
   replace HA2:=ac (HA2.out.below hbu)
   replace HT:=ac (HT.out.below hbu)
   replace HW:=ah HW hbu
   replace HBX:=ac (HBX.out.cons hxu)
   obtain⟨d0,d1⟩:=duo (HBX.out 2 _ _ rfl)
   obtain⟨c0,c1,c2⟩:=tri (HBX.out 1 _ _ rfl)
   obtain⟨ud,hud,hnd⟩:=HZD.out
   simp only [Value.agg.injEq,Array.mk.injEq,List.cons.injEq,Value.bool.injEq,and_true] at hud
   obtain⟨_,rfl⟩:=hud
   rw [aY] at hnd
   have C12:=bW _ _ u11 hnd
   rw [show (val z2 == 0)=true by simp [hz2]] at C12
   have C13:=bR u9.heap.size bc ac1 mc1 kc1 ac2 mc2 kc2 false none 0 0 none 0 0 0 0 70 u11 HNC.out ⟨_,_,rfl,Num.nil _,Num.nil _⟩
   clear hbu hxu hnd
   go_wp2_with fail
   refine C12.mono ?_
   rintro e wn ⟨rfl,hw⟩;rw [hw];clear hw wn C12
   go_wp2_with fail
   refine C13.mono ?_
   rintro e w13 ⟨rfl,hb⟩
   have C14:=ez w13 (HT.out.below hb)
   replace HW:=ah HW hb
   clear C13 hb hu11 c0 c1 c2 d0 d1
   go_wp2_with fail
   refine C14.mono ?_
   rintro e w14 ⟨rfl,hb⟩
   replace HW:=ah HW hb
   clear C14 hb
   go_wp2
   go_ret
   exact⟨rfl,HW.out⟩
  ·rw [cM hz2] at C10
   go_wp2_with fail
   refine C10.mono ?_
   rintro e w10 ⟨⟨bc,ac1,mc1,kc1,ac2,mc2,kc2,rfl,hcc⟩,hb⟩
   obtain⟨r5,r6,hch,hl5,hl6⟩:=hcc.chain hb.size
   replace HCH:=ac (aD.app7 hb hch HCH.out HBB.out.size)
   replace HZD:=ac (HZD.out.below hb)
   replace HBB:=ah HBB hb
   have HNC:=ac hcc
   replace HBX:=ac (HBX.out.below hb)
   replace HA0:=ac (HA0.out.below hb)
   replace HA2:=ac (HA2.out.below hb)
   replace HT:=ac (HT.out.below hb)
   replace HW:=ah HW hb
   clear C10 hcc hch hb hu9 c0 c1 c2 d0 d1
   obtain⟨u10,hu10,hbu,hxu⟩:=am w10 (.cells #[.bool bc,.slice ac1 mc1 kc1,.slice ac2 mc2 kc2] 28)
   replace HZD:=ac (HZD.out.below hbu)
   replace HBB:=ah HBB hbu
   replace HCH:=ac (HCH.out.below hbu)
   replace HNC:=ac (HNC.out.below hbu)
   replace HBX:=ac (HBX.out.below hbu)
   replace HA0:=ac (HA0.out.below hbu)
   replace HA2:=ac (HA2.out.below hbu)
   replace HT:=ac (HT.out.below hbu)
   replace HW:=ah HW hbu
   replace HBX:=ac (HBX.out.cons hxu)
   obtain⟨c0,c1,c2⟩:=tri (HBX.out 8 _ _ rfl)
   have C11:=dz b0 _ z0 u10 HA0.out (by omega)
   clear hbu hxu
   go_wp2_with fail
   refine C11.mono ?_
   rintro e w11 ⟨⟨bw,aw,nw,kw,rfl,hzw⟩,hb⟩
   have HZW:=ac hzw
   replace HZD:=ac (HZD.out.below hb)
   replace HBB:=ah HBB hb
   replace HCH:=ac (HCH.out.below hb)
   replace HNC:=ac (HNC.out.below hb)
   replace HBX:=ac (HBX.out.below hb)
   replace HA0:=ac (HA0.out.below hb)
   replace HA2:=ac (HA2.out.below hb)
   replace HT:=ac (HT.out.below hb)
   replace HW:=ah HW hb
   clear C11 hzw hb hu10 c0 c1 c2
   obtain⟨u11,hu11,hbu,hxu⟩:=am w11 (.cells #[.bool bw,.slice aw nw kw] 44)
   replace HZW:=ac (HZW.out.below hbu)
   replace HZD:=ac (HZD.out.below hbu)
   replace HBB:=ah HBB hbu
   replace HCH:=ac (HCH.out.below hbu)
   replace HNC:=ac (HNC.out.below hbu)
   replace HBX:=ac (HBX.out.below hbu)
   replace HA0:=ac (HA0.out.below hbu)
   replace HA2:=ac (HA2.out.below hbu)
   replace HT:=ac (HT.out.below hbu)
   replace HW:=ah HW hbu
   replace HBX:=ac (HBX.out.cons hxu)
   obtain⟨d0,d1⟩:=duo (HBX.out 2 _ _ rfl)
   obtain⟨ud,hud,hnd⟩:=HZD.out
   simp only [Value.agg.injEq,Array.mk.injEq,List.cons.injEq,Value.bool.injEq,and_true] at hud
   obtain⟨hbd,rfl⟩:=hud
   obtain⟨uw,huw,hnw⟩:=HZW.out
   simp only [Value.agg.injEq,Array.mk.injEq,List.cons.injEq,Value.bool.injEq,and_true] at huw
   obtain⟨hbw,rfl⟩:=huw
   rw [aY] at hnd hnw
   have HND:=ac hnd
   have HNW:=ac hnw
   obtain⟨sg9,hsg,hsg2⟩:∃sg9,(bw != bd)=sg9∧(!(bw == bd))=sg9:=⟨_,rfl,rfl⟩
   have hz3:zz sg9 (val z0 / Nat.gcd (val z0) (val z2))=Z3:=by
    rw [←hZ3,←bF hz2]
    refine ib (fun hx=>?_)
    have e1:bw=b0:=by rw [hbw,←dP,beq_eq_false_iff_ne.2 hx,Bool.not_false,Bool.and_true]
    have e2:bd=b2:=by rw [hbd,←dP,beq_eq_false_iff_ne.2 hz2,Bool.not_false,Bool.and_true]
    rw [←hsg,e1,e2]
   have hd3:val z2 / Nat.gcd (val z0) (val z2)=D3:=by rw [←hD3,←bM hz2]
   have C12:=bW _ _ u11 hnd
   rw [show (val z2 == 0)=false by simp [hz2]] at C12
   clear hbu hxu hnd hnw hbd hbw HZD HZW
   go_wp2_with fail
   refine C12.mono ?_
   rintro e wn ⟨rfl,hw⟩;rw [hw];clear hw wn C12
   clear d0 d1
   go_upto_region 19 with fail
   obtain⟨td,htd⟩:∃td,u11.drew=td:=⟨_,rfl⟩
   have hbd:Below u11.heap.size u11 td:=by rw [←htd];exact (Below.refl _ _).drew
   replace HBB:=ah HBB hbd
   replace HCH:=ac (HCH.out.below hbd)
   replace HNC:=ac (HNC.out.below hbd)
   replace HND:=ac (HND.out.below hbd)
   replace HNW:=ac (HNW.out.below hbd)
   replace HBX:=ac (HBX.out.below hbd)
   replace HA0:=ac (HA0.out.below hbd)
   replace HA2:=ac (HA2.out.below hbd)
   replace HT:=ac (HT.out.below hbd)
   replace HW:=ah HW hbd
   clear hbd
   have KS:=ac (fun (W:World) (hg:Below td.heap.size td W)=>have h:=HBX.out.below hg;show W.cell? ⟨w10.heap.size,0,none⟩=some (.bool bc)∧W.cell? ⟨w10.heap.size,1,none⟩=some (.slice ac1 mc1 kc1)∧W.cell? ⟨w10.heap.size,2,none⟩=some (.slice ac2 mc2 kc2)∧W.cell? ⟨w11.heap.size,0,none⟩=some (.bool bw)∧W.cell? ⟨w11.heap.size,1,none⟩=some (.slice aw nw kw)∧W.cell? ⟨w9.heap.size,0,none⟩=some (.bool bd)∧W.cell? ⟨w9.heap.size,1,none⟩=some (.slice ad nd kd)∧W.cell? ⟨w7.heap.size,0,none⟩=some (.bool bb)∧W.cell? ⟨w7.heap.size,1,none⟩=some (.slice ab1 mb1 kb1)∧W.cell? ⟨w7.heap.size,2,none⟩=some (.slice ab2 mb2 kb2)∧W.cell? ⟨w6.heap.size,0,none⟩=some (.bool ba)∧W.cell? ⟨w6.heap.size,1,none⟩=some (.slice aa1 ma1 ka1)∧W.cell? ⟨w6.heap.size,2,none⟩=some (.slice aa2 ma2 ka2) from
    ⟨(tri (h 1 _ _ rfl)).1,(tri (h 1 _ _ rfl)).2.1,(tri (h 1 _ _ rfl)).2.2,(duo (h 0 _ _ rfl)).1,(duo (h 0 _ _ rfl)).2,(duo (h 2 _ _ rfl)).1,(duo (h 2 _ _ rfl)).2,(tri (h 3 _ _ rfl)).1,(tri (h 3 _ _ rfl)).2.1,(tri (h 3 _ _ rfl)).2.2,(tri (h 4 _ _ rfl)).1,(tri (h 4 _ _ rfl)).2.1,(tri (h 4 _ _ rfl)).2.2⟩)
   have KK:=ac (fun (W W' W2:World) (hg:Below td.heap.size td W) (hk:BK w5.heap.size W W') (h2:Below W'.heap.size W' W2)=>have h:=((HBX.out.below hg).bk hk (by rfl)).below h2;show W2.cell? ⟨w10.heap.size,0,none⟩=some (.bool bc)∧W2.cell? ⟨w10.heap.size,1,none⟩=some (.slice ac1 mc1 kc1)∧W2.cell? ⟨w10.heap.size,2,none⟩=some (.slice ac2 mc2 kc2)∧W2.cell? ⟨w11.heap.size,0,none⟩=some (.bool bw)∧W2.cell? ⟨w11.heap.size,1,none⟩=some (.slice aw nw kw)∧W2.cell? ⟨w9.heap.size,0,none⟩=some (.bool bd)∧W2.cell? ⟨w9.heap.size,1,none⟩=some (.slice ad nd kd)∧W2.cell? ⟨w7.heap.size,0,none⟩=some (.bool bb)∧W2.cell? ⟨w7.heap.size,1,none⟩=some (.slice ab1 mb1 kb1)∧W2.cell? ⟨w7.heap.size,2,none⟩=some (.slice ab2 mb2 kb2)∧W2.cell? ⟨w6.heap.size,0,none⟩=some (.bool ba)∧W2.cell? ⟨w6.heap.size,1,none⟩=some (.slice aa1 ma1 ka1)∧W2.cell? ⟨w6.heap.size,2,none⟩=some (.slice aa2 ma2 ka2) from
    ⟨(tri (h 1 _ _ rfl)).1,(tri (h 1 _ _ rfl)).2.1,(tri (h 1 _ _ rfl)).2.2,(duo (h 0 _ _ rfl)).1,(duo (h 0 _ _ rfl)).2,(duo (h 2 _ _ rfl)).1,(duo (h 2 _ _ rfl)).2,(tri (h 3 _ _ rfl)).1,(tri (h 3 _ _ rfl)).2.1,(tri (h 3 _ _ rfl)).2.2,(tri (h 4 _ _ rfl)).1,(tri (h 4 _ _ rfl)).2.1,(tri (h 4 _ _ rfl)).2.2⟩)
   have g0:Below td.heap.size td td:=Below.refl _ _
   have K1:=ac (fun (W:World) (hg:Below td.heap.size td W)=>fR sg9 (.slice aw nw kw) (.slice ad nd kd) (val z0) (val z2) W (HNW.out.below hg) (HND.out.below hg) hz2 (by omega) (by omega))
   rw [hz3,hd3] at K1
   have K2:=ac (fun (W:World) (b':Bool) (p1:Option Addr) (q1 r1:Nat) (p2:Option Addr) (q2 r2:Nat) (hr:Rn W (.agg #[.bool b',.slice p1 q1 r1,.slice p2 q2 r2]) Z3 D3) (hg:Below td.heap.size td W)=>bR u9.heap.size bc ac1 mc1 kc1 ac2 mc2 kc2 b' p1 q1 r1 p2 q2 r2 Z3 D3 0 W (HNC.out.below hg) hr)
   have K5:=ac (fun (W:World) (hg:Below td.heap.size td W)=>(jt W.heap.size ba aa1 ma1 ka1 aa2 ma2 ka2 bb ab1 mb1 kb1 ab2 mb2 kb2 bc ac1 mc1 kc1 ac2 mc2 kc2 w5.heap.size _ (W.alloc (.cells #[.bool ba,.slice aa1 ma1 ka1,.slice aa2 ma2 ka2,.bool bb,.slice ab1 mb1 kb1,.slice ab2 mb2 kb2,.bool bc,.slice ac1 mc1 kc1,.slice ac2 mc2 kc2] 28)) (heap_alloc_new _ _) (((HCH.out.below hg).below (bI _ _)).aparts) (by simp;omega) (Nat.le_trans HBB.out.size (fm hg _).size)).mono (fun e w' h=>(⟨h.1,h.2.after7 (bI _ _) (Nat.le_trans HBB.out.size hg.size)⟩:e=.returned (.bool true)∧BK w5.heap.size W w')))
   have K6:=ac (fun (W:World)=>eF v W hv1 hv2)
   have K7:=ac (fun (W:World)=>ig v W hv1 hv2)
   have K8:=ac (fun (W:World) (base:Nat) (b:Bool) (a1:Option Addr) (n1 k1:Nat) (a2:Option Addr) (n2 k2:Nat) (b':Bool) (p1:Option Addr) (q1 r1:Nat) (p2:Option Addr) (q2 r2:Nat) (h:TR W base b (.slice a1 n1 k1) (.slice a2 n2 k2) v 1) (hr:Rn W (.agg #[.bool b',.slice p1 q1 r1,.slice p2 q2 r2]) v 1)=>gN base b a1 n1 k1 a2 n2 k2 b' p1 q1 r1 p2 q2 r2 v 1 W h hr (Nat.le_trans ((blen_le_iff v.natAbs 64).2 (by omega)) (by decide)) (Nat.le_trans ((blen_le_iff 1 1).2 (by decide)) (by decide)))
   have K9:=ac (fun (W:World) (hg:Below w5.heap.size w5 W)=>ez W (HTB.out.below hg))
   clear hu11
   subst htd
   go_region_held3 (fun w'=>w'.cell? ⟨w10.heap.size,0,none⟩=some (.bool bc)∧w'.cell? ⟨w10.heap.size,1,none⟩=some (.slice ac1 mc1 kc1)∧w'.cell? ⟨w10.heap.size,2,none⟩=some (.slice ac2 mc2 kc2)∧w'.cell? ⟨w11.heap.size,0,none⟩=some (.bool bw)∧w'.cell? ⟨w11.heap.size,1,none⟩=some (.slice aw nw kw)∧w'.cell? ⟨w9.heap.size,0,none⟩=some (.bool bd)∧w'.cell? ⟨w9.heap.size,1,none⟩=some (.slice ad nd kd)∧w'.cell? ⟨w7.heap.size,0,none⟩=some (.bool bb)∧w'.cell? ⟨w7.heap.size,1,none⟩=some (.slice ab1 mb1 kb1)∧w'.cell? ⟨w7.heap.size,2,none⟩=some (.slice ab2 mb2 kb2)∧w'.cell? ⟨w6.heap.size,0,none⟩=some (.bool ba)∧w'.cell? ⟨w6.heap.size,1,none⟩=some (.slice aa1 ma1 ka1)∧w'.cell? ⟨w6.heap.size,2,none⟩=some (.slice aa2 ma2 ka2)) (first|with_reducible exact KK.out _ _ _ g2 hk3 k7|with_reducible exact KK.out _ _ _ g2 hk3 k6|with_reducible exact KK.out _ _ _ g2 hk3 k5|with_reducible exact KK.out _ _ _ g2 hk3 k4|with_reducible exact KK.out _ _ _ g2 hk3 (Below.refl _ _) | with_reducible exact KS.out _ g2|with_reducible exact KS.out _ (fm g2 _) | with_reducible exact KS.out _ g1|with_reducible exact KS.out _ g0) (first
    | (go_at_call 19;refine (K1.out _ g0).mono ?_;rintro e' t1 ⟨⟨b8,a8,n8,k8,a9,n9,k9,rfl,y1⟩,hb1⟩;have g1:=ae g0 hb1)
    | (go_at_call 8;refine (K8.out t5 _ b5 a5 n5 j5 a6 n6 j6 b7 a7 n7 j7 aq nq jq (y4.below hb5) y5).mono ?_;rintro e' t6 ⟨rfl,hb6⟩;have k6:=ae k5 hb6)
    | (go_at_call 8;refine (K2.out t1 b8 a8 n8 k8 a9 n9 k9 y1 g1).mono ?_;rintro e' t2 ⟨rfl,hb2⟩;have g2:=ae g1 hb2)
    | (go_at_call 9;refine (K5.out t2 g2).mono ?_;rintro e' t3 ⟨rfl,hk3⟩;have g3:=(ae HBB.out g2).trans hk3.below)
    | (go_at_call 20;refine (K6.out t3).mono ?_;rintro e' t4 ⟨⟨b5,a5,n5,j5,a6,n6,j6,rfl,y4⟩,hb4⟩;have k4:=hb4)
    | (go_at_call 21;refine (K7.out t4).mono ?_;rintro e' t5 ⟨⟨b7,a7,n7,j7,aq,nq,jq,rfl,y5⟩,hb5⟩;have k5:=ae k4 hb5)
    | (go_at_call 5;refine (K9.out _ (ae g3 k6)).mono ?_;rintro e' t7 ⟨rfl,hb7⟩;have k7:=ae k6 hb7))
   have HFIN:=ac (ae HWB.out (ae g3 k7))
   clear hb1 hb2 hb4 hb5 hb6 hb7 hk3 g0 g1 g2 g3 k4 k5 k6 k7 KK KS
   go_wp2
   go_ret
   exact⟨rfl,HFIN.out⟩

end Go.Proofs.YtplegacjglaenaaGreatDoor
