/- The walk of the law WholeBezout. -/
import Derived.Test.YtdbjbbdhlpfhjaaGreatDoorB11
import Derived.Test.YtdbjbbdhlpfhjaaGreatDoorB20
import Derived.Test.YtdbjbbdhlpfhjaaGreatDoorB15
namespace Go.Proofs.YtdbjbbdhlpfhjaaGreatDoor
open Go.RowKit
open Lm
attribute [local go_sem ↓] Go.wp_at_zero Go.wp_at_succ

theorem qB (ba bb:Bool)(va vb:Value)(X Y:List Nat)(w:World)(hA:Arg w va X)(hB:Arg w vb Y)(hT:Tab w)(lX:X.length≤17592186043904)(lY:Y.length≤17592186043904)(bX:blen (val X)≤67108864)(bY:blen (val Y)≤67108864) :
  Calls Tryz.prog 9 #[.agg #[.bool ba,va],.agg #[.bool bb,vb]] w (gI (zz ba (val X)) (zz bb (val Y)) w):=by
 rcases Nat.eq_zero_or_pos (val Y) with h|h
 ·exact nu ba bb va vb X Y w hA hB lX bX h
 ·exact qg ba bb va vb X Y w hA hB hT lX lY bX bY h

theorem pK {az bz:Int}{g:Nat}{x y:Int}{n:Nat}(h:d6 az bz g x y)(ha:blen az.natAbs≤n)(hb:blen bz.natAbs≤n)(hn:1≤n):blen x.natAbs≤n∧blen y.natAbs≤n∧blen g≤n:=by
 have h1:∀r:Nat,r≤1→blen r≤n:=fun r hr=>by
  have:blen r≤1:=(blen_le_iff _ _).2 (by omega)
  omega
 refine⟨?_,?_,?_⟩
 ·by_cases hz:bz=0
  ·obtain⟨e,_⟩:=h.none hz
   refine h1 _ ?_
   rw [e]
   rcases Int.lt_trichotomy az 0 with h2|h2|h2
   ·rw [Int.sign_eq_neg_one_of_neg h2];decide
   ·rw [h2];decide
   ·rw [Int.sign_eq_one_of_pos h2];decide
  ·obtain⟨_,h3⟩:=h.some hz
   have hg:0<g:=by rw [h.gcd];exact Nat.gcd_pos_of_pos_right _ (by omega)
   have h4:x.natAbs≤x.natAbs*g:=Nat.le_mul_of_pos_right _ hg
   exact Nat.le_trans (cG (by omega)) hb
 ·rcases h.ly with h2|h2
  ·exact Nat.le_trans (cG h2) ha
  ·exact h1 _ h2
 ·rcases Nat.eq_zero_or_pos bz.natAbs with h2|h2
  ·rw [h.gcd,h2,Nat.gcd_zero_right];exact ha
  ·exact Nat.le_trans (cG (by rw [h.gcd];exact Nat.gcd_le_right _ h2)) hb

theorem d8 {w:World}{base:Nat}{b:Bool}{v:Value}{c z:Int}(h:ZR w base b v c z)(hz:blen z.natAbs≤67108864):c=0∧ZA w base b v z:=by
 obtain⟨rs,hA,hc⟩:=h
 rcases hc with ⟨h1,h2,h3,h4,_⟩|⟨_,_,_,_,h5⟩
 ·exact⟨h1,rs,hA,h2,h3,h4⟩
 ·omega

theorem ZA.getB {w:World}{base:Nat}{b:Bool}{v:Value}{z:Int}(h:ZA w base b v z)(hz:blen z.natAbs≤67108864):∃rs,Arg w v rs∧zz b (val rs)=z∧rs.length≤1048576∧val rs=z.natAbs∧tr rs=rs:=by
 obtain⟨rs,hA,h2,h3,h4⟩:=h
 have hl:=cz h4 (by rw [h3];exact hz)
 exact⟨rs,hA.arg (by omega),by rw [h2,h3];exact gt z,hl,h3,h4⟩

theorem dK {x y:Int}(hx:blen x.natAbs≤4096)(hy:blen y.natAbs≤4096):blen (x*y).natAbs≤8192:=by
 rw [Int.natAbs_mul]
 have:=jI x.natAbs y.natAbs
 omega

theorem lI {z:Int}{n:Nat}(h:blen z.natAbs≤n):blen (z - 1).natAbs≤n+1:=by
 refine (blen_le_iff _ _).2 ?_
 have h1:=(blen_le_iff _ _).1 h
 have h3:(2:Nat) ^ (n+1)=2 ^ n*2:=Nat.pow_succ ..
 have h4:1≤(2:Nat) ^ n:=Nat.one_le_two_pow
 rw [h3]
 generalize (2:Nat) ^ n=N at *
 omega

set_option maxRecDepth 20000 in
set_option maxHeartbeats 8000000 in
theorem nS (b0:Bool)(v0:Value)(X:List Nat)(b1:Bool)(v1:Value)(Y:List Nat)(w:World)(hT:Tab w)(A0:Arg w v0 X)(s0:X.length≤17592186043904)(A1:Arg w v1 Y)(s1:Y.length≤17592186043904) :
  Calls Tryz.prog 5 #[.agg #[.bool b0,v0],.agg #[.bool b1,v1]] w fun e w'=>e=.returned (.bool true)∧Below w.heap.size w w':=by
 obtain⟨a0,n0,rfl,_,_,_⟩:=A0.form
 obtain⟨a1,n1,rfl,_,_,_⟩:=A1.form
 obtain⟨w0,hw0,hb0,h0,h1⟩:=ct w (.cells #[.bool b0,.slice a0 X.length n0] 27) (.cells #[.bool b1,.slice a1 Y.length n1] 27)
 obtain⟨k0,k1⟩:=duo h0
 obtain⟨k2,k3⟩:=duo h1
 obtain⟨wv,hwv,hbv,hxv⟩:=aI w0 (.cells #[.slice a0 X.length n0,.slice a1 Y.length n1] 22)
 have C:=qh _ _ _ X Y _ wv ((A0.below hb0).below hbv) ((A1.below hb0).below hbv) s0 s1 hxv
 have HA0:=aa A0
 have HA1:=aa A1
 have HT:=aa hT
 have HB0:=aa hb0
 have H0:=aa h0
 have H1:=aa h1
 have HBV:=aa hbv
 have HS:=aa (And.intro s0 s1)
 clear A0 A1 hT hb0 h0 h1 hbv hxv s0 s1
 go_enter Tryz.func5,Tryz.ntmps5
 go_wp2_with fail
 refine C.mono ?_
 rintro e t1 ⟨hor,hb⟩
 have HW:=aa (ae HBV.out hb)
 clear C hb hw0 hwv HBV k0 k1 k2 k3
 rcases hor with rfl|⟨rfl,hx,hy⟩
 ·clear HS
  have C:=fq t1 (HT.out.below (ae HB0.out HW.out))
  go_wp2_with fail
  refine C.mono ?_
  rintro e w1 ⟨rfl,hb⟩
  have HF:=aa (ae (ae HB0.out HW.out) hb)
  clear C hb
  go_wp2
  go_ret
  exact⟨rfl,HF.out⟩
 obtain⟨k0,k1⟩:=duo (ac HW.out H0.out)
 obtain⟨k2,k3⟩:=duo (ac HW.out H1.out)
 have C:=qB b0 b1 _ _ X Y t1 (HA0.out.below (ae HB0.out HW.out)) (HA1.out.below (ae HB0.out HW.out)) (HT.out.below (ae HB0.out HW.out)) HS.out.1 HS.out.2 (by omega) (by omega)
 have HXY:=aa (show blen (zz b0 (val X)).natAbs≤4096∧blen (zz b1 (val Y)).natAbs≤4096 from ⟨by rw [aJ];exact hx,by rw [aJ];exact hy⟩)
 clear hx hy
 go_wp2_with fail
 refine C.mono ?_
 rintro e t5 ⟨⟨g,x,y,bg,ag,ng,kg,bx,ax,nx,kx,by',ay,ny,ky,rfl,hzg,hzx,hzy,_,_,_,hnum⟩,hb5⟩
 have hbg:bg=false:=by
  obtain⟨_,_,h,_⟩:=hzg
  rw [h]
  exact decide_eq_false (by omega)
 subst hbg
 obtain⟨az,haz⟩:∃az,zz b0 (val X)=az:=⟨_,rfl⟩
 obtain⟨bz,hbz⟩:∃bz,zz b1 (val Y)=bz:=⟨_,rfl⟩
 have HAZ:=aa haz
 have HBZ:=aa hbz
 rw [haz,hbz] at hnum HXY
 clear haz hbz
 obtain⟨sx,sy,sg⟩:=pK hnum HXY.out.1 HXY.out.2 (by omega)
 have HNUM:=aa hnum
 have HSM:=aa (And.intro sx (And.intro sy sg))
 obtain⟨t6,ht6,hb6,hx6,hx7,hx8⟩:=dr t5 (.cells #[.bool false,.slice none 0 0] 27) (.cells #[.bool false,.slice none 0 0] 27) (.cells #[.bool false,.slice none 0 0] 27)
 have hx9:t6.heap[t5.heap.size+1+1]?=some (.cells #[.bool false,.slice none 0 0] 27):=hx8
 obtain⟨z0,z1⟩:=duo hx6
 obtain⟨z2,z3⟩:=duo hx7
 obtain⟨z4,z5⟩:=duo hx9
 have zf1:=aB hx6
 have zf2:=aB hx7
 have zf3:=aB hx9
 obtain⟨R1,R2,R3,q4,q5⟩:=gT (u0:=.bool false) (u1:=.slice ag ng kg) (u2:=.bool bx) (u3:=.slice ax nx kx) (u4:=.bool by') (u5:=.slice ay ny ky) hx6 hx7 hx9
 have hb57:=q5 t5.heap.size t5 (Nat.le_refl _) hb6
 obtain⟨rg,Ag,cg,vg,tg⟩:=hzg
 obtain⟨rx,Ax,cx,vx,tx⟩:=hzx
 obtain⟨ry,Ay,cy,vy,ty⟩:=hzy
 have Ag7:=q4 _ _ _ (Ag.below hb6)
 have Ax7:=q4 _ _ _ (Ax.below hb6)
 have Ay7:=q4 _ _ _ (Ay.below hb6)
 obtain⟨t7,ht7⟩:∃t7,(((((t6.setCell ⟨t5.heap.size,0,none⟩ (.bool false)).setCell ⟨t5.heap.size,1,none⟩ (.slice ag ng kg)).setCell ⟨t5.heap.size+1,0,none⟩ (.bool bx)).setCell ⟨t5.heap.size+1,1,none⟩ (.slice ax nx kx)).setCell ⟨t5.heap.size+1+1,0,none⟩ (.bool by')).setCell ⟨t5.heap.size+1+1,1,none⟩ (.slice ay ny ky)=t7:=⟨_,rfl⟩
 rw [ht7] at R1 R2 R3 hb57 Ag7 Ax7 Ay7
 have lg:=cz tg (by rw [vg,Int.natAbs_natCast];omega)
 have lx:=cz tx (by rw [vx];omega)
 have ly:=cz ty (by rw [vy];omega)
 have hzx:zz bx (val rx)=x:=by rw [cx,vx];exact gt x
 have hzy:zz by' (val ry)=y:=by rw [cy,vy];exact gt y
 have hvg:val rg=g:=by rw [vg,Int.natAbs_natCast]
 replace HW:=aa (ae (ae HW.out hb5) hb57)
 have C:=fW b0 _ X bx _ rx t7 (HA0.out.below (ae HB0.out HW.out)) (Ax7.arg (by omega)) (HT.out.below (ae HB0.out HW.out)) HS.out.1 (by omega)
 rw [HAZ.out,hzx] at C
 have HG:=aa (And.intro R1 (And.intro (Ag7.arg (by omega)) hvg))
 have HY:=aa (And.intro R3 (And.intro (Ay7.arg (by omega)) (And.intro hzy ly)))
 clear k0 k1 k2 k3
 obtain⟨k0,k1⟩:=duo (ac HW.out H0.out)
 obtain⟨k2,k3⟩:=duo R2
 clear hb5 hb6 hx6 hx7 hx8 hx9 q4 q5 hb57 Ag Ax Ay Ag7 Ax7 Ay7 cg cx cy vg vx vy tg tx ty lg lx ly hzx hzy hvg sx sy sg hnum R1 R3
 go_wp2_with fail
 clear ht6 ht7 z0 z1 z2 z3 z4 z5 zf1 zf2 zf3 R2
 refine C.mono ?_
 rintro e t8 ⟨⟨bp,ap,np,kp,cp,rfl,hzp⟩,hb8⟩
 obtain⟨rfl,hp⟩:=d8 hzp (by have:=dK HXY.out.1 HSM.out.1;omega)
 obtain⟨t9,ht6,hb6,hx6⟩:=aI t8 (.cells #[.bool false,.slice none 0 0] 27)
 obtain⟨z0,z1⟩:=duo hx6
 have zf:=aB hx6
 have RX:=aF (a':=.bool bp) (b':=.slice ap np kp) hx6
 have hb7:Below t8.heap.size t8 ((t9.setCell ⟨t8.heap.size,0,none⟩ (.bool bp)).setCell ⟨t8.heap.size,1,none⟩ (.slice ap np kp)):=aE hb6 (Nat.le_refl _)
 obtain⟨t10,ht7⟩:∃t10,(t9.setCell ⟨t8.heap.size,0,none⟩ (.bool bp)).setCell ⟨t8.heap.size,1,none⟩ (.slice ap np kp)=t10:=⟨_,rfl⟩
 rw [ht7] at RX hb7
 have hb810:=ae hb8 hb7
 obtain⟨rp,Ap,ep,lp,_,_⟩:=(hp.below hb7).getB (by have:=dK HXY.out.1 HSM.out.1;omega)
 have HP:=aa (And.intro RX (And.intro Ap (And.intro ep lp)))
 have HP8:=aa (show w0.heap.size≤t8.heap.size from (ae HW.out hb8).size)
 replace HG:=aa (And.intro (ac hb810 HG.out.1) (And.intro (HG.out.2.1.below hb810) HG.out.2.2))
 replace HY:=aa (And.intro (ac hb810 HY.out.1) (And.intro (HY.out.2.1.below hb810) HY.out.2.2))
 replace HW:=aa (ae HW.out hb810)
 have C:=fW b1 _ Y by' _ ry t10 (HA1.out.below (ae HB0.out HW.out)) HY.out.2.1 (HT.out.below (ae HB0.out HW.out)) HS.out.2 (by have:=HY.out.2.2.2;omega)
 rw [HBZ.out,HY.out.2.2.1] at C
 clear k0 k1 k2 k3
 obtain⟨k0,k1⟩:=duo (ac HW.out H1.out)
 obtain⟨k2,k3⟩:=duo HY.out.1
 clear hzp hp hb8 hb6 hx6 hb7 RX hb810 Ap ep lp
 go_wp2_with fail
 clear ht6 ht7 z0 z1 zf
 refine C.mono ?_
 rintro e t11 ⟨⟨bq,aq,nq,kq,cq,rfl,hzq⟩,hb8⟩
 obtain⟨rfl,hq⟩:=d8 hzq (by have:=dK HXY.out.2 HSM.out.2.1;omega)
 obtain⟨t12,ht6,hb6,hx6⟩:=aI t11 (.cells #[.bool false,.slice none 0 0] 27)
 obtain⟨z0,z1⟩:=duo hx6
 have zf:=aB hx6
 have RX:=aF (a':=.bool bq) (b':=.slice aq nq kq) hx6
 have hb7:Below t11.heap.size t11 ((t12.setCell ⟨t11.heap.size,0,none⟩ (.bool bq)).setCell ⟨t11.heap.size,1,none⟩ (.slice aq nq kq)):=aE hb6 (Nat.le_refl _)
 obtain⟨t13,ht7⟩:∃t13,(t12.setCell ⟨t11.heap.size,0,none⟩ (.bool bq)).setCell ⟨t11.heap.size,1,none⟩ (.slice aq nq kq)=t13:=⟨_,rfl⟩
 rw [ht7] at RX hb7
 have hb810:=ae hb8 hb7
 obtain⟨rq,Aq,eq,lq,_,_⟩:=(hq.below hb7).getB (by have:=dK HXY.out.2 HSM.out.2.1;omega)
 replace HG:=aa (And.intro (ac hb810 HG.out.1) (And.intro (HG.out.2.1.below hb810) HG.out.2.2))
 replace HP:=aa (And.intro (ac hb810 HP.out.1) (And.intro (HP.out.2.1.below hb810) HP.out.2.2))
 replace HW:=aa (ae HW.out hb810)
 have C:=kD bp _ rp bq _ rq t13 HP.out.2.1 Aq (by have:=HP.out.2.2.2;omega) (by omega)
 rw [HP.out.2.2.1,eq,HNUM.out.eq] at C
 clear k0 k1 k2 k3
 obtain⟨k0,k1⟩:=duo HP.out.1
 obtain⟨k2,k3⟩:=duo RX
 clear hzq hq hb8 hb6 hx6 hb7 RX hb810 Aq eq lq HY
 go_wp2_with fail
 clear ht6 ht7 z0 z1 zf
 refine C.mono ?_
 rintro e t14 ⟨⟨bs,aS,ns,ks,cs,rfl,hzs⟩,hb8⟩
 obtain⟨rfl,hs⟩:=d8 hzs (by rw [Int.natAbs_natCast];have:=HSM.out.2.2;omega)
 obtain⟨t15,ht6,hb6,hx6⟩:=aI t14 (.cells #[.bool false,.slice none 0 0] 27)
 obtain⟨z0,z1⟩:=duo hx6
 have zf:=aB hx6
 have RX:=aF (a':=.bool bs) (b':=.slice aS ns ks) hx6
 have hb7:Below t14.heap.size t14 ((t15.setCell ⟨t14.heap.size,0,none⟩ (.bool bs)).setCell ⟨t14.heap.size,1,none⟩ (.slice aS ns ks)):=aE hb6 (Nat.le_refl _)
 obtain⟨t16,ht7⟩:∃t16,(t15.setCell ⟨t14.heap.size,0,none⟩ (.bool bs)).setCell ⟨t14.heap.size,1,none⟩ (.slice aS ns ks)=t16:=⟨_,rfl⟩
 rw [ht7] at RX hb7
 have hb810:=ae hb8 hb7
 obtain⟨rs,As,es,ls,_,_⟩:=(hs.below hb7).getB (by rw [Int.natAbs_natCast];have:=HSM.out.2.2;omega)
 have HSB:=aa (And.intro RX (And.intro As es))
 replace HG:=aa (And.intro (ac hb810 HG.out.1) (And.intro (HG.out.2.1.below hb810) HG.out.2.2))
 replace HP:=aa (And.intro (ac hb810 HP.out.1) (And.intro (HP.out.2.1.below hb810) HP.out.2.2))
 replace HW:=aa (ae HW.out hb810)
 clear k0 k1 k2 k3 hzs hs hb8 hb6 hx6 hb7 RX hb810 As es ls
 go_wp2
 have g0:Below t16.drew.heap.size t16.drew t16.drew:=Below.refl _ _
 have gw:∀W,Below t16.drew.heap.size t16.drew W→Below t16.heap.size t16 W:=fun W h=>dg h
 have CC:=aa (fun (W:World) (hg:Below t16.drew.heap.size t16.drew W)=>show Calls Tryz.prog 32 #[.agg #[.bool bs,.slice aS ns ks],.agg #[.bool false,.slice ag ng kg]] W fun e w'=>e=.returned (.int .i64 0)∧Below W.heap.size W w' by
  have h:=pP bs _ rs false _ rg W (HSB.out.2.1.below (gw W hg)) (HG.out.2.1.below (gw W hg))
  have e:aX (zz bs (val rs)) (zz false (val rg))=0:=by rw [HSB.out.2.2,HG.out.2.2];exact nH _
  rw [e] at h
  exact h)
 have hgc:Nat.gcd (val X) (val Y)=g:=by rw [HNUM.out.gcd,←HAZ.out,←HBZ.out,aJ,aJ]
 have CG:=aa (fun (W:World) (hg:Below t16.drew.heap.size t16.drew W)=>show Calls Tryz.prog 34 #[.slice a0 X.length n0,.slice a1 Y.length n1] W (fA W g) by
  have h:=kE _ _ X Y W (HA0.out.below (ae HB0.out (ae HW.out (gw W hg)))) (HA1.out.below (ae HB0.out (ae HW.out (gw W hg)))) (HT.out.below (ae HB0.out (ae HW.out (gw W hg)))) (by have:=HS.out.1;omega) (by have:=HS.out.2;omega)
  rw [hgc] at h
  exact h)
 have CN:=aa (fun (W:World) (v:Value) (r:List Nat) (hg:Below t16.drew.heap.size t16.drew W) (hA:Arg W v r) (hv:val r=g)=>show Calls Tryz.prog 33 #[.slice ag ng kg,v] W fun e w'=>e=.returned (.int .i64 0)∧Below W.heap.size W w' by
  have h:=b7 _ v rg r W (HG.out.2.1.below (gw W hg)) hA
  rw [HG.out.2.2,hv,cmpN_self] at h
  exact h.mono fun _ _ hh=>⟨hh.1,hh.2.below _⟩)
 have KS:=aa (fun (W:World) (hg:Below t16.drew.heap.size t16.drew W)=>show W.cell? ⟨t14.heap.size,0,none⟩=some (.bool bs)∧W.cell? ⟨t14.heap.size,1,none⟩=some (.slice aS ns ks)∧W.cell? ⟨t5.heap.size,0,none⟩=some (.bool false)∧W.cell? ⟨t5.heap.size,1,none⟩=some (.slice ag ng kg)∧W.cell? ⟨w.heap.size,1,none⟩=some (.slice a0 X.length n0)∧W.cell? ⟨w.heap.size+1,1,none⟩=some (.slice a1 Y.length n1) from
  ⟨(duo (ac (gw W hg) HSB.out.1)).1,(duo (ac (gw W hg) HSB.out.1)).2,(duo (ac (gw W hg) HG.out.1)).1,(duo (ac (gw W hg) HG.out.1)).2,(duo (ac (ae HW.out (gw W hg)) H0.out)).2,(duo (ac (ae HW.out (gw W hg)) H1.out)).2⟩)
 have GW:=aa gw
 clear gw hgc
 go_region_held3 (fun w'=>w'.cell? ⟨t14.heap.size,0,none⟩=some (.bool bs)∧w'.cell? ⟨t14.heap.size,1,none⟩=some (.slice aS ns ks)∧w'.cell? ⟨t5.heap.size,0,none⟩=some (.bool false)∧w'.cell? ⟨t5.heap.size,1,none⟩=some (.slice ag ng kg)∧w'.cell? ⟨w.heap.size,1,none⟩=some (.slice a0 X.length n0)∧w'.cell? ⟨w.heap.size+1,1,none⟩=some (.slice a1 Y.length n1)) (first|with_reducible exact KS.out _ g3|with_reducible exact KS.out _ g2|with_reducible exact KS.out _ g1|with_reducible exact KS.out _ g0) (first
  | (go_at_call 32;refine (CC.out _ g0).mono ?_;rintro e' t17 ⟨rfl,hb17⟩;have g1:=bt6 g0 hb17)
  | (go_at_call 34;refine (CG.out t17 g1).mono ?_;rintro e' t18 ⟨⟨v18,r18,rfl,A18,c18,e18⟩,hb18⟩;have g2:=bt6 g1 hb18;have l18:=cz c18 (by rw [e18];have:=HSM.out.2.2;omega);obtain⟨a18,k18,rfl⟩:=A18.shape)
  | (go_at_call 33;refine (CN.out t18 _ r18 g2 (A18.arg (by omega)) e18).mono ?_;rintro e' t19 ⟨rfl,hb19⟩;have g3:=bt6 g2 hb19))
 all_goals
  have hb1619:=GW.out t19 g3
  have HP9:=aa (ac hb1619 HP.out.1)
  have HW9:=aa (ae HW.out hb1619)
  have bY:blen (val Y)≤67108864:=by rw [←aJ b1 (val Y),HBZ.out];have:=HXY.out.2;omega
  have C:=qa b0 b1 _ _ X Y t19 (HA0.out.below (ae HB0.out HW9.out)) (HA1.out.below (ae HB0.out HW9.out)) (HT.out.below (ae HB0.out HW9.out)) HS.out.1 HS.out.2 bY
  rw [HAZ.out,HBZ.out] at C
  obtain⟨k0,k1⟩:=duo (ac HW9.out H0.out)
  obtain⟨k2,k3⟩:=duo (ac HW9.out H1.out)
  clear g0 g1 g2 g3 hb17 hb18 hb19 A18 c18 e18 l18 CC CG CN KS GW HG HSB hb1619 bY HW HP HNUM
  go_wp2_with fail
  refine C.mono ?_
  rintro e t20 ⟨⟨bi,ai,ni,ki,ci,rfl,hout⟩,hb20⟩
  have HW:=aa (ae HW9.out hb20)
  clear C k0 k1 k2 k3
  rcases hout with ⟨e1,rfl,rfl,rfl,rfl,rfl⟩|⟨e1,e2,rfl,rfl,rfl,rfl,rfl⟩|⟨hm0,hg1,rfl,x',hz,hxl,q,hq⟩
  ·clear e1 hb20
   obtain⟨t21,ht6,hb6,hx6⟩:=aI t20 (.cells #[.bool false,.slice none 0 0] 27)
   obtain⟨z0,z1⟩:=duo hx6
   have zf:=aB hx6
   have RX:=aF (a':=.bool false) (b':=.slice none 0 0) hx6
   have hb7:Below t20.heap.size t20 ((t21.setCell ⟨t20.heap.size,0,none⟩ (.bool false)).setCell ⟨t20.heap.size,1,none⟩ (.slice none 0 0)):=aE hb6 (Nat.le_refl _)
   obtain⟨t22,ht7⟩:∃t22,(t21.setCell ⟨t20.heap.size,0,none⟩ (.bool false)).setCell ⟨t20.heap.size,1,none⟩ (.slice none 0 0)=t22:=⟨_,rfl⟩
   rw [ht7] at RX hb7
   replace HW:=aa (ae HW.out hb7)
   clear hb6 hx6 hb7 RX
   have C:=fq t22 (HT.out.below (ae HB0.out HW.out))
   go_wp2_with fail
   refine C.mono ?_
   rintro e w1 ⟨rfl,hb⟩
   have HF:=aa (ae (ae HB0.out HW.out) hb)
   clear C hb
   go_wp2
   go_ret
   exact⟨rfl,HF.out⟩
  ·clear e1 e2 hb20
   obtain⟨t21,ht6,hb6,hx6⟩:=aI t20 (.cells #[.bool false,.slice none 0 0] 27)
   obtain⟨z0,z1⟩:=duo hx6
   have zf:=aB hx6
   have RX:=aF (a':=.bool false) (b':=.slice none 0 0) hx6
   have hb7:Below t20.heap.size t20 ((t21.setCell ⟨t20.heap.size,0,none⟩ (.bool false)).setCell ⟨t20.heap.size,1,none⟩ (.slice none 0 0)):=aE hb6 (Nat.le_refl _)
   obtain⟨t22,ht7⟩:∃t22,(t21.setCell ⟨t20.heap.size,0,none⟩ (.bool false)).setCell ⟨t20.heap.size,1,none⟩ (.slice none 0 0)=t22:=⟨_,rfl⟩
   rw [ht7] at RX hb7
   replace HW:=aa (ae HW.out hb7)
   clear hb6 hx6 hb7 RX
   have C:=fq t22 (HT.out.below (ae HB0.out HW.out))
   go_wp2_with fail
   refine C.mono ?_
   rintro e w1 ⟨rfl,hb⟩
   have HF:=aa (ae (ae HB0.out HW.out) hb)
   clear C hb
   go_wp2
   go_ret
   exact⟨rfl,HF.out⟩
  ·have hx4:blen ((x':Nat):Int).natAbs≤4096:=by
    rw [Int.natAbs_natCast]
    exact Nat.le_trans (cG (Nat.le_of_lt hxl)) HXY.out.2
   obtain⟨t21,ht6,hb6,hx6⟩:=aI t20 (.cells #[.bool false,.slice none 0 0] 27)
   obtain⟨z0,z1⟩:=duo hx6
   have zf:=aB hx6
   have RX:=aF (a':=.bool bi) (b':=.slice ai ni ki) hx6
   have hb7:Below t20.heap.size t20 ((t21.setCell ⟨t20.heap.size,0,none⟩ (.bool bi)).setCell ⟨t20.heap.size,1,none⟩ (.slice ai ni ki)):=aE hb6 (Nat.le_refl _)
   obtain⟨t22,ht7⟩:∃t22,(t21.setCell ⟨t20.heap.size,0,none⟩ (.bool bi)).setCell ⟨t20.heap.size,1,none⟩ (.slice ai ni ki)=t22:=⟨_,rfl⟩
   rw [ht7] at RX hb7
   obtain⟨rv,Av,ev,lv,_,_⟩:=(hz.below hb7).getB (by omega)
   replace HW:=aa (ae HW.out hb7)
   have HP22:=aa (ac (ae hb20 hb7) HP9.out)
   have C:=fW b0 _ X bi _ rv t22 (HA0.out.below (ae HB0.out HW.out)) Av (HT.out.below (ae HB0.out HW.out)) HS.out.1 (by omega)
   rw [HAZ.out,ev] at C
   have HQ:=aa (And.intro hq (dK HXY.out.1 hx4))
   obtain⟨k0,k1⟩:=duo (ac HW.out H0.out)
   obtain⟨k2,k3⟩:=duo RX
   obtain⟨pz,hpz⟩:∃pz,az*((x':Nat):Int)=pz:=⟨_,rfl⟩
   rw [hpz] at C HQ
   clear hb6 hx6 hb7 RX hz hq hx4 hxl Av ev lv hm0 hg1 hb20 hpz HP9
   go_wp2_with fail
   clear ht6 ht7 z0 z1 zf k0 k1 k2 k3
   refine C.mono ?_
   rintro e t23 ⟨⟨b23,a23,n23,k23,c23,rfl,hz23⟩,hb23⟩
   obtain⟨rfl,h23⟩:=d8 hz23 (by have:=HQ.out.2;omega)
   have hP:=ac hb23 HP22.out
   obtain⟨z0,z1⟩:=duo hP
   have zf:=aB hP
   have RP:=aF (a':=.bool b23) (b':=.slice a23 n23 k23) hP
   have hb24:Below w0.heap.size w0 ((t23.setCell ⟨t8.heap.size,0,none⟩ (.bool b23)).setCell ⟨t8.heap.size,1,none⟩ (.slice a23 n23 k23)):=aE (ae HW.out hb23) HP8.out
   obtain⟨r9,A9,c9,e9,t9'⟩:=h23
   have A24:=A9.duo (u0:=.bool b23) (u1:=.slice a23 n23 k23) hP
   obtain⟨t24,ht24⟩:∃t24,(t23.setCell ⟨t8.heap.size,0,none⟩ (.bool b23)).setCell ⟨t8.heap.size,1,none⟩ (.slice a23 n23 k23)=t24:=⟨_,rfl⟩
   rw [ht24] at RP hb24 A24
   obtain⟨r24,B24,e24,l24,_,_⟩:=ZA.getB (⟨r9,A24,c9,e9,t9'⟩:ZA t24 t22.heap.size b23 (.slice a23 n23 k23) pz) (by have:=HQ.out.2;omega)
   obtain⟨t25,ht25,hb25,hx25⟩:=aI t24 (.cells #[.int .u64 1] 61)
   have C:=pa b23 _ r24 false _ [1] t25 (B24.below hb25) (dB hx25 (by omega)) (by omega) (by simp)
   rw [e24,show zz false (val [1])=1 by simp [zz,val]] at C
   obtain⟨k0,k1⟩:=duo RP
   replace HW:=aa (ae hb24 hb25)
   clear hz23 hb23 hP hb24 A9 c9 e9 t9' A24 B24 e24 l24 hb25 hx25 RP HP22
   go_wp2_with fail
   clear ht24 ht25 z0 z1 zf k0 k1
   refine C.mono ?_
   rintro e t26 ⟨⟨bd,ad,nd,kd,cd,rfl,hzd⟩,hb26⟩
   have hsz:blen (pz - 1).natAbs≤8193:=lI HQ.out.2
   obtain⟨rfl,hd⟩:=d8 hzd (by omega)
   obtain⟨t27,ht6,hb6,hx6⟩:=aI t26 (.cells #[.bool false,.slice none 0 0] 27)
   obtain⟨z0,z1⟩:=duo hx6
   have zf:=aB hx6
   have RX:=aF (a':=.bool bd) (b':=.slice ad nd kd) hx6
   have hb7:Below t26.heap.size t26 ((t27.setCell ⟨t26.heap.size,0,none⟩ (.bool bd)).setCell ⟨t26.heap.size,1,none⟩ (.slice ad nd kd)):=aE hb6 (Nat.le_refl _)
   obtain⟨t28,ht7⟩:∃t28,(t27.setCell ⟨t26.heap.size,0,none⟩ (.bool bd)).setCell ⟨t26.heap.size,1,none⟩ (.slice ad nd kd)=t28:=⟨_,rfl⟩
   rw [ht7] at RX hb7
   obtain⟨rd,Ad,_,ld,vd,_⟩:=(hd.below hb7).getB (by omega)
   replace HW:=aa (ae (ae HW.out hb26) hb7)
   have C:=pV _ _ rd Y t28 Ad (HA1.out.below (ae HB0.out HW.out)) (HT.out.below (ae HB0.out HW.out)) (by omega) (by have:=HS.out.2;omega)
   have hdv:val rd % val Y=0:=by
    rw [vd,HQ.out.1,←HBZ.out]
    have e:(1+q*zz b1 (val Y) - 1).natAbs=q.natAbs*val Y:=by
     rw [show 1+q*zz b1 (val Y) - 1=q*zz b1 (val Y) by omega,Int.natAbs_mul,aJ]
    rw [e,Nat.mul_mod_left]
   rw [decide_eq_true hdv] at C
   obtain⟨k0,k1⟩:=duo RX
   obtain⟨k2,k3⟩:=duo (ac HW.out H1.out)
   clear hzd hd hsz hb26 hb6 hx6 hb7 RX Ad ld vd hdv
   go_wp2_with fail
   clear ht6 ht7 z0 z1 zf k0 k1 k2 k3
   refine C.mono ?_
   rintro e t29 ⟨hb29,rfl⟩
   replace HW:=aa (ae HW.out hb29)
   clear hb29 C
   have C:=fq t29 (HT.out.below (ae HB0.out HW.out))
   go_wp2_with fail
   refine C.mono ?_
   rintro e w1 ⟨rfl,hb⟩
   have HF:=aa (ae (ae HB0.out HW.out) hb)
   clear C hb
   go_wp2
   go_ret
   exact⟨rfl,HF.out⟩

end Go.Proofs.YtdbjbbdhlpfhjaaGreatDoor
