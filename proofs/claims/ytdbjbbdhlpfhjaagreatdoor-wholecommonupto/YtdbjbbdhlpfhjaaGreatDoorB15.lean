/- The document's Floor. -/
import Derived.Test.YtdbjbbdhlpfhjaaGreatDoorB14
import Derived.Test.YtdbjbbdhlpfhjaaGreatDoorB12
import Derived.Deep.CutBlock
import Derived.Deep.DeepCutAuto
namespace Go.Proofs.YtdbjbbdhlpfhjaaGreatDoor
open Go.RowKit
open Lm
attribute [local go_sem ↓] Go.wp_at_zero Go.wp_at_succ

theorem eu (x y:Nat):blen (x*y)≤blen x+blen y:=by
 refine (blen_le_iff _ _).2 ?_
 have h1:=(blen_le_iff x _).1 (Nat.le_refl _)
 have h2:=(blen_le_iff y _).1 (Nat.le_refl _)
 rw [Nat.pow_add]
 exact Nat.mul_lt_mul_of_lt_of_lt h1 h2

theorem aW {W0 W t:World}(h:Below W0.heap.size W0 W)(h2:Below W.heap.size W t):Below W0.heap.size W0 t:=h.trans (h2.mono h.size)

theorem jB (x:Nat)(h:x≠0):2 ^ (blen x - 1)≤x:=by
 rcases Nat.lt_or_ge x (2 ^ (blen x - 1)) with h1|h1
 ·have h2:=(blen_le_iff x (blen x - 1)).2 h1
  have h3:blen x=0:=by omega
  have h4:=(blen_le_iff x 0).1 (by omega)
  simp at h4
  exact absurd h4 h
 ·exact h1

theorem hJ {x y k q n:Nat}(hy:y≠0)(hq:q≤x / y+k)(hk:k≤2)(hx:blen x≤n)(hyb:blen y≤n):blen q+blen y≤n+5:=by
 have h1:blen q≤blen (x / y)+2:=by
  refine (blen_le_iff _ _).2 ?_
  have h1:=(blen_le_iff (x / y) _).1 (Nat.le_refl _)
  rw [Nat.pow_add]
  have:=Nat.two_pow_pos (blen (x / y))
  omega
 have h2:blen (x / y)+blen y≤n+1:=by
  by_cases h0:x / y=0
  ·have:blen (x / y)≤0:=(blen_le_iff _ _).2 (by rw [h0];decide)
   omega
  ·have a:=jB _ h0
   have b:=jB _ hy
   have c:=Nat.mul_le_mul a b
   have d:=Nat.div_mul_le_self x y
   rw [←Nat.pow_add] at c
   have e:=(blen_le_iff x _).1 hx
   have f:2 ^ (blen (x / y) - 1+(blen y - 1))<2 ^ n:=by omega
   have g:=(Nat.pow_lt_pow_iff_right (a:=2) (by omega)).1 f
   omega
 omega

def flq (y z:Int):Int:=zz (decide (y<0) != decide (z<0)) (y.natAbs / z.natAbs) - if decide (y.natAbs % z.natAbs≠0) && (decide (y<0) != decide (z<0)) then 1 else 0

def ic (w:World)(y z:Int)(e:Ending)(w':World):Prop:=
 (∃b a n k b' a' n' k',e=.returned (.tuple #[.agg #[.bool b,.slice a n k],.agg #[.bool b',.slice a' n' k']])∧Zn w' (.agg #[.bool b,.slice a n k]) y∧Zn w' (.agg #[.bool b',.slice a' n' k']) z)∧Below w.heap.size w w'

theorem dn {w:World}{g:Nat}{p p':Bool}{a a':Option Addr}{n k n' k':Nat}{b1 b2:Bool}{u1 u2:Value}(h2:w.heap[g]?=some (.cells #[.bool p,.slice a n k] 32))(h3:w.heap[g+1]?=some (.cells #[.bool p',.slice a' n' k'] 32)) :
  ((((w.setCell ⟨g,0,none⟩ (.bool b1)).setCell ⟨g,1,none⟩ u1).setCell ⟨g+1,0,none⟩ (.bool b2)).setCell ⟨g+1,1,none⟩ u2).heap[g]?=some (.cells #[.bool b1,u1] 32) ∧
  ((((w.setCell ⟨g,0,none⟩ (.bool b1)).setCell ⟨g,1,none⟩ u1).setCell ⟨g+1,0,none⟩ (.bool b2)).setCell ⟨g+1,1,none⟩ u2).heap[g+1]?=some (.cells #[.bool b2,u2] 32) ∧
  (∀v z,Zn w v z→Zn ((((w.setCell ⟨g,0,none⟩ (.bool b1)).setCell ⟨g,1,none⟩ u1).setCell ⟨g+1,0,none⟩ (.bool b2)).setCell ⟨g+1,1,none⟩ u2) v z):=by
 have h4:=bA (u0:=.bool b1) (u1:=u1) h3 (show g+1≠g by omega)
 exact⟨bA (aI h2) (by omega),aI h4,fun v z hz=>(hz.duo h2).duo h4⟩

set_option maxRecDepth 20000 in
set_option maxHeartbeats 4000000 in
theorem fE (v1 v2:Value)(y z:Int)(w:World)(h1:Zn w v1 y)(h2:Zn w v2 z)(hz0:z≠0)(hf1:blen y.natAbs≤1125899906810000)(hf2:blen z.natAbs≤1125899906810000) :
  Calls Tryz.prog 25 #[v1,v2] w (ic w (flq y z) (y - flq y z*z)):=by
 obtain⟨b,a,n,k,rfl,hb,hn,hz⟩:=h1.parts
 obtain⟨b2,a2,n2,k2,rfl,hb2,hn2,hz2⟩:=h2.parts
 obtain⟨w0,hw0,hb0,c0,c1,c2,c3⟩:=fp w (.cells #[.bool b,.slice a n k] 32) (.cells #[.bool b2,.slice a2 n2 k2] 32) (.cells #[.bool false,.slice none 0 0] 32) (.cells #[.bool false,.slice none 0 0] 32)
 obtain⟨d0,d1⟩:=duo c0
 obtain⟨d2,d3⟩:=duo c1
 have HD:=mu _ _ y.natAbs z.natAbs w0 (hn.below hb0) (hn2.below hb0) (by omega) (by omega) (by omega)
 have HB0:=aa hb0
 have HC0:=aa c0
 have HC1:=aa c1
 have HC2:=aa c2
 have HC3:=aa c3
 have HZ1:=aa (h1.below hb0)
 have HZ2:=aa (h2.below hb0)
 obtain⟨sg,hsg,hsg2⟩:∃sg,(b != b2)=sg∧(!(b == b2))=sg:=⟨_,rfl,rfl⟩
 have hfl:flq y z=zz sg (y.natAbs / z.natAbs) - if decide (y.natAbs % z.natAbs≠0) && sg then 1 else 0:=by
  unfold flq
  rw [←hb,←hb2,hsg]
 have HFL:=aa hfl
 clear h1 h2 hn hn2 hb0 c0 c1 c2 c3 hb hb2 hz hz2 hfl
 go_enter Tryz.func25,Tryz.ntmps25
 go_wp2_with fail
 refine HD.mono ?_
 rintro e t1 ⟨⟨vq,vr,rfl,nq,nr⟩,g1⟩
 obtain⟨aq,mq,kq,rfl⟩:=nq.sl
 obtain⟨ar,mr,kr,rfl⟩:=nr.sl
 have HM:=ce sg _ _ t1 nq
 have HNR:=aa nr
 have HG1:=aa g1
 obtain⟨e0,e1⟩:=duo (ac g1 HC0.out)
 obtain⟨e2,e3⟩:=duo (ac g1 HC1.out)
 clear nq nr g1 HD d0 d1 d2 d3
 go_wp2_with fail
 refine HM.mono ?_
 rintro e t2 ⟨⟨bx,ax,mx,kx,rfl,hx⟩,g2⟩
 have g12:=aW HG1.out g2
 obtain⟨u2,hu2,hbu2,hxu2⟩:=aO t2 (.cells #[.bool bx,.slice ax mx kx] 32)
 have g13:=aW g12 hbu2
 have HG12:=aa g12
 have HZE:=fT _ (y.natAbs % z.natAbs) u2 (HNR.out.below (aW g2 hbu2))
 have HX:=aa (hx.below hbu2)
 have HBX:=aa hxu2
 have HG:=aa g13
 obtain⟨f0,f1⟩:=duo (ac g13 HC0.out)
 obtain⟨f2,f3⟩:=duo (ac g13 HC1.out)
 clear HM hx g2 g12 hbu2 hxu2 g13 e0 e1 e2 e3 HG1
 obtain⟨rz,hrz⟩:∃rz:Bool,((y.natAbs % z.natAbs) == 0)=rz:=⟨_,rfl⟩
 rw [hrz] at HZE
 go_wp2_with fail
 refine HZE.mono ?_
 rintro e wn ⟨rfl,hw⟩;rw [hw];clear hw wn HZE
 by_cases hc:rz=false∧sg=true
 ·obtain⟨rfl,rfl⟩:=hc
  have hfq:flq y z=zz true (y.natAbs / z.natAbs) - 1:=by
   rw [HFL.out]
   have h:¬y.natAbs % z.natAbs=0:=by
    intro h
    rw [h] at hrz
    cases hrz
   simp [h]
  have HQB:Hid (blen (flq y z).natAbs+blen z.natAbs≤1125899906840000):=aa (by
   have e:(flq y z).natAbs=y.natAbs / z.natAbs+1:=by
    rw [hfq]
    generalize y.natAbs / z.natAbs=q
    simp only [zz,if_true]
    omega
   rw [e]
   have h3:=hJ (x:=y.natAbs) (y:=z.natAbs) (k:=1) (q:=y.natAbs / z.natAbs+1) (by omega) (Nat.le_refl _) (by omega) hf1 hf2
   omega)
  have HFQ:=aa hfq
  clear hfq hrz
  have I1:=fi 1 u2.drew (by omega) (by omega)
  have hbq:blen (zz true (y.natAbs / z.natAbs)).natAbs≤1125899906840000:=by
   rw [aF]
   have:=fo (Nat.div_le_self y.natAbs z.natAbs)
   omega
  have hb1:blen (Int.natAbs 1)≤64:=by decide
  have S1:=aa (fun (W:World) (v:Value) (hg:Below u2.drew.heap.size u2.drew W) (hv:Zn W v 1)=>dD (.agg #[.bool bx,.slice ax mx kx]) v (zz true (y.natAbs / z.natAbs)) 1 W (HX.out.drew6.below hg) hv hbq (by omega))
  have HT2:=aa (show Below t2.heap.size t2 u2 by rw [←hu2];exact bo _ _)
  obtain⟨x0,x1⟩:=duo (show u2.drew.heap[t2.heap.size]?=some (.cells #[.bool bx,.slice ax mx kx] 32) from HBX.out)
  clear hbq
  go_upto_region 4 with fail
  go_cut [34] from 34 to 37 (fun _ wx=>∃(bX:Bool) (aX:Option Addr) (mX kX:Nat),wx.heap[t2.heap.size]?=some (.cells #[.bool bX,.slice aX mX kX] 32)∧Zn wx (.agg #[.bool bX,.slice aX mX kX]) (flq y z)∧Below t2.heap.size t2 wx)
  case first=>
   go_region_with (first
    | (go_at_call 27;refine I1.mono ?_;rintro e' s1 ⟨⟨bi,ai,mi,ki,rfl,yi⟩,hs1⟩;have y0:=ae hs1 x0;have y1:=ae hs1 x1)
    | (go_at_call 26;refine (S1.out s1 _ hs1 yi).mono ?_;rintro e' s2 ⟨⟨bs,as9,ms,ks,rfl,ys⟩,hs2⟩;have hzx:=ac hs2 (ac hs1 (show u2.drew.heap[t2.heap.size]?=some (.cells #[.bool bx,.slice ax mx kx] 32) from HBX.out));have hfx:=av hzx;obtain⟨w0',w1'⟩:=duo hzx))
   all_goals (go_wp2_with fail;go_meet)
   all_goals (refine⟨bs,as9,ms,ks,aI hzx,?_,aC (aW (aW HT2.out (Below.refl _ _).drew) (aW hs1 hs2)) (Nat.le_refl _)⟩;rw [HFQ.out];exact ys.duo hzx)
  case rest=>
   obtain⟨bX,aX,mX,kX,BXF,ZXF,gx⟩:=hcut
   have gwc:=aW HG12.out gx
   have hbd:Below wc.heap.size wc wc.drew:=(Below.refl _ _).drew
   have gd:=aW gwc hbd
   obtain⟨j0,j1⟩:=duo (ac gd HC0.out)
   obtain⟨j2,j3⟩:=duo (ac gd HC1.out)
   have hxd:=ac hbd BXF
   obtain⟨j4,j5⟩:=duo hxd
   have ZX:=aa (ZXF.below hbd)
   have HMU:=dc _ _ (flq y z) z wc.drew ZX.out (HZ2.out.below gd) (by have:=HQB.out;omega)
   have HSU:=aa (fun (W:World) (v:Value) (hg:Below wc.drew.heap.size wc.drew W) (hv:Zn W v (flq y z*z))=>dD (.agg #[.bool b,.slice a n k]) v y (flq y z*z) W ((HZ1.out.below gd).below hg) hv (by omega) (by have h1:=HQB.out;rw [Int.natAbs_mul];have h2:=eu (flq y z).natAbs z.natAbs;omega))
   have hr2:=ac gd HC2.out
   have hr3:=ac gd HC3.out
   have HR2:=aa hr2
   have HR3:=aa hr3
   have HGD:=aa (aW HB0.out gd)
   have hlx:w.heap.size+3<t2.heap.size:=lt_of_block (ac HG12.out HC3.out)
   have so0:∀(W:World) (k:Nat) (u:Value) (k':Nat),(W.setCell ⟨w.heap.size+2,k,none⟩ u).cell? ⟨w.heap.size,k',none⟩=W.cell? ⟨w.heap.size,k',none⟩:=fun W k u k'=>aK (by omega)
   have so1:∀(W:World) (k:Nat) (u:Value) (k':Nat),(W.setCell ⟨w.heap.size+2,k,none⟩ u).cell? ⟨w.heap.size+1,k',none⟩=W.cell? ⟨w.heap.size+1,k',none⟩:=fun W k u k'=>aK (by omega)
   have so2:∀(W:World) (k:Nat) (u:Value) (k':Nat),(W.setCell ⟨w.heap.size+2,k,none⟩ u).cell? ⟨t2.heap.size,k',none⟩=W.cell? ⟨t2.heap.size,k',none⟩:=fun W k u k'=>aK (by omega)
   have so3:∀(W:World) (k:Nat) (u:Value) (k':Nat),(W.setCell ⟨w.heap.size+2,k,none⟩ u).cell? ⟨w.heap.size+3,k',none⟩=W.cell? ⟨w.heap.size+3,k',none⟩:=fun W k u k'=>aK (by omega)
   have sp0:∀(W:World) (k:Nat) (u:Value) (k':Nat),(W.setCell ⟨w.heap.size+3,k,none⟩ u).cell? ⟨w.heap.size,k',none⟩=W.cell? ⟨w.heap.size,k',none⟩:=fun W k u k'=>aK (by omega)
   have sp1:∀(W:World) (k:Nat) (u:Value) (k':Nat),(W.setCell ⟨w.heap.size+3,k,none⟩ u).cell? ⟨w.heap.size+1,k',none⟩=W.cell? ⟨w.heap.size+1,k',none⟩:=fun W k u k'=>aK (by omega)
   have sp2:∀(W:World) (k:Nat) (u:Value) (k':Nat),(W.setCell ⟨w.heap.size+3,k,none⟩ u).cell? ⟨t2.heap.size,k',none⟩=W.cell? ⟨t2.heap.size,k',none⟩:=fun W k u k'=>aK (by omega)
   clear hr2 hr3 hxd
   go_wp2
   go_region_held3 (fun w'=>w'.cell? ⟨w.heap.size,0,none⟩=some (.bool b)∧w'.cell? ⟨w.heap.size,1,none⟩=some (.slice a n k)∧w'.cell? ⟨w.heap.size+1,0,none⟩=some (.bool b2)∧w'.cell? ⟨w.heap.size+1,1,none⟩=some (.slice a2 n2 k2)∧w'.cell? ⟨t2.heap.size,0,none⟩=some (.bool bX)∧w'.cell? ⟨t2.heap.size,1,none⟩=some (.slice aX mX kX)) (go_keep) (first
    | (go_at_call 23;refine HMU.mono ?_;rintro e' s1 ⟨⟨bp,ap,mp,kp,rfl,yp⟩,hs1⟩;have l0:=ae hs1 j0;have l1:=ae hs1 j1;have l2:=ae hs1 j2;have l3:=ae hs1 j3;have l4:=ae hs1 j4;have l5:=ae hs1 j5)
    | (go_at_call 26;refine (HSU.out s1 _ hs1 yp).mono ?_;rintro e' s2 ⟨⟨br,ar9,mr9,kr9,rfl,yr⟩,hs2⟩;have q0:=ae hs2 l0;have q1:=ae hs2 l1;have q2:=ae hs2 l2;have q3:=ae hs2 l3;have q4:=ae hs2 l4;have q5:=ae hs2 l5;have hz2:=ac hs2 (ac hs1 HR2.out);have hz3:=ac hs2 (ac hs1 HR3.out);have hf2':=av hz2;have hf3':=av hz3;obtain⟨m0,m1⟩:=duo hz2;obtain⟨m2,m3⟩:=duo hz3))
   have gs:=aW hs1 hs2
   have hq4:=dn (g:=w.heap.size+2) (b1:=bX) (u1:=.slice aX mX kX) (b2:=br) (u2:=.slice ar9 mr9 kr9) hz2 hz3
   have HE:=aa (And.intro (hq4.2.2 _ _ (ZX.out.below gs)) (And.intro (hq4.2.2 _ _ yr) (cb (aW HGD.out gs) (g:=w.heap.size+2) (u0:=.bool bX) (u1:=.slice aX mX kX) (u2:=.bool br) (u3:=.slice ar9 mr9 kr9) (by omega))))
   obtain⟨R5,R6,_⟩:=hq4
   clear so0 so1 so2 so3 sp0 sp1 sp2 hz2 hz3 hf2' hf3' m0 m1 m2 m3 q0 q1 q2 q3 q4 q5 l0 l1 l2 l3 l4 l5 yr yp hs1 hs2 gs
   generalize (((s2.setCell ⟨w.heap.size+2,0,none⟩ (.bool bX)).setCell ⟨w.heap.size+2,1,none⟩ (.slice aX mX kX)).setCell ⟨w.heap.size+2+1,0,none⟩ (.bool br)).setCell ⟨w.heap.size+2+1,1,none⟩ (.slice ar9 mr9 kr9)=w5 at *
   obtain⟨p0,p1⟩:=duo R5
   obtain⟨p2,p3⟩:=duo R6
   go_wp2
   refine bodyPost_ret (v:=.tuple #[.agg #[.bool bX,.slice aX mX kX],.agg #[.bool br,.slice ar9 mr9 kr9]]) (by simp [results,Tryz.results25,go_sem,p0,p1,p2,p3]) rfl ?_
   exact⟨⟨_,_,_,_,_,_,_,_,rfl,HE.out.1,HE.out.2.1⟩,HE.out.2.2⟩
 ·have hcd:(!rz && sg)=false:=by
   rcases rz with _ | _ <;> rcases sg with _ | _ <;> simp_all
  have hfq:flq y z=zz sg (y.natAbs / z.natAbs):=by
   rw [HFL.out]
   have:(decide (y.natAbs % z.natAbs≠0) && sg)=false:=by
    rw [←hcd,←hrz]
    congr 1
    by_cases h:y.natAbs % z.natAbs=0 <;> simp [h]
   rw [this];simp
  have HQB:Hid (blen (flq y z).natAbs+blen z.natAbs≤1125899906840000):=aa (by
   rw [hfq,aF]
   have h3:=hJ (x:=y.natAbs) (y:=z.natAbs) (k:=0) (q:=y.natAbs / z.natAbs) (by omega) (Nat.le_refl _) (by omega) hf1 hf2
   omega)
  have hX2:=HX.out
  rw [←hfq] at hX2
  have ZXF:=hX2
  have BXF:=HBX.out
  obtain⟨bX,rfl⟩:∃bX,bX=bx:=⟨_,rfl⟩
  obtain⟨aX,rfl⟩:∃aX,aX=ax:=⟨_,rfl⟩
  obtain⟨mX,rfl⟩:∃mX,mX=mx:=⟨_,rfl⟩
  obtain⟨kX,rfl⟩:∃kX,kX=kx:=⟨_,rfl⟩
  cases rz <;> cases sg <;> (try (exact absurd ⟨rfl,rfl⟩ hc))
  all_goals clear hcd hc hfq hX2
  ·have hbd:Below u2.heap.size u2 u2.drew:=(Below.refl _ _).drew
   have gd:=aW HG.out hbd
   obtain⟨j0,j1⟩:=duo (ac gd HC0.out)
   obtain⟨j2,j3⟩:=duo (ac gd HC1.out)
   have hxd:=ac hbd BXF
   obtain⟨j4,j5⟩:=duo hxd
   have ZX:=aa (ZXF.below hbd)
   have HMU:=dc _ _ (flq y z) z u2.drew ZX.out (HZ2.out.below gd) (by have:=HQB.out;omega)
   have HSU:=aa (fun (W:World) (v:Value) (hg:Below u2.drew.heap.size u2.drew W) (hv:Zn W v (flq y z*z))=>dD (.agg #[.bool b,.slice a n k]) v y (flq y z*z) W ((HZ1.out.below gd).below hg) hv (by omega) (by have h1:=HQB.out;rw [Int.natAbs_mul];have h2:=eu (flq y z).natAbs z.natAbs;omega))
   have hr2:=ac gd HC2.out
   have hr3:=ac gd HC3.out
   have HR2:=aa hr2
   have HR3:=aa hr3
   have HGD:=aa (aW HB0.out gd)
   have hlx:w.heap.size+3<t2.heap.size:=lt_of_block (ac HG12.out HC3.out)
   have so0:∀(W:World) (k:Nat) (u:Value) (k':Nat),(W.setCell ⟨w.heap.size+2,k,none⟩ u).cell? ⟨w.heap.size,k',none⟩=W.cell? ⟨w.heap.size,k',none⟩:=fun W k u k'=>aK (by omega)
   have so1:∀(W:World) (k:Nat) (u:Value) (k':Nat),(W.setCell ⟨w.heap.size+2,k,none⟩ u).cell? ⟨w.heap.size+1,k',none⟩=W.cell? ⟨w.heap.size+1,k',none⟩:=fun W k u k'=>aK (by omega)
   have so2:∀(W:World) (k:Nat) (u:Value) (k':Nat),(W.setCell ⟨w.heap.size+2,k,none⟩ u).cell? ⟨t2.heap.size,k',none⟩=W.cell? ⟨t2.heap.size,k',none⟩:=fun W k u k'=>aK (by omega)
   have so3:∀(W:World) (k:Nat) (u:Value) (k':Nat),(W.setCell ⟨w.heap.size+2,k,none⟩ u).cell? ⟨w.heap.size+3,k',none⟩=W.cell? ⟨w.heap.size+3,k',none⟩:=fun W k u k'=>aK (by omega)
   have sp0:∀(W:World) (k:Nat) (u:Value) (k':Nat),(W.setCell ⟨w.heap.size+3,k,none⟩ u).cell? ⟨w.heap.size,k',none⟩=W.cell? ⟨w.heap.size,k',none⟩:=fun W k u k'=>aK (by omega)
   have sp1:∀(W:World) (k:Nat) (u:Value) (k':Nat),(W.setCell ⟨w.heap.size+3,k,none⟩ u).cell? ⟨w.heap.size+1,k',none⟩=W.cell? ⟨w.heap.size+1,k',none⟩:=fun W k u k'=>aK (by omega)
   have sp2:∀(W:World) (k:Nat) (u:Value) (k':Nat),(W.setCell ⟨w.heap.size+3,k,none⟩ u).cell? ⟨t2.heap.size,k',none⟩=W.cell? ⟨t2.heap.size,k',none⟩:=fun W k u k'=>aK (by omega)
   clear hr2 hr3 hxd
   go_wp2
   go_region_held3 (fun w'=>w'.cell? ⟨w.heap.size,0,none⟩=some (.bool b)∧w'.cell? ⟨w.heap.size,1,none⟩=some (.slice a n k)∧w'.cell? ⟨w.heap.size+1,0,none⟩=some (.bool b2)∧w'.cell? ⟨w.heap.size+1,1,none⟩=some (.slice a2 n2 k2)∧w'.cell? ⟨t2.heap.size,0,none⟩=some (.bool bX)∧w'.cell? ⟨t2.heap.size,1,none⟩=some (.slice aX mX kX)) (go_keep) (first
    | (go_at_call 23;refine HMU.mono ?_;rintro e' s1 ⟨⟨bp,ap,mp,kp,rfl,yp⟩,hs1⟩;have l0:=ae hs1 j0;have l1:=ae hs1 j1;have l2:=ae hs1 j2;have l3:=ae hs1 j3;have l4:=ae hs1 j4;have l5:=ae hs1 j5)
    | (go_at_call 26;refine (HSU.out s1 _ hs1 yp).mono ?_;rintro e' s2 ⟨⟨br,ar9,mr9,kr9,rfl,yr⟩,hs2⟩;have q0:=ae hs2 l0;have q1:=ae hs2 l1;have q2:=ae hs2 l2;have q3:=ae hs2 l3;have q4:=ae hs2 l4;have q5:=ae hs2 l5;have hz2:=ac hs2 (ac hs1 HR2.out);have hz3:=ac hs2 (ac hs1 HR3.out);have hf2':=av hz2;have hf3':=av hz3;obtain⟨m0,m1⟩:=duo hz2;obtain⟨m2,m3⟩:=duo hz3))
   have gs:=aW hs1 hs2
   have hq4:=dn (g:=w.heap.size+2) (b1:=bX) (u1:=.slice aX mX kX) (b2:=br) (u2:=.slice ar9 mr9 kr9) hz2 hz3
   have HE:=aa (And.intro (hq4.2.2 _ _ (ZX.out.below gs)) (And.intro (hq4.2.2 _ _ yr) (cb (aW HGD.out gs) (g:=w.heap.size+2) (u0:=.bool bX) (u1:=.slice aX mX kX) (u2:=.bool br) (u3:=.slice ar9 mr9 kr9) (by omega))))
   obtain⟨R5,R6,_⟩:=hq4
   clear so0 so1 so2 so3 sp0 sp1 sp2 hz2 hz3 hf2' hf3' m0 m1 m2 m3 q0 q1 q2 q3 q4 q5 l0 l1 l2 l3 l4 l5 yr yp hs1 hs2 gs
   generalize (((s2.setCell ⟨w.heap.size+2,0,none⟩ (.bool bX)).setCell ⟨w.heap.size+2,1,none⟩ (.slice aX mX kX)).setCell ⟨w.heap.size+2+1,0,none⟩ (.bool br)).setCell ⟨w.heap.size+2+1,1,none⟩ (.slice ar9 mr9 kr9)=w5 at *
   obtain⟨p0,p1⟩:=duo R5
   obtain⟨p2,p3⟩:=duo R6
   go_wp2
   refine bodyPost_ret (v:=.tuple #[.agg #[.bool bX,.slice aX mX kX],.agg #[.bool br,.slice ar9 mr9 kr9]]) (by simp [results,Tryz.results25,go_sem,p0,p1,p2,p3]) rfl ?_
   exact⟨⟨_,_,_,_,_,_,_,_,rfl,HE.out.1,HE.out.2.1⟩,HE.out.2.2⟩
  ·have hbd:Below u2.heap.size u2 u2.drew:=(Below.refl _ _).drew
   have gd:=aW HG.out hbd
   obtain⟨j0,j1⟩:=duo (ac gd HC0.out)
   obtain⟨j2,j3⟩:=duo (ac gd HC1.out)
   have hxd:=ac hbd BXF
   obtain⟨j4,j5⟩:=duo hxd
   have ZX:=aa (ZXF.below hbd)
   have HMU:=dc _ _ (flq y z) z u2.drew ZX.out (HZ2.out.below gd) (by have:=HQB.out;omega)
   have HSU:=aa (fun (W:World) (v:Value) (hg:Below u2.drew.heap.size u2.drew W) (hv:Zn W v (flq y z*z))=>dD (.agg #[.bool b,.slice a n k]) v y (flq y z*z) W ((HZ1.out.below gd).below hg) hv (by omega) (by have h1:=HQB.out;rw [Int.natAbs_mul];have h2:=eu (flq y z).natAbs z.natAbs;omega))
   have hr2:=ac gd HC2.out
   have hr3:=ac gd HC3.out
   have HR2:=aa hr2
   have HR3:=aa hr3
   have HGD:=aa (aW HB0.out gd)
   have hlx:w.heap.size+3<t2.heap.size:=lt_of_block (ac HG12.out HC3.out)
   have so0:∀(W:World) (k:Nat) (u:Value) (k':Nat),(W.setCell ⟨w.heap.size+2,k,none⟩ u).cell? ⟨w.heap.size,k',none⟩=W.cell? ⟨w.heap.size,k',none⟩:=fun W k u k'=>aK (by omega)
   have so1:∀(W:World) (k:Nat) (u:Value) (k':Nat),(W.setCell ⟨w.heap.size+2,k,none⟩ u).cell? ⟨w.heap.size+1,k',none⟩=W.cell? ⟨w.heap.size+1,k',none⟩:=fun W k u k'=>aK (by omega)
   have so2:∀(W:World) (k:Nat) (u:Value) (k':Nat),(W.setCell ⟨w.heap.size+2,k,none⟩ u).cell? ⟨t2.heap.size,k',none⟩=W.cell? ⟨t2.heap.size,k',none⟩:=fun W k u k'=>aK (by omega)
   have so3:∀(W:World) (k:Nat) (u:Value) (k':Nat),(W.setCell ⟨w.heap.size+2,k,none⟩ u).cell? ⟨w.heap.size+3,k',none⟩=W.cell? ⟨w.heap.size+3,k',none⟩:=fun W k u k'=>aK (by omega)
   have sp0:∀(W:World) (k:Nat) (u:Value) (k':Nat),(W.setCell ⟨w.heap.size+3,k,none⟩ u).cell? ⟨w.heap.size,k',none⟩=W.cell? ⟨w.heap.size,k',none⟩:=fun W k u k'=>aK (by omega)
   have sp1:∀(W:World) (k:Nat) (u:Value) (k':Nat),(W.setCell ⟨w.heap.size+3,k,none⟩ u).cell? ⟨w.heap.size+1,k',none⟩=W.cell? ⟨w.heap.size+1,k',none⟩:=fun W k u k'=>aK (by omega)
   have sp2:∀(W:World) (k:Nat) (u:Value) (k':Nat),(W.setCell ⟨w.heap.size+3,k,none⟩ u).cell? ⟨t2.heap.size,k',none⟩=W.cell? ⟨t2.heap.size,k',none⟩:=fun W k u k'=>aK (by omega)
   clear hr2 hr3 hxd
   go_wp2
   go_region_held3 (fun w'=>w'.cell? ⟨w.heap.size,0,none⟩=some (.bool b)∧w'.cell? ⟨w.heap.size,1,none⟩=some (.slice a n k)∧w'.cell? ⟨w.heap.size+1,0,none⟩=some (.bool b2)∧w'.cell? ⟨w.heap.size+1,1,none⟩=some (.slice a2 n2 k2)∧w'.cell? ⟨t2.heap.size,0,none⟩=some (.bool bX)∧w'.cell? ⟨t2.heap.size,1,none⟩=some (.slice aX mX kX)) (go_keep) (first
    | (go_at_call 23;refine HMU.mono ?_;rintro e' s1 ⟨⟨bp,ap,mp,kp,rfl,yp⟩,hs1⟩;have l0:=ae hs1 j0;have l1:=ae hs1 j1;have l2:=ae hs1 j2;have l3:=ae hs1 j3;have l4:=ae hs1 j4;have l5:=ae hs1 j5)
    | (go_at_call 26;refine (HSU.out s1 _ hs1 yp).mono ?_;rintro e' s2 ⟨⟨br,ar9,mr9,kr9,rfl,yr⟩,hs2⟩;have q0:=ae hs2 l0;have q1:=ae hs2 l1;have q2:=ae hs2 l2;have q3:=ae hs2 l3;have q4:=ae hs2 l4;have q5:=ae hs2 l5;have hz2:=ac hs2 (ac hs1 HR2.out);have hz3:=ac hs2 (ac hs1 HR3.out);have hf2':=av hz2;have hf3':=av hz3;obtain⟨m0,m1⟩:=duo hz2;obtain⟨m2,m3⟩:=duo hz3))
   have gs:=aW hs1 hs2
   have hq4:=dn (g:=w.heap.size+2) (b1:=bX) (u1:=.slice aX mX kX) (b2:=br) (u2:=.slice ar9 mr9 kr9) hz2 hz3
   have HE:=aa (And.intro (hq4.2.2 _ _ (ZX.out.below gs)) (And.intro (hq4.2.2 _ _ yr) (cb (aW HGD.out gs) (g:=w.heap.size+2) (u0:=.bool bX) (u1:=.slice aX mX kX) (u2:=.bool br) (u3:=.slice ar9 mr9 kr9) (by omega))))
   obtain⟨R5,R6,_⟩:=hq4
   clear so0 so1 so2 so3 sp0 sp1 sp2 hz2 hz3 hf2' hf3' m0 m1 m2 m3 q0 q1 q2 q3 q4 q5 l0 l1 l2 l3 l4 l5 yr yp hs1 hs2 gs
   generalize (((s2.setCell ⟨w.heap.size+2,0,none⟩ (.bool bX)).setCell ⟨w.heap.size+2,1,none⟩ (.slice aX mX kX)).setCell ⟨w.heap.size+2+1,0,none⟩ (.bool br)).setCell ⟨w.heap.size+2+1,1,none⟩ (.slice ar9 mr9 kr9)=w5 at *
   obtain⟨p0,p1⟩:=duo R5
   obtain⟨p2,p3⟩:=duo R6
   go_wp2
   refine bodyPost_ret (v:=.tuple #[.agg #[.bool bX,.slice aX mX kX],.agg #[.bool br,.slice ar9 mr9 kr9]]) (by simp [results,Tryz.results25,go_sem,p0,p1,p2,p3]) rfl ?_
   exact⟨⟨_,_,_,_,_,_,_,_,rfl,HE.out.1,HE.out.2.1⟩,HE.out.2.2⟩
  ·have hbd:Below u2.heap.size u2 u2.drew:=(Below.refl _ _).drew
   have gd:=aW HG.out hbd
   obtain⟨j0,j1⟩:=duo (ac gd HC0.out)
   obtain⟨j2,j3⟩:=duo (ac gd HC1.out)
   have hxd:=ac hbd BXF
   obtain⟨j4,j5⟩:=duo hxd
   have ZX:=aa (ZXF.below hbd)
   have HMU:=dc _ _ (flq y z) z u2.drew ZX.out (HZ2.out.below gd) (by have:=HQB.out;omega)
   have HSU:=aa (fun (W:World) (v:Value) (hg:Below u2.drew.heap.size u2.drew W) (hv:Zn W v (flq y z*z))=>dD (.agg #[.bool b,.slice a n k]) v y (flq y z*z) W ((HZ1.out.below gd).below hg) hv (by omega) (by have h1:=HQB.out;rw [Int.natAbs_mul];have h2:=eu (flq y z).natAbs z.natAbs;omega))
   have hr2:=ac gd HC2.out
   have hr3:=ac gd HC3.out
   have HR2:=aa hr2
   have HR3:=aa hr3
   have HGD:=aa (aW HB0.out gd)
   have hlx:w.heap.size+3<t2.heap.size:=lt_of_block (ac HG12.out HC3.out)
   have so0:∀(W:World) (k:Nat) (u:Value) (k':Nat),(W.setCell ⟨w.heap.size+2,k,none⟩ u).cell? ⟨w.heap.size,k',none⟩=W.cell? ⟨w.heap.size,k',none⟩:=fun W k u k'=>aK (by omega)
   have so1:∀(W:World) (k:Nat) (u:Value) (k':Nat),(W.setCell ⟨w.heap.size+2,k,none⟩ u).cell? ⟨w.heap.size+1,k',none⟩=W.cell? ⟨w.heap.size+1,k',none⟩:=fun W k u k'=>aK (by omega)
   have so2:∀(W:World) (k:Nat) (u:Value) (k':Nat),(W.setCell ⟨w.heap.size+2,k,none⟩ u).cell? ⟨t2.heap.size,k',none⟩=W.cell? ⟨t2.heap.size,k',none⟩:=fun W k u k'=>aK (by omega)
   have so3:∀(W:World) (k:Nat) (u:Value) (k':Nat),(W.setCell ⟨w.heap.size+2,k,none⟩ u).cell? ⟨w.heap.size+3,k',none⟩=W.cell? ⟨w.heap.size+3,k',none⟩:=fun W k u k'=>aK (by omega)
   have sp0:∀(W:World) (k:Nat) (u:Value) (k':Nat),(W.setCell ⟨w.heap.size+3,k,none⟩ u).cell? ⟨w.heap.size,k',none⟩=W.cell? ⟨w.heap.size,k',none⟩:=fun W k u k'=>aK (by omega)
   have sp1:∀(W:World) (k:Nat) (u:Value) (k':Nat),(W.setCell ⟨w.heap.size+3,k,none⟩ u).cell? ⟨w.heap.size+1,k',none⟩=W.cell? ⟨w.heap.size+1,k',none⟩:=fun W k u k'=>aK (by omega)
   have sp2:∀(W:World) (k:Nat) (u:Value) (k':Nat),(W.setCell ⟨w.heap.size+3,k,none⟩ u).cell? ⟨t2.heap.size,k',none⟩=W.cell? ⟨t2.heap.size,k',none⟩:=fun W k u k'=>aK (by omega)
   clear hr2 hr3 hxd
   go_wp2
   go_region_held3 (fun w'=>w'.cell? ⟨w.heap.size,0,none⟩=some (.bool b)∧w'.cell? ⟨w.heap.size,1,none⟩=some (.slice a n k)∧w'.cell? ⟨w.heap.size+1,0,none⟩=some (.bool b2)∧w'.cell? ⟨w.heap.size+1,1,none⟩=some (.slice a2 n2 k2)∧w'.cell? ⟨t2.heap.size,0,none⟩=some (.bool bX)∧w'.cell? ⟨t2.heap.size,1,none⟩=some (.slice aX mX kX)) (go_keep) (first
    | (go_at_call 23;refine HMU.mono ?_;rintro e' s1 ⟨⟨bp,ap,mp,kp,rfl,yp⟩,hs1⟩;have l0:=ae hs1 j0;have l1:=ae hs1 j1;have l2:=ae hs1 j2;have l3:=ae hs1 j3;have l4:=ae hs1 j4;have l5:=ae hs1 j5)
    | (go_at_call 26;refine (HSU.out s1 _ hs1 yp).mono ?_;rintro e' s2 ⟨⟨br,ar9,mr9,kr9,rfl,yr⟩,hs2⟩;have q0:=ae hs2 l0;have q1:=ae hs2 l1;have q2:=ae hs2 l2;have q3:=ae hs2 l3;have q4:=ae hs2 l4;have q5:=ae hs2 l5;have hz2:=ac hs2 (ac hs1 HR2.out);have hz3:=ac hs2 (ac hs1 HR3.out);have hf2':=av hz2;have hf3':=av hz3;obtain⟨m0,m1⟩:=duo hz2;obtain⟨m2,m3⟩:=duo hz3))
   have gs:=aW hs1 hs2
   have hq4:=dn (g:=w.heap.size+2) (b1:=bX) (u1:=.slice aX mX kX) (b2:=br) (u2:=.slice ar9 mr9 kr9) hz2 hz3
   have HE:=aa (And.intro (hq4.2.2 _ _ (ZX.out.below gs)) (And.intro (hq4.2.2 _ _ yr) (cb (aW HGD.out gs) (g:=w.heap.size+2) (u0:=.bool bX) (u1:=.slice aX mX kX) (u2:=.bool br) (u3:=.slice ar9 mr9 kr9) (by omega))))
   obtain⟨R5,R6,_⟩:=hq4
   clear so0 so1 so2 so3 sp0 sp1 sp2 hz2 hz3 hf2' hf3' m0 m1 m2 m3 q0 q1 q2 q3 q4 q5 l0 l1 l2 l3 l4 l5 yr yp hs1 hs2 gs
   generalize (((s2.setCell ⟨w.heap.size+2,0,none⟩ (.bool bX)).setCell ⟨w.heap.size+2,1,none⟩ (.slice aX mX kX)).setCell ⟨w.heap.size+2+1,0,none⟩ (.bool br)).setCell ⟨w.heap.size+2+1,1,none⟩ (.slice ar9 mr9 kr9)=w5 at *
   obtain⟨p0,p1⟩:=duo R5
   obtain⟨p2,p3⟩:=duo R6
   go_wp2
   refine bodyPost_ret (v:=.tuple #[.agg #[.bool bX,.slice aX mX kX],.agg #[.bool br,.slice ar9 mr9 kr9]]) (by simp [results,Tryz.results25,go_sem,p0,p1,p2,p3]) rfl ?_
   exact⟨⟨_,_,_,_,_,_,_,_,rfl,HE.out.1,HE.out.2.1⟩,HE.out.2.2⟩

end Go.Proofs.YtdbjbbdhlpfhjaaGreatDoor
