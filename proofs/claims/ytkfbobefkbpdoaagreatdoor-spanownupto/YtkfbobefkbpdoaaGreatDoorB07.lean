/- The document's Floor. -/
import Derived.Test.YtkfbobefkbpdoaaGreatDoorB05
import Derived.Test.YtkfbobefkbpdoaaGreatDoorB06
import Derived.Deep.CutBlock
import Derived.Deep.DeepCutAuto
import Derived.Test.YtkfbobefkbpdoaaGreatDoorB02
import Derived.Test.YtkfbobefkbpdoaaGreatDoorB03
set_option maxRecDepth 20000
set_option maxHeartbeats 4000000
namespace Go.Proofs.YtkfbobefkbpdoaaGreatDoor
open Go.RowKit
open Lm
attribute [local go_sem ↓] Go.wp_at_zero Go.wp_at_succ

theorem cR (x y:Nat):blen (x*y)≤blen x+blen y:=by
 refine (blen_le_iff _ _).2 ?_
 have h1:=(blen_le_iff x _).1 (Nat.le_refl _)
 have h2:=(blen_le_iff y _).1 (Nat.le_refl _)
 rw [Nat.pow_add]
 exact Nat.mul_lt_mul_of_lt_of_lt h1 h2

theorem aD {W0 W t:World}(h:Below W0.heap.size W0 W)(h2:Below W.heap.size W t):Below W0.heap.size W0 t:=h.trans (h2.mono h.size)

theorem pM {a b n:Nat}(ha:blen a≤n)(hb:blen b≤n):blen (a+b)≤n+1:=by
 refine (blen_le_iff _ _).2 ?_
 have h1:=(blen_le_iff a _).1 ha
 have h2:=(blen_le_iff b _).1 hb
 rw [Nat.pow_succ]
 omega

theorem jB (x:Nat)(h:x≠0):2 ^ (blen x - 1)≤x:=by
 rcases Nat.lt_or_ge x (2 ^ (blen x - 1)) with h1|h1
 ·have h2:=(blen_le_iff x (blen x - 1)).2 h1
  have h3:blen x=0:=by omega
  have h4:=(blen_le_iff x 0).1 (by omega)
  simp at h4
  exact absurd h4 h
 ·exact h1

theorem dX {x y k q n:Nat}(hy:y≠0)(hq:q≤x / y+k)(hk:k≤2)(hx:blen x≤n)(hyb:blen y≤n):blen q+blen y≤n+5:=by
 have h1:blen q≤blen (x / y)+2:=by
  refine (blen_le_iff _ _).2 ?_
  have h1:=(blen_le_iff (x / y) _).1 (Nat.le_refl _)
  rw [Nat.pow_add]
  have:=Nat.two_pow_pos (blen (x / y))
  omega
 have h2:blen (x / y)+blen y≤n+1:=by
  by_cases h0:x / y=0
  ·have:blen (x / y)≤0:=(blen_le_iff _ _).2 (by rw [h0];decide)
   omega
  ·have a:=jB _ h0
   have b:=jB _ hy
   have c:=Nat.mul_le_mul a b
   have d:=Nat.div_mul_le_self x y
   rw [←Nat.pow_add] at c
   have e:=(blen_le_iff x _).1 hx
   have f:2 ^ (blen (x / y) - 1+(blen y - 1))<2 ^ n:=by omega
   have g:=(Nat.pow_lt_pow_iff_right (a:=2) (by omega)).1 f
   omega
 omega

def flq (y z:Int):Int:=zz (decide (y<0) != decide (z<0)) (y.natAbs / z.natAbs) - if decide (y.natAbs % z.natAbs≠0) && (decide (y<0) != decide (z<0)) then 1 else 0

def gP (w:World)(y z:Int)(e:Ending)(w':World):Prop:=
 (∃b a n k b' a' n' k',e=.returned (.tuple #[.agg #[.bool b,.slice a n k],.agg #[.bool b',.slice a' n' k']])∧Zn w' (.agg #[.bool b,.slice a n k]) y∧Zn w' (.agg #[.bool b',.slice a' n' k']) z)∧Below w.heap.size w w'

theorem cD {w:World}{g:Nat}{p p':Bool}{a a':Option Addr}{n k n' k':Nat}{b1 b2:Bool}{u1 u2:Value}(h2:w.heap[g]?=some (.cells #[.bool p,.slice a n k] 29))(h3:w.heap[g+1]?=some (.cells #[.bool p',.slice a' n' k'] 29)) :
  ((((w.setCell ⟨g,0,none⟩ (.bool b1)).setCell ⟨g,1,none⟩ u1).setCell ⟨g+1,0,none⟩ (.bool b2)).setCell ⟨g+1,1,none⟩ u2).heap[g]?=some (.cells #[.bool b1,u1] 29) ∧
  ((((w.setCell ⟨g,0,none⟩ (.bool b1)).setCell ⟨g,1,none⟩ u1).setCell ⟨g+1,0,none⟩ (.bool b2)).setCell ⟨g+1,1,none⟩ u2).heap[g+1]?=some (.cells #[.bool b2,u2] 29) ∧
  (∀v z,Zn w v z→Zn ((((w.setCell ⟨g,0,none⟩ (.bool b1)).setCell ⟨g,1,none⟩ u1).setCell ⟨g+1,0,none⟩ (.bool b2)).setCell ⟨g+1,1,none⟩ u2) v z):=by
 have h4:=cP (u0:=.bool b1) (u1:=u1) h3 (show g+1≠g by omega)
 exact⟨cP (aP h2) (by omega),aP h4,fun v z hz=>(hz.duo h2).duo h4⟩

theorem iz (v1 v2:Value)(y z:Int)(w:World)(h1:Zn w v1 y)(h2:Zn w v2 z)(hz0:z≠0)(hf1:blen y.natAbs≤1125899906810000)(hf2:blen z.natAbs≤1125899906810000) :
  Calls Tryz.prog 62 #[v1,v2] w (gP w (flq y z) (y - flq y z*z)):=by
 obtain⟨b,a,n,k,rfl,hb,hn,hz⟩:=h1.parts
 obtain⟨b2,a2,n2,k2,rfl,hb2,hn2,hz2⟩:=h2.parts
 obtain⟨w0,hw0,hb0,c0,c1,c2,c3⟩:=gU w (.cells #[.bool b,.slice a n k] 29) (.cells #[.bool b2,.slice a2 n2 k2] 29) (.cells #[.bool false,.slice none 0 0] 29) (.cells #[.bool false,.slice none 0 0] 29)
 obtain⟨d0,d1⟩:=duo c0
 obtain⟨d2,d3⟩:=duo c1
 have HD:=ng _ _ y.natAbs z.natAbs w0 (hn.below hb0) (hn2.below hb0) (by omega) (by omega) (by omega)
 have HB0:=ab hb0
 have HC0:=ab c0
 have HC1:=ab c1
 have HC2:=ab c2
 have HC3:=ab c3
 have HZ1:=ab (h1.below hb0)
 have HZ2:=ab (h2.below hb0)
 obtain⟨sg,hsg,hsg2⟩:∃sg,(b != b2)=sg∧(!(b == b2))=sg:=⟨_,rfl,rfl⟩
 have hfl:flq y z=zz sg (y.natAbs / z.natAbs) - if decide (y.natAbs % z.natAbs≠0) && sg then 1 else 0:=by
  unfold flq
  rw [←hb,←hb2,hsg]
 have HFL:=ab hfl
 clear h1 h2 hn hn2 hb0 c0 c1 c2 c3 hb hb2 hz hz2 hfl
 go_enter Tryz.func62,Tryz.ntmps62
 go_wp2_with fail
 refine HD.mono ?_
 rintro e t1 ⟨⟨vq,vr,rfl,nq,nr⟩,g1⟩
 obtain⟨aq,mq,kq,rfl⟩:=nq.sl
 obtain⟨ar,mr,kr,rfl⟩:=nr.sl
 have HM:=bK sg _ _ t1 nq
 have HNR:=ab nr
 have HG1:=ab g1
 obtain⟨e0,e1⟩:=duo (ac g1 HC0.out)
 obtain⟨e2,e3⟩:=duo (ac g1 HC1.out)
 clear nq nr g1 HD d0 d1 d2 d3
 go_wp2_with fail
 refine HM.mono ?_
 rintro e t2 ⟨⟨bx,ax,mx,kx,rfl,hx⟩,g2⟩
 have g12:=aD HG1.out g2
 obtain⟨u2,hu2,hbu2,hxu2⟩:=ag t2 (.cells #[.bool bx,.slice ax mx kx] 29)
 have g13:=aD g12 hbu2
 have HG12:=ab g12
 have HZE:=ik _ (y.natAbs % z.natAbs) u2 (HNR.out.below (aD g2 hbu2))
 have HX:=ab (hx.below hbu2)
 have HBX:=ab hxu2
 have HG:=ab g13
 obtain⟨f0,f1⟩:=duo (ac g13 HC0.out)
 obtain⟨f2,f3⟩:=duo (ac g13 HC1.out)
 clear HM hx g2 g12 hbu2 hxu2 g13 e0 e1 e2 e3 HG1
 obtain⟨rz,hrz⟩:∃rz:Bool,((y.natAbs % z.natAbs) == 0)=rz:=⟨_,rfl⟩
 rw [hrz] at HZE
 go_wp2_with fail
 refine HZE.mono ?_
 rintro e wn ⟨rfl,hw⟩;rw [hw];clear hw wn HZE
 by_cases hc:rz=false∧sg=true
 ·obtain⟨rfl,rfl⟩:=hc
  have hfq:flq y z=zz true (y.natAbs / z.natAbs) - 1:=by
   rw [HFL.out]
   have h:¬y.natAbs % z.natAbs=0:=by
    intro h
    rw [h] at hrz
    cases hrz
   simp [h]
  have HQB:Hid (blen (flq y z).natAbs+blen z.natAbs≤1125899906840000):=ab (by
   have e:(flq y z).natAbs=y.natAbs / z.natAbs+1:=by
    rw [hfq]
    generalize y.natAbs / z.natAbs=q
    simp only [zz,if_true]
    omega
   rw [e]
   have h3:=dX (x:=y.natAbs) (y:=z.natAbs) (k:=1) (q:=y.natAbs / z.natAbs+1) (by omega) (Nat.le_refl _) (by omega) hf1 hf2
   omega)
  have HFQ:=ab hfq
  clear hfq hrz
  have I1:=fz 1 u2.drew (by omega) (by omega)
  have hbq:blen (zz true (y.natAbs / z.natAbs)).natAbs≤1125899906840000:=by
   rw [aV]
   have:=blen_mono (Nat.div_le_self y.natAbs z.natAbs)
   omega
  have hb1:blen (Int.natAbs 1)≤64:=by decide
  have S1:=ab (fun (W:World) (v:Value) (hg:Below u2.drew.heap.size u2.drew W) (hv:Zn W v 1)=>cH (.agg #[.bool bx,.slice ax mx kx]) v (zz true (y.natAbs / z.natAbs)) 1 W (HX.out.drew6.below hg) hv hbq (by omega))
  have HT2:=ab (show Below t2.heap.size t2 u2 by rw [←hu2];exact bI _ _)
  obtain⟨x0,x1⟩:=duo (show u2.drew.heap[t2.heap.size]?=some (.cells #[.bool bx,.slice ax mx kx] 29) from HBX.out)
  clear hbq
  go_upto_region 4 with fail
  go_cut [34] from 34 to 37 (fun _ wx=>∃(bX:Bool) (aX:Option Addr) (mX kX:Nat),wx.heap[t2.heap.size]?=some (.cells #[.bool bX,.slice aX mX kX] 29)∧Zn wx (.agg #[.bool bX,.slice aX mX kX]) (flq y z)∧Below t2.heap.size t2 wx)
  case first=>
   go_region_with (first
    | (go_at_call 40;refine I1.mono ?_;rintro e' s1 ⟨⟨bi,ai,mi,ki,rfl,yi⟩,hs1⟩;have y0:=af hs1 x0;have y1:=af hs1 x1)
    | (go_at_call 84;refine (S1.out s1 _ hs1 yi).mono ?_;rintro e' s2 ⟨⟨bs,as9,ms,ks,rfl,ys⟩,hs2⟩;have hzx:=ac hs2 (ac hs1 (show u2.drew.heap[t2.heap.size]?=some (.cells #[.bool bx,.slice ax mx kx] 29) from HBX.out));have hfx:=aB hzx;obtain⟨w0',w1'⟩:=duo hzx))
   all_goals (go_wp2_with fail;go_meet)
   all_goals (refine⟨bs,as9,ms,ks,aP hzx,?_,aO (aD (aD HT2.out (Below.refl _ _).drew) (aD hs1 hs2)) (Nat.le_refl _)⟩;rw [HFQ.out];exact ys.duo hzx)
  case rest=>
   obtain⟨bX,aX,mX,kX,BXF,ZXF,gx⟩:=hcut
   have gwc:=aD HG12.out gx
   have hbd:Below wc.heap.size wc wc.drew:=(Below.refl _ _).drew
   have gd:=aD gwc hbd
   obtain⟨j0,j1⟩:=duo (ac gd HC0.out)
   obtain⟨j2,j3⟩:=duo (ac gd HC1.out)
   have hxd:=ac hbd BXF
   obtain⟨j4,j5⟩:=duo hxd
   have ZX:=ab (ZXF.below hbd)
   have HMU:=cQ _ _ (flq y z) z wc.drew ZX.out (HZ2.out.below gd) (by have:=HQB.out;omega)
   have HSU:=ab (fun (W:World) (v:Value) (hg:Below wc.drew.heap.size wc.drew W) (hv:Zn W v (flq y z*z))=>cH (.agg #[.bool b,.slice a n k]) v y (flq y z*z) W ((HZ1.out.below gd).below hg) hv (by omega) (by have h1:=HQB.out;rw [Int.natAbs_mul];have h2:=cR (flq y z).natAbs z.natAbs;omega))
   have hr2:=ac gd HC2.out
   have hr3:=ac gd HC3.out
   have HR2:=ab hr2
   have HR3:=ab hr3
   have HGD:=ab (aD HB0.out gd)
   have hlx:w.heap.size+3<t2.heap.size:=lt_of_block (ac HG12.out HC3.out)
   have so0:∀(W:World) (k:Nat) (u:Value) (k':Nat),(W.setCell ⟨w.heap.size+2,k,none⟩ u).cell? ⟨w.heap.size,k',none⟩=W.cell? ⟨w.heap.size,k',none⟩:=fun W k u k'=>aw (by omega)
   have so1:∀(W:World) (k:Nat) (u:Value) (k':Nat),(W.setCell ⟨w.heap.size+2,k,none⟩ u).cell? ⟨w.heap.size+1,k',none⟩=W.cell? ⟨w.heap.size+1,k',none⟩:=fun W k u k'=>aw (by omega)
   have so2:∀(W:World) (k:Nat) (u:Value) (k':Nat),(W.setCell ⟨w.heap.size+2,k,none⟩ u).cell? ⟨t2.heap.size,k',none⟩=W.cell? ⟨t2.heap.size,k',none⟩:=fun W k u k'=>aw (by omega)
   have so3:∀(W:World) (k:Nat) (u:Value) (k':Nat),(W.setCell ⟨w.heap.size+2,k,none⟩ u).cell? ⟨w.heap.size+3,k',none⟩=W.cell? ⟨w.heap.size+3,k',none⟩:=fun W k u k'=>aw (by omega)
   have sp0:∀(W:World) (k:Nat) (u:Value) (k':Nat),(W.setCell ⟨w.heap.size+3,k,none⟩ u).cell? ⟨w.heap.size,k',none⟩=W.cell? ⟨w.heap.size,k',none⟩:=fun W k u k'=>aw (by omega)
   have sp1:∀(W:World) (k:Nat) (u:Value) (k':Nat),(W.setCell ⟨w.heap.size+3,k,none⟩ u).cell? ⟨w.heap.size+1,k',none⟩=W.cell? ⟨w.heap.size+1,k',none⟩:=fun W k u k'=>aw (by omega)
   have sp2:∀(W:World) (k:Nat) (u:Value) (k':Nat),(W.setCell ⟨w.heap.size+3,k,none⟩ u).cell? ⟨t2.heap.size,k',none⟩=W.cell? ⟨t2.heap.size,k',none⟩:=fun W k u k'=>aw (by omega)
   clear hr2 hr3 hxd
   go_wp2
   go_region_held3 (fun w'=>w'.cell? ⟨w.heap.size,0,none⟩=some (.bool b)∧w'.cell? ⟨w.heap.size,1,none⟩=some (.slice a n k)∧w'.cell? ⟨w.heap.size+1,0,none⟩=some (.bool b2)∧w'.cell? ⟨w.heap.size+1,1,none⟩=some (.slice a2 n2 k2)∧w'.cell? ⟨t2.heap.size,0,none⟩=some (.bool bX)∧w'.cell? ⟨t2.heap.size,1,none⟩=some (.slice aX mX kX)) (go_keep) (first
    | (go_at_call 51;refine HMU.mono ?_;rintro e' s1 ⟨⟨bp,ap,mp,kp,rfl,yp⟩,hs1⟩;have l0:=af hs1 j0;have l1:=af hs1 j1;have l2:=af hs1 j2;have l3:=af hs1 j3;have l4:=af hs1 j4;have l5:=af hs1 j5)
    | (go_at_call 84;refine (HSU.out s1 _ hs1 yp).mono ?_;rintro e' s2 ⟨⟨br,ar9,mr9,kr9,rfl,yr⟩,hs2⟩;have q0:=af hs2 l0;have q1:=af hs2 l1;have q2:=af hs2 l2;have q3:=af hs2 l3;have q4:=af hs2 l4;have q5:=af hs2 l5;have hz2:=ac hs2 (ac hs1 HR2.out);have hz3:=ac hs2 (ac hs1 HR3.out);have hf2':=aB hz2;have hf3':=aB hz3;obtain⟨m0,m1⟩:=duo hz2;obtain⟨m2,m3⟩:=duo hz3))
   have gs:=aD hs1 hs2
   have hq4:=cD (g:=w.heap.size+2) (b1:=bX) (u1:=.slice aX mX kX) (b2:=br) (u2:=.slice ar9 mr9 kr9) hz2 hz3
   have HE:=ab (And.intro (hq4.2.2 _ _ (ZX.out.below gs)) (And.intro (hq4.2.2 _ _ yr) (cM (aD HGD.out gs) (g:=w.heap.size+2) (u0:=.bool bX) (u1:=.slice aX mX kX) (u2:=.bool br) (u3:=.slice ar9 mr9 kr9) (by omega))))
   obtain⟨R5,R6,_⟩:=hq4
   clear so0 so1 so2 so3 sp0 sp1 sp2 hz2 hz3 hf2' hf3' m0 m1 m2 m3 q0 q1 q2 q3 q4 q5 l0 l1 l2 l3 l4 l5 yr yp hs1 hs2 gs
   generalize (((s2.setCell ⟨w.heap.size+2,0,none⟩ (.bool bX)).setCell ⟨w.heap.size+2,1,none⟩ (.slice aX mX kX)).setCell ⟨w.heap.size+2+1,0,none⟩ (.bool br)).setCell ⟨w.heap.size+2+1,1,none⟩ (.slice ar9 mr9 kr9)=w5 at *
   obtain⟨p0,p1⟩:=duo R5
   obtain⟨p2,p3⟩:=duo R6
   go_wp2
   refine bodyPost_ret (v:=.tuple #[.agg #[.bool bX,.slice aX mX kX],.agg #[.bool br,.slice ar9 mr9 kr9]]) (by simp [results,Tryz.results62,go_sem,p0,p1,p2,p3]) rfl ?_
   exact⟨⟨_,_,_,_,_,_,_,_,rfl,HE.out.1,HE.out.2.1⟩,HE.out.2.2⟩
 ·have hcd:(!rz && sg)=false:=by
   rcases rz with _ | _ <;> rcases sg with _ | _ <;> simp_all
  have hfq:flq y z=zz sg (y.natAbs / z.natAbs):=by
   rw [HFL.out]
   have:(decide (y.natAbs % z.natAbs≠0) && sg)=false:=by
    rw [←hcd,←hrz]
    congr 1
    by_cases h:y.natAbs % z.natAbs=0 <;> simp [h]
   rw [this];simp
  have HQB:Hid (blen (flq y z).natAbs+blen z.natAbs≤1125899906840000):=ab (by
   rw [hfq,aV]
   have h3:=dX (x:=y.natAbs) (y:=z.natAbs) (k:=0) (q:=y.natAbs / z.natAbs) (by omega) (Nat.le_refl _) (by omega) hf1 hf2
   omega)
  have hX2:=HX.out
  rw [←hfq] at hX2
  have ZXF:=hX2
  have BXF:=HBX.out
  obtain⟨bX,rfl⟩:∃bX,bX=bx:=⟨_,rfl⟩
  obtain⟨aX,rfl⟩:∃aX,aX=ax:=⟨_,rfl⟩
  obtain⟨mX,rfl⟩:∃mX,mX=mx:=⟨_,rfl⟩
  obtain⟨kX,rfl⟩:∃kX,kX=kx:=⟨_,rfl⟩
  cases rz <;> cases sg <;> (try (exact absurd ⟨rfl,rfl⟩ hc))
  all_goals clear hcd hc hfq hX2
  ·have hbd:Below u2.heap.size u2 u2.drew:=(Below.refl _ _).drew
   have gd:=aD HG.out hbd
   obtain⟨j0,j1⟩:=duo (ac gd HC0.out)
   obtain⟨j2,j3⟩:=duo (ac gd HC1.out)
   have hxd:=ac hbd BXF
   obtain⟨j4,j5⟩:=duo hxd
   have ZX:=ab (ZXF.below hbd)
   have HMU:=cQ _ _ (flq y z) z u2.drew ZX.out (HZ2.out.below gd) (by have:=HQB.out;omega)
   have HSU:=ab (fun (W:World) (v:Value) (hg:Below u2.drew.heap.size u2.drew W) (hv:Zn W v (flq y z*z))=>cH (.agg #[.bool b,.slice a n k]) v y (flq y z*z) W ((HZ1.out.below gd).below hg) hv (by omega) (by have h1:=HQB.out;rw [Int.natAbs_mul];have h2:=cR (flq y z).natAbs z.natAbs;omega))
   have hr2:=ac gd HC2.out
   have hr3:=ac gd HC3.out
   have HR2:=ab hr2
   have HR3:=ab hr3
   have HGD:=ab (aD HB0.out gd)
   have hlx:w.heap.size+3<t2.heap.size:=lt_of_block (ac HG12.out HC3.out)
   have so0:∀(W:World) (k:Nat) (u:Value) (k':Nat),(W.setCell ⟨w.heap.size+2,k,none⟩ u).cell? ⟨w.heap.size,k',none⟩=W.cell? ⟨w.heap.size,k',none⟩:=fun W k u k'=>aw (by omega)
   have so1:∀(W:World) (k:Nat) (u:Value) (k':Nat),(W.setCell ⟨w.heap.size+2,k,none⟩ u).cell? ⟨w.heap.size+1,k',none⟩=W.cell? ⟨w.heap.size+1,k',none⟩:=fun W k u k'=>aw (by omega)
   have so2:∀(W:World) (k:Nat) (u:Value) (k':Nat),(W.setCell ⟨w.heap.size+2,k,none⟩ u).cell? ⟨t2.heap.size,k',none⟩=W.cell? ⟨t2.heap.size,k',none⟩:=fun W k u k'=>aw (by omega)
   have so3:∀(W:World) (k:Nat) (u:Value) (k':Nat),(W.setCell ⟨w.heap.size+2,k,none⟩ u).cell? ⟨w.heap.size+3,k',none⟩=W.cell? ⟨w.heap.size+3,k',none⟩:=fun W k u k'=>aw (by omega)
   have sp0:∀(W:World) (k:Nat) (u:Value) (k':Nat),(W.setCell ⟨w.heap.size+3,k,none⟩ u).cell? ⟨w.heap.size,k',none⟩=W.cell? ⟨w.heap.size,k',none⟩:=fun W k u k'=>aw (by omega)
   have sp1:∀(W:World) (k:Nat) (u:Value) (k':Nat),(W.setCell ⟨w.heap.size+3,k,none⟩ u).cell? ⟨w.heap.size+1,k',none⟩=W.cell? ⟨w.heap.size+1,k',none⟩:=fun W k u k'=>aw (by omega)
   have sp2:∀(W:World) (k:Nat) (u:Value) (k':Nat),(W.setCell ⟨w.heap.size+3,k,none⟩ u).cell? ⟨t2.heap.size,k',none⟩=W.cell? ⟨t2.heap.size,k',none⟩:=fun W k u k'=>aw (by omega)
   clear hr2 hr3 hxd
   go_wp2
   go_region_held3 (fun w'=>w'.cell? ⟨w.heap.size,0,none⟩=some (.bool b)∧w'.cell? ⟨w.heap.size,1,none⟩=some (.slice a n k)∧w'.cell? ⟨w.heap.size+1,0,none⟩=some (.bool b2)∧w'.cell? ⟨w.heap.size+1,1,none⟩=some (.slice a2 n2 k2)∧w'.cell? ⟨t2.heap.size,0,none⟩=some (.bool bX)∧w'.cell? ⟨t2.heap.size,1,none⟩=some (.slice aX mX kX)) (go_keep) (first
    | (go_at_call 51;refine HMU.mono ?_;rintro e' s1 ⟨⟨bp,ap,mp,kp,rfl,yp⟩,hs1⟩;have l0:=af hs1 j0;have l1:=af hs1 j1;have l2:=af hs1 j2;have l3:=af hs1 j3;have l4:=af hs1 j4;have l5:=af hs1 j5)
    | (go_at_call 84;refine (HSU.out s1 _ hs1 yp).mono ?_;rintro e' s2 ⟨⟨br,ar9,mr9,kr9,rfl,yr⟩,hs2⟩;have q0:=af hs2 l0;have q1:=af hs2 l1;have q2:=af hs2 l2;have q3:=af hs2 l3;have q4:=af hs2 l4;have q5:=af hs2 l5;have hz2:=ac hs2 (ac hs1 HR2.out);have hz3:=ac hs2 (ac hs1 HR3.out);have hf2':=aB hz2;have hf3':=aB hz3;obtain⟨m0,m1⟩:=duo hz2;obtain⟨m2,m3⟩:=duo hz3))
   have gs:=aD hs1 hs2
   have hq4:=cD (g:=w.heap.size+2) (b1:=bX) (u1:=.slice aX mX kX) (b2:=br) (u2:=.slice ar9 mr9 kr9) hz2 hz3
   have HE:=ab (And.intro (hq4.2.2 _ _ (ZX.out.below gs)) (And.intro (hq4.2.2 _ _ yr) (cM (aD HGD.out gs) (g:=w.heap.size+2) (u0:=.bool bX) (u1:=.slice aX mX kX) (u2:=.bool br) (u3:=.slice ar9 mr9 kr9) (by omega))))
   obtain⟨R5,R6,_⟩:=hq4
   clear so0 so1 so2 so3 sp0 sp1 sp2 hz2 hz3 hf2' hf3' m0 m1 m2 m3 q0 q1 q2 q3 q4 q5 l0 l1 l2 l3 l4 l5 yr yp hs1 hs2 gs
   generalize (((s2.setCell ⟨w.heap.size+2,0,none⟩ (.bool bX)).setCell ⟨w.heap.size+2,1,none⟩ (.slice aX mX kX)).setCell ⟨w.heap.size+2+1,0,none⟩ (.bool br)).setCell ⟨w.heap.size+2+1,1,none⟩ (.slice ar9 mr9 kr9)=w5 at *
   obtain⟨p0,p1⟩:=duo R5
   obtain⟨p2,p3⟩:=duo R6
   go_wp2
   refine bodyPost_ret (v:=.tuple #[.agg #[.bool bX,.slice aX mX kX],.agg #[.bool br,.slice ar9 mr9 kr9]]) (by simp [results,Tryz.results62,go_sem,p0,p1,p2,p3]) rfl ?_
   exact⟨⟨_,_,_,_,_,_,_,_,rfl,HE.out.1,HE.out.2.1⟩,HE.out.2.2⟩
  ·have hbd:Below u2.heap.size u2 u2.drew:=(Below.refl _ _).drew
   have gd:=aD HG.out hbd
   obtain⟨j0,j1⟩:=duo (ac gd HC0.out)
   obtain⟨j2,j3⟩:=duo (ac gd HC1.out)
   have hxd:=ac hbd BXF
   obtain⟨j4,j5⟩:=duo hxd
   have ZX:=ab (ZXF.below hbd)
   have HMU:=cQ _ _ (flq y z) z u2.drew ZX.out (HZ2.out.below gd) (by have:=HQB.out;omega)
   have HSU:=ab (fun (W:World) (v:Value) (hg:Below u2.drew.heap.size u2.drew W) (hv:Zn W v (flq y z*z))=>cH (.agg #[.bool b,.slice a n k]) v y (flq y z*z) W ((HZ1.out.below gd).below hg) hv (by omega) (by have h1:=HQB.out;rw [Int.natAbs_mul];have h2:=cR (flq y z).natAbs z.natAbs;omega))
   have hr2:=ac gd HC2.out
   have hr3:=ac gd HC3.out
   have HR2:=ab hr2
   have HR3:=ab hr3
   have HGD:=ab (aD HB0.out gd)
   have hlx:w.heap.size+3<t2.heap.size:=lt_of_block (ac HG12.out HC3.out)
   have so0:∀(W:World) (k:Nat) (u:Value) (k':Nat),(W.setCell ⟨w.heap.size+2,k,none⟩ u).cell? ⟨w.heap.size,k',none⟩=W.cell? ⟨w.heap.size,k',none⟩:=fun W k u k'=>aw (by omega)
   have so1:∀(W:World) (k:Nat) (u:Value) (k':Nat),(W.setCell ⟨w.heap.size+2,k,none⟩ u).cell? ⟨w.heap.size+1,k',none⟩=W.cell? ⟨w.heap.size+1,k',none⟩:=fun W k u k'=>aw (by omega)
   have so2:∀(W:World) (k:Nat) (u:Value) (k':Nat),(W.setCell ⟨w.heap.size+2,k,none⟩ u).cell? ⟨t2.heap.size,k',none⟩=W.cell? ⟨t2.heap.size,k',none⟩:=fun W k u k'=>aw (by omega)
   have so3:∀(W:World) (k:Nat) (u:Value) (k':Nat),(W.setCell ⟨w.heap.size+2,k,none⟩ u).cell? ⟨w.heap.size+3,k',none⟩=W.cell? ⟨w.heap.size+3,k',none⟩:=fun W k u k'=>aw (by omega)
   have sp0:∀(W:World) (k:Nat) (u:Value) (k':Nat),(W.setCell ⟨w.heap.size+3,k,none⟩ u).cell? ⟨w.heap.size,k',none⟩=W.cell? ⟨w.heap.size,k',none⟩:=fun W k u k'=>aw (by omega)
   have sp1:∀(W:World) (k:Nat) (u:Value) (k':Nat),(W.setCell ⟨w.heap.size+3,k,none⟩ u).cell? ⟨w.heap.size+1,k',none⟩=W.cell? ⟨w.heap.size+1,k',none⟩:=fun W k u k'=>aw (by omega)
   have sp2:∀(W:World) (k:Nat) (u:Value) (k':Nat),(W.setCell ⟨w.heap.size+3,k,none⟩ u).cell? ⟨t2.heap.size,k',none⟩=W.cell? ⟨t2.heap.size,k',none⟩:=fun W k u k'=>aw (by omega)
   clear hr2 hr3 hxd
   go_wp2
   go_region_held3 (fun w'=>w'.cell? ⟨w.heap.size,0,none⟩=some (.bool b)∧w'.cell? ⟨w.heap.size,1,none⟩=some (.slice a n k)∧w'.cell? ⟨w.heap.size+1,0,none⟩=some (.bool b2)∧w'.cell? ⟨w.heap.size+1,1,none⟩=some (.slice a2 n2 k2)∧w'.cell? ⟨t2.heap.size,0,none⟩=some (.bool bX)∧w'.cell? ⟨t2.heap.size,1,none⟩=some (.slice aX mX kX)) (go_keep) (first
    | (go_at_call 51;refine HMU.mono ?_;rintro e' s1 ⟨⟨bp,ap,mp,kp,rfl,yp⟩,hs1⟩;have l0:=af hs1 j0;have l1:=af hs1 j1;have l2:=af hs1 j2;have l3:=af hs1 j3;have l4:=af hs1 j4;have l5:=af hs1 j5)
    | (go_at_call 84;refine (HSU.out s1 _ hs1 yp).mono ?_;rintro e' s2 ⟨⟨br,ar9,mr9,kr9,rfl,yr⟩,hs2⟩;have q0:=af hs2 l0;have q1:=af hs2 l1;have q2:=af hs2 l2;have q3:=af hs2 l3;have q4:=af hs2 l4;have q5:=af hs2 l5;have hz2:=ac hs2 (ac hs1 HR2.out);have hz3:=ac hs2 (ac hs1 HR3.out);have hf2':=aB hz2;have hf3':=aB hz3;obtain⟨m0,m1⟩:=duo hz2;obtain⟨m2,m3⟩:=duo hz3))
   have gs:=aD hs1 hs2
   have hq4:=cD (g:=w.heap.size+2) (b1:=bX) (u1:=.slice aX mX kX) (b2:=br) (u2:=.slice ar9 mr9 kr9) hz2 hz3
   have HE:=ab (And.intro (hq4.2.2 _ _ (ZX.out.below gs)) (And.intro (hq4.2.2 _ _ yr) (cM (aD HGD.out gs) (g:=w.heap.size+2) (u0:=.bool bX) (u1:=.slice aX mX kX) (u2:=.bool br) (u3:=.slice ar9 mr9 kr9) (by omega))))
   obtain⟨R5,R6,_⟩:=hq4
   clear so0 so1 so2 so3 sp0 sp1 sp2 hz2 hz3 hf2' hf3' m0 m1 m2 m3 q0 q1 q2 q3 q4 q5 l0 l1 l2 l3 l4 l5 yr yp hs1 hs2 gs
   generalize (((s2.setCell ⟨w.heap.size+2,0,none⟩ (.bool bX)).setCell ⟨w.heap.size+2,1,none⟩ (.slice aX mX kX)).setCell ⟨w.heap.size+2+1,0,none⟩ (.bool br)).setCell ⟨w.heap.size+2+1,1,none⟩ (.slice ar9 mr9 kr9)=w5 at *
   obtain⟨p0,p1⟩:=duo R5
   obtain⟨p2,p3⟩:=duo R6
   go_wp2
   refine bodyPost_ret (v:=.tuple #[.agg #[.bool bX,.slice aX mX kX],.agg #[.bool br,.slice ar9 mr9 kr9]]) (by simp [results,Tryz.results62,go_sem,p0,p1,p2,p3]) rfl ?_
   exact⟨⟨_,_,_,_,_,_,_,_,rfl,HE.out.1,HE.out.2.1⟩,HE.out.2.2⟩
  ·have hbd:Below u2.heap.size u2 u2.drew:=(Below.refl _ _).drew
   have gd:=aD HG.out hbd
   obtain⟨j0,j1⟩:=duo (ac gd HC0.out)
   obtain⟨j2,j3⟩:=duo (ac gd HC1.out)
   have hxd:=ac hbd BXF
   obtain⟨j4,j5⟩:=duo hxd
   have ZX:=ab (ZXF.below hbd)
   have HMU:=cQ _ _ (flq y z) z u2.drew ZX.out (HZ2.out.below gd) (by have:=HQB.out;omega)
   have HSU:=ab (fun (W:World) (v:Value) (hg:Below u2.drew.heap.size u2.drew W) (hv:Zn W v (flq y z*z))=>cH (.agg #[.bool b,.slice a n k]) v y (flq y z*z) W ((HZ1.out.below gd).below hg) hv (by omega) (by have h1:=HQB.out;rw [Int.natAbs_mul];have h2:=cR (flq y z).natAbs z.natAbs;omega))
   have hr2:=ac gd HC2.out
   have hr3:=ac gd HC3.out
   have HR2:=ab hr2
   have HR3:=ab hr3
   have HGD:=ab (aD HB0.out gd)
   have hlx:w.heap.size+3<t2.heap.size:=lt_of_block (ac HG12.out HC3.out)
   have so0:∀(W:World) (k:Nat) (u:Value) (k':Nat),(W.setCell ⟨w.heap.size+2,k,none⟩ u).cell? ⟨w.heap.size,k',none⟩=W.cell? ⟨w.heap.size,k',none⟩:=fun W k u k'=>aw (by omega)
   have so1:∀(W:World) (k:Nat) (u:Value) (k':Nat),(W.setCell ⟨w.heap.size+2,k,none⟩ u).cell? ⟨w.heap.size+1,k',none⟩=W.cell? ⟨w.heap.size+1,k',none⟩:=fun W k u k'=>aw (by omega)
   have so2:∀(W:World) (k:Nat) (u:Value) (k':Nat),(W.setCell ⟨w.heap.size+2,k,none⟩ u).cell? ⟨t2.heap.size,k',none⟩=W.cell? ⟨t2.heap.size,k',none⟩:=fun W k u k'=>aw (by omega)
   have so3:∀(W:World) (k:Nat) (u:Value) (k':Nat),(W.setCell ⟨w.heap.size+2,k,none⟩ u).cell? ⟨w.heap.size+3,k',none⟩=W.cell? ⟨w.heap.size+3,k',none⟩:=fun W k u k'=>aw (by omega)
   have sp0:∀(W:World) (k:Nat) (u:Value) (k':Nat),(W.setCell ⟨w.heap.size+3,k,none⟩ u).cell? ⟨w.heap.size,k',none⟩=W.cell? ⟨w.heap.size,k',none⟩:=fun W k u k'=>aw (by omega)
   have sp1:∀(W:World) (k:Nat) (u:Value) (k':Nat),(W.setCell ⟨w.heap.size+3,k,none⟩ u).cell? ⟨w.heap.size+1,k',none⟩=W.cell? ⟨w.heap.size+1,k',none⟩:=fun W k u k'=>aw (by omega)
   have sp2:∀(W:World) (k:Nat) (u:Value) (k':Nat),(W.setCell ⟨w.heap.size+3,k,none⟩ u).cell? ⟨t2.heap.size,k',none⟩=W.cell? ⟨t2.heap.size,k',none⟩:=fun W k u k'=>aw (by omega)
   clear hr2 hr3 hxd
   go_wp2
   go_region_held3 (fun w'=>w'.cell? ⟨w.heap.size,0,none⟩=some (.bool b)∧w'.cell? ⟨w.heap.size,1,none⟩=some (.slice a n k)∧w'.cell? ⟨w.heap.size+1,0,none⟩=some (.bool b2)∧w'.cell? ⟨w.heap.size+1,1,none⟩=some (.slice a2 n2 k2)∧w'.cell? ⟨t2.heap.size,0,none⟩=some (.bool bX)∧w'.cell? ⟨t2.heap.size,1,none⟩=some (.slice aX mX kX)) (go_keep) (first
    | (go_at_call 51;refine HMU.mono ?_;rintro e' s1 ⟨⟨bp,ap,mp,kp,rfl,yp⟩,hs1⟩;have l0:=af hs1 j0;have l1:=af hs1 j1;have l2:=af hs1 j2;have l3:=af hs1 j3;have l4:=af hs1 j4;have l5:=af hs1 j5)
    | (go_at_call 84;refine (HSU.out s1 _ hs1 yp).mono ?_;rintro e' s2 ⟨⟨br,ar9,mr9,kr9,rfl,yr⟩,hs2⟩;have q0:=af hs2 l0;have q1:=af hs2 l1;have q2:=af hs2 l2;have q3:=af hs2 l3;have q4:=af hs2 l4;have q5:=af hs2 l5;have hz2:=ac hs2 (ac hs1 HR2.out);have hz3:=ac hs2 (ac hs1 HR3.out);have hf2':=aB hz2;have hf3':=aB hz3;obtain⟨m0,m1⟩:=duo hz2;obtain⟨m2,m3⟩:=duo hz3))
   have gs:=aD hs1 hs2
   have hq4:=cD (g:=w.heap.size+2) (b1:=bX) (u1:=.slice aX mX kX) (b2:=br) (u2:=.slice ar9 mr9 kr9) hz2 hz3
   have HE:=ab (And.intro (hq4.2.2 _ _ (ZX.out.below gs)) (And.intro (hq4.2.2 _ _ yr) (cM (aD HGD.out gs) (g:=w.heap.size+2) (u0:=.bool bX) (u1:=.slice aX mX kX) (u2:=.bool br) (u3:=.slice ar9 mr9 kr9) (by omega))))
   obtain⟨R5,R6,_⟩:=hq4
   clear so0 so1 so2 so3 sp0 sp1 sp2 hz2 hz3 hf2' hf3' m0 m1 m2 m3 q0 q1 q2 q3 q4 q5 l0 l1 l2 l3 l4 l5 yr yp hs1 hs2 gs
   generalize (((s2.setCell ⟨w.heap.size+2,0,none⟩ (.bool bX)).setCell ⟨w.heap.size+2,1,none⟩ (.slice aX mX kX)).setCell ⟨w.heap.size+2+1,0,none⟩ (.bool br)).setCell ⟨w.heap.size+2+1,1,none⟩ (.slice ar9 mr9 kr9)=w5 at *
   obtain⟨p0,p1⟩:=duo R5
   obtain⟨p2,p3⟩:=duo R6
   go_wp2
   refine bodyPost_ret (v:=.tuple #[.agg #[.bool bX,.slice aX mX kX],.agg #[.bool br,.slice ar9 mr9 kr9]]) (by simp [results,Tryz.results62,go_sem,p0,p1,p2,p3]) rfl ?_
   exact⟨⟨_,_,_,_,_,_,_,_,rfl,HE.out.1,HE.out.2.1⟩,HE.out.2.2⟩

theorem js (y z:Int):(flq y z).natAbs≤y.natAbs / z.natAbs+1:=by
 unfold flq
 generalize y.natAbs / z.natAbs=q
 generalize (decide (y<0) != decide (z<0))=s
 generalize decide (y.natAbs % z.natAbs≠0)=t
 cases s <;> cases t <;> simp [zz] <;> omega

theorem jN {x q k:Nat}(h:q≤x+k)(hk:k≤2):blen q≤blen x+2:=by
 refine (blen_le_iff _ _).2 ?_
 have h1:=(blen_le_iff x _).1 (Nat.le_refl _)
 rw [Nat.pow_add]
 have:=Nat.two_pow_pos (blen x)
 omega

def ceq (y z:Int):Int:=if y - flq y z*z=0 then flq y z else flq y z+1

theorem pj (v1 v2:Value)(y z:Int)(w:World)(h1:Zn w v1 y)(h2:Zn w v2 z)(hz0:z≠0)(hf1:blen y.natAbs≤1125899906810000)(hf2:blen z.natAbs≤1125899906810000) :
  Calls Tryz.prog 78 #[v1,v2] w (gP w (ceq y z) (y - ceq y z*z)):=by
 obtain⟨b,a,n,k,rfl,hb,hn,hz⟩:=h1.parts
 obtain⟨b2,a2,n2,k2,rfl,hb2,hn2,hz2⟩:=h2.parts
 obtain⟨w0,hw0,hb0,c0,c1,c2,c3⟩:=gU w (.cells #[.bool b,.slice a n k] 29) (.cells #[.bool b2,.slice a2 n2 k2] 29) (.cells #[.bool false,.slice none 0 0] 29) (.cells #[.bool false,.slice none 0 0] 29)
 obtain⟨d0,d1⟩:=duo c0
 obtain⟨d2,d3⟩:=duo c1
 have HD:=iz _ _ y z w0 (h1.below hb0) (h2.below hb0) hz0 hf1 hf2
 have HB0:=ab hb0
 have HC0:=ab c0
 have HC1:=ab c1
 have HC2:=ab c2
 have HC3:=ab c3
 have HZ1:=ab (h1.below hb0)
 have HZ2:=ab (h2.below hb0)
 have hfq:=js y z
 have hdq:=Nat.div_le_self y.natAbs z.natAbs
 have hbq:=jN (x:=y.natAbs) (q:=(flq y z).natAbs) (k:=1) (by omega) (by omega)
 clear h1 h2 hn hn2 hb0 c0 c1 c2 c3 hb hb2 hz hz2
 by_cases hr0:y - flq y z*z=0
 ·have hce:ceq y z=flq y z:=if_pos hr0
  rw [hce]
  go_enter Tryz.func78,Tryz.ntmps78
  go_wp2_with fail
  refine HD.mono ?_
  rintro e t1 ⟨⟨bX,aX,mX,kX,br,ar9,mr9,kr9,rfl,zq,zr⟩,g1⟩
  obtain⟨u2,hu2,hbu2,hxu,hyu⟩:=al t1 (.cells #[.bool bX,.slice aX mX kX] 29) (.cells #[.bool br,.slice ar9 mr9 kr9] 29)
  obtain⟨e0,e1⟩:=duo hyu
  have HS:=bn _ _ u2 (zr.below hbu2)
  rw [hr0,Int.sign_zero] at HS
  have HZQ:=ab (zq.below hbu2)
  have HZR:=ab (zr.below hbu2)
  have HXU:=ab hxu
  have HYU:=ab hyu
  have HG:=ab (aD g1 hbu2)
  have HG1:=ab g1
  clear HD d0 d1 d2 d3 zq zr hbu2 hxu hyu g1
  go_wp2_with fail
  refine HS.mono ?_
  rintro e t3 ⟨rfl,g3⟩
  have gg:=aD HG.out g3
  obtain⟨f0,f1⟩:=duo (ac g3 HXU.out)
  obtain⟨f2,f3⟩:=duo (ac g3 HYU.out)
  have hz2:=ac gg HC2.out
  have hz3:=ac gg HC3.out
  have hf2':=aB hz2
  have hf3':=aB hz3
  obtain⟨m0,m1⟩:=duo hz2
  obtain⟨m2,m3⟩:=duo hz3
  have hlx:w.heap.size+3<t1.heap.size:=lt_of_block (ac HG1.out HC3.out)
  have so1:∀(W:World) (k:Nat) (u:Value) (k':Nat),(W.setCell ⟨w.heap.size+2,k,none⟩ u).cell? ⟨t1.heap.size,k',none⟩=W.cell? ⟨t1.heap.size,k',none⟩:=fun W k u k'=>aw (by omega)
  have so2:∀(W:World) (k:Nat) (u:Value) (k':Nat),(W.setCell ⟨w.heap.size+2,k,none⟩ u).cell? ⟨t1.heap.size+1,k',none⟩=W.cell? ⟨t1.heap.size+1,k',none⟩:=fun W k u k'=>aw (by omega)
  have so3:∀(W:World) (k:Nat) (u:Value) (k':Nat),(W.setCell ⟨w.heap.size+2,k,none⟩ u).cell? ⟨w.heap.size+3,k',none⟩=W.cell? ⟨w.heap.size+3,k',none⟩:=fun W k u k'=>aw (by omega)
  have so4:∀(W:World) (k:Nat) (u:Value) (k':Nat),(W.setCell ⟨w.heap.size+3,k,none⟩ u).cell? ⟨t1.heap.size,k',none⟩=W.cell? ⟨t1.heap.size,k',none⟩:=fun W k u k'=>aw (by omega)
  have so5:∀(W:World) (k:Nat) (u:Value) (k':Nat),(W.setCell ⟨w.heap.size+3,k,none⟩ u).cell? ⟨t1.heap.size+1,k',none⟩=W.cell? ⟨t1.heap.size+1,k',none⟩:=fun W k u k'=>aw (by omega)
  have so6:∀(W:World) (k:Nat) (u:Value) (k':Nat),(W.setCell ⟨w.heap.size+3,k,none⟩ u).cell? ⟨w.heap.size+2,k',none⟩=W.cell? ⟨w.heap.size+2,k',none⟩:=fun W k u k'=>aw (by omega)
  have hq4:=cD (g:=w.heap.size+2) (b1:=bX) (u1:=.slice aX mX kX) (b2:=br) (u2:=.slice ar9 mr9 kr9) hz2 hz3
  have HE:=ab (And.intro (hq4.2.2 _ _ (HZQ.out.below g3)) (And.intro (hq4.2.2 _ _ (HZR.out.below g3)) (cM (aD HB0.out gg) (g:=w.heap.size+2) (u0:=.bool bX) (u1:=.slice aX mX kX) (u2:=.bool br) (u3:=.slice ar9 mr9 kr9) (by omega))))
  obtain⟨R5,R6,_⟩:=hq4
  clear hz2 hz3 gg g3 HS HG
  go_wp2
  go_region
  all_goals (
   clear so1 so2 so3 so4 so5 so6 hf2' hf3' m0 m1 m2 m3 f0 f1 f2 f3
   generalize (((t3.setCell ⟨w.heap.size+2,0,none⟩ (.bool bX)).setCell ⟨w.heap.size+2,1,none⟩ (.slice aX mX kX)).setCell ⟨w.heap.size+2+1,0,none⟩ (.bool br)).setCell ⟨w.heap.size+2+1,1,none⟩ (.slice ar9 mr9 kr9)=w5 at *
   obtain⟨p0,p1⟩:=duo (show w5.drew.heap[w.heap.size+2]?=_ from R5)
   obtain⟨p2,p3⟩:=duo (show w5.drew.heap[w.heap.size+2+1]?=_ from R6)
   go_wp2
   refine bodyPost_ret (v:=.tuple #[.agg #[.bool bX,.slice aX mX kX],.agg #[.bool br,.slice ar9 mr9 kr9]]) (by simp [results,Tryz.results78,go_sem,p0,p1,p2,p3]) rfl ?_
   exact⟨⟨_,_,_,_,_,_,_,_,rfl,HE.out.1.drew6,HE.out.2.1.drew6⟩,HE.out.2.2.drew⟩)
 ·have hce:ceq y z=flq y z+1:=if_neg hr0
  have HQB:Hid (blen (ceq y z).natAbs+blen z.natAbs≤1125899906840000):=ab (by
   have h:=dX (x:=y.natAbs) (y:=z.natAbs) (q:=(ceq y z).natAbs) (k:=2) (by omega) (by rw [hce];omega) (by omega) hf1 hf2
   omega)
  have HFQ:=ab hce
  obtain⟨rs,hrs,hrs0⟩:∃rs:Int,(y - flq y z*z).sign=rs∧(rs == 0)=false:=⟨_,rfl,by
   rw [beq_eq_false_iff_ne]
   exact fun h=>hr0 (Int.sign_eq_zero_iff_zero.1 h)⟩
  clear hce hr0
  go_enter Tryz.func78,Tryz.ntmps78
  go_wp2_with fail
  refine HD.mono ?_
  rintro e t1 ⟨⟨bx,ax,mx,kx,br0,ar0,mr0,kr0,rfl,zq,zr⟩,g1⟩
  obtain⟨u2,hu2,hbu2,hxu,hyu⟩:=al t1 (.cells #[.bool bx,.slice ax mx kx] 29) (.cells #[.bool br0,.slice ar0 mr0 kr0] 29)
  obtain⟨e0,e1⟩:=duo hyu
  have HS:=bn _ _ u2 (zr.below hbu2)
  rw [hrs] at HS
  have HZQ:=ab (zq.below hbu2)
  have HXU:=ab hxu
  have HU2:=ab hbu2
  have HG1:=ab g1
  clear HD d0 d1 d2 d3 zq zr hbu2 hxu hyu g1 hrs
  go_wp2_with fail
  refine HS.mono ?_
  rintro e t3 ⟨rfl,g3⟩
  have HG3:=ab (aD HU2.out g3)
  have HX3:=ab (ac g3 HXU.out)
  have HZ3:=ab (HZQ.out.below g3)
  have I1:=fz 1 t3.drew (by omega) (by omega)
  have hb1:blen (Int.natAbs 1)≤64:=by decide
  have S1:=ab (fun (W:World) (v:Value) (hg:Below t3.drew.heap.size t3.drew W) (hv:Zn W v 1)=>iA (.agg #[.bool bx,.slice ax mx kx]) v (flq y z) 1 W (HZ3.out.drew6.below hg) hv (by omega) (by omega))
  obtain⟨x0,x1⟩:=duo (show t3.drew.heap[t1.heap.size]?=some (.cells #[.bool bx,.slice ax mx kx] 29) from HX3.out)
  clear g3 HS HZQ HXU e0 e1 hu2
  go_upto_region 4 with fail
  go_cut [19] from 19 to 22 (fun _ wx=>∃(bX:Bool) (aX:Option Addr) (mX kX:Nat),wx.heap[t1.heap.size]?=some (.cells #[.bool bX,.slice aX mX kX] 29)∧Zn wx (.agg #[.bool bX,.slice aX mX kX]) (ceq y z)∧Below t1.heap.size t1 wx)
  case first=>
   go_region_with (first
    | (go_at_call 40;refine I1.mono ?_;rintro e' s1 ⟨⟨bi,ai,mi,ki,rfl,yi⟩,hs1⟩;have y0:=af hs1 x0;have y1:=af hs1 x1)
    | (go_at_call 98;refine (S1.out s1 _ hs1 yi).mono ?_;rintro e' s2 ⟨⟨bs,as9,ms,ks,rfl,ys⟩,hs2⟩;have hzx:=ac hs2 (ac hs1 (show t3.drew.heap[t1.heap.size]?=some (.cells #[.bool bx,.slice ax mx kx] 29) from HX3.out));have hfx:=aB hzx;obtain⟨w0',w1'⟩:=duo hzx))
   all_goals (go_wp2_with fail;go_meet)
   all_goals (refine⟨bs,as9,ms,ks,aP hzx,?_,aO (aD (aD HG3.out (Below.refl _ _).drew) (aD hs1 hs2)) (Nat.le_refl _)⟩;rw [HFQ.out];exact ys.duo hzx)
  case rest=>
   obtain⟨bX,aX,mX,kX,BXF,ZXF,gx⟩:=hcut
   have gwc:=aD HG1.out gx
   have hbd:Below wc.heap.size wc wc.drew:=(Below.refl _ _).drew
   have gd:=aD gwc hbd
   obtain⟨j0,j1⟩:=duo (ac gd HC0.out)
   obtain⟨j2,j3⟩:=duo (ac gd HC1.out)
   have hxd:=ac hbd BXF
   obtain⟨j4,j5⟩:=duo hxd
   have ZX:=ab (ZXF.below hbd)
   have HMU:=cQ _ _ (ceq y z) z wc.drew ZX.out (HZ2.out.below gd) (by have:=HQB.out;omega)
   have HSU:=ab (fun (W:World) (v:Value) (hg:Below wc.drew.heap.size wc.drew W) (hv:Zn W v (ceq y z*z))=>cH (.agg #[.bool b,.slice a n k]) v y (ceq y z*z) W ((HZ1.out.below gd).below hg) hv (by omega) (by have h1:=HQB.out;rw [Int.natAbs_mul];have h2:=cR (ceq y z).natAbs z.natAbs;omega))
   have hr2:=ac gd HC2.out
   have hr3:=ac gd HC3.out
   have HR2:=ab hr2
   have HR3:=ab hr3
   have HGD:=ab (aD HB0.out gd)
   have hlx:w.heap.size+3<t1.heap.size:=lt_of_block (ac HG1.out HC3.out)
   have so0:∀(W:World) (k:Nat) (u:Value) (k':Nat),(W.setCell ⟨w.heap.size+2,k,none⟩ u).cell? ⟨w.heap.size,k',none⟩=W.cell? ⟨w.heap.size,k',none⟩:=fun W k u k'=>aw (by omega)
   have so1:∀(W:World) (k:Nat) (u:Value) (k':Nat),(W.setCell ⟨w.heap.size+2,k,none⟩ u).cell? ⟨w.heap.size+1,k',none⟩=W.cell? ⟨w.heap.size+1,k',none⟩:=fun W k u k'=>aw (by omega)
   have so2:∀(W:World) (k:Nat) (u:Value) (k':Nat),(W.setCell ⟨w.heap.size+2,k,none⟩ u).cell? ⟨t1.heap.size,k',none⟩=W.cell? ⟨t1.heap.size,k',none⟩:=fun W k u k'=>aw (by omega)
   have so3:∀(W:World) (k:Nat) (u:Value) (k':Nat),(W.setCell ⟨w.heap.size+2,k,none⟩ u).cell? ⟨w.heap.size+3,k',none⟩=W.cell? ⟨w.heap.size+3,k',none⟩:=fun W k u k'=>aw (by omega)
   have sp0:∀(W:World) (k:Nat) (u:Value) (k':Nat),(W.setCell ⟨w.heap.size+3,k,none⟩ u).cell? ⟨w.heap.size,k',none⟩=W.cell? ⟨w.heap.size,k',none⟩:=fun W k u k'=>aw (by omega)
   have sp1:∀(W:World) (k:Nat) (u:Value) (k':Nat),(W.setCell ⟨w.heap.size+3,k,none⟩ u).cell? ⟨w.heap.size+1,k',none⟩=W.cell? ⟨w.heap.size+1,k',none⟩:=fun W k u k'=>aw (by omega)
   have sp2:∀(W:World) (k:Nat) (u:Value) (k':Nat),(W.setCell ⟨w.heap.size+3,k,none⟩ u).cell? ⟨t1.heap.size,k',none⟩=W.cell? ⟨t1.heap.size,k',none⟩:=fun W k u k'=>aw (by omega)
   clear hr2 hr3 hxd
   go_wp2
   go_region_held3 (fun w'=>w'.cell? ⟨w.heap.size,0,none⟩=some (.bool b)∧w'.cell? ⟨w.heap.size,1,none⟩=some (.slice a n k)∧w'.cell? ⟨w.heap.size+1,0,none⟩=some (.bool b2)∧w'.cell? ⟨w.heap.size+1,1,none⟩=some (.slice a2 n2 k2)∧w'.cell? ⟨t1.heap.size,0,none⟩=some (.bool bX)∧w'.cell? ⟨t1.heap.size,1,none⟩=some (.slice aX mX kX)) (go_keep) (first
    | (go_at_call 51;refine HMU.mono ?_;rintro e' s1 ⟨⟨bp,ap,mp,kp,rfl,yp⟩,hs1⟩;have l0:=af hs1 j0;have l1:=af hs1 j1;have l2:=af hs1 j2;have l3:=af hs1 j3;have l4:=af hs1 j4;have l5:=af hs1 j5)
    | (go_at_call 84;refine (HSU.out s1 _ hs1 yp).mono ?_;rintro e' s2 ⟨⟨br,ar9,mr9,kr9,rfl,yr⟩,hs2⟩;have q0:=af hs2 l0;have q1:=af hs2 l1;have q2:=af hs2 l2;have q3:=af hs2 l3;have q4:=af hs2 l4;have q5:=af hs2 l5;have hz2:=ac hs2 (ac hs1 HR2.out);have hz3:=ac hs2 (ac hs1 HR3.out);have hf2':=aB hz2;have hf3':=aB hz3;obtain⟨m0,m1⟩:=duo hz2;obtain⟨m2,m3⟩:=duo hz3))
   have gs:=aD hs1 hs2
   have hq4:=cD (g:=w.heap.size+2) (b1:=bX) (u1:=.slice aX mX kX) (b2:=br) (u2:=.slice ar9 mr9 kr9) hz2 hz3
   have HE:=ab (And.intro (hq4.2.2 _ _ (ZX.out.below gs)) (And.intro (hq4.2.2 _ _ yr) (cM (aD HGD.out gs) (g:=w.heap.size+2) (u0:=.bool bX) (u1:=.slice aX mX kX) (u2:=.bool br) (u3:=.slice ar9 mr9 kr9) (by omega))))
   obtain⟨R5,R6,_⟩:=hq4
   clear so0 so1 so2 so3 sp0 sp1 sp2 hz2 hz3 hf2' hf3' m0 m1 m2 m3 q0 q1 q2 q3 q4 q5 l0 l1 l2 l3 l4 l5 yr yp hs1 hs2 gs
   generalize (((s2.setCell ⟨w.heap.size+2,0,none⟩ (.bool bX)).setCell ⟨w.heap.size+2,1,none⟩ (.slice aX mX kX)).setCell ⟨w.heap.size+2+1,0,none⟩ (.bool br)).setCell ⟨w.heap.size+2+1,1,none⟩ (.slice ar9 mr9 kr9)=w5 at *
   obtain⟨p0,p1⟩:=duo R5
   obtain⟨p2,p3⟩:=duo R6
   go_wp2
   refine bodyPost_ret (v:=.tuple #[.agg #[.bool bX,.slice aX mX kX],.agg #[.bool br,.slice ar9 mr9 kr9]]) (by simp [results,Tryz.results78,go_sem,p0,p1,p2,p3]) rfl ?_
   exact⟨⟨_,_,_,_,_,_,_,_,rfl,HE.out.1,HE.out.2.1⟩,HE.out.2.2⟩



theorem Zn.inv9 {w:World}{b:Bool}{u:Value}{z:Int}(h:Zn w (.agg #[.bool b,u]) z):b=decide (z<0)∧Num w u z.natAbs:=by
 obtain⟨u',h1,h2⟩:=h
 simp only [Value.agg.injEq,Array.mk.injEq,List.cons.injEq,Value.bool.injEq,and_true] at h1
 obtain⟨rfl,rfl⟩:=h1
 exact⟨rfl,h2⟩

def fs (y z:Int):Bool:=decide (z.natAbs<(y - flq y z*z).natAbs*2) || (decide ((y - flq y z*z).natAbs*2=z.natAbs) && decide ((flq y z).natAbs % 2=1))

def neq (y z:Int):Int:=if fs y z then flq y z+1 else flq y z

theorem qz (v1 v2:Value)(y z:Int)(w:World)(h1:Zn w v1 y)(h2:Zn w v2 z)(hz0:z≠0)(hf1:blen y.natAbs≤1125899906810000)(hf2:blen z.natAbs≤1125899906810000) :
  Calls Tryz.prog 79 #[v1,v2] w (gP w (neq y z) (y - neq y z*z)):=by
 obtain⟨b,a,n,k,rfl,hb,hn,hz⟩:=h1.parts
 obtain⟨b2,a2,n2,k2,rfl,hb2,hn2,hz2⟩:=h2.parts
 obtain⟨w0,hw0,hb0,c0,c1,c2,c3⟩:=gU w (.cells #[.bool b,.slice a n k] 29) (.cells #[.bool b2,.slice a2 n2 k2] 29) (.cells #[.bool false,.slice none 0 0] 29) (.cells #[.bool false,.slice none 0 0] 29)
 obtain⟨d0,d1⟩:=duo c0
 obtain⟨d2,d3⟩:=duo c1
 have HD:=iz _ _ y z w0 (h1.below hb0) (h2.below hb0) hz0 hf1 hf2
 have HB0:=ab hb0
 have HC0:=ab c0
 have HC1:=ab c1
 have HC2:=ab c2
 have HC3:=ab c3
 have HZ1:=ab (h1.below hb0)
 have HZ2:=ab (h2.below hb0)
 have hfq:=js y z
 have hdq:=Nat.div_le_self y.natAbs z.natAbs
 have hbq:=jN (x:=y.natAbs) (q:=(flq y z).natAbs) (k:=1) (by omega) (by omega)
 clear h1 h2 hn hn2 hb0 c0 c1 c2 c3 hb hb2 hz hz2
 have HQB:Hid (blen (neq y z).natAbs+blen z.natAbs≤1125899906840000):=ab (by
  have h:=dX (x:=y.natAbs) (y:=z.natAbs) (q:=(neq y z).natAbs) (k:=2) (by omega) (by unfold neq;split <;> omega) (by omega) hf1 hf2
  omega)
 have hbr:blen (y - flq y z*z).natAbs+1≤1125899906840000:=by
  have e1:(y - flq y z*z).natAbs≤y.natAbs+(flq y z*z).natAbs:=Int.natAbs_sub_le _ _
  have hqr:=dX (x:=y.natAbs) (y:=z.natAbs) (q:=(flq y z).natAbs) (k:=1) (by omega) (by omega) (by omega) hf1 hf2
  obtain⟨N9,hN9⟩:∃N9,N9=1125899906810000+5:=⟨_,rfl⟩
  have e2:blen (flq y z*z).natAbs≤N9:=by
   rw [Int.natAbs_mul]
   have:=cR (flq y z).natAbs z.natAbs
   omega
  have e3:blen (y.natAbs+(flq y z*z).natAbs)≤N9+1:=pM (by omega) e2
  have:=blen_mono e1
  omega
 obtain⟨nc,hnc⟩:∃nc,fs y z=nc:=⟨_,rfl⟩
 have hneq:neq y z=if nc then flq y z+1 else flq y z:=by unfold neq;rw [hnc]
 have HNEQ:=ab hneq
 have HNC:=ab hnc
 clear hneq hnc
 go_enter Tryz.func79,Tryz.ntmps79
 go_wp2_with fail
 refine HD.mono ?_
 rintro e t1 ⟨⟨bx,ax,mx,kx,br0,ar0,mr0,kr0,rfl,zq,zr⟩,g1⟩
 obtain⟨u2,hu2,hbu2,hxu,hyu⟩:=al t1 (.cells #[.bool bx,.slice ax mx kx] 29) (.cells #[.bool br0,.slice ar0 mr0 kr0] 29)
 have HG1:=ab g1
 have HU2:=ab hbu2
 have gu:=aD g1 hbu2
 have hbd:Below u2.heap.size u2 u2.drew:=(Below.refl _ _).drew
 obtain⟨x0,x1⟩:=duo (show u2.drew.heap[t1.heap.size+1]?=some (.cells #[.bool br0,.slice ar0 mr0 kr0] 29) from hyu)
 obtain⟨x2,x3⟩:=duo (ac (aD gu hbd) HC1.out)
 have SH:=cY _ (y - flq y z*z).natAbs 1 u2.drew ((zr.below hbu2).inv9.2.below hbd) (by omega)
 have CM:=ab (fun (W:World) (v:Value) (hg:Below u2.drew.heap.size u2.drew W) (hv:Num W v ((y - flq y z*z).natAbs*2 ^ 1))=>dD v _ _ z.natAbs W hv ((((HZ2.out.below gu).inv9.2).below hbd).below hg))
 have HZQ:=ab (zq.below hbu2)
 have HXU:=ab hxu
 clear HD d0 d1 d2 d3 zq zr hbu2 hxu hyu g1
 go_wp2
 go_region_held3 (fun w'=>w'.cell? ⟨t1.heap.size+1,0,none⟩=some (.bool br0)∧w'.cell? ⟨t1.heap.size+1,1,none⟩=some (.slice ar0 mr0 kr0)∧w'.cell? ⟨w.heap.size+1,0,none⟩=some (.bool b2)∧w'.cell? ⟨w.heap.size+1,1,none⟩=some (.slice a2 n2 k2)) (go_keep) (first
  | (go_at_call 61;refine SH.mono ?_;rintro e' s1 ⟨⟨vs,rfl,ns⟩,hs1⟩;have y0:=af hs1 x0;have y1:=af hs1 x1;have y2:=af hs1 x2;have y3:=af hs1 x3)
  | (go_at_call 60;refine (CM.out s1 _ hs1 ns).mono ?_;rintro e' s2 ⟨rfl,hsame⟩;have hs2:Below s1.heap.size s1 s2:=hsame.below _;have q0:=af hs2 y0;have q1:=af hs2 y1;have q2:=af hs2 y2;have q3:=af hs2 y3))
 have gs:=aD (ck hs1) hs2
 obtain⟨t3,ht3⟩:∃t3,s2=t3:=⟨_,rfl⟩
 rw [ht3] at gs ⊢
 have g3:=gs
 have HG3:=ab (aD HU2.out g3)
 have HX3:=ab (ac g3 HXU.out)
 have HZ3:=ab (HZQ.out.below g3)
 obtain⟨p0,p1⟩:=duo HX3.out
 have BT:=iX _ (flq y z).natAbs 0 t3 HZ3.out.inv9.2 (by omega)
 rw [Nat.pow_zero,Nat.div_one] at BT
 (try rw [Nat.pow_one])
 clear hs1 hs2 hsame q0 q1 q2 q3 y0 y1 y2 y3 x0 x1 x2 x3 SH CM ns gs ht3 hu2 gu hbd
 obtain⟨cc,hcc⟩:∃cc:Int,cmpN ((y - flq y z*z).natAbs*2) z.natAbs=cc:=⟨_,rfl⟩
 rw [hcc]
 have HNC2:Hid (nc=(decide (z.natAbs<(y - flq y z*z).natAbs*2) || (decide ((y - flq y z*z).natAbs*2=z.natAbs) && decide ((flq y z).natAbs % 2=1)))):=ab (by rw [←HNC.out];rfl)
 generalize (y - flq y z*z).natAbs*2=rr at *
 obtain⟨bt,hbt,hbt2⟩:∃bt:Nat,(flq y z).natAbs % 2=bt∧bt<2:=⟨_,rfl,by omega⟩
 rw [hbt] at BT
 rw [hbt] at HNC2
 go_upto_region 3 with fail
 go_cut [32] from 21 to 33 (fun s wx=>s=.bool nc∧wx=t3)
 case first=>
  by_cases hA:z.natAbs<rr
  ·have hc1:cc=1:=by rw [←hcc];unfold cmpN;rw [if_neg (by omega),if_pos hA]
   subst hc1
   have hn1:nc=true:=by rw [HNC2.out,decide_eq_true hA];rfl
   clear hcc
   go_wp2_with fail
   go_meet
   exact⟨by rw [hn1],rfl⟩
  ·by_cases hB:rr=z.natAbs
   ·have hc1:cc=0:=by rw [←hcc];unfold cmpN;rw [if_neg (by omega),if_neg hA]
    subst hc1
    have hn1:nc=decide (bt=1):=by rw [HNC2.out,decide_eq_false hA,decide_eq_true hB];rfl
    have hd:decide (bt=1)=((bt:Int) == 1):=by
     rcases (show bt=0∨bt=1 by omega) with h|h <;> subst h <;> rfl
    have HN1:=ab (hn1.trans hd)
    clear hcc hn1 hd hbt hB hA
    go_wp2_with fail
    refine BT.mono ?_
    rintro e wn ⟨rfl,hw⟩;rw [hw];clear hw wn
    go_wp2
    go_meet
    exact⟨by rw [HN1.out],rfl⟩
   ·have hc1:cc=-1:=by rw [←hcc];exact cmpN_lt (by omega)
    subst hc1
    have hn1:nc=false:=by rw [HNC2.out,decide_eq_false hA,decide_eq_false hB];rfl
    clear hcc
    go_wp2_with fail
    go_meet
    exact⟨by rw [hn1],rfl⟩
 case rest=>
  obtain⟨rfl,rfl⟩:=hcut
  clear BT HNC2 HNC hcc hbt hbt2
  have HWS:Hid (wc=wc):=ab rfl
  cases nc
  ·have hfq:neq y z=flq y z:=by rw [HNEQ.out];rfl
   have ZXF0:=HZ3.out
   rw [←hfq] at ZXF0
   have ZXF:=ZXF0
   have BXF:=HX3.out
   obtain⟨bX,rfl⟩:∃bX,bX=bx:=⟨_,rfl⟩
   obtain⟨aX,rfl⟩:∃aX,aX=ax:=⟨_,rfl⟩
   obtain⟨mX,rfl⟩:∃mX,mX=mx:=⟨_,rfl⟩
   obtain⟨kX,rfl⟩:∃kX,kX=kx:=⟨_,rfl⟩
   have gwc:=aD HG1.out HG3.out
   clear ZXF0 hfq p0 p1
   have hbd:Below wc.heap.size wc wc.drew:=(Below.refl _ _).drew
   have gd:=aD gwc hbd
   obtain⟨j0,j1⟩:=duo (ac gd HC0.out)
   obtain⟨j2,j3⟩:=duo (ac gd HC1.out)
   have hxd:=ac hbd BXF
   obtain⟨j4,j5⟩:=duo hxd
   have ZX:=ab (ZXF.below hbd)
   have HMU:=cQ _ _ (neq y z) z wc.drew ZX.out (HZ2.out.below gd) (by have:=HQB.out;omega)
   have HSU:=ab (fun (W:World) (v:Value) (hg:Below wc.drew.heap.size wc.drew W) (hv:Zn W v (neq y z*z))=>cH (.agg #[.bool b,.slice a n k]) v y (neq y z*z) W ((HZ1.out.below gd).below hg) hv (by omega) (by have h1:=HQB.out;rw [Int.natAbs_mul];have h2:=cR (neq y z).natAbs z.natAbs;omega))
   have hr2:=ac gd HC2.out
   have hr3:=ac gd HC3.out
   have HR2:=ab hr2
   have HR3:=ab hr3
   have HGD:=ab (aD HB0.out gd)
   have hlx:w.heap.size+3<t1.heap.size:=lt_of_block (ac HG1.out HC3.out)
   have so0:∀(W:World) (k:Nat) (u:Value) (k':Nat),(W.setCell ⟨w.heap.size+2,k,none⟩ u).cell? ⟨w.heap.size,k',none⟩=W.cell? ⟨w.heap.size,k',none⟩:=fun W k u k'=>aw (by omega)
   have so1:∀(W:World) (k:Nat) (u:Value) (k':Nat),(W.setCell ⟨w.heap.size+2,k,none⟩ u).cell? ⟨w.heap.size+1,k',none⟩=W.cell? ⟨w.heap.size+1,k',none⟩:=fun W k u k'=>aw (by omega)
   have so2:∀(W:World) (k:Nat) (u:Value) (k':Nat),(W.setCell ⟨w.heap.size+2,k,none⟩ u).cell? ⟨t1.heap.size,k',none⟩=W.cell? ⟨t1.heap.size,k',none⟩:=fun W k u k'=>aw (by omega)
   have so3:∀(W:World) (k:Nat) (u:Value) (k':Nat),(W.setCell ⟨w.heap.size+2,k,none⟩ u).cell? ⟨w.heap.size+3,k',none⟩=W.cell? ⟨w.heap.size+3,k',none⟩:=fun W k u k'=>aw (by omega)
   have sp0:∀(W:World) (k:Nat) (u:Value) (k':Nat),(W.setCell ⟨w.heap.size+3,k,none⟩ u).cell? ⟨w.heap.size,k',none⟩=W.cell? ⟨w.heap.size,k',none⟩:=fun W k u k'=>aw (by omega)
   have sp1:∀(W:World) (k:Nat) (u:Value) (k':Nat),(W.setCell ⟨w.heap.size+3,k,none⟩ u).cell? ⟨w.heap.size+1,k',none⟩=W.cell? ⟨w.heap.size+1,k',none⟩:=fun W k u k'=>aw (by omega)
   have sp2:∀(W:World) (k:Nat) (u:Value) (k':Nat),(W.setCell ⟨w.heap.size+3,k,none⟩ u).cell? ⟨t1.heap.size,k',none⟩=W.cell? ⟨t1.heap.size,k',none⟩:=fun W k u k'=>aw (by omega)
   clear hr2 hr3 hxd
   go_wp2
   go_region_held3 (fun w'=>w'.cell? ⟨w.heap.size,0,none⟩=some (.bool b)∧w'.cell? ⟨w.heap.size,1,none⟩=some (.slice a n k)∧w'.cell? ⟨w.heap.size+1,0,none⟩=some (.bool b2)∧w'.cell? ⟨w.heap.size+1,1,none⟩=some (.slice a2 n2 k2)∧w'.cell? ⟨t1.heap.size,0,none⟩=some (.bool bX)∧w'.cell? ⟨t1.heap.size,1,none⟩=some (.slice aX mX kX)) (go_keep) (first
    | (go_at_call 51;refine HMU.mono ?_;rintro e' s1 ⟨⟨bp,ap,mp,kp,rfl,yp⟩,hs1⟩;have l0:=af hs1 j0;have l1:=af hs1 j1;have l2:=af hs1 j2;have l3:=af hs1 j3;have l4:=af hs1 j4;have l5:=af hs1 j5)
    | (go_at_call 84;refine (HSU.out s1 _ hs1 yp).mono ?_;rintro e' s2 ⟨⟨br,ar9,mr9,kr9,rfl,yr⟩,hs2⟩;have q0:=af hs2 l0;have q1:=af hs2 l1;have q2:=af hs2 l2;have q3:=af hs2 l3;have q4:=af hs2 l4;have q5:=af hs2 l5;have hz2:=ac hs2 (ac hs1 HR2.out);have hz3:=ac hs2 (ac hs1 HR3.out);have hf2':=aB hz2;have hf3':=aB hz3;obtain⟨m0,m1⟩:=duo hz2;obtain⟨m2,m3⟩:=duo hz3))
   have gs:=aD hs1 hs2
   have hq4:=cD (g:=w.heap.size+2) (b1:=bX) (u1:=.slice aX mX kX) (b2:=br) (u2:=.slice ar9 mr9 kr9) hz2 hz3
   have HE:=ab (And.intro (hq4.2.2 _ _ (ZX.out.below gs)) (And.intro (hq4.2.2 _ _ yr) (cM (aD HGD.out gs) (g:=w.heap.size+2) (u0:=.bool bX) (u1:=.slice aX mX kX) (u2:=.bool br) (u3:=.slice ar9 mr9 kr9) (by omega))))
   obtain⟨R5,R6,_⟩:=hq4
   clear so0 so1 so2 so3 sp0 sp1 sp2 hz2 hz3 hf2' hf3' m0 m1 m2 m3 q0 q1 q2 q3 q4 q5 l0 l1 l2 l3 l4 l5 yr yp hs1 hs2 gs
   generalize (((s2.setCell ⟨w.heap.size+2,0,none⟩ (.bool bX)).setCell ⟨w.heap.size+2,1,none⟩ (.slice aX mX kX)).setCell ⟨w.heap.size+2+1,0,none⟩ (.bool br)).setCell ⟨w.heap.size+2+1,1,none⟩ (.slice ar9 mr9 kr9)=w5 at *
   obtain⟨p0,p1⟩:=duo R5
   obtain⟨p2,p3⟩:=duo R6
   go_wp2
   refine bodyPost_ret (v:=.tuple #[.agg #[.bool bX,.slice aX mX kX],.agg #[.bool br,.slice ar9 mr9 kr9]]) (by simp [results,Tryz.results79,go_sem,p0,p1,p2,p3]) rfl ?_
   exact⟨⟨_,_,_,_,_,_,_,_,rfl,HE.out.1,HE.out.2.1⟩,HE.out.2.2⟩
  ·have HFQ:Hid (neq y z=flq y z+1):=ab (by rw [HNEQ.out];rfl)
   have I1:=fz 1 wc.drew (by omega) (by omega)
   have hb1:blen (Int.natAbs 1)≤64:=by decide
   have S1:=ab (fun (W:World) (v:Value) (hg:Below wc.drew.heap.size wc.drew W) (hv:Zn W v 1)=>iA (.agg #[.bool bx,.slice ax mx kx]) v (flq y z) 1 W (HZ3.out.drew6.below hg) hv (by omega) (by omega))
   obtain⟨x0,x1⟩:=duo (show wc.drew.heap[t1.heap.size]?=some (.cells #[.bool bx,.slice ax mx kx] 29) from HX3.out)
   clear p0 p1
   obtain⟨t3,ht3⟩:∃t3,wc=t3:=⟨_,rfl⟩
   rw [ht3] at HG3 HX3 HZ3 I1 S1 x0 x1 ⊢
   clear ht3 HWS
   go_upto_region 4 with fail
   go_cut [33] from 33 to 36 (fun _ wx=>∃(bX:Bool) (aX:Option Addr) (mX kX:Nat),wx.heap[t1.heap.size]?=some (.cells #[.bool bX,.slice aX mX kX] 29)∧Zn wx (.agg #[.bool bX,.slice aX mX kX]) (neq y z)∧Below t1.heap.size t1 wx)
   case first=>
    go_region_with (first
     | (go_at_call 40;refine I1.mono ?_;rintro e' s1 ⟨⟨bi,ai,mi,ki,rfl,yi⟩,hs1⟩;have y0:=af hs1 x0;have y1:=af hs1 x1)
     | (go_at_call 98;refine (S1.out s1 _ hs1 yi).mono ?_;rintro e' s2 ⟨⟨bs,as9,ms,ks,rfl,ys⟩,hs2⟩;have hzx:=ac hs2 (ac hs1 (show t3.drew.heap[t1.heap.size]?=some (.cells #[.bool bx,.slice ax mx kx] 29) from HX3.out));have hfx:=aB hzx;obtain⟨w0',w1'⟩:=duo hzx))
    all_goals (go_wp2_with fail;go_meet)
    all_goals (refine⟨bs,as9,ms,ks,aP hzx,?_,aO (aD (aD HG3.out (Below.refl _ _).drew) (aD hs1 hs2)) (Nat.le_refl _)⟩;rw [HFQ.out];exact ys.duo hzx)
   case rest=>
    obtain⟨bX,aX,mX,kX,BXF,ZXF,gx⟩:=hcut
    have gwc:=aD HG1.out gx
    have hbd:Below wc.heap.size wc wc.drew:=(Below.refl _ _).drew
    have gd:=aD gwc hbd
    obtain⟨j0,j1⟩:=duo (ac gd HC0.out)
    obtain⟨j2,j3⟩:=duo (ac gd HC1.out)
    have hxd:=ac hbd BXF
    obtain⟨j4,j5⟩:=duo hxd
    have ZX:=ab (ZXF.below hbd)
    have HMU:=cQ _ _ (neq y z) z wc.drew ZX.out (HZ2.out.below gd) (by have:=HQB.out;omega)
    have HSU:=ab (fun (W:World) (v:Value) (hg:Below wc.drew.heap.size wc.drew W) (hv:Zn W v (neq y z*z))=>cH (.agg #[.bool b,.slice a n k]) v y (neq y z*z) W ((HZ1.out.below gd).below hg) hv (by omega) (by have h1:=HQB.out;rw [Int.natAbs_mul];have h2:=cR (neq y z).natAbs z.natAbs;omega))
    have hr2:=ac gd HC2.out
    have hr3:=ac gd HC3.out
    have HR2:=ab hr2
    have HR3:=ab hr3
    have HGD:=ab (aD HB0.out gd)
    have hlx:w.heap.size+3<t1.heap.size:=lt_of_block (ac HG1.out HC3.out)
    have so0:∀(W:World) (k:Nat) (u:Value) (k':Nat),(W.setCell ⟨w.heap.size+2,k,none⟩ u).cell? ⟨w.heap.size,k',none⟩=W.cell? ⟨w.heap.size,k',none⟩:=fun W k u k'=>aw (by omega)
    have so1:∀(W:World) (k:Nat) (u:Value) (k':Nat),(W.setCell ⟨w.heap.size+2,k,none⟩ u).cell? ⟨w.heap.size+1,k',none⟩=W.cell? ⟨w.heap.size+1,k',none⟩:=fun W k u k'=>aw (by omega)
    have so2:∀(W:World) (k:Nat) (u:Value) (k':Nat),(W.setCell ⟨w.heap.size+2,k,none⟩ u).cell? ⟨t1.heap.size,k',none⟩=W.cell? ⟨t1.heap.size,k',none⟩:=fun W k u k'=>aw (by omega)
    have so3:∀(W:World) (k:Nat) (u:Value) (k':Nat),(W.setCell ⟨w.heap.size+2,k,none⟩ u).cell? ⟨w.heap.size+3,k',none⟩=W.cell? ⟨w.heap.size+3,k',none⟩:=fun W k u k'=>aw (by omega)
    have sp0:∀(W:World) (k:Nat) (u:Value) (k':Nat),(W.setCell ⟨w.heap.size+3,k,none⟩ u).cell? ⟨w.heap.size,k',none⟩=W.cell? ⟨w.heap.size,k',none⟩:=fun W k u k'=>aw (by omega)
    have sp1:∀(W:World) (k:Nat) (u:Value) (k':Nat),(W.setCell ⟨w.heap.size+3,k,none⟩ u).cell? ⟨w.heap.size+1,k',none⟩=W.cell? ⟨w.heap.size+1,k',none⟩:=fun W k u k'=>aw (by omega)
    have sp2:∀(W:World) (k:Nat) (u:Value) (k':Nat),(W.setCell ⟨w.heap.size+3,k,none⟩ u).cell? ⟨t1.heap.size,k',none⟩=W.cell? ⟨t1.heap.size,k',none⟩:=fun W k u k'=>aw (by omega)
    clear hr2 hr3 hxd
    go_wp2
    go_region_held3 (fun w'=>w'.cell? ⟨w.heap.size,0,none⟩=some (.bool b)∧w'.cell? ⟨w.heap.size,1,none⟩=some (.slice a n k)∧w'.cell? ⟨w.heap.size+1,0,none⟩=some (.bool b2)∧w'.cell? ⟨w.heap.size+1,1,none⟩=some (.slice a2 n2 k2)∧w'.cell? ⟨t1.heap.size,0,none⟩=some (.bool bX)∧w'.cell? ⟨t1.heap.size,1,none⟩=some (.slice aX mX kX)) (go_keep) (first
     | (go_at_call 51;refine HMU.mono ?_;rintro e' s1 ⟨⟨bp,ap,mp,kp,rfl,yp⟩,hs1⟩;have l0:=af hs1 j0;have l1:=af hs1 j1;have l2:=af hs1 j2;have l3:=af hs1 j3;have l4:=af hs1 j4;have l5:=af hs1 j5)
     | (go_at_call 84;refine (HSU.out s1 _ hs1 yp).mono ?_;rintro e' s2 ⟨⟨br,ar9,mr9,kr9,rfl,yr⟩,hs2⟩;have q0:=af hs2 l0;have q1:=af hs2 l1;have q2:=af hs2 l2;have q3:=af hs2 l3;have q4:=af hs2 l4;have q5:=af hs2 l5;have hz2:=ac hs2 (ac hs1 HR2.out);have hz3:=ac hs2 (ac hs1 HR3.out);have hf2':=aB hz2;have hf3':=aB hz3;obtain⟨m0,m1⟩:=duo hz2;obtain⟨m2,m3⟩:=duo hz3))
    have gs:=aD hs1 hs2
    have hq4:=cD (g:=w.heap.size+2) (b1:=bX) (u1:=.slice aX mX kX) (b2:=br) (u2:=.slice ar9 mr9 kr9) hz2 hz3
    have HE:=ab (And.intro (hq4.2.2 _ _ (ZX.out.below gs)) (And.intro (hq4.2.2 _ _ yr) (cM (aD HGD.out gs) (g:=w.heap.size+2) (u0:=.bool bX) (u1:=.slice aX mX kX) (u2:=.bool br) (u3:=.slice ar9 mr9 kr9) (by omega))))
    obtain⟨R5,R6,_⟩:=hq4
    clear so0 so1 so2 so3 sp0 sp1 sp2 hz2 hz3 hf2' hf3' m0 m1 m2 m3 q0 q1 q2 q3 q4 q5 l0 l1 l2 l3 l4 l5 yr yp hs1 hs2 gs
    generalize (((s2.setCell ⟨w.heap.size+2,0,none⟩ (.bool bX)).setCell ⟨w.heap.size+2,1,none⟩ (.slice aX mX kX)).setCell ⟨w.heap.size+2+1,0,none⟩ (.bool br)).setCell ⟨w.heap.size+2+1,1,none⟩ (.slice ar9 mr9 kr9)=w5 at *
    obtain⟨p0,p1⟩:=duo R5
    obtain⟨p2,p3⟩:=duo R6
    go_wp2
    refine bodyPost_ret (v:=.tuple #[.agg #[.bool bX,.slice aX mX kX],.agg #[.bool br,.slice ar9 mr9 kr9]]) (by simp [results,Tryz.results79,go_sem,p0,p1,p2,p3]) rfl ?_
    exact⟨⟨_,_,_,_,_,_,_,_,rfl,HE.out.1,HE.out.2.1⟩,HE.out.2.2⟩
end Go.Proofs.YtkfbobefkbpdoaaGreatDoor
namespace Go.Proofs.YtkfbobefkbpdoaaGreatDoor
open Go.RowKit
open Lm

theorem iu {x s:Nat}(h:x % 2=1)(hs:0<s):x % 2 ^ s≠0∧x % 2 ^ s % 2=1:=by
 obtain⟨t,rfl⟩:∃t,s=t+1:=⟨s - 1,by omega⟩
 have h1:x % 2 ^ (t+1) % 2=x % 2:=Nat.mod_mod_of_dvd _ ⟨2 ^ t,by rw [Nat.pow_succ,Nat.mul_comm]⟩
 rw [h] at h1
 exact⟨by omega,h1⟩

theorem rG (x s:Nat)(hs:0<s):x / 2 ^ (s - 1) % 2=1 ↔ 2 ^ s≤x % 2 ^ s*2:=by
 obtain⟨t,rfl⟩:∃t,s=t+1:=⟨s - 1,by omega⟩
 rw [Nat.add_sub_cancel]
 have h1:=Nat.div_add_mod x (2 ^ (t+1))
 have h2:=Nat.mod_lt x (Nat.two_pow_pos (t+1))
 generalize x / 2 ^ (t+1)=q at *
 generalize x % 2 ^ (t+1)=r at *
 have hp:=Nat.two_pow_pos t
 have e:2 ^ (t+1)=2 ^ t*2:=Nat.pow_succ ..
 rw [e] at h1 h2 ⊢
 generalize 2 ^ t=H at *
 have h3:x / H=2*q+r / H:=by
  rw [←h1,Nat.mul_assoc,Nat.mul_add_div hp]
 rw [h3]
 by_cases hr:r<H
 ·rw [Nat.div_eq_of_lt hr];omega
 ·have:r / H=1:=by
   rw [Nat.div_eq_iff hp]
   omega
  rw [this];omega

theorem iG {b:Bool}{x:Nat}(h:x≠0):decide (zz b x<0)=b:=by
 cases b
 ·simp [zz]
 ·simp only [zz,if_true,decide_eq_true_eq];omega

theorem bW (s:Nat):(((2 ^ s:Nat):Int)).natAbs=2 ^ s∧decide (((2 ^ s:Nat):Int)<0)=false:=by
 have:=Nat.two_pow_pos s
 exact⟨by omega,by rw [decide_eq_false];omega⟩

theorem fK (b:Bool)(x s:Nat)(hx:x % 2=1)(hs:0<s):flq (zz b x) ((2 ^ s:Nat):Int)=zz b (x / 2 ^ s) - if b then 1 else 0:=by
 unfold flq
 rw [(bW s).1,(bW s).2,aV,iG (by omega),decide_eq_true (iu hx hs).1]
 cases b <;> simp

theorem jr (b:Bool)(x s:Nat)(hx:x % 2=1)(hs:0<s):zz b x - flq (zz b x) ((2 ^ s:Nat):Int)*((2 ^ s:Nat):Int)=if b then (2 ^ s:Nat) - ((x % 2 ^ s:Nat):Int) else ((x % 2 ^ s:Nat):Int):=by
 rw [fK b x s hx hs]
 have h1:=Nat.div_add_mod x (2 ^ s)
 generalize x / 2 ^ s=q at *
 generalize x % 2 ^ s=r at *
 generalize 2 ^ s=P at *
 have h2:(x:Int)=(P:Int)*(q:Int)+(r:Int):=by rw [←h1];simp
 cases b
 ·show (x:Int) - ((q:Int) - 0)*(P:Int)=(r:Int)
  rw [h2,Int.sub_zero,Int.mul_comm];omega
 ·show -(x:Int) - (-(q:Int) - 1)*(P:Int)=(P:Int) - (r:Int)
  rw [h2,Int.sub_mul,Int.neg_mul,Int.one_mul,Int.mul_comm (q:Int)];omega

theorem iH (b:Bool)(x s:Nat)(hx:x % 2=1)(hs:0<s):flq (zz b x) ((2 ^ s:Nat):Int)=zz b (rq b x s 0):=by
 rw [fK b x s hx hs]
 unfold rq ga
 rw [if_pos rfl]
 generalize x / 2 ^ s=q
 cases b <;> simp [zz];omega

theorem jv (b:Bool)(x s:Nat)(hx:x % 2=1)(hs:0<s):ceq (zz b x) ((2 ^ s:Nat):Int)=zz b (rq b x s 1):=by
 unfold ceq
 rw [jr b x s hx hs,fK b x s hx hs]
 have h0:=(iu hx hs).1
 have h2:=Nat.mod_lt x (Nat.two_pow_pos s)
 have hga:ga b x s 1=!b:=by unfold ga;rw [if_neg (by decide),if_pos rfl]
 unfold rq
 rw [hga]
 generalize x / 2 ^ s=q
 generalize x % 2 ^ s=r at *
 generalize 2 ^ s=P at *
 cases b
 ·have e1:(if false=true then (P:Int) - (r:Int) else (r:Int))=(r:Int):=by simp
  rw [e1,if_neg (by omega)]
  simp [zz]
 ·have e1:(if true=true then (P:Int) - (r:Int) else (r:Int))=(P:Int) - (r:Int):=by simp
  rw [e1,if_neg (by omega)]
  simp [zz]

theorem jb (b:Bool)(x s:Nat)(hx:x % 2=1)(hs:0<s):neq (zz b x) ((2 ^ s:Nat):Int)=zz b (rq b x s 2):=by
 have hr:=jr b x s hx hs
 have hq:=fK b x s hx hs
 have h0:=(iu hx hs).2
 have h2:=Nat.mod_lt x (Nat.two_pow_pos s)
 have hb:=rG x s hs
 have hP:(((2 ^ s:Nat):Int)).natAbs=2 ^ s:=(bW s).1
 have hg:ga b x s 2=decide (2 ^ s<x % 2 ^ s*2∨(x % 2 ^ s*2=2 ^ s∧x / 2 ^ s % 2=1)):=by
  unfold ga
  rw [if_neg (by decide),if_neg (by decide)]
  by_cases h1:s=1
  ·subst h1
   rw [if_pos rfl]
   refine decide_eq_decide.2 ?_
   have e1:(2:Nat) ^ 1=2:=rfl
   rw [e1] at h2 ⊢
   omega
  ·rw [if_neg h1]
   refine decide_eq_decide.2 (hb.trans ?_)
   obtain⟨t,rfl⟩:∃t,s=t+2:=⟨s - 2,by omega⟩
   have e2:2 ^ (t+2)=2 ^ t*4:=Nat.pow_add 2 t 2
   rw [e2] at h0 h2 ⊢
   generalize x / (2 ^ t*4)=q
   generalize x % (2 ^ t*4)=r at *
   generalize 2 ^ t=T at *
   omega
 unfold neq fs rq
 rw [hr,hq,hg,hP]
 generalize x / 2 ^ s=q at *
 generalize x % 2 ^ s=r at *
 generalize 2 ^ s=P at *
 clear hr hq hg hP hb
 cases b
 ·have e1:(if false=true then (P:Int) - (r:Int) else (r:Int))=(r:Int):=by simp
  have e2:zz false q - (if false=true then (1:Int) else 0)=(q:Int):=by simp [zz]
  rw [e1,e2,Int.natAbs_natCast,Int.natAbs_natCast]
  have e3:(decide (P<r*2) || (decide (r*2=P) && decide (q % 2=1)))=decide (P<r*2∨(r*2=P∧q % 2=1)):=by simp
  rw [e3]
  by_cases hc:P<r*2∨(r*2=P∧q % 2=1)
  ·rw [decide_eq_true hc];simp [zz]
  ·rw [decide_eq_false hc];simp [zz]
 ·have e1:(if true=true then (P:Int) - (r:Int) else (r:Int))=((P - r:Nat):Int):=by rw [if_pos rfl];omega
  have e2:zz true q - (if true=true then (1:Int) else 0)=-((q+1:Nat):Int):=by simp [zz];omega
  rw [e1,e2,Int.natAbs_natCast,Int.natAbs_neg,Int.natAbs_natCast]
  have e3:(decide (P<(P - r)*2) || (decide ((P - r)*2=P) && decide ((q+1) % 2=1)))=!decide (P<r*2∨(r*2=P∧q % 2=1)):=by
   rw [←Bool.decide_and,←Bool.decide_or,←decide_not]
   refine decide_eq_decide.2 ?_
   omega
  rw [e3]
  by_cases hc:P<r*2∨(r*2=P∧q % 2=1)
  ·rw [decide_eq_true hc];simp [zz]
  ·rw [decide_eq_false hc];simp [zz];omega

theorem mE (b:Bool)(x s:Nat)(m:Int)(h:blen x+2<s)(hm:m=0∨m=1∨m=2):rq b x s m=if (m=0∧b=true)∨(m=1∧b=false) then 1 else 0:=by
 have h1:x<2 ^ blen x:=(blen_le_iff x _).1 (Nat.le_refl _)
 have h2:x / 2 ^ s=0:=Nat.div_eq_of_lt (Nat.lt_of_lt_of_le h1 (Nat.pow_le_pow_right (by omega) (by omega)))
 have h3:x / 2 ^ (s - 1)=0:=Nat.div_eq_of_lt (Nat.lt_of_lt_of_le h1 (Nat.pow_le_pow_right (by omega) (by omega)))
 unfold rq ga
 rw [h2,h3]
 rcases hm with rfl|rfl|rfl
 ·cases b <;> simp
 ·cases b <;> simp
 ·have:¬s=1:=by omega
  simp [this]

def ia (M E:Int):Prop:=(M=0∧E=0)∨M.natAbs % 2=1

theorem ia.stay {M E:Int}(h:ia M E):omz M=M∧oe M E=E:=by
 rcases h with ⟨rfl,rfl⟩|h
 ·exact⟨bC,by simp [oe]⟩
 ·exact fJ h E

def aN (M E pos m:Int):Int:=if M=0∨pos≤E then M else zz (decide (M<0)) (rq (decide (M<0)) M.natAbs (pos - E).toNat m)
def aL (M E pos:Int):Int:=if M=0∨pos≤E then E else pos

def rvQ (m V:Int)(P:Nat):Int:=
 if m=0 then V / (P:Int) else if m=1 then -((-V) / (P:Int)) else if (P:Int)<2*(V % (P:Int))∨(2*(V % (P:Int))=(P:Int)∧V / (P:Int) % 2=1) then V / (P:Int)+1 else V / (P:Int)

def rv (m V:Int)(P:Nat):Int:=rvQ m V P*(P:Int)

theorem iC {m V:Int}{P:Nat}(hP:0<P)(h:V % (P:Int)=0):rv m V P=V:=by
 have h1:=Int.mul_ediv_add_emod V (P:Int)
 rw [h,Int.add_zero,Int.mul_comm] at h1
 unfold rv rvQ
 split
 ·exact h1
 ·split
  ·rw [Int.neg_ediv_of_dvd (Int.dvd_of_emod_eq_zero h),Int.neg_neg];exact h1
  ·rw [if_neg,h1]
   rw [h];omega

theorem sC (m V:Int)(P T:Nat)(hT:0<T):rvQ m (V*(T:Int)) (P*T)=rvQ m V P:=by
 have hT':(0:Int)<(T:Int):=by omega
 have e1:V*(T:Int) / ((P*T:Nat):Int)=V / (P:Int):=by
  rw [Int.natCast_mul];exact Int.mul_ediv_mul_of_pos_left _ _ hT'
 have e2:-(V*(T:Int)) / ((P*T:Nat):Int)=-V / (P:Int):=by
  rw [Int.natCast_mul,←Int.neg_mul];exact Int.mul_ediv_mul_of_pos_left _ _ hT'
 have e3:V*(T:Int) % ((P*T:Nat):Int)=V % (P:Int)*(T:Int):=by
  rw [Int.natCast_mul]
  have h1:=Int.mul_ediv_add_emod V (P:Int)
  have h2:=Int.mul_ediv_add_emod (V*(T:Int)) ((P:Int)*(T:Int))
  rw [Int.mul_ediv_mul_of_pos_left _ _ hT'] at h2
  generalize V / (P:Int)=q at *
  generalize V % (P:Int)=r at *
  rw [←h1] at h2 ⊢
  grind
 unfold rvQ
 rw [e1,e2,e3]
 have c1:((P*T:Nat):Int)<2*(V % (P:Int)*(T:Int)) ↔ (P:Int)<2*(V % (P:Int)):=by
  rw [Int.natCast_mul,←Int.mul_assoc]
  exact⟨fun h=>Int.lt_of_mul_lt_mul_right h (by omega),fun h=>Int.mul_lt_mul_of_pos_right h hT'⟩
 have c2:2*(V % (P:Int)*(T:Int))=((P*T:Nat):Int) ↔ 2*(V % (P:Int))=(P:Int):=by
  rw [Int.natCast_mul,←Int.mul_assoc]
  exact⟨fun h=>Int.eq_of_mul_eq_mul_right (by omega) h,fun h=>by rw [h]⟩
 simp only [c1,c2]

theorem pO (m V:Int)(P T:Nat)(hT:0<T):rv m (V*(T:Int)) (P*T)=rv m V P*(T:Int):=by
 unfold rv
 rw [sC m V P T hT,Int.natCast_mul,Int.mul_assoc]

theorem fu (y:Int)(P:Nat)(hP:0<P):flq y (P:Int)=y / (P:Int):=by
 have hP':(0:Int)<(P:Int):=by omega
 have e1:decide ((P:Int)<0)=false:=decide_eq_false (by omega)
 have h1:=Nat.div_add_mod y.natAbs P
 have h2:=Nat.mod_lt y.natAbs hP
 unfold flq
 rw [e1,Int.natAbs_natCast]
 generalize hq:y.natAbs / P=q at *
 generalize hr:y.natAbs % P=r at *
 have h3:(y.natAbs:Int)=(P:Int)*(q:Int)+(r:Int):=by rw [←h1];simp
 by_cases hy:y<0
 ·rw [decide_eq_true hy]
  have h4:y=-((P:Int)*(q:Int)+(r:Int)):=by omega
  by_cases h0:r=0
  ·subst h0
   have:y=-(q:Int)*(P:Int):=by rw [h4,Int.neg_mul,Int.mul_comm];simp
   rw [this,Int.mul_ediv_cancel _ (by omega)]
   simp [zz]
  ·have:y=((P:Int) - (r:Int))+(-(q:Int) - 1)*(P:Int):=by rw [h4,Int.sub_mul,Int.neg_mul,Int.one_mul,Int.mul_comm (q:Int)];omega
   rw [this,Int.add_mul_ediv_right _ _ (by omega),Int.ediv_eq_zero_of_lt (by omega) (by omega)]
   simp [zz,h0]
 ·rw [decide_eq_false hy]
  have h4:y=(r:Int)+(q:Int)*(P:Int):=by rw [Int.mul_comm];omega
  rw [h4,Int.add_mul_ediv_right _ _ (by omega),Int.ediv_eq_zero_of_lt (by omega) (by omega)]
  simp [zz]

theorem kL (y:Int)(P:Nat)(hP:0<P):y - flq y (P:Int)*(P:Int)=y % (P:Int):=by
 rw [fu y P hP]
 have:=Int.mul_ediv_add_emod y (P:Int)
 rw [Int.mul_comm] at this
 omega

theorem lQ (y:Int)(P:Nat)(hP:0<P):ceq y (P:Int)=rvQ 1 y P:=by
 unfold ceq rvQ
 rw [kL y P hP,fu y P hP,if_neg (show ¬(1:Int)=0 by decide),if_pos (show (1:Int)=1 from rfl)]
 have h1:=Int.mul_ediv_add_emod y (P:Int)
 have h2:=Int.emod_nonneg y (show (P:Int)≠0 by omega)
 have h3:=Int.emod_lt_of_pos y (show (0:Int)<(P:Int) by omega)
 generalize y / (P:Int)=q at *
 generalize y % (P:Int)=r at *
 split
 ·rename_i h
  have:-y=(-q)*(P:Int):=by rw [←h1,h,Int.neg_mul,Int.mul_comm];omega
  rw [this,Int.mul_ediv_cancel _ (by omega),Int.neg_neg]
 ·have:-y=((P:Int) - r)+(-q - 1)*(P:Int):=by rw [←h1,Int.sub_mul,Int.neg_mul,Int.one_mul,Int.mul_comm q];omega
  rw [this,Int.add_mul_ediv_right _ _ (by omega),Int.ediv_eq_zero_of_lt (by omega) (by omega)]
  omega

theorem nD (y:Int)(P:Nat)(hP:0<P):neq y (P:Int)=rvQ 2 y P:=by
 unfold neq fs rvQ
 rw [kL y P hP,fu y P hP,if_neg (show ¬(2:Int)=0 by decide),if_neg (show ¬(2:Int)=1 by decide),Int.natAbs_natCast]
 have h2:=Int.emod_nonneg y (show (P:Int)≠0 by omega)
 have e:(decide (P<(y % (P:Int)).natAbs*2) || decide ((y % (P:Int)).natAbs*2=P) && decide ((y / (P:Int)).natAbs % 2=1))=decide ((P:Int)<2*(y % (P:Int))∨(2*(y % (P:Int))=(P:Int)∧y / (P:Int) % 2=1)):=by
  rw [←Bool.decide_and,←Bool.decide_or]
  refine decide_eq_decide.2 ?_
  omega
 rw [e]
 simp only [decide_eq_true_eq]

theorem pG {m:Int}(hm:m=0∨m=1∨m=2)(b:Bool)(x s:Nat)(hx:x % 2=1)(hs:0<s):zz b (rq b x s m)=rvQ m (zz b x) (2 ^ s):=by
 have hP:0<2 ^ s:=Nat.two_pow_pos s
 rcases hm with rfl|rfl|rfl
 ·rw [←iH b x s hx hs,fu _ _ hP];simp [rvQ]
 ·rw [←jv b x s hx hs,lQ _ _ hP]
 ·rw [←jb b x s hx hs,nD _ _ hP]

theorem dl {L:Nat}{M E V pos m:Int}(hr:Rp L M E V)(hn:Nr8 M E)(hp:0≤pos+L)(hm:m=0∨m=1∨m=2):Rp L (aN M E pos m) (aL M E pos) (rv m V (2 ^ (pos+L).toNat)):=by
 have hP:0<2 ^ (pos+L).toNat:=Nat.two_pow_pos _
 obtain⟨h1,h2⟩:=hr
 by_cases h0:M=0
 ·unfold aN aL
  rw [if_pos (.inl h0),if_pos (.inl h0)]
  have hV:V=0:=by rw [←h2,h0,Int.zero_mul]
  rw [hV,iC hP (by simp)]
  exact⟨h1,by rw [h0,Int.zero_mul]⟩
 by_cases he:pos≤E
 ·unfold aN aL
  rw [if_pos (.inr he),if_pos (.inr he),iC hP]
  ·exact⟨h1,h2⟩
  ·rw [←h2,show (E+L).toNat=(E - pos).toNat+(pos+L).toNat by omega,Int.pow_add,←Int.mul_assoc,Int.natCast_pow]
   exact Int.mul_emod_left _ _
 ·have hc:¬(M=0∨pos≤E):=by omega
  unfold aN aL
  rw [if_neg hc,if_neg hc]
  refine⟨hp,?_⟩
  have hodd:M.natAbs % 2=1:=by
   rcases hn with ⟨h,_⟩|h
   ·exact absurd h h0
   ·exact h
  have hT:0<2 ^ (E+L).toNat:=Nat.two_pow_pos _
  have e1:(2:Nat) ^ (pos+L).toNat=2 ^ (pos - E).toNat*2 ^ (E+L).toNat:=by rw [←Nat.pow_add];congr 1;omega
  have e2:V=M*((2 ^ (E+L).toNat:Nat):Int):=by rw [←h2,Int.natCast_pow];rfl
  have e3:(2:Int) ^ (pos+L).toNat=((2 ^ (pos+L).toNat:Nat):Int):=by rw [Int.natCast_pow];rfl
  rw [e3,e1,e2,pO _ _ _ _ hT,pG hm _ _ _ hodd (by omega),cL]
  unfold rv
  rw [Int.natCast_mul,Int.mul_assoc]
end Go.Proofs.YtkfbobefkbpdoaaGreatDoor
namespace Go.Proofs.YtkfbobefkbpdoaaGreatDoor
open Go.RowKit
open Lm
attribute [local go_sem ↓] Go.wp_at_zero Go.wp_at_succ

theorem m7 (b:Bool)(a:Option Addr)(c:Nat)(X:List Nat)(M E pos m:Int)(w:World)(hN:Nm w b (.slice a X.length c) X M)(he1:-1152921504606846976≤E)(he2:E≤1152921504606846976)(hp1:-1152921504606846976≤pos)(hp2:pos≤1152921504606846976)(hm:m=0∨m=1∨m=2)(hf:X.length≤17592186044416) :
  Calls Tryz.prog 108 #[.agg #[.bool b,.slice a X.length c,.int .i64 E],.int .i64 pos,.int .i64 m] w (gQ w (aN M E pos m) (aL M E pos)):=by
 by_cases hs:M=0∨pos≤E
 ·rw [show aN M E pos m=M by unfold aN;rw [if_pos hs],show aL M E pos=E by unfold aL;rw [if_pos hs]]
  exact pD b a c X M E pos m w hN he1 he2 hp1 hp2 hs
 ·have hM:M≠0:=fun h=>hs (.inl h)
  have hb:decide (M<0)=b:=by
   rw [←hN.val]
   exact iG (by rw [hN.abs];omega)
  rw [show aN M E pos m=zz b (rq b M.natAbs (pos - E).toNat m) by unfold aN;rw [if_neg hs,hb],show aL M E pos=pos by unfold aL;rw [if_neg hs]]
  have hpe:E<pos:=Int.lt_of_not_ge fun h=>hs (.inr h)
  exact nl b a c X M E pos m (pos - E).toNat w hN hM (by omega) (by omega) he1 he2 hp1 hp2 hm hf

theorem sK (M E pos m:Int)(n:Nat)(h:blen M.natAbs≤n):blen (aN M E pos m).natAbs≤n+1:=by
 unfold aN
 split
 ·omega
 ·rw [aV]
  unfold rq
  have h1:=Nat.div_le_self M.natAbs (2 ^ (pos - E).toNat)
  have h2:=(blen_le_iff _ _).1 h
  refine (blen_le_iff _ _).2 ?_
  rw [Nat.pow_succ]
  have:=Nat.two_pow_pos n
  split <;> omega

theorem ib (b:Bool)(a:Option Addr)(c:Nat)(X:List Nat)(ex pos m:Int)(w:World)(hA:Arg w (.slice a X.length c) X)(hT:Tab w)(hf:X.length≤17592186044400)(hE:ah ex=true)(hK:ah pos=true)(hM:isM m=true) :
  Calls Tryz.prog 88 #[.agg #[.bool b,.slice a X.length c,.int .i64 ex],.int .i64 pos,.int .i64 m] w fun e w'=>aT w' w.heap.size e (omz (aN (omz (zz b (val X))) (oe (zz b (val X)) ex) pos m)) (oe (aN (omz (zz b (val X))) (oe (zz b (val X)) ex) pos m) (aL (omz (zz b (val X))) (oe (zz b (val X)) ex) pos))∧Below w.heap.size w w':=by
 have hm:=(jw m).1 hM
 have hKr:=(aH pos).1 hK
 have hf0:X.length≤17592186044416:=by omega
 obtain⟨w0,hw0,hb0,h0,h1'⟩:=al w (.cells #[.bool b,.slice a X.length c,.int .i64 ex] 43) (.cells #[.bool false,.slice none 0 0,.int .i64 0] 43)
 obtain⟨k0,k1,k2⟩:=tri8 h0
 have HP:=eC b a c X ex w0 (hA.below hb0) (hT.below hb0) hf0 hE
 have HC:=ab h1'
 have HB:=ab hb0
 have HT:=ab hT
 have hbz:blen (zz b (val X)).natAbs≤64*X.length:=by
  rw [aV,blen_le_iff,Nat.mul_comm,←W_pow];exact val_lt hA.limbs
 have hEr:=(aH ex).1 hE
 have hOE:=dv (zz b (val X)) ex (by omega)
 have hbo:blen (omz (zz b (val X))).natAbs≤17592186044400*64:=by
  have h5:=blen_mono (cJ (zz b (val X)).natAbs)
  rw [ct];omega
 clear h0 h1' hb0 hE hA hT hbz
 generalize oe (zz b (val X)) ex=E at *
 generalize omz (zz b (val X))=M at *
 have he1:-1152921504606846976≤E:=by omega
 have he2:E≤1152921504606846976:=by omega
 have HBO:=ab hbo
 have HRB:=ab (sK M E pos m _ hbo)
 have hRE:-2305843009213693952≤aL M E pos∧aL M E pos≤2305843009213693952:=by unfold aL;split <;> omega
 have HRD:=ab (fun (W:World) (b1:Bool) (a1:Option Addr) (c1:Nat) (X1:List Nat) (hn:Nm W b1 (.slice a1 X1.length c1) X1 M)=>m7 b1 a1 c1 X1 M E pos m W hn he1 he2 (by omega) (by omega) hm (hn.len 17592186044416 (by omega)))
 generalize aL M E pos=RE at *
 generalize aN M E pos m=RM at *
 clear hOE he1 he2 hbo hm
 go_enter Tryz.func88,Tryz.ntmps88
 go_wp2_with fail
 refine HP.mono ?_
 rintro e t1 ⟨⟨b1,a1,n1,c1,X1,rfl,rfl,N1,hb1⟩,g1⟩
 obtain⟨w4,hw4,hb4,h4⟩:=ag t1 (.cells #[.bool b1,.slice a1 X1.length c1,.int .i64 E] 125)
 have HC1:=ab (ac hb4 (ac g1 HC.out))
 have HG:=ab (ae (ae HB.out g1) hb4)
 have HI:=dM pos w4
 have HMO:=rJ m w4
 have hf1:=ak HC1.out
 obtain⟨m0,m1,m2⟩:=tri8 HC1.out
 obtain⟨l0,l1,l2⟩:=tri8 h4
 have HN1:=ab (N1.below hb4)
 clear g1 hb4 h4 HP HC HB N1
 rw [hK] at HI
 rw [hM] at HMO
 go_wp2_with fail
 refine HI.mono ?_
 rintro e wn ⟨rfl,hw⟩;rw [hw];clear hw wn HI
 go_wp2_with fail
 refine HMO.mono ?_
 rintro e wn ⟨rfl,hw⟩;rw [hw];clear hw wn HMO
 have HRR:=HRD.out w4 b1 a1 c1 X1 HN1.out
 clear HRD HN1
 go_wp2_with fail
 refine HRR.mono ?_
 rintro e t5 ⟨⟨b5,a5,n5,c5,X5,rfl,rfl,N5⟩,g5⟩
 have HC5:=ab (ac g5 HC1.out)
 have HG5:=ab (ae HG.out g5)
 have HAN:=hU b5 a5 c5 X5 RM RE t5 N5 (HT.out.below HG5.out) hRE.1 hRE.2 (Nat.le_trans (N5.len 17592186044416 (by have:=HRB.out;omega)) (by omega))
 clear HRR g5 N5 HC1 HG m0 m1 m2 hf1
 go_wp2_with fail
 refine HAN.mono ?_
 rintro e t6 ⟨⟨b6,a6,n6,c6,e6,r6,rfl,hdr⟩,g6⟩
 have HC1:=ab (ac g6 HC5.out)
 have HG:=ab (ae HG5.out g6)
 have HDR:=ab (hdr.base HG5.out.size)
 have hf1:=ak HC1.out
 obtain⟨m0,m1,m2⟩:=tri8 HC1.out
 clear hdr g6 HAN HC5
 go_wp2
 have T3:=ay HC1.out (.bool b6) (.slice a6 n6 c6) (.int .i64 e6)
 have T4:=an HG.out (show w.heap.size≤w.heap.size+1 by omega) (.bool b6) (.slice a6 n6 c6) (.int .i64 e6)
 have T5:=HDR.out.tri8 HC1.out (by decide) (.bool b6) (.slice a6 n6 c6) (.int .i64 e6)
 obtain⟨p0,p1,p2⟩:=tri8 T3
 have HE:=ab (And.intro T5 T4)
 clear T3 T4 T5
 generalize ((t6.setCell ⟨w.heap.size+1,0,none⟩ (.bool b6)).setCell ⟨w.heap.size+1,1,none⟩ (.slice a6 n6 c6)).setCell ⟨w.heap.size+1,2,none⟩ (.int .i64 e6)=w5 at *
 refine bodyPost_ret (v:=.tuple #[.agg #[.bool b6,.slice a6 n6 c6,.int .i64 e6],.int .i64 r6]) (by simp [results,Tryz.results88,go_sem,p0,p1,p2]) rfl ?_
 exact⟨⟨_,_,_,_,_,_,rfl,HE.out.1⟩,HE.out.2⟩
end Go.Proofs.YtkfbobefkbpdoaaGreatDoor
namespace Go.Proofs.YtkfbobefkbpdoaaGreatDoor
open Go.RowKit
open Lm

def Ok8 (L:Nat)(V:Int):Prop:=∃M E,Rp L M E V∧Nr8 M E∧blen M.natAbs≤67108864∧ah E=true

def S8 (w:World)(e:Ending)(w':World)(L:Nat)(V:Int):Prop:=
 (∃b a n k ex,e=.returned (.tuple #[.agg #[.bool b,.slice a n k,.int .i64 ex],.int .i64 0])∧G8 w' b a n k ex L V)∧Below w.heap.size w w'

theorem aT.s8 {w w':World}{e:Ending}{base:Nat}{M E:Int}{L:Nat}{V:Int}(h:aT w' base e M E)(hr:Rp L M E V)(hn:Nr8 M E)(ho:Ok8 L V)(hb:Below w.heap.size w w'):S8 w e w' L V:=by
 obtain⟨M',E',r',n',l',f'⟩:=ho
 obtain⟨rfl,rfl⟩:=Rp.one hr r' hn n'
 obtain⟨⟨b,a,n,k,ex,c,he,hp⟩,_⟩:=h.a8 hr hn hb
 obtain⟨b2,a2,n2,k2,ex2,c2,he2,rs,hA,hc⟩:=h
 have hc2:c2=0:=by
  rcases hc with ⟨h,_⟩|⟨_,_,_,_,_,h⟩|⟨_,_,_,_,_,_,h⟩
  ·exact h
  ·omega
  ·rw [f'] at h;cases h
 rw [he2] at he
 have e9:c=0:=by
  simp only [Ending.returned.injEq,Value.tuple.injEq] at he
  have:=congrArg (fun (x:Array Value)=>x.toList) he
  simp at this
  omega
 subst e9
 exact⟨⟨b,a,n,k,ex,by rw [he2,he],hp rfl⟩,hb⟩

theorem rF (b1:Bool)(a1:Option Addr)(n1 k1:Nat)(ex1:Int)(L:Nat)(V1 pos m:Int)(w:World)(hT:Tab w)(h1:G8 w b1 a1 n1 k1 ex1 L V1)(hL:4611686018427387904≤L)(hK:ah pos=true)(hM:isM m=true)(ho:Ok8 L (rv m V1 (2 ^ (pos+L).toNat))) :
  Calls Tryz.prog 88 #[.agg #[.bool b1,.slice a1 n1 k1,.int .i64 ex1],.int .i64 pos,.int .i64 m] w fun e w'=>S8 w e w' L (rv m V1 (2 ^ (pos+L).toNat)):=by
 obtain⟨X,rfl,hA,hf,hX,_,_,_,hE1⟩:=h1
 have hp:=(aH pos).1 hK
 exact (ib b1 a1 k1 X ex1 pos m w hA hT (by omega) hE1 hK hM).mono fun e w' h=>aT.s8 h.1 (dl hX.norm (ba _ _) (by omega) ((jw m).1 hM)).norm (ba _ _) ho h.2
end Go.Proofs.YtkfbobefkbpdoaaGreatDoor

