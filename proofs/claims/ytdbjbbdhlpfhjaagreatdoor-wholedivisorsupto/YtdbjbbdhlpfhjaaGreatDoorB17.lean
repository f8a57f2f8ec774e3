/- The document's Bezout. -/
import Derived.Test.YtdbjbbdhlpfhjaaGreatDoorB16
import Derived.Test.YtdbjbbdhlpfhjaaGreatDoorB13
import Derived.Test.YtdbjbbdhlpfhjaaGreatDoorB15
import Derived.Test.YtdbjbbdhlpfhjaaGreatDoorB12
import Derived.Test.YtdbjbbdhlpfhjaaGreatDoorB02
set_option maxHeartbeats 8000000
namespace Go.Proofs.YtdbjbbdhlpfhjaaGreatDoor
open Go.RowKit
open Lm
attribute [local go_sem ↓] Go.wp_at_zero Go.wp_at_succ

def ra (az bz:Int)(w:World)(e:Ending)(w':World):Prop:=
 (∃(g:Nat) (x y:Int) (b1:Bool) (a1:Option Addr) (n1 k1:Nat) (b2:Bool) (a2:Option Addr) (n2 k2:Nat) (b3:Bool) (a3:Option Addr) (n3 k3:Nat),e=.returned (.tuple #[.agg #[.bool b1,.slice a1 n1 k1],.agg #[.bool b2,.slice a2 n2 k2],.agg #[.bool b3,.slice a3 n3 k3]]) ∧
  Zn w' (.agg #[.bool b1,.slice a1 n1 k1]) ((g:Nat):Int)∧Zn w' (.agg #[.bool b2,.slice a2 n2 k2]) x∧Zn w' (.agg #[.bool b3,.slice a3 n3 k3]) y∧cq az bz g x y)∧Below w.heap.size w w'

theorem g9 {w:World}{g:Nat}{a a' a2:Option Addr}{b b' b2:Bool}{n k n' k' n2 k2:Nat}{p0 p2 p4:Bool}{u1 u3 u5:Value}(h2:w.heap[g]?=some (.cells #[.bool b,.slice a n k] 32))(h3:w.heap[g+1]?=some (.cells #[.bool b',.slice a' n' k'] 32))(h4:w.heap[g+1+1]?=some (.cells #[.bool b2,.slice a2 n2 k2] 32)) :
  ((((((w.setCell ⟨g,0,none⟩ (.bool p0)).setCell ⟨g,1,none⟩ u1).setCell ⟨g+1,0,none⟩ (.bool p2)).setCell ⟨g+1,1,none⟩ u3).setCell ⟨g+1+1,0,none⟩ (.bool p4)).setCell ⟨g+1+1,1,none⟩ u5).heap[g]?=some (.cells #[.bool p0,u1] 32) ∧
  ((((((w.setCell ⟨g,0,none⟩ (.bool p0)).setCell ⟨g,1,none⟩ u1).setCell ⟨g+1,0,none⟩ (.bool p2)).setCell ⟨g+1,1,none⟩ u3).setCell ⟨g+1+1,0,none⟩ (.bool p4)).setCell ⟨g+1+1,1,none⟩ u5).heap[g+1]?=some (.cells #[.bool p2,u3] 32) ∧
  ((((((w.setCell ⟨g,0,none⟩ (.bool p0)).setCell ⟨g,1,none⟩ u1).setCell ⟨g+1,0,none⟩ (.bool p2)).setCell ⟨g+1,1,none⟩ u3).setCell ⟨g+1+1,0,none⟩ (.bool p4)).setCell ⟨g+1+1,1,none⟩ u5).heap[g+1+1]?=some (.cells #[.bool p4,u5] 32) ∧
  (∀v z,Zn w v z→Zn ((((((w.setCell ⟨g,0,none⟩ (.bool p0)).setCell ⟨g,1,none⟩ u1).setCell ⟨g+1,0,none⟩ (.bool p2)).setCell ⟨g+1,1,none⟩ u3).setCell ⟨g+1+1,0,none⟩ (.bool p4)).setCell ⟨g+1+1,1,none⟩ u5) v z) ∧
  (∀B w0,B≤g→Below B w0 w→Below B w0 ((((((w.setCell ⟨g,0,none⟩ (.bool p0)).setCell ⟨g,1,none⟩ u1).setCell ⟨g+1,0,none⟩ (.bool p2)).setCell ⟨g+1,1,none⟩ u3).setCell ⟨g+1+1,0,none⟩ (.bool p4)).setCell ⟨g+1+1,1,none⟩ u5)):=by
 have q:=cb (b1:=p0) (u1:=u1) (b2:=p2) (u2:=u3) h2 h3
 have h5:=bJ (u0:=.bool p2) (u1:=u3) (bJ (u0:=.bool p0) (u1:=u1) h4 (show g+1+1≠g by omega)) (show g+1+1≠g+1 by omega)
 refine⟨bJ q.1 (by omega),bJ q.2.1 (by omega),aH h5,fun v z hz=>(q.2.2 v z hz).duo h5,fun B w0 hB hb=>?_⟩
 exact aC (aC (aC hb hB) (by omega)) (by omega)

theorem od {y z:Int}(hz:z≠0)(h:z ∣ y):y - flq y z*z=0:=by
 obtain⟨k,rfl⟩:=h
 have hz2:0<z.natAbs:=by omega
 have e1:(z*k).natAbs / z.natAbs=k.natAbs:=by rw [Int.natAbs_mul,Nat.mul_div_cancel_left _ hz2]
 have e2:(z*k).natAbs % z.natAbs=0:=by rw [Int.natAbs_mul,Nat.mul_mod_right]
 have e:flq (z*k) z=k:=by
  unfold flq
  rw [e1,e2]
  simp only [ne_eq,not_true_eq_false,decide_false,Bool.false_and,Bool.false_eq_true,if_false,Int.sub_zero]
  rcases Int.lt_trichotomy k 0 with hk|hk|hk
  ·rcases Int.lt_or_gt_of_ne hz with h1|h1
   ·have h2:¬z*k<0:=Int.not_lt.2 (Int.le_of_lt (Int.mul_pos_of_neg_of_neg h1 hk))
    simp only [h1,h2,decide_true,decide_false]
    simp [zz];omega
   ·have h2:z*k<0:=Int.mul_neg_of_pos_of_neg h1 hk
    have h3:¬z<0:=by omega
    simp only [h2,h3,decide_true,decide_false]
    simp [zz];omega
  ·subst hk
   simp [zz]
  ·rcases Int.lt_or_gt_of_ne hz with h1|h1
   ·have h2:z*k<0:=Int.mul_neg_of_neg_of_pos h1 hk
    simp only [h1,h2,decide_true]
    simp [zz];omega
   ·have h2:¬z*k<0:=Int.not_lt.2 (Int.le_of_lt (Int.mul_pos h1 hk))
    have h3:¬z<0:=by omega
    simp only [h2,h3,decide_false]
    simp [zz];omega
 rw [e,Int.mul_comm]
 omega

theorem dH (w:World)(a:Addr)(v:Value):(w.setCell a v).drew=w.drew.setCell a v:=rfl

theorem nI {az bz:Int}{g g':Nat}{x x' y y':Int}(h:cq az bz g x y)(h':cq az bz g' x' y'):g=g'∧x=x'∧y=y':=by
 have hg:g=g':=h.gcd.trans h'.gcd.symm
 refine⟨hg,?_⟩
 by_cases hb:bz=0
 ·obtain⟨e1,e2⟩:=h.none hb
  obtain⟨e3,e4⟩:=h'.none hb
  exact⟨e1.trans e3.symm,e2.trans e4.symm⟩
 ·obtain⟨p1,p2⟩:=h.some hb
  obtain⟨p3,p4⟩:=h'.some hb
  have hm:0<bz.natAbs:=by omega
  have inv:∀(u v:Int) (G:Nat),cq az bz G u v→0≤u→u.natAbs*G<bz.natAbs→IsInv bz.natAbs (er (decide (az<0)) az.natAbs bz.natAbs) G u.natAbs:=by
   intro u v G hn hu hl
   refine⟨.inl hl,?_⟩
   obtain⟨l,hl2⟩:=eW (decide (az<0)) az.natAbs bz.natAbs hm
   rw [jS] at hl2
   have he:=hn.eq
   have hu2:((u.natAbs:Nat):Int)=u:=by omega
   rw [hu2]
   rcases Int.le_total 0 bz with h1|h1
   ·have h2:((bz.natAbs:Nat):Int)=bz:=by omega
    rw [h2] at hl2 ⊢
    refine⟨-v - l*u,?_⟩
    rw [hl2] at he
    grind
   ·have h2:((bz.natAbs:Nat):Int)=-bz:=by omega
    rw [h2] at hl2 ⊢
    refine⟨v - l*u,?_⟩
    rw [hl2] at he
    grind
  have hgc:g=Nat.gcd bz.natAbs (er (decide (az<0)) az.natAbs bz.natAbs):=by rw [dI _ _ _ hm,h.gcd]
  have e1:=kM hm hgc (inv x y g h p1 p2) (by rw [hg];exact inv x' y' g' h' p3 p4)
  have e2:x=x':=by omega
  refine⟨e2,?_⟩
  have e3:=h.eq
  have e4:=h'.eq
  rw [←e2,←hg] at e4
  exact Int.eq_of_mul_eq_mul_left hb (by omega)

set_option maxRecDepth 20000 in
theorem nY (ba bb:Bool)(A B:Nat)(va vb:Value)(w:World)(h1:Zn w va (zz ba A))(h2:Zn w vb (zz bb B))(fA:blen A≤67108864)(fB:blen B≤67108864) :
  Calls Tryz.prog 8 #[va,vb] w (ra (zz ba A) (zz bb B) w):=by
 obtain⟨b1,a1,n1,k1,rfl,e1,hn1,e2⟩:=h1.parts
 obtain⟨b2,a2,n2,k2,rfl,e3,hn2,e4⟩:=h2.parts
 clear e1 e2 e3 e4 hn1 hn2
 obtain⟨w0,hw0,hb0,hx0,hx1,hx2,hx3,hx4⟩:=ik w (.cells #[.bool b1,.slice a1 n1 k1] 32) (.cells #[.bool b2,.slice a2 n2 k2] 32) (.cells #[.bool false,.slice none 0 0] 32) (.cells #[.bool false,.slice none 0 0] 32) (.cells #[.bool false,.slice none 0 0] 32)
 obtain⟨k0,k1'⟩:=duo hx0
 obtain⟨k2',k3'⟩:=duo hx1
 have HX0:=ac hx0
 have HX1:=ac hx1
 have HR:=ac (And.intro hx2 (And.intro hx3 hx4))
 have HB0:=ac hb0
 have HZ1:=ac (h1.below hb0)
 have HZ2:=ac (h2.below hb0)
 have HF:=ac (And.intro fA fB)
 have C:=rK (.agg #[.bool b1,.slice a1 n1 k1]) (.agg #[.bool b2,.slice a2 n2 k2]) (zz ba A) (zz bb B) w0 HZ1.out HZ2.out (by rw [aB];omega) (by rw [aB];omega)
 rw [aB,aB] at C
 obtain⟨g,hg⟩:∃g,Nat.gcd A B=g:=⟨_,rfl⟩
 rw [hg] at C
 have HGC:=ac hg
 clear h1 h2 hb0 hx0 hx1 hx2 hx3 hx4 fA fB hg
 go_enter Tryz.func8,Tryz.ntmps8
 go_wp2_with fail
 clear hw0 k0 k1' k2' k3'
 refine C.mono ?_
 rintro e t5 ⟨⟨b5,a5,n5,k5,rfl,Z5⟩,hb5⟩
 obtain⟨t6,ht6,hb6,hx6⟩:=aL t5 (.cells #[.bool false,.slice none 0 0] 32)
 obtain⟨za,zb⟩:=duo hx6
 have zf:=av hx6
 have RX:=aH (a':=.bool b5) (b':=.slice a5 n5 k5) hx6
 have hb7:Below t5.heap.size t5 ((t6.setCell ⟨t5.heap.size,0,none⟩ (.bool b5)).setCell ⟨t5.heap.size,1,none⟩ (.slice a5 n5 k5)):=aC hb6 (Nat.le_refl _)
 have Z6:=(Z5.below hb6).duo (p1:=b5) (r1:=.slice a5 n5 k5) hx6
 obtain⟨t7,ht7⟩:∃t7,(t6.setCell ⟨t5.heap.size,0,none⟩ (.bool b5)).setCell ⟨t5.heap.size,1,none⟩ (.slice a5 n5 k5)=t7:=⟨_,rfl⟩
 rw [ht7] at RX hb7 Z6
 clear C
 have HP:=ac (aA hb5 hb7)
 have HT5:=ac hb5.size
 have EG:=ac RX
 have ZG:=ac Z6
 have C:=dp (.agg #[.bool b2,.slice a2 n2 k2]) (zz bb B) t7 (HZ2.out.below HP.out)
 obtain⟨k0,k1'⟩:=duo (ae HP.out HX1.out)
 clear hb5 hb6 hx6 RX hb7 Z5 Z6
 rcases Nat.eq_zero_or_pos B with hB|hB
 ·have sg0:(zz bb B).sign=0:=by rw [hB,eC];rfl
  rw [sg0] at C
  have HN:Hid (cq (zz ba A) (zz bb B) g (zz ba A).sign 0):=by
   have e:g=A:=by rw [←HGC.out,hB,Nat.gcd_zero_right]
   rw [hB,e];exact ac (ju ba bb A)
  clear sg0
  go_wp2_with fail
  clear ht6 ht7 za zb zf
  refine C.mono ?_
  rintro e u7 ⟨rfl,hb1⟩
  replace HP:=ac (aA HP.out hb1)
  replace EG:=ac (ae hb1 EG.out)
  replace ZG:=ac (ZG.out.below hb1)
  clear C hb1 k0 k1' hB
  have g0:Below u7.drew.heap.size u7.drew u7.drew:=Below.refl _ _
  have gw:∀W,Below u7.drew.heap.size u7.drew W→Below u7.heap.size u7 W:=fun W h=>cY h
  have hs1:-1≤(zz ba A).sign∧(zz ba A).sign≤1:=by rw [←iQ];unfold sg;split <;> (try split) <;> omega
  have CS:=ac (fun (W:World) (hg:Below u7.drew.heap.size u7.drew W)=>dp (.agg #[.bool b1,.slice a1 n1 k1]) (zz ba A) W (HZ1.out.below (aA HP.out (gw W hg))))
  have CO:=ac (fun (W:World)=>dO (zz ba A).sign W (by omega) (by omega))
  have KG:=ac (fun (W:World) (hg:Below u7.drew.heap.size u7.drew W)=>show W.heap[t5.heap.size]?=some (.cells #[.bool b5,.slice a5 n5 k5] 32) from ae (gw W hg) EG.out)
  have KR:=ac (fun (W:World) (hg:Below u7.drew.heap.size u7.drew W)=>show W.heap[w.heap.size+1+1]?=some (.cells #[.bool false,.slice none 0 0] 32)∧W.heap[w.heap.size+1+1+1]?=some (.cells #[.bool false,.slice none 0 0] 32)∧W.heap[w.heap.size+1+1+1+1]?=some (.cells #[.bool false,.slice none 0 0] 32) from
    ⟨ae (gw W hg) (ae HP.out HR.out.1),ae (gw W hg) (ae HP.out HR.out.2.1),ae (gw W hg) (ae HP.out HR.out.2.2)⟩)
  obtain⟨k0,k1'⟩:=duo (ae (gw _ g0) (ae HP.out HX0.out))
  obtain⟨q0,q1⟩:=duo (KG.out _ g0)
  clear hs1 gw
  obtain⟨sgn,hsgn⟩:∃s,(zz ba A).sign=s:=⟨_,rfl⟩
  rw [hsgn] at CS CO HN
  clear hsgn
  go_wp2
  go_region_with (first
   | (go_at_call 12;refine (CS.out _ g0).mono ?_;rintro e' t9 ⟨rfl,hb9⟩;have g1:=bt6 g0 hb9;obtain⟨q2,q3⟩:=duo (KG.out _ g1))
   | (go_at_call 27;refine (CO.out t9).mono ?_;rintro e' t11 ⟨⟨b6,a6,n6,k6,rfl,hz6⟩,hb11⟩;have g2:=bt6 g1 hb11;obtain⟨q4,q5⟩:=duo (KG.out _ g2);obtain⟨x1,x2,x3⟩:=KR.out _ g2;have f1:=av x1;have f2:=av x2;have f3:=av x3;obtain⟨e0,e1⟩:=duo x1;obtain⟨e2,e3⟩:=duo x2;obtain⟨e4,e5⟩:=duo x3))
  all_goals
   have hbt:Below u7.heap.size u7 t11:=cY g2
   have HX:=ac (And.intro x1 (And.intro x2 (And.intro x3 hbt)))
   have HA6:=ac hz6
   clear g0 g1 g2 hb9 hb11 hbt q0 q1 q2 q3 q4 q5 KG KR CS CO x1 x2 x3 hz6 k0 k1'
   go_wp2
   have hq:=g9 (p0:=b5) (u1:=.slice a5 n5 k5) (p2:=b6) (u3:=.slice a6 n6 k6) (p4:=false) (u5:=.slice none 0 0) HX.out.1 HX.out.2.1 HX.out.2.2.1
   have HE:=ac (And.intro (hq.2.2.2.1 _ _ (ZG.out.below HX.out.2.2.2)) (And.intro (hq.2.2.2.1 _ _ HA6.out) (hq.2.2.2.2 w.heap.size w (by omega) (aA (aA HB0.out HP.out) HX.out.2.2.2))))
   obtain⟨R5,R6,R7,_,_⟩:=hq
   generalize (((((t11.setCell ⟨w.heap.size+1+1,0,none⟩ (.bool b5)).setCell ⟨w.heap.size+1+1,1,none⟩ (.slice a5 n5 k5)).setCell ⟨w.heap.size+1+1+1,0,none⟩ (.bool b6)).setCell ⟨w.heap.size+1+1+1,1,none⟩ (.slice a6 n6 k6)).setCell ⟨w.heap.size+1+1+1+1,0,none⟩ (.bool false)).setCell ⟨w.heap.size+1+1+1+1,1,none⟩ (.slice none 0 0)=w12 at *
   obtain⟨p0,p1⟩:=duo R5
   obtain⟨p2,p3⟩:=duo R6
   obtain⟨p4,p5⟩:=duo R7
   refine bodyPost_ret (v:=.tuple #[.agg #[.bool b5,.slice a5 n5 k5],.agg #[.bool b6,.slice a6 n6 k6],.agg #[.bool false,.slice none 0 0]]) (by simp [results,Tryz.results8,go_sem,p0,p1,p2,p3,p4,p5]) rfl ?_
   exact⟨⟨g,sgn,0,_,_,_,_,_,_,_,_,_,_,_,_,rfl,HE.out.1,HE.out.2.1,gT _,HN.out⟩,HE.out.2.2⟩
 ·obtain⟨sg,hsg,hs1⟩:∃sg,(zz bb B).sign=sg∧sg≠0:=⟨_,rfl,fun e=>dJ hB (Int.sign_eq_zero_iff_zero.1 e)⟩
  have hs2:(sg == 0)=false:=by rw [beq_eq_false_iff_ne];exact hs1
  rw [hsg] at C
  have HBP:=ac hB
  clear hsg hB
  go_wp2_with fail
  clear ht6 ht7 za zb zf
  refine C.mono ?_
  rintro e u7 ⟨rfl,hb1⟩
  replace HP:=ac (aA HP.out hb1)
  replace EG:=ac (ae hb1 EG.out)
  replace ZG:=ac (ZG.out.below hb1)
  have EA:=ac (ae HP.out HX0.out)
  have EB:=ac (ae HP.out HX1.out)
  clear C hb1 k0 k1' HX0 HX1
  obtain⟨a,ha⟩:∃a,er ba A B=a:=⟨_,rfl⟩
  have HER:=ac ha
  have HGA:=ac (show g=Nat.gcd B a by rw [←ha,dI ba A B HBP.out];exact HGC.out.symm)
  clear ha
  go_upto_region 4 with fail
  clear hs1 hs2
  go_cut [8] from 22 to 26 (fun s wx=>∃x:Nat,IsInv B a g x∧di wx s (x:Int) u7.heap.size∧Below u7.heap.size u7 wx)
  case first=>
   have KS:=ac (fun (W:World) (hg:Below u7.heap.size u7 W)=>show W.cell? ⟨w.heap.size,0,none⟩=some (.bool b1)∧W.cell? ⟨w.heap.size,1,none⟩=some (.slice a1 n1 k1)∧W.cell? ⟨w.heap.size+1,0,none⟩=some (.bool b2)∧W.cell? ⟨w.heap.size+1,1,none⟩=some (.slice a2 n2 k2)∧W.cell? ⟨t5.heap.size,0,none⟩=some (.bool b5)∧W.cell? ⟨t5.heap.size,1,none⟩=some (.slice a5 n5 k5) from ⟨(duo (ae hg EA.out)).1,(duo (ae hg EA.out)).2,(duo (ae hg EB.out)).1,(duo (ae hg EB.out)).2,(duo (ae hg EG.out)).1,(duo (ae hg EG.out)).2⟩)
   have IN1:=ac (fun (W:World) (hg:Below u7.heap.size u7 W)=>show Calls Tryz.prog 14 #[.agg #[.bool b2,.slice a2 n2 k2]] W (bE W ((B:Nat):Int)) by
    have h:=iZ (.agg #[.bool b2,.slice a2 n2 k2]) (zz bb B) W (HZ2.out.below (aA HP.out hg))
    rw [aB] at h
    exact h)
   have IN2:=ac (fun (W:World) (v:Value) (hg:Below u7.heap.size u7 W) (h:Zn W v ((B:Nat):Int))=>show Calls Tryz.prog 13 #[.agg #[.bool b1,.slice a1 n1 k1],v,.agg #[.bool b5,.slice a5 n5 k5]] W (fun e w'=>∃x:Nat,IsInv B a g x∧bE W (x:Int) e w') by
    have h2:=iA ba A B g (.agg #[.bool b1,.slice a1 n1 k1]) v (.agg #[.bool b5,.slice a5 n5 k5]) W (HZ1.out.below (aA HP.out hg)) h (ZG.out.below hg) HBP.out (by rw [HER.out];exact HGA.out) HF.out.1 HF.out.2
    rw [HER.out,←HGA.out] at h2
    exact h2)
   refine wp_region_held_drew (S:=fun w'=>w'.cell? ⟨w.heap.size,0,none⟩=some (.bool b1)∧w'.cell? ⟨w.heap.size,1,none⟩=some (.slice a1 n1 k1)∧w'.cell? ⟨w.heap.size+1,0,none⟩=some (.bool b2)∧w'.cell? ⟨w.heap.size+1,1,none⟩=some (.slice a2 n2 k2)∧w'.cell? ⟨t5.heap.size,0,none⟩=some (.bool b5)∧w'.cell? ⟨t5.heap.size,1,none⟩=some (.slice a5 n5 k5)) (by kernel_rfl) (KS.out _ ((Below.refl _ _).drew)) (fun hHeld=>?_)
   refine wpAnyH_take (i:=0) (oi:={ dst:=some 22,op:=Op.load 32 (Operand.tmp 2),type:=32,pos:="ref.go:207",after:=#[],guard:=none }) (v:=.agg #[.bool b1,.slice a1 n1 k1]) rfl (by kernel_rfl) (by kernel_rfl) (by kernel_rfl) (fun _ _ _ h=>h) (Or.inl ⟨by rfl,fun w9 hSw=>?_⟩) hHeld ?_
   ·(try dsimp only at hSw);go_simp
   simp only [Act.put,List.setIfInBounds_toArray,List.set_cons_zero,List.set_cons_succ]
   refine wpAnyH_take (i:=1) (oi:={ dst:=some 23,op:=Op.load 32 (Operand.tmp 3),type:=32,pos:="ref.go:207",after:=#[],guard:=none }) (v:=.agg #[.bool b2,.slice a2 n2 k2]) rfl (by kernel_rfl) (by kernel_rfl) (by kernel_rfl) (fun _ _ _ h=>h) (Or.inl ⟨by rfl,fun w9 hSw=>?_⟩) hHeld ?_
   ·(try dsimp only at hSw);go_simp
   simp only [Act.put,List.setIfInBounds_toArray,List.set_cons_zero,List.set_cons_succ]
   refine wpAnyH_take (i:=3) (oi:={ dst:=some 25,op:=Op.load 32 (Operand.tmp 7),type:=32,pos:="ref.go:207",after:=#[],guard:=none }) (v:=.agg #[.bool b5,.slice a5 n5 k5]) rfl (by kernel_rfl) (by kernel_rfl) (by kernel_rfl) (fun _ _ _ h=>h) (Or.inl ⟨by rfl,fun w9 hSw=>?_⟩) hHeld ?_
   ·(try dsimp only at hSw);go_simp
   simp only [Act.put,List.setIfInBounds_toArray,List.set_cons_zero,List.set_cons_succ]
   refine qY u7 (aV ((B:Nat):Int)) (fun W v=>∃x:Nat,IsInv B a g x∧aV (x:Int) W v) (aV.up _) (fun W W' v hb ⟨x,h1,h2⟩=>⟨x,h1,aV.up _ _ _ _ hb h2⟩) 24 26 8 1 (fun c1 c2 k1=>#[true,true,c1,true,c2,k1,false]) (by kernel_rfl) (by kernel_rfl) (by simp only [Act.put,List.setIfInBounds_toArray,List.set_cons_zero,List.set_cons_succ]) ((Below.refl _ _).drew) ?_
   clear hHeld
   intro n
   simp only [Act.put,List.setIfInBounds_toArray,List.set_cons_zero,List.set_cons_succ]
   induction n with
   | zero=>
    intro c1 c2 k1 x1 x2 y1 W hf J
    obtain⟨rfl,rfl,rfl⟩:=pE c1 c2 k1 hf
    clear hf
    have HU:=ac J.up
    obtain⟨xi,hinv,b1',a1',n1',k1',rfl,Z1⟩:=J.q2 rfl
    obtain⟨g1,rfl,l1,e1⟩:=J.r1 rfl
    have hf1:=av e1
    obtain⟨m10,m11⟩:=duo e1
    have B1_1:=eT e1 Z1 l1
    have HB1:=ac (aC (u0:=.bool b1') (u1:=.slice a1' n1' k1') HU.out l1)
    have HFIN:=ac (And.intro B1_1 (HB1.out))
    clear J B1_1 Z1 e1
    refine wpAnyH_ready (rs:=[6]) (by kernel_rfl) (by simp) ?_
    refine AllReadyH.cons rfl (fun K hK=>?_) AllReadyH.nil
    go_simp
    refine hK.out _ _ (KS.out _ HB1.out) (fun _=>?_)
    clear hK K
    simp only [List.setIfInBounds_toArray,List.set_cons_zero,List.set_cons_succ]
    refine wpAnyH_done (by kernel_rfl) ?_ _
    go_wp2_with fail
    go_meet
    exact⟨xi,hinv,HFIN.out.1,HFIN.out.2⟩
   | succ n ih=>
    intro c1 c2 k1 x1 x2 y1 W hf J
    cases c1
    ·skip
     cases c2
     ·skip
      cases k1
      ·skip
       refine wpAnyH_ready (rs:=[2,5]) (by kernel_rfl) (by simp) ?_
       refine AllReadyH.cons rfl (fun K hK=>?_) ?_
       ·go_simp
        refine (IN1.out W J.up).mono ?_
        rintro e' W2 ⟨⟨p,q,r,s,rfl,hz⟩,hb⟩
        refine hK.out _ _ (KS.out _ (J.up.trans (hb.mono J.up.size))) (fun hS2=>?_)
        simp only [List.setIfInBounds_toArray,List.set_cons_zero,List.set_cons_succ]
        exact ih _ _ _ _ _ _ _ (by simp [cG] at hf ⊢;omega) (J.call1 hb ⟨p,q,r,s,rfl,hz⟩)
       refine AllReadyH.cons rfl (fun K hK=>?_) ?_
       ·go_simp
        refine hK.out _ _ (KS.out _ (J.up.alloc J.up.size _)) (fun _=>?_)
        simp only [List.setIfInBounds_toArray,List.set_cons_zero,List.set_cons_succ]
        exact ih _ _ _ _ _ _ _ (by simp [cG] at hf ⊢;omega) J.make1
       exact AllReadyH.nil
      ·skip
       refine wpAnyH_ready (rs:=[2]) (by kernel_rfl) (by simp) ?_
       refine AllReadyH.cons rfl (fun K hK=>?_) ?_
       ·go_simp
        refine (IN1.out W J.up).mono ?_
        rintro e' W2 ⟨⟨p,q,r,s,rfl,hz⟩,hb⟩
        refine hK.out _ _ (KS.out _ (J.up.trans (hb.mono J.up.size))) (fun hS2=>?_)
        simp only [List.setIfInBounds_toArray,List.set_cons_zero,List.set_cons_succ]
        exact ih _ _ _ _ _ _ _ (by simp [cG] at hf ⊢;omega) (J.call1 hb ⟨p,q,r,s,rfl,hz⟩)
       exact AllReadyH.nil
     ·skip
      exact absurd (J.h2 rfl) (by decide)
    ·skip
     cases c2
     ·skip
      cases k1
      ·skip
       refine wpAnyH_ready (rs:=[4,5]) (by kernel_rfl) (by simp) ?_
       refine AllReadyH.cons rfl (fun K hK=>?_) ?_
       ·go_simp
        refine (IN2.out W x1 J.up (J.q1 rfl).zn).mono ?_
        rintro e' W2 ⟨xi,hinv,⟨p,q,r,s,rfl,hz⟩,hb⟩
        refine hK.out _ _ (KS.out _ (J.up.trans (hb.mono J.up.size))) (fun hS2=>?_)
        simp only [List.setIfInBounds_toArray,List.set_cons_zero,List.set_cons_succ]
        exact ih _ _ _ _ _ _ _ (by simp [cG] at hf ⊢;omega) (J.call2 hb ⟨xi,hinv,p,q,r,s,rfl,hz⟩)
       refine AllReadyH.cons rfl (fun K hK=>?_) ?_
       ·go_simp
        refine hK.out _ _ (KS.out _ (J.up.alloc J.up.size _)) (fun _=>?_)
        simp only [List.setIfInBounds_toArray,List.set_cons_zero,List.set_cons_succ]
        exact ih _ _ _ _ _ _ _ (by simp [cG] at hf ⊢;omega) J.make1
       exact AllReadyH.nil
      ·skip
       refine wpAnyH_ready (rs:=[4]) (by kernel_rfl) (by simp) ?_
       refine AllReadyH.cons rfl (fun K hK=>?_) ?_
       ·go_simp
        refine (IN2.out W x1 J.up (J.q1 rfl).zn).mono ?_
        rintro e' W2 ⟨xi,hinv,⟨p,q,r,s,rfl,hz⟩,hb⟩
        refine hK.out _ _ (KS.out _ (J.up.trans (hb.mono J.up.size))) (fun hS2=>?_)
        simp only [List.setIfInBounds_toArray,List.set_cons_zero,List.set_cons_succ]
        exact ih _ _ _ _ _ _ _ (by simp [cG] at hf ⊢;omega) (J.call2 hb ⟨xi,hinv,p,q,r,s,rfl,hz⟩)
       exact AllReadyH.nil
     ·skip
      cases k1
      ·skip
       refine wpAnyH_ready (rs:=[5]) (by kernel_rfl) (by simp) ?_
       refine AllReadyH.cons rfl (fun K hK=>?_) ?_
       ·go_simp
        refine hK.out _ _ (KS.out _ (J.up.alloc J.up.size _)) (fun _=>?_)
        simp only [List.setIfInBounds_toArray,List.set_cons_zero,List.set_cons_succ]
        exact ih _ _ _ _ _ _ _ (by simp [cG] at hf ⊢;omega) J.make1
       exact AllReadyH.nil
      ·skip
       exact absurd hf (by simp [cG])
  case rest=>
   rename World=>u8
   obtain⟨x,hinv,⟨gx,bx,ax,nx,kx,rfl,lx,ex,zx⟩,hb⟩:=hcut
   have EX:=ac ex
   have ZX:=ac zx
   have HI:=ac hinv
   have HPS:=ac HP.out.size
   replace HP:=ac (aA HP.out hb)
   replace EG:=ac (ae hb EG.out)
   replace ZG:=ac (ZG.out.below hb)
   replace EA:=ac (ae hb EA.out)
   replace EB:=ac (ae hb EB.out)
   have HLX:=ac (show w0.heap.size≤gx from Nat.le_trans HPS.out lx)
   clear hb ex zx hinv lx
   have HBN:=ac (show blen ((g:Nat):Int).natAbs≤67108864∧blen ((x:Nat):Int).natAbs≤67108864 by
    have h0:=HBP.out
    have hg0:0<g:=by rw [HGA.out];exact Nat.gcd_pos_of_pos_left _ h0
    have h1:g≤B:=by rw [HGA.out];exact Nat.gcd_le_left _ h0
    have h2:=Nat.le_of_lt (ee HI.out h0 hg0)
    rw [Int.natAbs_natCast,Int.natAbs_natCast]
    exact⟨Nat.le_trans (bA h1) HF.out.2,Nat.le_trans (bA h2) HF.out.2⟩)
   have HNM:=ac (show cq (zz ba A) (zz bb B) g (x:Int) (oth ba bb A B g x) by
    have h:=iT ba bb A B x HBP.out (by rw [HER.out,←HGA.out];exact HI.out)
    rw [HER.out,←HGA.out] at h
    exact h)
   obtain⟨F,hF⟩:∃F,flq (((g:Nat):Int) - zz ba A*(x:Int)) (zz bb B)=F:=⟨_,rfl⟩
   have hdv:=od (dJ (b:=bb) HBP.out) (show zz bb B ∣ ((g:Nat):Int) - zz ba A*(x:Int) from ⟨oth ba bb A B g x,by have:=HNM.out.eq;omega⟩)
   have HFY:=ac (show F=oth ba bb A B g x by
    rw [hF] at hdv
    have h1:=HNM.out.eq
    refine Int.eq_of_mul_eq_mul_left (dJ (b:=bb) HBP.out) ?_
    rw [Int.mul_comm (zz bb B) F]
    omega)
   have HFR:=ac (And.intro hF hdv)
   clear hF hdv
   go_upto_region 5 with fail
   go_cut [9,10] from 27 to 37 (fun s _ wx=>di wx s F u8.heap.size∧Below u8.heap.size u8 wx)
   case first=>
    have KS:=ac (fun (W:World) (hg:Below u8.heap.size u8 W)=>show W.cell? ⟨w.heap.size,0,none⟩=some (.bool b1)∧W.cell? ⟨w.heap.size,1,none⟩=some (.slice a1 n1 k1)∧W.cell? ⟨w.heap.size+1,0,none⟩=some (.bool b2)∧W.cell? ⟨w.heap.size+1,1,none⟩=some (.slice a2 n2 k2)∧W.cell? ⟨t5.heap.size,0,none⟩=some (.bool b5)∧W.cell? ⟨t5.heap.size,1,none⟩=some (.slice a5 n5 k5)∧W.cell? ⟨gx,0,none⟩=some (.bool bx)∧W.cell? ⟨gx,1,none⟩=some (.slice ax nx kx) from ⟨(duo (ae hg EA.out)).1,(duo (ae hg EA.out)).2,(duo (ae hg EB.out)).1,(duo (ae hg EB.out)).2,(duo (ae hg EG.out)).1,(duo (ae hg EG.out)).2,(duo (ae hg EX.out)).1,(duo (ae hg EX.out)).2⟩)
    have IN1:=ac (fun (W:World) (hg:Below u8.heap.size u8 W)=>dn (.agg #[.bool b1,.slice a1 n1 k1]) (.agg #[.bool bx,.slice ax nx kx]) (zz ba A) (x:Int) W (HZ1.out.below (aA HP.out hg)) (ZX.out.below hg) (by rw [aB];have:=HF.out.1;have:=HBN.out.2;omega))
    have IN2:=ac (fun (W:World) (v:Value) (hg:Below u8.heap.size u8 W) (h:Zn W v (zz ba A*(x:Int)))=>dk (.agg #[.bool b5,.slice a5 n5 k5]) v ((g:Nat):Int) (zz ba A*(x:Int)) W (ZG.out.below hg) h (by have:=HBN.out.1;omega) (by rw [Int.natAbs_mul,aB];have h0:=gc A ((x:Nat):Int).natAbs;have:=HF.out.1;have:=HBN.out.2;omega))
    have IN3:=ac (fun (W:World) (v:Value) (hg:Below u8.heap.size u8 W) (h:Zn W v (((g:Nat):Int) - zz ba A*(x:Int)))=>show Calls Tryz.prog 25 #[v,.agg #[.bool b2,.slice a2 n2 k2]] W (fs W F 0) by
     have hb1:blen (((g:Nat):Int) - zz ba A*(x:Int)).natAbs≤200000000:=by
      have e:((g:Nat):Int) - zz ba A*(x:Int)=zz bb B*oth ba bb A B g x:=by have:=HNM.out.eq;omega
      rw [e,Int.natAbs_mul,aB]
      have h0:=gc B (oth ba bb A B g x).natAbs
      have h1:=HNM.out.ly
      rw [aB] at h1
      have h2:=jA HF.out.1 h1
      have:=HF.out.2
      omega
     have h2:=fc v (.agg #[.bool b2,.slice a2 n2 k2]) (((g:Nat):Int) - zz ba A*(x:Int)) (zz bb B) W h (HZ2.out.below (aA HP.out hg)) (dJ HBP.out) (by omega) (by rw [aB];have:=HF.out.2;omega)
     rw [HFR.out.2,HFR.out.1] at h2
     exact h2)
    refine wp_region_held_drew (S:=fun w'=>w'.cell? ⟨w.heap.size,0,none⟩=some (.bool b1)∧w'.cell? ⟨w.heap.size,1,none⟩=some (.slice a1 n1 k1)∧w'.cell? ⟨w.heap.size+1,0,none⟩=some (.bool b2)∧w'.cell? ⟨w.heap.size+1,1,none⟩=some (.slice a2 n2 k2)∧w'.cell? ⟨t5.heap.size,0,none⟩=some (.bool b5)∧w'.cell? ⟨t5.heap.size,1,none⟩=some (.slice a5 n5 k5)∧w'.cell? ⟨gx,0,none⟩=some (.bool bx)∧w'.cell? ⟨gx,1,none⟩=some (.slice ax nx kx)) (by kernel_rfl) (KS.out _ ((Below.refl _ _).drew)) (fun hHeld=>?_)
    refine wpAnyH_take (i:=0) (oi:={ dst:=some 28,op:=Op.load 32 (Operand.tmp 7),type:=32,pos:="ref.go:208",after:=#[],guard:=none }) (v:=.agg #[.bool b5,.slice a5 n5 k5]) rfl (by kernel_rfl) (by kernel_rfl) (by kernel_rfl) (fun _ _ _ h=>h) (Or.inl ⟨by rfl,fun w9 hSw=>?_⟩) hHeld ?_
    ·(try dsimp only at hSw);go_simp
    simp only [Act.put,List.setIfInBounds_toArray,List.set_cons_zero,List.set_cons_succ]
    refine wpAnyH_take (i:=1) (oi:={ dst:=some 29,op:=Op.load 32 (Operand.tmp 2),type:=32,pos:="ref.go:208",after:=#[],guard:=none }) (v:=.agg #[.bool b1,.slice a1 n1 k1]) rfl (by kernel_rfl) (by kernel_rfl) (by kernel_rfl) (fun _ _ _ h=>h) (Or.inl ⟨by rfl,fun w9 hSw=>?_⟩) hHeld ?_
    ·(try dsimp only at hSw);go_simp
    simp only [Act.put,List.setIfInBounds_toArray,List.set_cons_zero,List.set_cons_succ]
    refine wpAnyH_take (i:=2) (oi:={ dst:=some 30,op:=Op.load 32 (Operand.tmp 8),type:=32,pos:="ref.go:208",after:=#[],guard:=none }) (v:=.agg #[.bool bx,.slice ax nx kx]) rfl (by kernel_rfl) (by kernel_rfl) (by kernel_rfl) (fun _ _ _ h=>h) (Or.inl ⟨by rfl,fun w9 hSw=>?_⟩) hHeld ?_
    ·(try dsimp only at hSw);go_simp
    simp only [Act.put,List.setIfInBounds_toArray,List.set_cons_zero,List.set_cons_succ]
    refine wpAnyH_take (i:=5) (oi:={ dst:=some 33,op:=Op.load 32 (Operand.tmp 3),type:=32,pos:="ref.go:208",after:=#[],guard:=none }) (v:=.agg #[.bool b2,.slice a2 n2 k2]) rfl (by kernel_rfl) (by kernel_rfl) (by kernel_rfl) (fun _ _ _ h=>h) (Or.inl ⟨by rfl,fun w9 hSw=>?_⟩) hHeld ?_
    ·(try dsimp only at hSw);go_simp
    simp only [Act.put,List.setIfInBounds_toArray,List.set_cons_zero,List.set_cons_succ]
    refine pC u8 (aV (zz ba A*(x:Int))) (aV (((g:Nat):Int) - zz ba A*(x:Int))) (fb F 0) (aV.up _) (aV.up _) (fb.up _ _) 31 32 34 27 35 36 9 10 2 (fun c1 c2 c3 k1 k2=>#[true,true,true,c1,c2,true,c3,c3,c3,c3,k1,k2,false,false]) (by kernel_rfl) (by kernel_rfl) (by simp only [Act.put,List.setIfInBounds_toArray,List.set_cons_zero,List.set_cons_succ]) ((Below.refl _ _).drew) ?_
    clear hHeld
    intro n
    simp only [Act.put,List.setIfInBounds_toArray,List.set_cons_zero,List.set_cons_succ]
    induction n with
    | zero=>
     intro c1 c2 c3 k1 k2 x1 x2 x3 e1 e2 e3 y1 y2 W hf J
     obtain⟨rfl,rfl,rfl,rfl,rfl⟩:=p9 c1 c2 c3 k1 k2 hf
     clear hf
     have HU:=ac J.up
     obtain⟨rfl,rfl,⟨b1',a1',n1',k1',rfl,Z1⟩,⟨b2',a2',n2',k2',rfl,Z2⟩⟩:=J.q3 rfl
     obtain⟨g1,rfl,l1,e1⟩:=J.r1 rfl
     obtain⟨g2,rfl,l2,e2⟩:=J.r2 rfl
     have D12:=J.d12 rfl rfl
     have G12:g1≠g2:=fun e=>D12 (by rw [e])
     have hf1:=av e1
     have hf2:=av e2
     obtain⟨m10,m11⟩:=duo e1
     obtain⟨m20,m21⟩:=duo e2
     have B1_1:=eT e1 Z1 l1
     have E2_1:=bJ (u0:=.bool b1') (u1:=.slice a1' n1' k1') e2 (Ne.symm G12)
     have Z2_1:=Z2.duo (p1:=b1') (r1:=.slice a1' n1' k1') e1
     have HB1:=ac (aC (u0:=.bool b1') (u1:=.slice a1' n1' k1') HU.out l1)
     have B1_2:=B1_1.other (b':=b2') (r':=.slice a2' n2' k2') E2_1 (fun e=>D12 (by rw [e]))
     have B2_2:=eT E2_1 Z2_1 l2
     have HB2:=ac (aC (u0:=.bool b2') (u1:=.slice a2' n2' k2') HB1.out l2)
     have HFIN:=ac (And.intro B1_2 ( And.intro B2_2 (HB2.out)))
     clear J B1_1 B1_2 B2_2 E2_1 Z2_1 Z1 Z2 e1 e2 D12
     refine wpAnyH_ready (rs:=[12]) (by kernel_rfl) (by simp) ?_
     refine AllReadyH.cons rfl (fun K hK=>?_) AllReadyH.nil
     go_simp
     refine hK.out _ _ (KS.out _ HB1.out) (fun _=>?_)
     clear hK K
     simp only [List.setIfInBounds_toArray,List.set_cons_zero,List.set_cons_succ]
     refine wpAnyH_ready (rs:=[13]) (by kernel_rfl) (by simp) ?_
     refine AllReadyH.cons rfl (fun K hK=>?_) AllReadyH.nil
     go_simp
     refine hK.out _ _ (KS.out _ HB2.out) (fun _=>?_)
     clear hK K
     simp only [List.setIfInBounds_toArray,List.set_cons_zero,List.set_cons_succ]
     refine wpAnyH_done (by kernel_rfl) ?_ _
     go_wp2_with fail
     go_meet
     exact⟨HFIN.out.1,HFIN.out.2.2⟩
    | succ n ih=>
     intro c1 c2 c3 k1 k2 x1 x2 x3 e1 e2 e3 y1 y2 W hf J
     cases c1
     ·skip
      cases c2
      ·skip
       cases c3
       ·skip
        cases k1
        ·skip
         cases k2
         ·skip
          refine wpAnyH_ready (rs:=[3,10,11]) (by kernel_rfl) (by simp) ?_
          refine AllReadyH.cons rfl (fun K hK=>?_) ?_
          ·go_simp
           refine (IN1.out W J.up).mono ?_
           rintro e' W2 ⟨⟨p,q,r,s,rfl,hz⟩,hb⟩
           refine hK.out _ _ (KS.out _ (J.up.trans (hb.mono J.up.size))) (fun hS2=>?_)
           simp only [List.setIfInBounds_toArray,List.set_cons_zero,List.set_cons_succ]
           exact ih _ _ _ _ _ _ _ _ _ _ _ _ _ _ (by simp [aS] at hf ⊢;omega) (J.call1 hb ⟨p,q,r,s,rfl,hz⟩)
          refine AllReadyH.cons rfl (fun K hK=>?_) ?_
          ·go_simp
           refine hK.out _ _ (KS.out _ (J.up.alloc J.up.size _)) (fun _=>?_)
           simp only [List.setIfInBounds_toArray,List.set_cons_zero,List.set_cons_succ]
           exact ih _ _ _ _ _ _ _ _ _ _ _ _ _ _ (by simp [aS] at hf ⊢;omega) J.make1
          refine AllReadyH.cons rfl (fun K hK=>?_) ?_
          ·go_simp
           refine hK.out _ _ (KS.out _ (J.up.alloc J.up.size _)) (fun _=>?_)
           simp only [List.setIfInBounds_toArray,List.set_cons_zero,List.set_cons_succ]
           exact ih _ _ _ _ _ _ _ _ _ _ _ _ _ _ (by simp [aS] at hf ⊢;omega) J.make2
          exact AllReadyH.nil
         ·skip
          refine wpAnyH_ready (rs:=[3,10]) (by kernel_rfl) (by simp) ?_
          refine AllReadyH.cons rfl (fun K hK=>?_) ?_
          ·go_simp
           refine (IN1.out W J.up).mono ?_
           rintro e' W2 ⟨⟨p,q,r,s,rfl,hz⟩,hb⟩
           refine hK.out _ _ (KS.out _ (J.up.trans (hb.mono J.up.size))) (fun hS2=>?_)
           simp only [List.setIfInBounds_toArray,List.set_cons_zero,List.set_cons_succ]
           exact ih _ _ _ _ _ _ _ _ _ _ _ _ _ _ (by simp [aS] at hf ⊢;omega) (J.call1 hb ⟨p,q,r,s,rfl,hz⟩)
          refine AllReadyH.cons rfl (fun K hK=>?_) ?_
          ·go_simp
           refine hK.out _ _ (KS.out _ (J.up.alloc J.up.size _)) (fun _=>?_)
           simp only [List.setIfInBounds_toArray,List.set_cons_zero,List.set_cons_succ]
           exact ih _ _ _ _ _ _ _ _ _ _ _ _ _ _ (by simp [aS] at hf ⊢;omega) J.make1
          exact AllReadyH.nil
        ·skip
         cases k2
         ·skip
          refine wpAnyH_ready (rs:=[3,11]) (by kernel_rfl) (by simp) ?_
          refine AllReadyH.cons rfl (fun K hK=>?_) ?_
          ·go_simp
           refine (IN1.out W J.up).mono ?_
           rintro e' W2 ⟨⟨p,q,r,s,rfl,hz⟩,hb⟩
           refine hK.out _ _ (KS.out _ (J.up.trans (hb.mono J.up.size))) (fun hS2=>?_)
           simp only [List.setIfInBounds_toArray,List.set_cons_zero,List.set_cons_succ]
           exact ih _ _ _ _ _ _ _ _ _ _ _ _ _ _ (by simp [aS] at hf ⊢;omega) (J.call1 hb ⟨p,q,r,s,rfl,hz⟩)
          refine AllReadyH.cons rfl (fun K hK=>?_) ?_
          ·go_simp
           refine hK.out _ _ (KS.out _ (J.up.alloc J.up.size _)) (fun _=>?_)
           simp only [List.setIfInBounds_toArray,List.set_cons_zero,List.set_cons_succ]
           exact ih _ _ _ _ _ _ _ _ _ _ _ _ _ _ (by simp [aS] at hf ⊢;omega) J.make2
          exact AllReadyH.nil
         ·skip
          refine wpAnyH_ready (rs:=[3]) (by kernel_rfl) (by simp) ?_
          refine AllReadyH.cons rfl (fun K hK=>?_) ?_
          ·go_simp
           refine (IN1.out W J.up).mono ?_
           rintro e' W2 ⟨⟨p,q,r,s,rfl,hz⟩,hb⟩
           refine hK.out _ _ (KS.out _ (J.up.trans (hb.mono J.up.size))) (fun hS2=>?_)
           simp only [List.setIfInBounds_toArray,List.set_cons_zero,List.set_cons_succ]
           exact ih _ _ _ _ _ _ _ _ _ _ _ _ _ _ (by simp [aS] at hf ⊢;omega) (J.call1 hb ⟨p,q,r,s,rfl,hz⟩)
          exact AllReadyH.nil
       ·skip
        exact absurd (J.h3 rfl) (by decide)
      ·skip
       exact absurd (J.h2 rfl) (by decide)
     ·skip
      cases c2
      ·skip
       cases c3
       ·skip
        cases k1
        ·skip
         cases k2
         ·skip
          refine wpAnyH_ready (rs:=[4,10,11]) (by kernel_rfl) (by simp) ?_
          refine AllReadyH.cons rfl (fun K hK=>?_) ?_
          ·go_simp
           refine (IN2.out W x1 J.up (J.q1 rfl).zn).mono ?_
           rintro e' W2 ⟨⟨p,q,r,s,rfl,hz⟩,hb⟩
           refine hK.out _ _ (KS.out _ (J.up.trans (hb.mono J.up.size))) (fun hS2=>?_)
           simp only [List.setIfInBounds_toArray,List.set_cons_zero,List.set_cons_succ]
           exact ih _ _ _ _ _ _ _ _ _ _ _ _ _ _ (by simp [aS] at hf ⊢;omega) (J.call2 hb ⟨p,q,r,s,rfl,hz⟩)
          refine AllReadyH.cons rfl (fun K hK=>?_) ?_
          ·go_simp
           refine hK.out _ _ (KS.out _ (J.up.alloc J.up.size _)) (fun _=>?_)
           simp only [List.setIfInBounds_toArray,List.set_cons_zero,List.set_cons_succ]
           exact ih _ _ _ _ _ _ _ _ _ _ _ _ _ _ (by simp [aS] at hf ⊢;omega) J.make1
          refine AllReadyH.cons rfl (fun K hK=>?_) ?_
          ·go_simp
           refine hK.out _ _ (KS.out _ (J.up.alloc J.up.size _)) (fun _=>?_)
           simp only [List.setIfInBounds_toArray,List.set_cons_zero,List.set_cons_succ]
           exact ih _ _ _ _ _ _ _ _ _ _ _ _ _ _ (by simp [aS] at hf ⊢;omega) J.make2
          exact AllReadyH.nil
         ·skip
          refine wpAnyH_ready (rs:=[4,10]) (by kernel_rfl) (by simp) ?_
          refine AllReadyH.cons rfl (fun K hK=>?_) ?_
          ·go_simp
           refine (IN2.out W x1 J.up (J.q1 rfl).zn).mono ?_
           rintro e' W2 ⟨⟨p,q,r,s,rfl,hz⟩,hb⟩
           refine hK.out _ _ (KS.out _ (J.up.trans (hb.mono J.up.size))) (fun hS2=>?_)
           simp only [List.setIfInBounds_toArray,List.set_cons_zero,List.set_cons_succ]
           exact ih _ _ _ _ _ _ _ _ _ _ _ _ _ _ (by simp [aS] at hf ⊢;omega) (J.call2 hb ⟨p,q,r,s,rfl,hz⟩)
          refine AllReadyH.cons rfl (fun K hK=>?_) ?_
          ·go_simp
           refine hK.out _ _ (KS.out _ (J.up.alloc J.up.size _)) (fun _=>?_)
           simp only [List.setIfInBounds_toArray,List.set_cons_zero,List.set_cons_succ]
           exact ih _ _ _ _ _ _ _ _ _ _ _ _ _ _ (by simp [aS] at hf ⊢;omega) J.make1
          exact AllReadyH.nil
        ·skip
         cases k2
         ·skip
          refine wpAnyH_ready (rs:=[4,11]) (by kernel_rfl) (by simp) ?_
          refine AllReadyH.cons rfl (fun K hK=>?_) ?_
          ·go_simp
           refine (IN2.out W x1 J.up (J.q1 rfl).zn).mono ?_
           rintro e' W2 ⟨⟨p,q,r,s,rfl,hz⟩,hb⟩
           refine hK.out _ _ (KS.out _ (J.up.trans (hb.mono J.up.size))) (fun hS2=>?_)
           simp only [List.setIfInBounds_toArray,List.set_cons_zero,List.set_cons_succ]
           exact ih _ _ _ _ _ _ _ _ _ _ _ _ _ _ (by simp [aS] at hf ⊢;omega) (J.call2 hb ⟨p,q,r,s,rfl,hz⟩)
          refine AllReadyH.cons rfl (fun K hK=>?_) ?_
          ·go_simp
           refine hK.out _ _ (KS.out _ (J.up.alloc J.up.size _)) (fun _=>?_)
           simp only [List.setIfInBounds_toArray,List.set_cons_zero,List.set_cons_succ]
           exact ih _ _ _ _ _ _ _ _ _ _ _ _ _ _ (by simp [aS] at hf ⊢;omega) J.make2
          exact AllReadyH.nil
         ·skip
          refine wpAnyH_ready (rs:=[4]) (by kernel_rfl) (by simp) ?_
          refine AllReadyH.cons rfl (fun K hK=>?_) ?_
          ·go_simp
           refine (IN2.out W x1 J.up (J.q1 rfl).zn).mono ?_
           rintro e' W2 ⟨⟨p,q,r,s,rfl,hz⟩,hb⟩
           refine hK.out _ _ (KS.out _ (J.up.trans (hb.mono J.up.size))) (fun hS2=>?_)
           simp only [List.setIfInBounds_toArray,List.set_cons_zero,List.set_cons_succ]
           exact ih _ _ _ _ _ _ _ _ _ _ _ _ _ _ (by simp [aS] at hf ⊢;omega) (J.call2 hb ⟨p,q,r,s,rfl,hz⟩)
          exact AllReadyH.nil
       ·skip
        exact absurd (J.h3 rfl) (by decide)
      ·skip
       cases c3
       ·skip
        cases k1
        ·skip
         cases k2
         ·skip
          refine wpAnyH_ready (rs:=[6,10,11]) (by kernel_rfl) (by simp) ?_
          refine AllReadyH.cons rfl (fun K hK=>?_) ?_
          ·go_simp
           refine (IN3.out W x2 J.up (J.q2 rfl).zn).mono ?_
           rintro e' W2 ⟨⟨p,q9,r,s,p2,q2,r2,s2,rfl,hz,hz2⟩,hb⟩
           refine hK.out _ _ (KS.out _ (J.up.trans (hb.mono J.up.size))) (fun hS2=>?_)
           simp only [List.setIfInBounds_toArray,List.set_cons_zero,List.set_cons_succ]
           refine wpAnyH_take (i:=7) (oi:={ dst:=some 27,op:=Op.move (Operand.tmp 34),type:=54,pos:="ref.go:208",after:=#[{ on:=6,ground:=Ground.data }],guard:=none }) (v:=.tuple #[.agg #[.bool p,.slice q9 r s],.agg #[.bool p2,.slice q2 r2 s2]]) rfl (by kernel_rfl) (by kernel_rfl) (by kernel_rfl) (fun _ _ _ h=>h) (Or.inl ⟨by rfl,fun w9 hSw=>?_⟩) hS2 ?_
           ·(try dsimp only at hSw);go_simp
           simp only [Act.put,List.setIfInBounds_toArray,List.set_cons_zero,List.set_cons_succ]
           refine wpAnyH_take (i:=8) (oi:={ dst:=some 35,op:=Op.extract (Operand.tmp 27) 0,type:=32,pos:="ref.go:208",after:=#[{ on:=7,ground:=Ground.data }],guard:=none }) (v:=.agg #[.bool p,.slice q9 r s]) rfl (by kernel_rfl) (by kernel_rfl) (by kernel_rfl) (fun _ _ _ h=>h) (Or.inl ⟨by rfl,fun w9 hSw=>?_⟩) hS2 ?_
           ·(try dsimp only at hSw);go_simp
           simp only [Act.put,List.setIfInBounds_toArray,List.set_cons_zero,List.set_cons_succ]
           refine wpAnyH_take (i:=9) (oi:={ dst:=some 36,op:=Op.extract (Operand.tmp 27) 1,type:=32,pos:="ref.go:208",after:=#[{ on:=7,ground:=Ground.data },{ on:=12,ground:=Ground.gcOnly Departure.lateStores }],guard:=none }) (v:=.agg #[.bool p2,.slice q2 r2 s2]) rfl (by kernel_rfl) (by kernel_rfl) (by kernel_rfl) (fun _ _ _ h=>h) (Or.inl ⟨by rfl,fun w9 hSw=>?_⟩) hS2 ?_
           ·(try dsimp only at hSw);go_simp
           simp only [Act.put,List.setIfInBounds_toArray,List.set_cons_zero,List.set_cons_succ]
           exact ih _ _ _ _ _ _ _ _ _ _ _ _ _ _ (by simp [aS] at hf ⊢;omega) (J.call3 hb ⟨rfl,rfl,⟨p,q9,r,s,rfl,hz⟩,⟨p2,q2,r2,s2,rfl,hz2⟩⟩)
          refine AllReadyH.cons rfl (fun K hK=>?_) ?_
          ·go_simp
           refine hK.out _ _ (KS.out _ (J.up.alloc J.up.size _)) (fun _=>?_)
           simp only [List.setIfInBounds_toArray,List.set_cons_zero,List.set_cons_succ]
           exact ih _ _ _ _ _ _ _ _ _ _ _ _ _ _ (by simp [aS] at hf ⊢;omega) J.make1
          refine AllReadyH.cons rfl (fun K hK=>?_) ?_
          ·go_simp
           refine hK.out _ _ (KS.out _ (J.up.alloc J.up.size _)) (fun _=>?_)
           simp only [List.setIfInBounds_toArray,List.set_cons_zero,List.set_cons_succ]
           exact ih _ _ _ _ _ _ _ _ _ _ _ _ _ _ (by simp [aS] at hf ⊢;omega) J.make2
          exact AllReadyH.nil
         ·skip
          refine wpAnyH_ready (rs:=[6,10]) (by kernel_rfl) (by simp) ?_
          refine AllReadyH.cons rfl (fun K hK=>?_) ?_
          ·go_simp
           refine (IN3.out W x2 J.up (J.q2 rfl).zn).mono ?_
           rintro e' W2 ⟨⟨p,q9,r,s,p2,q2,r2,s2,rfl,hz,hz2⟩,hb⟩
           refine hK.out _ _ (KS.out _ (J.up.trans (hb.mono J.up.size))) (fun hS2=>?_)
           simp only [List.setIfInBounds_toArray,List.set_cons_zero,List.set_cons_succ]
           refine wpAnyH_take (i:=7) (oi:={ dst:=some 27,op:=Op.move (Operand.tmp 34),type:=54,pos:="ref.go:208",after:=#[{ on:=6,ground:=Ground.data }],guard:=none }) (v:=.tuple #[.agg #[.bool p,.slice q9 r s],.agg #[.bool p2,.slice q2 r2 s2]]) rfl (by kernel_rfl) (by kernel_rfl) (by kernel_rfl) (fun _ _ _ h=>h) (Or.inl ⟨by rfl,fun w9 hSw=>?_⟩) hS2 ?_
           ·(try dsimp only at hSw);go_simp
           simp only [Act.put,List.setIfInBounds_toArray,List.set_cons_zero,List.set_cons_succ]
           refine wpAnyH_take (i:=8) (oi:={ dst:=some 35,op:=Op.extract (Operand.tmp 27) 0,type:=32,pos:="ref.go:208",after:=#[{ on:=7,ground:=Ground.data }],guard:=none }) (v:=.agg #[.bool p,.slice q9 r s]) rfl (by kernel_rfl) (by kernel_rfl) (by kernel_rfl) (fun _ _ _ h=>h) (Or.inl ⟨by rfl,fun w9 hSw=>?_⟩) hS2 ?_
           ·(try dsimp only at hSw);go_simp
           simp only [Act.put,List.setIfInBounds_toArray,List.set_cons_zero,List.set_cons_succ]
           refine wpAnyH_take (i:=9) (oi:={ dst:=some 36,op:=Op.extract (Operand.tmp 27) 1,type:=32,pos:="ref.go:208",after:=#[{ on:=7,ground:=Ground.data },{ on:=12,ground:=Ground.gcOnly Departure.lateStores }],guard:=none }) (v:=.agg #[.bool p2,.slice q2 r2 s2]) rfl (by kernel_rfl) (by kernel_rfl) (by kernel_rfl) (fun _ _ _ h=>h) (Or.inl ⟨by rfl,fun w9 hSw=>?_⟩) hS2 ?_
           ·(try dsimp only at hSw);go_simp
           simp only [Act.put,List.setIfInBounds_toArray,List.set_cons_zero,List.set_cons_succ]
           exact ih _ _ _ _ _ _ _ _ _ _ _ _ _ _ (by simp [aS] at hf ⊢;omega) (J.call3 hb ⟨rfl,rfl,⟨p,q9,r,s,rfl,hz⟩,⟨p2,q2,r2,s2,rfl,hz2⟩⟩)
          refine AllReadyH.cons rfl (fun K hK=>?_) ?_
          ·go_simp
           refine hK.out _ _ (KS.out _ (J.up.alloc J.up.size _)) (fun _=>?_)
           simp only [List.setIfInBounds_toArray,List.set_cons_zero,List.set_cons_succ]
           exact ih _ _ _ _ _ _ _ _ _ _ _ _ _ _ (by simp [aS] at hf ⊢;omega) J.make1
          exact AllReadyH.nil
        ·skip
         cases k2
         ·skip
          refine wpAnyH_ready (rs:=[6,11]) (by kernel_rfl) (by simp) ?_
          refine AllReadyH.cons rfl (fun K hK=>?_) ?_
          ·go_simp
           refine (IN3.out W x2 J.up (J.q2 rfl).zn).mono ?_
           rintro e' W2 ⟨⟨p,q9,r,s,p2,q2,r2,s2,rfl,hz,hz2⟩,hb⟩
           refine hK.out _ _ (KS.out _ (J.up.trans (hb.mono J.up.size))) (fun hS2=>?_)
           simp only [List.setIfInBounds_toArray,List.set_cons_zero,List.set_cons_succ]
           refine wpAnyH_take (i:=7) (oi:={ dst:=some 27,op:=Op.move (Operand.tmp 34),type:=54,pos:="ref.go:208",after:=#[{ on:=6,ground:=Ground.data }],guard:=none }) (v:=.tuple #[.agg #[.bool p,.slice q9 r s],.agg #[.bool p2,.slice q2 r2 s2]]) rfl (by kernel_rfl) (by kernel_rfl) (by kernel_rfl) (fun _ _ _ h=>h) (Or.inl ⟨by rfl,fun w9 hSw=>?_⟩) hS2 ?_
           ·(try dsimp only at hSw);go_simp
           simp only [Act.put,List.setIfInBounds_toArray,List.set_cons_zero,List.set_cons_succ]
           refine wpAnyH_take (i:=8) (oi:={ dst:=some 35,op:=Op.extract (Operand.tmp 27) 0,type:=32,pos:="ref.go:208",after:=#[{ on:=7,ground:=Ground.data }],guard:=none }) (v:=.agg #[.bool p,.slice q9 r s]) rfl (by kernel_rfl) (by kernel_rfl) (by kernel_rfl) (fun _ _ _ h=>h) (Or.inl ⟨by rfl,fun w9 hSw=>?_⟩) hS2 ?_
           ·(try dsimp only at hSw);go_simp
           simp only [Act.put,List.setIfInBounds_toArray,List.set_cons_zero,List.set_cons_succ]
           refine wpAnyH_take (i:=9) (oi:={ dst:=some 36,op:=Op.extract (Operand.tmp 27) 1,type:=32,pos:="ref.go:208",after:=#[{ on:=7,ground:=Ground.data },{ on:=12,ground:=Ground.gcOnly Departure.lateStores }],guard:=none }) (v:=.agg #[.bool p2,.slice q2 r2 s2]) rfl (by kernel_rfl) (by kernel_rfl) (by kernel_rfl) (fun _ _ _ h=>h) (Or.inl ⟨by rfl,fun w9 hSw=>?_⟩) hS2 ?_
           ·(try dsimp only at hSw);go_simp
           simp only [Act.put,List.setIfInBounds_toArray,List.set_cons_zero,List.set_cons_succ]
           exact ih _ _ _ _ _ _ _ _ _ _ _ _ _ _ (by simp [aS] at hf ⊢;omega) (J.call3 hb ⟨rfl,rfl,⟨p,q9,r,s,rfl,hz⟩,⟨p2,q2,r2,s2,rfl,hz2⟩⟩)
          refine AllReadyH.cons rfl (fun K hK=>?_) ?_
          ·go_simp
           refine hK.out _ _ (KS.out _ (J.up.alloc J.up.size _)) (fun _=>?_)
           simp only [List.setIfInBounds_toArray,List.set_cons_zero,List.set_cons_succ]
           exact ih _ _ _ _ _ _ _ _ _ _ _ _ _ _ (by simp [aS] at hf ⊢;omega) J.make2
          exact AllReadyH.nil
         ·skip
          refine wpAnyH_ready (rs:=[6]) (by kernel_rfl) (by simp) ?_
          refine AllReadyH.cons rfl (fun K hK=>?_) ?_
          ·go_simp
           refine (IN3.out W x2 J.up (J.q2 rfl).zn).mono ?_
           rintro e' W2 ⟨⟨p,q9,r,s,p2,q2,r2,s2,rfl,hz,hz2⟩,hb⟩
           refine hK.out _ _ (KS.out _ (J.up.trans (hb.mono J.up.size))) (fun hS2=>?_)
           simp only [List.setIfInBounds_toArray,List.set_cons_zero,List.set_cons_succ]
           refine wpAnyH_take (i:=7) (oi:={ dst:=some 27,op:=Op.move (Operand.tmp 34),type:=54,pos:="ref.go:208",after:=#[{ on:=6,ground:=Ground.data }],guard:=none }) (v:=.tuple #[.agg #[.bool p,.slice q9 r s],.agg #[.bool p2,.slice q2 r2 s2]]) rfl (by kernel_rfl) (by kernel_rfl) (by kernel_rfl) (fun _ _ _ h=>h) (Or.inl ⟨by rfl,fun w9 hSw=>?_⟩) hS2 ?_
           ·(try dsimp only at hSw);go_simp
           simp only [Act.put,List.setIfInBounds_toArray,List.set_cons_zero,List.set_cons_succ]
           refine wpAnyH_take (i:=8) (oi:={ dst:=some 35,op:=Op.extract (Operand.tmp 27) 0,type:=32,pos:="ref.go:208",after:=#[{ on:=7,ground:=Ground.data }],guard:=none }) (v:=.agg #[.bool p,.slice q9 r s]) rfl (by kernel_rfl) (by kernel_rfl) (by kernel_rfl) (fun _ _ _ h=>h) (Or.inl ⟨by rfl,fun w9 hSw=>?_⟩) hS2 ?_
           ·(try dsimp only at hSw);go_simp
           simp only [Act.put,List.setIfInBounds_toArray,List.set_cons_zero,List.set_cons_succ]
           refine wpAnyH_take (i:=9) (oi:={ dst:=some 36,op:=Op.extract (Operand.tmp 27) 1,type:=32,pos:="ref.go:208",after:=#[{ on:=7,ground:=Ground.data },{ on:=12,ground:=Ground.gcOnly Departure.lateStores }],guard:=none }) (v:=.agg #[.bool p2,.slice q2 r2 s2]) rfl (by kernel_rfl) (by kernel_rfl) (by kernel_rfl) (fun _ _ _ h=>h) (Or.inl ⟨by rfl,fun w9 hSw=>?_⟩) hS2 ?_
           ·(try dsimp only at hSw);go_simp
           simp only [Act.put,List.setIfInBounds_toArray,List.set_cons_zero,List.set_cons_succ]
           exact ih _ _ _ _ _ _ _ _ _ _ _ _ _ _ (by simp [aS] at hf ⊢;omega) (J.call3 hb ⟨rfl,rfl,⟨p,q9,r,s,rfl,hz⟩,⟨p2,q2,r2,s2,rfl,hz2⟩⟩)
          exact AllReadyH.nil
       ·skip
        cases k1
        ·skip
         cases k2
         ·skip
          refine wpAnyH_ready (rs:=[10,11]) (by kernel_rfl) (by simp) ?_
          refine AllReadyH.cons rfl (fun K hK=>?_) ?_
          ·go_simp
           refine hK.out _ _ (KS.out _ (J.up.alloc J.up.size _)) (fun _=>?_)
           simp only [List.setIfInBounds_toArray,List.set_cons_zero,List.set_cons_succ]
           exact ih _ _ _ _ _ _ _ _ _ _ _ _ _ _ (by simp [aS] at hf ⊢;omega) J.make1
          refine AllReadyH.cons rfl (fun K hK=>?_) ?_
          ·go_simp
           refine hK.out _ _ (KS.out _ (J.up.alloc J.up.size _)) (fun _=>?_)
           simp only [List.setIfInBounds_toArray,List.set_cons_zero,List.set_cons_succ]
           exact ih _ _ _ _ _ _ _ _ _ _ _ _ _ _ (by simp [aS] at hf ⊢;omega) J.make2
          exact AllReadyH.nil
         ·skip
          refine wpAnyH_ready (rs:=[10]) (by kernel_rfl) (by simp) ?_
          refine AllReadyH.cons rfl (fun K hK=>?_) ?_
          ·go_simp
           refine hK.out _ _ (KS.out _ (J.up.alloc J.up.size _)) (fun _=>?_)
           simp only [List.setIfInBounds_toArray,List.set_cons_zero,List.set_cons_succ]
           exact ih _ _ _ _ _ _ _ _ _ _ _ _ _ _ (by simp [aS] at hf ⊢;omega) J.make1
          exact AllReadyH.nil
        ·skip
         cases k2
         ·skip
          refine wpAnyH_ready (rs:=[11]) (by kernel_rfl) (by simp) ?_
          refine AllReadyH.cons rfl (fun K hK=>?_) ?_
          ·go_simp
           refine hK.out _ _ (KS.out _ (J.up.alloc J.up.size _)) (fun _=>?_)
           simp only [List.setIfInBounds_toArray,List.set_cons_zero,List.set_cons_succ]
           exact ih _ _ _ _ _ _ _ _ _ _ _ _ _ _ (by simp [aS] at hf ⊢;omega) J.make2
          exact AllReadyH.nil
         ·skip
          exact absurd hf (by simp [aS])
   case rest=>
    rename World=>u9
    obtain⟨⟨gy,by',ay,ny,ky,rfl,ly,ey,zy⟩,hb⟩:=hcut
    have ux:=ae hb EX.out
    have ug:=ae hb EG.out
    have zx:=ZX.out.below hb
    have zg:=ZG.out.below hb
    have HPP:=ac (aA HP.out hb)
    have r2:=ae HPP.out HR.out.1
    have r3:=ae HPP.out HR.out.2.1
    have r4:=ae HPP.out HR.out.2.2
    have hl:=bh HR.out.2.2
    have hxs:=HLX.out
    have hts:=HT5.out
    have hys:w0.heap.size≤gy:=Nat.le_trans HP.out.size ly
    obtain⟨q0,q1⟩:=duo ug
    obtain⟨q2,q3⟩:=duo ux
    obtain⟨q4,q5⟩:=duo ey
    have f1:=av r2
    have f2:=av r3
    have f3:=av r4
    obtain⟨e0,e1⟩:=duo r2
    obtain⟨e2,e3⟩:=duo r3
    obtain⟨e4,e5⟩:=duo r4
    have dn1:w.heap.size+1+1≠t5.heap.size:=by omega
    have dn2:w.heap.size+1+1≠gx:=by omega
    have dn3:w.heap.size+1+1≠gy:=by omega
    have dn4:w.heap.size+1+1+1≠t5.heap.size:=by omega
    have dn5:w.heap.size+1+1+1≠gx:=by omega
    have dn6:w.heap.size+1+1+1≠gy:=by omega
    have dn7:w.heap.size+1+1+1+1≠t5.heap.size:=by omega
    have dn8:w.heap.size+1+1+1+1≠gx:=by omega
    have dn9:w.heap.size+1+1+1+1≠gy:=by omega
    have hdr:Below u9.heap.size u9 u9.drew:=(Below.refl _ _).drew
    have hq:=g9 (p0:=b5) (u1:=.slice a5 n5 k5) (p2:=bx) (u3:=.slice ax nx kx) (p4:=by') (u5:=.slice ay ny ky) (ae hdr r2) (ae hdr r3) (ae hdr r4)
    have HE:=ac (And.intro (hq.2.2.2.1 _ _ (zg.below hdr)) (And.intro (hq.2.2.2.1 _ _ (zx.below hdr)) (And.intro (hq.2.2.2.1 _ _ (zy.below hdr)) (And.intro (hq.2.2.2.2 w.heap.size w (by omega) (aA (aA HB0.out HPP.out) hdr)) (And.intro hq.1 (And.intro hq.2.1 hq.2.2.1))))))
    clear hq hdr r2 r3 r4 hl hxs hts hys ux ug zx zg zy ey hb ly
    go_wp2
    go_region
    all_goals
     go_wp2
     rw [dH,dH,dH,dH,dH,dH]
     generalize (((((u9.drew.setCell ⟨w.heap.size+1+1,0,none⟩ (.bool b5)).setCell ⟨w.heap.size+1+1,1,none⟩ (.slice a5 n5 k5)).setCell ⟨w.heap.size+1+1+1,0,none⟩ (.bool bx)).setCell ⟨w.heap.size+1+1+1,1,none⟩ (.slice ax nx kx)).setCell ⟨w.heap.size+1+1+1+1,0,none⟩ (.bool by')).setCell ⟨w.heap.size+1+1+1+1,1,none⟩ (.slice ay ny ky)=w12 at *
     have HW:=HE
     obtain⟨p0,p1⟩:=duo HW.out.2.2.2.2.1
     obtain⟨p2,p3⟩:=duo HW.out.2.2.2.2.2.1
     obtain⟨p4,p5⟩:=duo HW.out.2.2.2.2.2.2
     have HNF:=ac (show cq (zz ba A) (zz bb B) g (x:Int) F by rw [HFY.out];exact HNM.out)
     refine bodyPost_ret (v:=.tuple #[.agg #[.bool b5,.slice a5 n5 k5],.agg #[.bool bx,.slice ax nx kx],.agg #[.bool by',.slice ay ny ky]]) (by simp [results,Tryz.results8,go_sem,p0,p1,p2,p3,p4,p5]) rfl ?_
     exact⟨⟨g,(x:Int),F,_,_,_,_,_,_,_,_,_,_,_,_,rfl,HW.out.1,HW.out.2.1,HW.out.2.2.1,HNF.out⟩,HW.out.2.2.2.1⟩
end Go.Proofs.YtdbjbbdhlpfhjaaGreatDoor
namespace Go.Proofs.YtdbjbbdhlpfhjaaGreatDoor
open Go.RowKit
open Lm

structure J22 (u:World)(Q1:World→Value→Prop)(Q2:World→Value→Prop)(c1 c2 k1 k2:Bool)(x1 x2 y1 y2:Value)(W:World):Prop where
 up:Below u.heap.size u W
 m1:∀(W W':World) (x:Value),Below W.heap.size W W'→Q1 W x→Q1 W' x
 m2:∀(W W':World) (x:Value),Below W.heap.size W W'→Q2 W x→Q2 W' x
 h2:c2=true→c1=true
 q1:c1=true→Q1 W x1
 q2:c2=true→Q2 W x2
 r1:k1=true→∃g,y1=.pointer (some ⟨g,0,none⟩)∧u.heap.size≤g∧W.heap[g]?=some (.cells #[.bool false,.slice none 0 0] 32)
 r2:k2=true→∃g,y2=.pointer (some ⟨g,0,none⟩)∧u.heap.size≤g∧W.heap[g]?=some (.cells #[.bool false,.slice none 0 0] 32)
 d12:k1=true→k2=true→y1≠y2

theorem J22.below {u:World}{Q1:World→Value→Prop}{Q2:World→Value→Prop}{c1 c2 k1 k2:Bool}{x1 x2 y1 y2:Value}{W W':World}(h:J22 u Q1 Q2 c1 c2 k1 k2 x1 x2 y1 y2 W)(hb:Below W.heap.size W W'):J22 u Q1 Q2 c1 c2 k1 k2 x1 x2 y1 y2 W':=
 ⟨h.up.trans (hb.mono h.up.size),h.m1,h.m2,h.h2,fun e=>h.m1 _ _ _ hb (h.q1 e),fun e=>h.m2 _ _ _ hb (h.q2 e),fun e=>fg hb (h.r1 e),fun e=>fg hb (h.r2 e),h.d12⟩

theorem J22.call1 {u:World}{Q1:World→Value→Prop}{Q2:World→Value→Prop}{c1 c2 k1 k2:Bool}{x1 x2 y1 y2:Value}{v:Value}{W W':World}(h:J22 u Q1 Q2 c1 c2 k1 k2 x1 x2 y1 y2 W)(hb:Below W.heap.size W W')(hv:Q1 W' v):J22 u Q1 Q2 true c2 k1 k2 v x2 y1 y2 W':=
 have j:=h.below hb
 ⟨j.up,j.m1,j.m2,fun _=>rfl,fun _=>hv,j.q2,j.r1,j.r2,j.d12⟩

theorem J22.call2 {u:World}{Q1:World→Value→Prop}{Q2:World→Value→Prop}{c2 k1 k2:Bool}{x1 x2 y1 y2:Value}{v:Value}{W W':World}(h:J22 u Q1 Q2 true c2 k1 k2 x1 x2 y1 y2 W)(hb:Below W.heap.size W W')(hv:Q2 W' v):J22 u Q1 Q2 true true k1 k2 x1 v y1 y2 W':=
 have j:=h.below hb
 ⟨j.up,j.m1,j.m2,fun _=>rfl,j.q1,fun _=>hv,j.r1,j.r2,j.d12⟩

theorem J22.make1 {u:World}{Q1:World→Value→Prop}{Q2:World→Value→Prop}{c1 c2 k1 k2:Bool}{x1 x2 y1 y2:Value}{W:World}(h:J22 u Q1 Q2 c1 c2 k1 k2 x1 x2 y1 y2 W) :
  J22 u Q1 Q2 c1 c2 true k2 x1 x2 (.pointer (some ⟨W.heap.size,0,none⟩)) y2 (W.alloc (.cells #[.bool false,.slice none 0 0] 32)):=
 have j:=h.below (cn W (.cells #[.bool false,.slice none 0 0] 32))
 ⟨j.up,j.m1,j.m2,j.h2,j.q1,j.q2,fun _=>⟨_,rfl,h.up.size,heap_alloc_new _ _⟩,j.r2,fun _ e=>(fv (h.r2 e)).symm⟩

theorem J22.make2 {u:World}{Q1:World→Value→Prop}{Q2:World→Value→Prop}{c1 c2 k1 k2:Bool}{x1 x2 y1 y2:Value}{W:World}(h:J22 u Q1 Q2 c1 c2 k1 k2 x1 x2 y1 y2 W) :
  J22 u Q1 Q2 c1 c2 k1 true x1 x2 y1 (.pointer (some ⟨W.heap.size,0,none⟩)) (W.alloc (.cells #[.bool false,.slice none 0 0] 32)):=
 have j:=h.below (cn W (.cells #[.bool false,.slice none 0 0] 32))
 ⟨j.up,j.m1,j.m2,j.h2,j.q1,j.q2,j.r1,fun _=>⟨_,rfl,h.up.size,heap_alloc_new _ _⟩,fun e _=>fv (h.r1 e)⟩

theorem J22.start {u:World}{Q1:World→Value→Prop}{Q2:World→Value→Prop}(m1:∀(W W':World) (x:Value),Below W.heap.size W W'→Q1 W x→Q1 W' x)(m2:∀(W W':World) (x:Value),Below W.heap.size W W'→Q2 W x→Q2 W' x)(x1 x2 y1 y2:Value){W:World}(h:Below u.heap.size u W):J22 u Q1 Q2 false false false false x1 x2 y1 y2 W:=
 ⟨h,m1,m2,nofun,nofun,nofun,nofun,nofun,nofun⟩

def bf (c1 c2 k1 k2:Bool):Nat:=(!c1).toNat+(!c2).toNat+(!k1).toNat+(!k2).toNat

theorem mj (c1 c2 k1 k2:Bool)(h:0=bf c1 c2 k1 k2):c1=true∧c2=true∧k1=true∧k2=true:=by
 unfold bf at h
 cases c1 <;> cases c2 <;> cases k1 <;> cases k2 <;> simp at h ⊢

theorem qg {P:Program}{md:Region.Mode}{ops:Array Oper}{Q:Exit→Act→World→Prop}{S:World→Prop}(u:World)(Q1:World→Value→Prop)(Q2:World→Value→Prop)(m1:∀(W W':World) (x:Value),Below W.heap.size W W'→Q1 W x→Q1 W' x)(m2:∀(W W':World) (x:Value),Below W.heap.size W W'→Q2 W x→Q2 W' x)(s1 s2 t1 t2 base:Nat)(LST:Bool→Bool→Bool→Bool→Array Bool){W:World}{n:Nat}{listed:Array Bool}{a:Act}(hn:n=4+base)(hl:listed=LST false false false false)(ha:a=((((a.put (some s1) undef).put (some s2) undef).put (some t1) undef).put (some t2) undef))(hu:Below u.heap.size u W)
  (h:∀(n:Nat) (c1 c2 k1 k2:Bool) (x1 x2 y1 y2:Value) (W:World),n=bf c1 c2 k1 k2→J22 u Q1 Q2 c1 c2 k1 k2 x1 x2 y1 y2 W→wpAnyH P md ops Q S (n+base) (LST c1 c2 k1 k2) ((((a.put (some s1) x1).put (some s2) x2).put (some t1) y1).put (some t2) y2) W) :
  wpAnyH P md ops Q S n listed a W:=by
 subst hn hl
 rw [ha]
 exact h 4 _ _ _ _ _ _ _ _ W rfl (J22.start m1 m2 _ _ _ _ hu)

structure J20 (u:World)(Q1:World→Value→Prop)(Q2:World→Value→Prop)(c1 c2:Bool)(x1 x2:Value)(W:World):Prop where
 up:Below u.heap.size u W
 m1:∀(W W':World) (x:Value),Below W.heap.size W W'→Q1 W x→Q1 W' x
 m2:∀(W W':World) (x:Value),Below W.heap.size W W'→Q2 W x→Q2 W' x
 h2:c2=true→c1=true
 q1:c1=true→Q1 W x1
 q2:c2=true→Q2 W x2

theorem J20.below {u:World}{Q1:World→Value→Prop}{Q2:World→Value→Prop}{c1 c2:Bool}{x1 x2:Value}{W W':World}(h:J20 u Q1 Q2 c1 c2 x1 x2 W)(hb:Below W.heap.size W W'):J20 u Q1 Q2 c1 c2 x1 x2 W':=
 ⟨h.up.trans (hb.mono h.up.size),h.m1,h.m2,h.h2,fun e=>h.m1 _ _ _ hb (h.q1 e),fun e=>h.m2 _ _ _ hb (h.q2 e)⟩

theorem J20.call1 {u:World}{Q1:World→Value→Prop}{Q2:World→Value→Prop}{c1 c2:Bool}{x1 x2:Value}{v:Value}{W W':World}(h:J20 u Q1 Q2 c1 c2 x1 x2 W)(hb:Below W.heap.size W W')(hv:Q1 W' v):J20 u Q1 Q2 true c2 v x2 W':=
 have j:=h.below hb
 ⟨j.up,j.m1,j.m2,fun _=>rfl,fun _=>hv,j.q2⟩

theorem J20.call2 {u:World}{Q1:World→Value→Prop}{Q2:World→Value→Prop}{c2:Bool}{x1 x2:Value}{v:Value}{W W':World}(h:J20 u Q1 Q2 true c2 x1 x2 W)(hb:Below W.heap.size W W')(hv:Q2 W' v):J20 u Q1 Q2 true true x1 v W':=
 have j:=h.below hb
 ⟨j.up,j.m1,j.m2,fun _=>rfl,j.q1,fun _=>hv⟩

theorem J20.start {u:World}{Q1:World→Value→Prop}{Q2:World→Value→Prop}(m1:∀(W W':World) (x:Value),Below W.heap.size W W'→Q1 W x→Q1 W' x)(m2:∀(W W':World) (x:Value),Below W.heap.size W W'→Q2 W x→Q2 W' x)(x1 x2:Value){W:World}(h:Below u.heap.size u W):J20 u Q1 Q2 false false x1 x2 W:=
 ⟨h,m1,m2,nofun,nofun,nofun⟩

def dB (c1 c2:Bool):Nat:=(!c1).toNat+(!c2).toNat

theorem o8 (c1 c2:Bool)(h:0=dB c1 c2):c1=true∧c2=true:=by
 unfold dB at h
 cases c1 <;> cases c2 <;> simp at h ⊢

theorem q8 {P:Program}{md:Region.Mode}{ops:Array Oper}{Q:Exit→Act→World→Prop}{S:World→Prop}(u:World)(Q1:World→Value→Prop)(Q2:World→Value→Prop)(m1:∀(W W':World) (x:Value),Below W.heap.size W W'→Q1 W x→Q1 W' x)(m2:∀(W W':World) (x:Value),Below W.heap.size W W'→Q2 W x→Q2 W' x)(s1 s2 base:Nat)(LST:Bool→Bool→Array Bool){W:World}{n:Nat}{listed:Array Bool}{a:Act}(hn:n=2+base)(hl:listed=LST false false)(ha:a=((a.put (some s1) undef).put (some s2) undef))(hu:Below u.heap.size u W)
  (h:∀(n:Nat) (c1 c2:Bool) (x1 x2:Value) (W:World),n=dB c1 c2→J20 u Q1 Q2 c1 c2 x1 x2 W→wpAnyH P md ops Q S (n+base) (LST c1 c2) ((a.put (some s1) x1).put (some s2) x2) W) :
  wpAnyH P md ops Q S n listed a W:=by
 subst hn hl
 rw [ha]
 exact h 2 _ _ _ _ W rfl (J20.start m1 m2 _ _ hu)
end Go.Proofs.YtdbjbbdhlpfhjaaGreatDoor
namespace Go.Proofs.YtdbjbbdhlpfhjaaGreatDoor
open Go.RowKit
open Lm
attribute [local go_sem ↓] Go.wp_at_zero Go.wp_at_succ

theorem iX (c:Int)(v:Value)(z:Int)(w:World)(hz:Zn w v z)(hc0:c≠0) :
  Calls Tryz.prog 11 #[.agg #[.bool false,.slice none 0 0],.int .i64 c,v,.int .i64 c] w fun e w'=>e=.returned (.bool true)∧Below w.heap.size w w':=by
 obtain⟨b9,a9,n9,k9,rfl,hb9,hn9,hz9⟩:=hz.parts
 obtain⟨w0,hw0,hb0,h0,h1⟩:=bD w (.cells #[.bool false,.slice none 0 0] 27) (.cells #[.bool b9,.slice a9 n9 k9] 32)
 obtain⟨k0,k1⟩:=duo h0
 obtain⟨k2,k3⟩:=duo h1
 have HN:=gG c w0
 have HB0:=ac hb0
 have hne:(c == 0)=false:=by simpa using hc0
 have hne2:(c != 0)=true:=by simpa using hc0
 have hcc:(c == c)=true:=by simp
 clear hz hn9 hz9 hb0 h0 h1 hb9
 go_enter Tryz.func11,Tryz.ntmps11
 go_wp2_with fail
 refine HN.mono ?_
 rintro e wn ⟨rfl,hw⟩;rw [hw];clear hw wn HN
 go_wp2
 go_ret
 exact⟨rfl,HB0.out⟩

structure BK (base:Nat)(w w':World):Prop where
 below:Below base w w'
 box:∀(g:Nat) (cs:Array Value) (t:TypeId),t≠61→t≠22→w.heap[g]?=some (.cells cs t)→w'.heap[g]?=some (.cells cs t)

theorem BK.refl (base:Nat)(w:World):BK base w w:=⟨Below.refl _ _,fun _ _ _ _ _ h=>h⟩

theorem BK.store {base:Nat}{w wr:World}{g n cap:Nat}{zs:List Nat}(h:BK base w wr)(ha:Ans wr base (.slice (some ⟨g,0,none⟩) n cap) zs)(j:Nat)(u:Value):BK base w (wr.setCell ⟨g,j,none⟩ u):=by
 obtain⟨_,h2⟩:=ha.own
 rcases h2 with ⟨e,_⟩|⟨g',cap',cur,e,hge,hh,_⟩
 ·cases e
 ·simp only [Value.slice.injEq,Option.some.injEq,Addr.mk.injEq] at e
  obtain⟨⟨rfl,_⟩,_⟩:=e
  refine⟨h.below.setCell (p:=⟨g,j,none⟩) hge u,fun g2 cs t ht ht2 hc=>?_⟩
  have h1:=h.box g2 cs t ht ht2 hc
  rw [Below.heap_setCell _ _ _ _ ?_]
  ·exact h1
  ·rintro rfl
   rw [hh] at h1
   simp only [Option.some.injEq,Obj.cells.injEq] at h1
   exact ht h1.2.1.symm

theorem BK.grew {base:Nat}{w wr w2:World}{v:Value}{zs:List Nat}{L:Nat}{vs:Array Value}{o:Obj}(h:BK base w wr)(hrow:Ans wr base v zs)(hL:wr.heap[L]?=some (.cells vs 22 (0,0)))(hb:base≤L)(hg:(wr.alloc o).grownBy w2 v.ownBlock)(k:Nat)(u:Value) :
  BK base w (w2.setCell ⟨L,k,none⟩ u):=by
 have hLs:=lt_of_block hL
 refine⟨((h.below.alloc (by omega) _).grown hg (by simp;omega) (fun g hg=>(hrow.own.lt g hg).1)).setCell hb _,fun g2 cs t ht ht2 hc=>?_⟩
 have h1:=h.box g2 cs t ht ht2 hc
 have h1s:=lt_of_block h1
 have hsz:(wr.alloc o).heap.size=wr.heap.size+1:=by simp
 rw [Below.heap_setCell _ _ _ _ ?_]
 ·have e1:(wr.alloc o).heap[g2]?=wr.heap[g2]?:=Below.heap_alloc wr o g2 h1s
  rw [hg.block g2 (by omega) ?_,e1]
  ·exact h1
  ·intro e
   obtain⟨_,h2⟩:=hrow.own
   rcases h2 with ⟨rfl,_⟩|⟨g',cap',cur,rfl,hge,hh,_⟩
   ·simp [Value.ownBlock] at e
   ·simp [Value.ownBlock] at e
    subst e
    rw [hh] at h1
    simp only [Option.some.injEq,Obj.cells.injEq] at h1
    exact ht h1.2.1.symm
 ·rintro rfl
  rw [hL] at h1
  simp only [Option.some.injEq,Obj.cells.injEq] at h1
  exact ht2 h1.2.1.symm

theorem pt (L base:Nat)(vs:List Value)(rows:Nat→List Nat)(w:World)(h:St w base L vs rows)(hn:vs.length≤1000)(hl:∀i,i<vs.length→(rows i).length≤17592186044000)(hb:base≤L) :
  Calls Tryz.prog 16 #[.slice (some ⟨L,0,none⟩) vs.length vs.length] w fun e w'=>e=.returned (.bool true)∧BK base w w':=by
 go_enter Tryz.func16,Tryz.ntmps16
 go_wp2
 go_loopw [15] (fun i wr=>∃k:Nat,k≤vs.length∧i=.int .i64 k∧St wr base L vs (ct rows k)∧BK base w wr) (fun i _=>vs.length - (intOf i).toNat)
 case atStart=>exact⟨0,Nat.zero_le _,rfl,h.congr (fun i _=>by simp [ct]),BK.refl _ _⟩
 case round=>
  obtain⟨k,hk,rfl,hst,hbl⟩:=hrel
  by_cases hkl:k<vs.length
  ·have hck:=hst.cell k hkl
   have hrow:=hst.row k hkl
   have hrk:ct rows k k=rows k:=by simp [ct]
   rw [hrk] at hrow
   have hlk:=hl k hkl
   have ec:(k:Int) % 251+1=((k % 251+1:Nat):Int):=by omega
   have bc:k % 251+1<18446744073709551616:=by omega
   have HRK:=ac hrk
   have HOV:Hid (over rows k=List.replicate (rows k).length (k % 251+1)):=rfl
   have HST:=ac hst
   have HBL:=ac hbl
   generalize k % 251+1=c at *
   clear hst hbl hrk h
   rcases hrow.form with ⟨hv,hz⟩|⟨g,cap,hv,hg1,hg2,hcap,hmax,_,_⟩
   ·rw [hv] at hck
    have HZ:=ac hz
    clear hrow hv hz
    go_wp2
    refine wp_loop_rounds 1 ?_
    rw [rounds_succ]
    go_wp2
    go_roundw
    case rel=>
     refine⟨k+1,by omega,by go_num,HST.out.congr (fun m _=>?_),HBL.out⟩
     by_cases e:m=k
     ·subst e
      rw [HRK.out]
      simp [ct,over,HZ.out]
     ·exact kU rows k m e
    case measure=>simp [intOf];omega
   ·rw [hv] at hck
    go_wp2
    go_loopw [22] (fun i wr=>∃j:Nat,j≤(rows k).length∧i=.int .i64 j∧St wr base L vs (upd (ct rows k) k (List.replicate j c ++ (rows k).drop j))∧BK base w wr) (fun i _=>(rows k).length - (intOf i).toNat)
    case atStart=>
     refine⟨0,Nat.zero_le _,rfl,HST.out.congr (fun m _=>?_),HBL.out⟩
     by_cases e:m=k
     ·subst e;rw [HRK.out,cM];simp
     ·rw [de _ _ _ _ e]
    case round=>
     obtain⟨j,hj,rfl,hst,hbl⟩:=hrel
     clear HST HBL
     by_cases hjl:j<(rows k).length
     ·have hr2:=hst.row k hkl
      rw [cM] at hr2
      have hfl:=o7 (rows k) j c hj
      rcases hr2.form with ⟨hv2,_⟩|⟨g',cap',hv2,hg1',hg2',_,_,hfr',hcl'⟩
      ·rw [hv2] at hv;cases hv
      ·have hgg:g'=g:=by rw [hv2] at hv;simp only [Value.slice.injEq,Option.some.injEq,Addr.mk.injEq] at hv;exact hv.1.1
       subst hgg
       have hfr:=hfr' j
       have hco:=hcl' j (by omega)
       have hst2:=hst.store k g' cap' hkl (by rw [cM];exact hv2) j c bc
       rw [cM,qh (rows k) j c hjl] at hst2
       have HS:=ac hst2
       have HL:=ac (hbl.store (hv2 ▸ hr2) j (.int .u64 (c:Int)))
       generalize (List.replicate j c ++ (rows k).drop j).getD j 0=o at *
       clear hst hbl hst2 hr2 hv2 hfr' hcl' hrow hv hck hfl
       go_wp2
       go_roundw
       case rel=>
        refine⟨j+1,by omega,by go_num,HS.out.congr (fun m _=>?_),HL.out⟩
        by_cases e:m=k
        ·subst e;rw [cM,cM]
        ·rw [de _ _ _ _ e,de _ _ _ _ e,de _ _ _ _ e]
       case measure=>simp [intOf];omega
     ·have ej:j=(rows k).length:=by omega
      subst ej
      have HS:=ac hst
      have HL:=ac hbl
      clear hst hbl hrow hv hck
      go_wp2
      go_roundw
      case rel=>
       refine⟨k+1,by omega,by go_num,HS.out.congr (fun m _=>?_),HL.out⟩
       by_cases e:m=k
       ·subst e
        rw [cM]
        have:ct rows (m+1) m=over rows m:=by simp [ct]
        rw [this,HOV.out];simp
       ·rw [de _ _ _ _ e];exact kU rows k m e
      case measure=>simp [intOf];omega
  ·have ek:k=vs.length:=by omega
   subst ek
   have hst3:St wr base L vs (over rows):=hst.congr (fun m hm=>by simp [ct,hm])
   have HST:=ac hst3
   have HBL:=ac hbl
   clear hst hbl hst3 h
   obtain⟨i0,hi,hz0,hz1,hz2⟩:=info_parts Tryz.infoU
   go_wp2
   go_loopw [36] (fun i wr=>∃(k:Nat) (us:List Value),k≤vs.length∧us.length=vs.length∧i=.int .i64 k∧St wr base L us (fun m=>if m<k then over rows m ++ bU (300+5*m) else over rows m)∧BK base w wr) (fun i _=>vs.length - (intOf i).toNat)
   case atStart=>exact⟨0,vs,Nat.zero_le _,rfl,rfl,HST.out.congr (fun m _=>by simp),HBL.out⟩
   case round=>
    obtain⟨k,us,hk',hus,rfl,hst,hbl⟩:=hrel
    clear HST HBL
    by_cases hkl':k<vs.length
    ·have hku:k<us.length:=by omega
     have hck:=hst.cell k hku
     have hrow:=hst.row k hku
     simp only [Nat.lt_irrefl,if_false] at hrow
     have hfr:=hst.free k
     have hlen:(over rows k).length≤17592186044000:=by unfold over;rw [List.length_replicate];exact hl k hkl'
     have eb:(300:Int)+5*(k:Int)=((300+5*k:Nat):Int):=by omega
     have HST:=ac hst
     have HBL:=ac hbl
     have HV:=ac (rfl:us.getD k aU=us.getD k aU)
     have HB5:Hid (300+5*k<6000):=by unfold Hid;omega
     obtain⟨bb,hbb⟩:∃bb,bb=300+5*k:=⟨_,rfl⟩
     rw [←hbb] at eb
     have hb6:bb<6000:=by omega
     have HBB:=ac hbb
     generalize hv:us.getD k aU=v at *
     have HVV:=ac hv
     obtain⟨b1,h1⟩:∃b1,b1=bb+1:=⟨_,rfl⟩
     obtain⟨b2,h2⟩:∃b2,b2=bb+2:=⟨_,rfl⟩
     obtain⟨b3,h3⟩:∃b3,b3=bb+3:=⟨_,rfl⟩
     obtain⟨b4,h4⟩:∃b4,b4=bb+4:=⟨_,rfl⟩
     have g1:(bb:Int)+1=(b1:Int):=by omega
     have g2:(bb:Int)+2=(b2:Int):=by omega
     have g3:(bb:Int)+3=(b3:Int):=by omega
     have g4:(bb:Int)+4=(b4:Int):=by omega
     have q1:b1<18446744073709551616:=by omega
     have q2:b2<18446744073709551616:=by omega
     have q3:b3<18446744073709551616:=by omega
     have q4:b4<18446744073709551616:=by omega
     have H5:Hid ([bb,b1,b2,b3,b4]=bU (300+5*k)):=ac (by rw [h1,h2,h3,h4,hbb];rfl)
     clear hst hbl hv hbb HV h1 h2 h3 h4
     go_wp2_with (at_builtin;refine wpList_append_own_at _ rfl _ _ 22 rfl base 61 i0 (.int .u64 0) 1 8 Tryz.underlying22 hi hz0 hz1 hz2 rfl (by decide) v (over rows k).length _ rfl (hrow.own.alloc _) ⟨wr.heap.size,0,none⟩ 5 5 ([bb,b1,b2,b3,b4].map lv) rfl rfl (fW [bb,b1,b2,b3,b4]) (fd _) (by unfold maxLen;omega) (by omega) (by have:=lt_of_block HST.out.list;simp;omega) ?_;intro v' w2 hown2 hgrow2 _ hat2;have hkp:=HST.out.kept k hku HVV.out _ hgrow2;have hck2:=hkp.1;have hfr2:=hkp.2;clear hkp;obtain⟨g5,cap5,hv5⟩:=o9 hown2 (by omega);subst hv5;have HO:=ac hown2;have HG:=ac hgrow2;have HAT:=ac hat2;clear hown2 hgrow2 hat2)
     go_roundw
     case rel=>
      refine⟨k+1,us.set k _,by omega,by rw [List.length_set];exact hus,by go_num,(HST.out.grow k hku _ _ (over rows k ++ bU (300+5*k)) ?_ ?_ (by rw [HVV.out];exact HG.out) (by rw [HVV.out];exact HAT.out)).congr (fun m _=>?_),?_⟩
      ·rw [←H5.out,List.length_append,List.map_append];exact HO.out
      ·exact og rows k (by omega)
      ·by_cases e:m=k
       ·subst e;rw [cM];simp
       ·rw [de _ _ _ _ e]
        by_cases h1:m<k
        ·rw [if_pos h1,if_pos (by omega)]
        ·rw [if_neg h1,if_neg (by omega)]
      ·have hLs:=lt_of_block HST.out.list
       exact HBL.out.grew hrow HST.out.list hb HG.out k _
     case measure=>simp [intOf];omega
    ·have ek:k=vs.length:=by omega
     subst ek
     have hst4:St wr base L us (fun m=>over rows m ++ bU (300+5*m)):=hst.congr (fun m hm=>by simp [show m<vs.length by omega])
     have HST:=ac hst4
     have HBL:=ac hbl
     clear hst hbl hst4 hi hz0 hz1 hz2
     go_wp2
     go_loop [64] (fun i=>∃k:Nat,k≤vs.length∧i=.int .i64 k) (fun i=>vs.length - (intOf i).toNat)
     case atStart=>exact⟨0,Nat.zero_le _,rfl⟩
     case round=>
      obtain⟨k,hk4,rfl⟩:=hrel
      by_cases hkl4:k<vs.length
      ·have hku:k<us.length:=by omega
       have hck:=HST.out.cell k hku
       have hrow:=HST.out.row k hku
       have hlr:(over rows k ++ bU (300+5*k)).length=(rows k).length+5:=by simp [over,bU]
       rcases hrow.form with ⟨_,h0⟩|⟨g,cap,hv,_,_,hgl,hgm,_,hgc⟩
       ·rw [h0] at hlr;simp at hlr
       ·rw [hlr] at hv hgl hgc
        rw [hv] at hck
        have hzl:=hl k hkl4
        have HGC:=ac hgc
        clear hrow hgc hv hlr
        go_wp2
        go_loop [71] (fun i=>∃j:Nat,j≤(rows k).length+5∧i=.int .i64 j) (fun i=>(rows k).length+5 - (intOf i).toNat)
        case atStart=>exact⟨0,Nat.zero_le _,rfl⟩
        case round=>
         obtain⟨j,hj,rfl⟩:=hrel
         by_cases hjl:j<(rows k).length+5
         ·have hcj:=HGC.out j hjl
          by_cases hj2:j<(rows k).length
          ·rw [rN rows k j hj2] at hcj
           have ec:(k:Int) % 251+1=((k % 251+1:Nat):Int):=by omega
           have bc:k % 251+1<18446744073709551616:=by omega
           generalize k % 251+1=c at *
           have hne:((c:Int) != (c:Int))=false:=by simp
           have i1:(j:Int)<((rows k).length:Int):=by omega
           have hd2:decide (((rows k).length:Int)≤(j:Int))=false:=decide_eq_false (by omega)
           generalize (rows k).length=zl at *
           go_wp2
           go_round
           case rel=>exact⟨j+1,by omega,by go_num⟩
           case measure=>simp [intOf];omega
          ·rw [nK rows k j (by omega) hjl] at hcj
           have hd1:decide ((j:Int)<((rows k).length:Int))=false:=decide_eq_false (by omega)
           have i1:((rows k).length:Int)≤(j:Int):=by omega
           generalize (rows k).length=zl at *
           obtain⟨t,ht⟩:∃t,t=300+5*k+(j - zl):=⟨_,rfl⟩
           rw [←ht] at hcj
           have et:(300:Int)+5*(k:Int)+(j:Int) - ((zl:Int)+5)+5=(t:Int):=by omega
           have bt:t<18446744073709551616:=by omega
           have hne:((t:Int) != (t:Int))=false:=by simp
           have HT:=ac ht
           clear ht
           go_wp2
           go_round
           case rel=>exact⟨j+1,by omega,by go_num⟩
           case measure=>simp [intOf];omega
         ·go_wp2
          go_round
          case rel=>exact⟨k+1,by omega,by go_num⟩
          case measure=>simp [intOf];omega
      ·go_wp2
       go_ret
       exact⟨rfl,HBL.out⟩

structure dP (w:World)(base:Nat)(vs:List Value)(rss:List (List Nat)):Prop where
 len:vs.length=rss.length
 row:∀i,i<vs.length→Ans w base (vs.getD i aU) (rss.getD i [])
 apart:∀i j,i<vs.length→j<vs.length→i≠j→(vs.getD i aU).ownBlock=none∨(vs.getD i aU).ownBlock≠(vs.getD j aU).ownBlock

theorem dP.below {w w':World}{base:Nat}{vs:List Value}{rss:List (List Nat)}(h:dP w base vs rss)(hb:Below w.heap.size w w'):dP w' base vs rss:=⟨h.len,fun i hi=>(h.row i hi).below hb,h.apart⟩

theorem rM (base:Nat)(vs:List Value)(rss:List (List Nat))(w:World)(h:dP w base vs rss)(hn:vs.length≤1000)(hl:∀r ∈ rss,r.length≤17592186044000)(hb:base≤w.heap.size) :
  Calls Tryz.prog 16 #[.slice (some ⟨w.heap.size,0,none⟩) vs.length vs.length] (w.alloc (.cells vs.toArray 22)) fun e w'=>e=.returned (.bool true)∧BK base w w':=by
 have hst:St (w.alloc (.cells vs.toArray 22)) base w.heap.size vs (fun i=>rss.getD i []):=by
  have h':=h.below ((Below.refl _ _).alloc (Nat.le_refl _) (.cells vs.toArray 22))
  exact⟨by rw [heap_alloc_new],h'.row,h'.apart⟩
 refine (pt w.heap.size base vs (fun i=>rss.getD i []) _ hst hn ?_ hb).mono ?_
 ·intro i hi
  have hi':i<rss.length:=by rw [←h.len];exact hi
  show (rss.getD i []).length≤_
  have e:rss.getD i []=rss[i]:=by simp [List.getD,hi']
  rw [e]
  exact hl _ (List.getElem_mem _)
 ·rintro e w' ⟨rfl,hbel⟩
  refine⟨rfl,((Below.refl _ _).alloc hb _).trans hbel.below,fun g cs t ht ht2 hc=>hbel.box g cs t ht ht2 ?_⟩
  rw [Below.heap_alloc w _ g (lt_of_block hc)];exact hc

theorem l8 (b1:Bool)(v:Value)(X:List Nat)(b2:Bool)(u:Value)(Y:List Nat)(ap fu:Bool)(qz rz:Int)(w:World)(hA:Arg w v X)(hB:Arg w u Y)(hT:Tab w)(hx:X.length≤17592186043904)(hy:Y.length≤17592186043904)(hy0:0<val Y)
  (hap:(b1 != b2)=ap) (hfu:ap=fu)
  (hqz:qz=zz ap (val X / val Y+if fu && decide (0<val X % val Y) then 1 else 0)) (hrz:rz=zz (if fu && decide (0<val X % val Y) then !b1 else b1) (if fu && decide (0<val X % val Y) then val Y - val X % val Y else val X % val Y)) :
  Calls Tryz.prog 52 #[.agg #[.bool b1,v],.agg #[.bool b2,u]] w (gR w qz rz):=by
 obtain⟨a,n,rfl,_,_,_⟩:=hA.form
 obtain⟨a9,n9,rfl,_,_,_⟩:=hB.form
 obtain⟨w0,hw0,hb0,h0,h1,h2,h3⟩:=dj w (.cells #[.bool b1,.slice a X.length n] 27) (.cells #[.bool b2,.slice a9 Y.length n9] 27) (.cells #[.bool false,.slice none 0 0] 27) (.cells #[.bool false,.slice none 0 0] 27)
 obtain⟨k0,k1⟩:=duo h0
 obtain⟨k2,k3⟩:=duo h1
 have HM:=wdivide_2 b1 _ X b2 _ Y ap fu qz rz w0 (hA.below hb0) (hB.below hb0) (hT.below hb0) hx hy hy0 hap hfu hqz hrz
 have HB0:=ac hb0
 have H2:=ac h2
 have H3:=ac h3
 clear hA hB hT hb0 h0 h1 h2 h3 hqz hrz hap hfu
 go_enter Tryz.func52,Tryz.ntmps52
 go_wp2_with fail
 refine HM.mono ?_
 rintro e w1 ⟨⟨b3,a3,n3,m3,b4,a4,n4,m4,c,rfl,rs1,rs2,A1,A2,hap,hcase⟩,hb1⟩
 have HR2:=ac (ae hb1 H2.out)
 have HR3:=ac (ae hb1 H3.out)
 have HBE:=ac (HB0.out.trans (hb1.mono HB0.out.size))
 have HC:=ac (And.intro (A1.base HB0.out.size) (And.intro (A2.base HB0.out.size) (And.intro hap hcase)))
 have hf2:=av HR2.out
 have hf3:=av HR3.out
 obtain⟨m0,m1⟩:=duo HR2.out
 obtain⟨m2,m3'⟩:=duo HR3.out
 clear A1 A2 hap hcase hb1 HM hw0 k0 k1 k2 k3 H2 H3
 go_wp2
 have hq4:=bG (base:=w.heap.size) (u0:=.bool b3) (u1:=.slice a3 n3 m3) (u2:=.bool b4) (u3:=.slice a4 n4 m4) HR2.out HR3.out
 have HD:=ac (And.intro hq4.2.2 (bj HBE.out (g:=w.heap.size+2) (u0:=.bool b3) (u1:=.slice a3 n3 m3) (u2:=.bool b4) (u3:=.slice a4 n4 m4) (by omega)))
 obtain⟨R5,R6,_⟩:=hq4
 generalize (((w1.setCell ⟨w.heap.size+2,0,none⟩ (.bool b3)).setCell ⟨w.heap.size+2,1,none⟩ (.slice a3 n3 m3)).setCell ⟨w.heap.size+2+1,0,none⟩ (.bool b4)).setCell ⟨w.heap.size+2+1,1,none⟩ (.slice a4 n4 m4)=w5 at *
 obtain⟨q0,q1⟩:=duo R5
 obtain⟨q2,q3⟩:=duo R6
 refine bodyPost_ret (v:=.tuple #[.agg #[.bool b3,.slice a3 n3 m3],.agg #[.bool b4,.slice a4 n4 m4],.int .i64 c]) (by simp [results,Tryz.results52,go_sem,q0,q1,q2,q3]) rfl ?_
 exact⟨⟨_,_,_,_,_,_,_,_,_,rfl,rs1,rs2,HD.out.1 _ _ HC.out.1,HD.out.1 _ _ HC.out.2.1,HC.out.2.2⟩,HD.out.2⟩
end Go.Proofs.YtdbjbbdhlpfhjaaGreatDoor

