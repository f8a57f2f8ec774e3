/- Package div: rest, Both, Quo, Rest, Divides. -/
import Derived.Test.YtgnmgbbokcpppaaGreatDoorB07
import Derived.Test.YtgnmgbbokcpppaaGreatDoorB02
import Derived.Test.YtgnmgbbokcpppaaGreatDoorB01
import Derived.Test.YtgnmgbbokcpppaaGreatDoorB03
import Derived.Handy
set_option maxRecDepth 20000
set_option maxHeartbeats 1000000
namespace Go.Proofs.YtgnmgbbokcpppaaGreatDoor
open Go.RowKit
open Lm
attribute [local go_sem ↓] Go.wp_at_zero Go.wp_at_succ

def fo (w:World)(x B k:Nat)(e:Ending)(w':World):Prop:=
 (∃(vr:Value) (rs:List Nat),e=.returned vr∧Ans w' w.heap.size vr rs∧val rs=x % B∧rs.length≤k∧(B≤x→1≤rs.length))∧Below w.heap.size w w'

theorem fl (va vd:Value)(X:List Nat)(base B n:Nat)(w:World)(hA:Arg w va X)(hD:Dvs w base vd B n)(hT:Tab w)(hfew:X.length≤17592186044416) :
  Calls Tryz.prog 117 #[vd,va] w (fo w (val X) B X.length):=by
 have hD0:=hD
 obtain⟨g,nn,s,j,h,V,rfl,hg,hV,lV,hj,ht,hs,eV,eB,en,hnf⟩:=hD
 obtain⟨w0,hw0⟩:∃w0,w0=w.alloc (.cells #[.slice (some ⟨g,0,none⟩) V.length V.length,.int .i64 nn,.int .i64 s] 124):=⟨_,rfl⟩
 have hbel0:Below w.heap.size w w0:=by rw [hw0];exact (Below.refl _ _).alloc (Nat.le_refl _) _
 have hb0:w0.heap[w.heap.size]?=some (.cells #[.slice (some ⟨g,0,none⟩) V.length V.length,.int .i64 nn,.int .i64 s] 124):=by rw [hw0];exact heap_alloc_new ..
 have H1:=iG va _ X base B n w0 (hA.below hbel0) (hD0.below hbel0) (hT.below hbel0) hfew
 obtain⟨hk0,hk1,hk2⟩:=bO hb0
 have HW0:=ac hw0
 have HBL:=ac hbel0
 obtain⟨a0,cap,rfl,hcc,hcm,hl⟩:=hA.form
 rw [hw0] at hk0 hk1 hk2
 clear hA hD0 hV lV hj ht eV eB en hb0 hw0 hbel0 hl hT
 go_enter Tryz.func117,Tryz.ntmps117
 go_wp2_with fail
 rw [←HW0.out]
 refine H1.mono ?_
 rintro e w2 ⟨⟨vq,vr,qs,rs,mid,rfl,A1,hmid,hq,A2,e1,e2,l1,l2,l3⟩,hb⟩
 have HX:Hid (fo w (val X) B X.length (.returned vr) w2):=ac ⟨⟨vr,rs,rfl,A2.base (Nat.le_trans HBL.out.size hmid.1),e2,l2,l3⟩,HBL.out.trans (hb.mono HBL.out.size)⟩
 clear A1 hmid hq A2 e1 e2 l1 l2 l3 hb H1 hk0 hk1 hk2
 go_wp2
 go_ret
 exact HX.out

def p8 (w w':World)(e:Ending)(s t:Nat):Prop:=
 ∃v1 v2 c r1 r2 mid,e=.returned (.tuple #[v1,v2,.int .i64 c])∧Ans w' w.heap.size v1 r1∧(w.heap.size≤mid∧mid≤w'.heap.size)∧(∀g,v1.ownBlock=some g→g<mid)∧Ans w' mid v2 r2 ∧
  ((c=0∧val r1=s∧tr r1=r1∧val r2=t∧tr r2=r2∧blen s≤67108864∧blen t≤67108864)∨(c=3∧r1=[]∧r2=[]∧(67108864<blen s∨67108864<blen t)))

theorem nF (v:Value)(base:Nat)(xs:List Nat)(w:World)(h:Ans w base v xs)(hf:xs.length≤1125899906842624) :
  Calls Tryz.prog 142 #[v] w fun e w'=>w'=w∧∃v' c rs,e=.returned (.tuple #[v',.int .i64 c])∧Ans w base v' rs∧(∀g,v'.ownBlock=some g→v.ownBlock=some g)∧((c=0∧val rs=val xs∧tr rs=rs∧blen (val xs)≤67108864)∨(c=3∧rs=[]∧67108864<blen (val xs))):=by
 have ha:=h.arg hf
 obtain⟨ao,cap,rfl,hcap,hmax,hlies⟩:=ha.form
 have hle:=tr_length_le xs
 have H1:=aS _ cap xs w hcap hmax hlies
 have H2:=aK _ _ _ ha
 have HA:Hid (Ans w base (.slice ao (tr xs).length cap) (tr xs)):=h.trim
 have HT:Hid (tr (tr xs)=tr xs∧val (tr xs)=val xs):=⟨tr_tr xs,val_tr xs⟩
 generalize tr xs=T at *
 generalize val xs=V at *
 generalize blen V=y at *
 clear hlies h ha
 by_cases hy:y≤67108864
 ·go_enter Tryz.func142,Tryz.ntmps142
  go_wp2_with fail
  refine H2.mono ?_
  rintro e w' ⟨rfl,rfl⟩
  go_wp2_with fail
  refine H1.mono ?_
  rintro e w' ⟨rfl,rfl⟩
  go_wp2
  go_ret2
  exact⟨rfl,_,_,T,rfl,HA.out,(fun g e=>by cases ao <;> exact e),.inl ⟨rfl,HT.out.2,HT.out.1,hy⟩⟩
 ·go_enter Tryz.func142,Tryz.ntmps142
  go_wp2_with fail
  refine H2.mono ?_
  rintro e w' ⟨rfl,rfl⟩
  go_wp2
  go_ret2
  exact⟨rfl,_,_,[],rfl,Ans.nil _ _,(fun g e=>(by cases e)),.inr ⟨rfl,rfl,by omega⟩⟩

theorem qB {x y k:Nat}(hy:0<y)(h:k+blen y<blen x):k<blen (x / y):=by
 refine Nat.lt_of_not_le fun hle=>?_
 have h1:=(blen_le_iff (x / y) k).1 hle
 have h2:y<2 ^ blen y:=(blen_le_iff y _).1 (Nat.le_refl _)
 have h3:x<2 ^ (k+blen y):=by
  rw [Nat.div_lt_iff_lt_mul hy] at h1
  rw [Nat.pow_add]
  exact Nat.lt_of_lt_of_le h1 (Nat.mul_le_mul_left _ (Nat.le_of_lt h2))
 have:=(blen_le_iff x _).2 h3
 omega

theorem gW (va vb:Value)(X Y:List Nat)(w:World)(hA:Arg w va X)(hA2:Arg w vb Y)(hT:Tab w)(hf1:X.length≤17592186044416)(hf2:Y.length≤17592186044416)(hY:val Y≠0) :
  Calls Tryz.prog 121 #[va,vb] w fun e w'=>p8 w w' e (val X / val Y) (val X % val Y)∧Below w.heap.size w w':=by
 have HR:=oo va vb X Y w hA hA2
 have HDV:=dR vb Y w hA2 hT hY (by omega)
 have HA:=ac hA
 have HT:=ac hT
 obtain⟨a1,c1,rfl,_,_,_⟩:=hA.form
 obtain⟨a2,c2,rfl,_,_,_⟩:=hA2.form
 have hr:cz (val X) (val Y)=if 67108864+blen (val Y)<blen (val X) then 3 else 0:=by unfold cz;rw [if_neg hY]
 rw [hr] at HR
 have HY:=ac (show 0<val Y by omega)
 clear hA hA2 hT hr hY
 by_cases hb:67108864+blen (val Y)<blen (val X)
 ·rw [if_pos hb] at HR
  have HX:Hid (67108864<blen (val X / val Y)):=ac (qB HY.out hb)
  clear HDV hb
  go_enter Tryz.func121,Tryz.ntmps121
  go_wp2_with fail
  refine HR.mono ?_
  rintro e wn ⟨rfl,hw⟩;subst hw
  clear HR
  go_wp2
  go_returns
  exact⟨⟨_,_,_,[],[],wn.heap.size,rfl,Ans.nil _ _,⟨Nat.le_refl _,Nat.le_refl _⟩,(fun g e=>(by cases e)),Ans.nil _ _,.inr ⟨rfl,rfl,rfl,.inl HX.out⟩⟩,Below.refl _ _⟩
 ·rw [if_neg hb] at HR
  clear hb
  go_enter Tryz.func121,Tryz.ntmps121
  go_wp2_with fail
  refine HR.mono ?_
  rintro e wn ⟨rfl,hw⟩;rw [hw];clear hw wn
  go_wp2_with fail
  refine HDV.mono ?_
  rintro e w1 ⟨⟨vd,rfl,hd⟩,hb1⟩
  have H1:=iG _ vd X _ _ _ w1 (HA.out.below hb1) hd (HT.out.below hb1) hf1
  have HB1:=ac hb1
  clear hd hb1 HDV HR
  go_wp2_with fail
  refine H1.mono ?_
  rintro e w2 ⟨⟨vq,vr,qs,rs,mid,rfl,A1,hmid,hq,A2,e1,e2,l1,l2,_⟩,hb2⟩
  have HQ:=nF vq w1.heap.size qs w2 A1 (by omega)
  have HRR:=pJ vr mid rs w2 A2 (by omega)
  have HB2:=ac (HB1.out.trans (hb2.mono HB1.out.size))
  have HM:=ac (And.intro (Nat.le_trans HB1.out.size hmid.1) (And.intro hmid.2 hq))
  rw [e1] at HQ
  rw [e2] at HRR
  clear A1 A2 hmid hq e1 e2 l1 l2 hb2 H1
  go_wp2_with fail
  refine HQ.mono ?_
  rintro e w3 ⟨hw,v1,c1,r1,rfl,An1,hown,hres⟩;subst hw
  clear HQ
  rcases hres with ⟨rfl,ev1,tv1,bl1⟩|⟨rfl,rfl,bl1⟩
  ·have H1:=ac (And.intro An1 (And.intro hown (And.intro ev1 (And.intro tv1 bl1))))
   clear An1 hown ev1 tv1 bl1
   go_wp2_with fail
   refine HRR.mono ?_
   rintro e w4 ⟨hw,v2,c2,r2,rfl,An2,hres⟩;subst hw
   clear HRR
   rcases hres with ⟨rfl,ev2,tv2,bl2⟩|⟨rfl,rfl,bl2⟩
   ·have H2:=ac (And.intro An2 (And.intro ev2 (And.intro tv2 bl2)))
    clear An2 ev2 tv2 bl2
    go_wp2
    go_returns
    obtain⟨a1,a2,a3,a4,a5⟩:=H1.out
    obtain⟨b1,b2,b3,b4⟩:=H2.out
    exact⟨⟨v1,v2,_,r1,r2,mid,rfl,a1.base HB1.out.size,⟨HM.out.1,HM.out.2.1⟩,(fun g e=>HM.out.2.2 g (a2 g e)),b1,.inl ⟨rfl,a3,a4,b2,b3,a5,b4⟩⟩,HB2.out⟩
   ·have H2:=ac bl2
    clear An2 bl2
    go_wp2
    go_returns
    exact⟨⟨_,_,_,[],[],w.heap.size,rfl,Ans.nil _ _,⟨Nat.le_refl _,HB2.out.size⟩,(fun g e=>(by cases e)),Ans.nil _ _,.inr ⟨rfl,rfl,rfl,.inr H2.out⟩⟩,HB2.out⟩
  ·have H2:=ac bl1
   clear An1 hown bl1 HRR
   go_wp2
   go_returns
   exact⟨⟨_,_,_,[],[],w.heap.size,rfl,Ans.nil _ _,⟨Nat.le_refl _,HB2.out.size⟩,(fun g e=>(by cases e)),Ans.nil _ _,.inr ⟨rfl,rfl,rfl,.inl H2.out⟩⟩,HB2.out⟩



theorem bT {w:World}{h:Nat}{a b:Value}{t:TypeId}(e:w.heap[h]?=some (.cells #[a,b] t)):∀k,w.frozen? ⟨h,k,none⟩=false:=fun k=>by simp [World.frozen?,e]

theorem cf {w:World}{h:Nat}{a b a' b':Value}{t:TypeId}(e:w.heap[h]?=some (.cells #[a,b] t)):((w.setCell ⟨h,0,none⟩ a').setCell ⟨h,1,none⟩ b').heap[h]?=some (.cells #[a',b'] t):=
 aj (aj e a') b'

theorem bS {B:Nat}{w0 w:World}{g:Nat}{u0 u1:Value}(h:Below B w0 w)(hg:B≤g):Below B w0 ((w.setCell ⟨g,0,none⟩ u0).setCell ⟨g,1,none⟩ u1):=
 (h.setCell (p:=⟨g,0,none⟩) hg u0).setCell (p:=⟨g,1,none⟩) hg u1

theorem Ans.off1 {w:World}{base g o:Nat}{v u:Value}{zs:List Nat}{vs:Array Value}(h:Ans w base v zs)(hl:w.heap[g]?=some (.cells vs 25)):Ans (w.setCell ⟨g,o,none⟩ u) base v zs:=by
 have hne:v.ownBlock≠some g:=by
  obtain⟨_,h2⟩:=h.own
  rcases h2 with ⟨rfl,_⟩|⟨g',cap,cur,rfl,_,hh,_⟩
  ·simp [Value.ownBlock]
  ·intro e
   simp [Value.ownBlock] at e
   subst e
   rw [hl] at hh
   simp at hh
 exact⟨ownsRow_setCell_other h.own hne _,h.limbs⟩

theorem Ans.duo {w:World}{base g:Nat}{v u0 u1 a b:Value}{zs:List Nat}(h:Ans w base v zs)(hl:w.heap[g]?=some (.cells #[a,b] 25)):Ans ((w.setCell ⟨g,0,none⟩ u0).setCell ⟨g,1,none⟩ u1) base v zs:=
 (h.off1 hl).off1 (aj hl u0)

theorem Ans.shape {w:World}{base:Nat}{v:Value}{rs:List Nat}(h:Ans w base v rs):∃a c,v=.slice a rs.length c:=by
 rcases h.form with ⟨rfl,h⟩|⟨g,cap,rfl,_⟩
 ·exact⟨none,0,by simp_all⟩
 ·exact⟨_,_,rfl⟩

def TN (w:World)(base:Nat)(v:Value)(x:Nat):Prop:=∃rs,Ans w base v rs∧val rs=x∧tr rs=rs

theorem TN.below {w w':World}{base:Nat}{v:Value}{x:Nat}(h:TN w base v x)(hb:Below w.heap.size w w'):TN w' base v x:=by
 obtain⟨rs,h1,h2⟩:=h
 exact⟨rs,h1.below hb,h2⟩

theorem oY (va vb:Value)(X Y:List Nat)(w:World)(hA:Arg w va X)(hA2:Arg w vb Y)(hT:Tab w)(hf1:X.length≤17592186044416)(hf2:Y.length≤17592186044416)(hY:val Y≠0)(hq:blen (val X / val Y)≤67108864)(hr:blen (val X % val Y)≤67108864) :
  Calls Tryz.prog 92 #[va,vb] w fun e w'=>(∃v1 v2,e=.returned (.tuple #[v1,v2])∧TN w' w.heap.size v1 (val X / val Y)∧TN w' w.heap.size v2 (val X % val Y))∧Below w.heap.size w w':=by
 have HB:=gW va vb X Y w hA hA2 hT hf1 hf2 hY
 obtain⟨a,n,rfl,_,_,_⟩:=hA.form
 obtain⟨a',n',rfl,_,_,_⟩:=hA2.form
 clear hA hA2 hT
 go_enter Tryz.func92,Tryz.ntmps92
 go_wp2_with fail
 refine HB.mono ?_
 rintro e w1 ⟨⟨v1,v2,c,r1,r2,mid,rfl,h1,hm,_,h2,hc⟩,hb⟩
 rcases hc with ⟨rfl,e1,e2,e3,e4,_,_⟩|⟨_,_,_,hbig⟩
 ·have HE:=ac (show (TN w1 w.heap.size v1 (val X / val Y)∧TN w1 w.heap.size v2 (val X % val Y))∧Below w.heap.size w w1 from ⟨⟨⟨r1,h1,e1,e2⟩,⟨r2,h2.base hm.1,e3,e4⟩⟩,hb⟩)
  obtain⟨b1,c1,rfl⟩:=h1.shape
  obtain⟨b2,c2,rfl⟩:=h2.shape
  clear h1 hm h2 e1 e2 e3 e4 hb HB
  go_wp2
  go_ret2
  exact⟨⟨_,_,rfl,HE.out.1⟩,HE.out.2⟩
 ·omega

theorem gF (va vb:Value)(X Y:List Nat)(w:World)(hA:Arg w va X)(hA2:Arg w vb Y)(hT:Tab w)(hf1:X.length≤17592186044416)(hf2:Y.length≤17592186044416)(hY:val Y≠0)(hq:blen (val X / val Y)≤67108864)(hr:blen (val X % val Y)≤67108864) :
  Calls Tryz.prog 58 #[va,vb] w fun e w'=>(∃v1,e=.returned v1∧TN w' w.heap.size v1 (val X / val Y))∧Below w.heap.size w w':=by
 have H1:=j7 vb Y w hA2
 have HN:=dd va X w hA hf1
 have HB:=oY va vb X Y w hA hA2 hT hf1 hf2 hY hq hr
 obtain⟨a,n,rfl,_,_,_⟩:=hA.form
 obtain⟨a',n',rfl,_,_,_⟩:=hA2.form
 clear hA hA2 hT
 by_cases h1:val Y=1
 ·rw [decide_eq_true h1] at H1
  have hd:val X / val Y=val X:=by rw [h1,Nat.div_one]
  rw [hd]
  clear HB
  go_enter Tryz.func58,Tryz.ntmps58
  go_wp2_with fail
  refine H1.mono ?_
  rintro e wn ⟨rfl,hw⟩;rw [hw];clear hw wn H1
  go_wp2_with fail
  refine HN.mono ?_
  rintro e w1 ⟨⟨v,rfl,hv⟩,hb⟩
  have HE:=ac (show TN w1 w.heap.size v (val X)∧Below w.heap.size w w1 from ⟨⟨tr X,hv,val_tr X,tr_tr X⟩,hb⟩)
  obtain⟨b1,c1,rfl⟩:=hv.shape
  clear hv hb HN
  go_wp2
  go_ret
  exact⟨⟨_,rfl,HE.out.1⟩,HE.out.2⟩
 ·rw [decide_eq_false h1] at H1
  clear HN
  go_enter Tryz.func58,Tryz.ntmps58
  go_wp2_with fail
  refine H1.mono ?_
  rintro e wn ⟨rfl,hw⟩;rw [hw];clear hw wn H1
  go_wp2_with fail
  refine HB.mono ?_
  rintro e w1 ⟨⟨v1,v2,rfl,h2,h3⟩,hb⟩
  have HE:=ac (show TN w1 w.heap.size v1 (val X / val Y)∧Below w.heap.size w w1 from ⟨h2,hb⟩)
  obtain⟨r1,hr1,_⟩:=h2
  obtain⟨r2,hr2,_⟩:=h3
  obtain⟨b1,c1,rfl⟩:=hr1.shape
  obtain⟨b2,c2,rfl⟩:=hr2.shape
  clear hr1 hr2 hb HB
  go_wp2
  go_ret
  exact⟨⟨_,rfl,HE.out.1⟩,HE.out.2⟩

theorem jp (x y:Nat)(w:World)(hx:x≤1125899906842624)(hy:y≤1125899906842624) :
  Calls Tryz.prog 65 #[.int .i64 (x:Int),.int .i64 (y:Int)] w fun e w'=>e=.returned (.bool (decide (67108864<max ((x:Int) - y) ((y:Int) - x))))∧w'=w:=by
 obtain⟨d,hd⟩:∃d:Int,(x:Int) - y=d:=⟨_,rfl⟩
 obtain⟨f,hf⟩:∃f:Int,(y:Int) - x=f:=⟨_,rfl⟩
 obtain⟨m,hm⟩:∃m:Int,max d f=m:=⟨_,rfl⟩
 have w1:IntKind.i64.wrap ((x:Int) - y)=d:=by rw [←hd];rw [IntKind.wrap_i64];omega
 have w2:IntKind.i64.wrap ((y:Int) - x)=f:=by rw [←hf];rw [IntKind.wrap_i64];omega
 rw [hd,hf,hm]
 go_enter Tryz.func65,Tryz.ntmps65
 go_wp2
 go_ret
 exact⟨rfl,rfl⟩
end Go.Proofs.YtgnmgbbokcpppaaGreatDoor
namespace Go.Proofs.YtgnmgbbokcpppaaGreatDoor
namespace Lm

theorem lehmer_gcd {X Y X' Y' a b c d:Nat}(h1:X=d*X'+b*Y')(h2:Y=c*X'+a*Y')(h3:∀g,g ∣ X→g ∣ Y→g ∣ X'∧g ∣ Y'):Nat.gcd X' Y'=Nat.gcd X Y:=by
 refine Nat.dvd_antisymm (Nat.dvd_gcd ?_ ?_) ?_
 ·rw [h1];exact Nat.dvd_add (Nat.dvd_trans (Nat.gcd_dvd_left _ _) (Nat.dvd_mul_left _ _)) (Nat.dvd_trans (Nat.gcd_dvd_right _ _) (Nat.dvd_mul_left _ _))
 ·rw [h2];exact Nat.dvd_add (Nat.dvd_trans (Nat.gcd_dvd_left _ _) (Nat.dvd_mul_left _ _)) (Nat.dvd_trans (Nat.gcd_dvd_right _ _) (Nat.dvd_mul_left _ _))
 ·obtain⟨k1,k2⟩:=h3 _ (Nat.gcd_dvd_left X Y) (Nat.gcd_dvd_right X Y)
  exact Nat.dvd_gcd k1 k2

theorem dvd_of_sum {g p q r:Nat}(h:p+q=r)(hq:g ∣ q)(hr:g ∣ r):g ∣ p:=by
 have:p=r - q:=by omega
 rw [this];exact Nat.dvd_sub hr hq

structure LTake (X Y X' Y':Nat):Prop where
 lt:Y'<X'
 le:X'≤Y
 gcd:Nat.gcd X' Y'=Nat.gcd X Y

theorem lehmer_even {X Y P xh yh xl yl x y a b c d:Nat}(det:a*d=b*c+1)(hx:xh=d*x+b*y)(hy:yh=c*x+a*y)(eX:X=xh*P+xl)(eY:Y=yh*P+yl)(lx:xl<P)(ly:yl<P)
  (h1:d≤y) (h2:y+(b+d)≤x) (hcd:c≤d) (hc:1≤c) :
  ∃X' Y',X'+b*Y=a*X∧Y'+c*X=d*Y∧LTake X Y X' Y':=by
 have e1:a*xh=b*yh+x:=by rw [hx,hy];grind
 have e2:d*yh=c*xh+y:=by rw [hx,hy];grind
 have b1:b*yl≤b*P:=Nat.mul_le_mul_left _ (Nat.le_of_lt ly)
 have b2:c*xl≤c*P:=Nat.mul_le_mul_left _ (Nat.le_of_lt lx)
 have b3:(b+d)*yl<(b+d)*P:=Nat.mul_lt_mul_of_pos_left ly (by omega)
 have b4:(y+(b+d))*P≤x*P:=Nat.mul_le_mul_right _ h2
 have b5:c*P≤y*P:=Nat.mul_le_mul_right _ (by omega)
 rw [Nat.add_mul,Nat.add_mul b d P] at b4
 rw [Nat.add_mul,Nat.add_mul b d P] at b3
 obtain⟨X',eX'⟩:∃X',X'+b*yl=x*P+a*xl:=⟨x*P+a*xl - b*yl,by omega⟩
 obtain⟨Y',eY'⟩:∃Y',Y'+c*xl=y*P+d*yl:=⟨y*P+d*yl - c*xl,by omega⟩
 have f1:X'+b*Y=a*X:=by
  rw [eX,eY,Nat.mul_add,Nat.mul_add,←Nat.mul_assoc,←Nat.mul_assoc,e1,Nat.add_mul];omega
 have f2:Y'+c*X=d*Y:=by
  rw [eX,eY,Nat.mul_add,Nat.mul_add,←Nat.mul_assoc,←Nat.mul_assoc,e2,Nat.add_mul];omega
 have g1:X=d*X'+b*Y':=by
  have k1:d*(X'+b*Y)=d*(a*X):=by rw [f1]
  have k2:b*(Y'+c*X)=b*(d*Y):=by rw [f2]
  have k3:a*d*X=(b*c+1)*X:=by rw [det]
  grind
 have g2:Y=c*X'+a*Y':=by
  have k1:c*(X'+b*Y)=c*(a*X):=by rw [f1]
  have k2:a*(Y'+c*X)=a*(d*Y):=by rw [f2]
  have k3:a*d*Y=(b*c+1)*Y:=by rw [det]
  grind
 refine⟨X',Y',f1,f2,?_,?_,lehmer_gcd g1 g2 fun g k1 k2=>⟨dvd_of_sum f1 (Nat.dvd_mul_left_of_dvd k2 _) (Nat.dvd_mul_left_of_dvd k1 _),dvd_of_sum f2 (Nat.dvd_mul_left_of_dvd k1 _) (Nat.dvd_mul_left_of_dvd k2 _)⟩⟩
 ·omega
 ·rw [g2]
  have:=Nat.le_mul_of_pos_left X' (show 0<c by omega)
  omega

theorem lehmer_odd {X Y P xh yh xl yl x y a b c d:Nat}(det:b*c=a*d+1)(hx:xh=d*x+b*y)(hy:yh=c*x+a*y)(eX:X=xh*P+xl)(eY:Y=yh*P+yl)(lx:xl<P)(ly:yl<P)
  (h1:d≤y) (h2:y+(b+d)≤x) (hab:a≤b) (hcd:c≤d) (hc:1≤c) :
  ∃X' Y',X'+a*X=b*Y∧Y'+d*Y=c*X∧LTake X Y X' Y':=by
 have e1:b*yh=a*xh+x:=by rw [hx,hy];grind
 have e2:c*xh=d*yh+y:=by rw [hx,hy];grind
 have b1:a*xl≤a*P:=Nat.mul_le_mul_left _ (Nat.le_of_lt lx)
 have b2:d*yl≤d*P:=Nat.mul_le_mul_left _ (Nat.le_of_lt ly)
 have b3:(a+c)*xl<(a+c)*P:=Nat.mul_lt_mul_of_pos_left lx (by omega)
 have b4:(y+(a+c))*P≤x*P:=Nat.mul_le_mul_right _ (by omega)
 have b5:d*P≤y*P:=Nat.mul_le_mul_right _ (by omega)
 rw [Nat.add_mul,Nat.add_mul a c P] at b4
 rw [Nat.add_mul,Nat.add_mul a c P] at b3
 obtain⟨X',eX'⟩:∃X',X'+a*xl=x*P+b*yl:=⟨x*P+b*yl - a*xl,by omega⟩
 obtain⟨Y',eY'⟩:∃Y',Y'+d*yl=y*P+c*xl:=⟨y*P+c*xl - d*yl,by omega⟩
 have f1:X'+a*X=b*Y:=by
  rw [eX,eY,Nat.mul_add,Nat.mul_add,←Nat.mul_assoc,←Nat.mul_assoc,e1,Nat.add_mul];omega
 have f2:Y'+d*Y=c*X:=by
  rw [eX,eY,Nat.mul_add,Nat.mul_add,←Nat.mul_assoc,←Nat.mul_assoc,e2,Nat.add_mul];omega
 have g1:X=d*X'+b*Y':=by
  have k1:d*(X'+a*X)=d*(b*Y):=by rw [f1]
  have k2:b*(Y'+d*Y)=b*(c*X):=by rw [f2]
  have k3:b*c*X=(a*d+1)*X:=by rw [det]
  grind
 have g2:Y=c*X'+a*Y':=by
  have k1:c*(X'+a*X)=c*(b*Y):=by rw [f1]
  have k2:a*(Y'+d*Y)=a*(c*X):=by rw [f2]
  have k3:b*c*Y=(a*d+1)*Y:=by rw [det]
  grind
 refine⟨X',Y',f1,f2,?_,?_,lehmer_gcd g1 g2 fun g k1 k2=>⟨dvd_of_sum f1 (Nat.dvd_mul_left_of_dvd k1 _) (Nat.dvd_mul_left_of_dvd k2 _),dvd_of_sum f2 (Nat.dvd_mul_left_of_dvd k2 _) (Nat.dvd_mul_left_of_dvd k1 _)⟩⟩
 ·omega
 ·rw [g2]
  have:=Nat.le_mul_of_pos_left X' (show 0<c by omega)
  omega

structure LSteps (xh yh x y a b c d:Nat)(odd:Bool):Prop where
 hx:xh=d*x+b*y
 hy:yh=c*x+a*y
 even:odd=false→a*d=b*c+1
 odd:odd=true→b*c=a*d+1

theorem LSteps.start (x y:Nat):LSteps x y x y 1 0 0 1 false:=⟨by simp,by simp,by simp,by simp⟩

theorem LSteps.next {xh yh x y a b c d:Nat}{o:Bool}(h:LSteps xh yh x y a b c d o)(_hy:0<y):LSteps xh yh y (x % y) c d (a+x / y*c) (b+x / y*d) (!o):=by
 have e:=Nat.div_add_mod x y
 have h1:=h.hx
 have h2:=h.hy
 generalize x / y=q at *
 generalize x % y=r at *
 subst e
 refine⟨by rw [h1];grind,by rw [h2];grind,?_,?_⟩
 ·intro ho
  have:=h.odd (by cases o <;> simp_all)
  grind
 ·intro ho
  have:=h.even (by cases o <;> simp_all)
  grind

theorem LSteps.d_le {xh yh x y a b c d:Nat}{o:Bool}(h:LSteps xh yh x y a b c d o)(hx:0<x):d≤xh:=by
 have h1:=h.hx
 have:=Nat.le_mul_of_pos_right d hx
 omega

theorem LSteps.sum_le {xh yh x y a b c d:Nat}{o:Bool}(h:LSteps xh yh x y a b c d o)(hx:0<x)(hy:0<y):b+d≤xh:=by
 have h1:=h.hx
 have:=Nat.le_mul_of_pos_right d hx
 have:=Nat.le_mul_of_pos_right b hy
 omega

theorem LSteps.half {xh yh x y a b c d:Nat}{o:Bool}(h:LSteps xh yh x y a b c d o)(hx:d≤x)(hl:xh<18446744073709551616):d<4294967296:=by
 have h1:=h.hx
 have h2:=Nat.mul_le_mul_left d hx
 refine Nat.lt_of_not_le fun hle=>?_
 have h3:=Nat.mul_le_mul hle hle
 omega

end Lm
end Go.Proofs.YtgnmgbbokcpppaaGreatDoor
namespace Go.Proofs.YtgnmgbbokcpppaaGreatDoor
open Go.RowKit
open Lm
attribute [local go_sem ↓] Go.wp_at_zero Go.wp_at_succ

def kK (p q:Nat)(c:Int)(w:World)(e:Ending)(w':World):Prop:=
 ∃(l:Nat) (t:Int),e=.returned (.tuple #[.int .u64 (l:Int),.int .i64 t])∧l<18446744073709551616∧(l:Int)+18446744073709551616*t=(p:Int) - q+c∧-4294967296≤t∧t≤4294967296∧w'=w

theorem pI (p q l1 h1 l2 h2 l3 br b2 h3 cu cs l4 m h4 b3:Nat)(c:Int)(hp:p≤79228162495817593515539431425)(hq:q≤79228162495817593515539431425)(hc1:-4294967296≤c)(hc2:c≤4294967296)
  (e1:p=h1*18446744073709551616+l1) (e2:q=h2*18446744073709551616+l2) (_:l1<18446744073709551616) (_:l2<18446744073709551616)
  (e3:l3+l2=l1+br*18446744073709551616) (e4:h3+h2+br=h1+b2*18446744073709551616) (e5:l4+m*18446744073709551616=l3+cu) (e6:h4+b3*18446744073709551616=h3+cs+m)
  (hl4:l4<18446744073709551616) (hh4:h4<18446744073709551616) (hc:(cu=c∧cs=0)∨((cu:Int)=c+18446744073709551616∧cs=18446744073709551615∧c<0)) :
  (l4:Int)+18446744073709551616*wrap64 (h4:Int)=(p:Int) - q+c∧-4294967296≤wrap64 (h4:Int)∧wrap64 (h4:Int)≤4294967296:=by
 have key:∃t:Int,(l4:Int)+18446744073709551616*t=(p:Int) - q+c∧((h4:Int)=t∨(h4:Int)=t+18446744073709551616):=by
  have h0:∃s:Int,(l4:Int)+18446744073709551616*((h4:Int)+18446744073709551616*s)=(p:Int) - q+c:=by
   rcases hc with ⟨k1,k2⟩|⟨k1,k2,_⟩
   ·exact⟨(b3:Int) - b2,by omega⟩
   ·exact⟨(b3:Int) - b2 - 1,by omega⟩
  obtain⟨s,hs⟩:=h0
  refine⟨(h4:Int)+18446744073709551616*s,hs,?_⟩
  have:s=0∨s=-1:=by omega
  rcases this with rfl|rfl <;> omega
 obtain⟨t,h1,h2⟩:=key
 have ht1:-4294967296≤t:=by omega
 have ht2:t≤4294967296:=by omega
 have ew:wrap64 (h4:Int)=t:=by
  unfold wrap64
  omega
 rw [ew]
 exact⟨h1,ht1,ht2⟩

theorem o8 (c:Int)(hc1:-4294967296≤c)(hc2:c≤4294967296) :
  ∃cu cs:Nat,IntKind.u64.wrap c=(cu:Int)∧IntKind.u64.wrap (c / 9223372036854775808)=(cs:Int)∧((cu=c∧cs=0)∨((cu:Int)=c+18446744073709551616∧cs=18446744073709551615∧c<0)):=by
 rw [IntKind.wrap_u64,IntKind.wrap_u64]
 by_cases h0:0≤c
 ·exact⟨c.toNat,0,by omega,by omega,.inl (by omega)⟩
 ·exact⟨(c+18446744073709551616).toNat,18446744073709551615,by omega,by omega,.inr (by omega)⟩

theorem d9 (a v b u:Nat)(c:Int)(w:World)(ha:a<4294967296)(hv:v<18446744073709551616)(hb:b<4294967296)(hu:u<18446744073709551616)(hc1:-4294967296≤c)(hc2:c≤4294967296) :
  Calls Tryz.prog 140 #[.int .u64 a,.int .u64 v,.int .u64 b,.int .u64 u,.int .i64 c] w (kK (a*v) (b*u) c w):=by
 have hM1:=Tryz.bits_Mul64 a v (by omega) hv w
 have hM2:=Tryz.bits_Mul64 b u (by omega) hu w
 have hPl:a*v≤79228162495817593515539431425:=Nat.mul_le_mul (Nat.le_sub_one_of_lt ha) (Nat.le_sub_one_of_lt hv)
 have hQl:b*u≤79228162495817593515539431425:=Nat.mul_le_mul (Nat.le_sub_one_of_lt hb) (Nat.le_sub_one_of_lt hu)
 obtain⟨P,hP⟩:∃P,a*v=P:=⟨_,rfl⟩
 obtain⟨Q,hQ⟩:∃Q,b*u=Q:=⟨_,rfl⟩
 rw [hP] at hM1 hPl ⊢
 rw [hQ] at hM2 hQl ⊢
 clear hP hQ
 obtain⟨h1,eh1⟩:∃h1,P / 18446744073709551616=h1:=⟨_,rfl⟩
 obtain⟨l1,el1⟩:∃l1,P % 18446744073709551616=l1:=⟨_,rfl⟩
 obtain⟨h2,eh2⟩:∃h2,Q / 18446744073709551616=h2:=⟨_,rfl⟩
 obtain⟨l2,el2⟩:∃l2,Q % 18446744073709551616=l2:=⟨_,rfl⟩
 rw [eh1,el1] at hM1
 rw [eh2,el2] at hM2
 have p1:P=h1*18446744073709551616+l1∧l1<18446744073709551616∧h1<18446744073709551616:=by omega
 have p2:Q=h2*18446744073709551616+l2∧l2<18446744073709551616∧h2<18446744073709551616:=by omega
 clear eh1 el1 eh2 el2
 obtain⟨cu,cs,ecu,ecs,hcc⟩:=o8 c hc1 hc2
 have s1:=dL l1 l2
 obtain⟨q1,q2,q3⟩:=ce l1 l2 0 p1.2.1 p2.2.1 (by omega)
 rw [Nat.sub_zero] at q1 q3
 generalize (l1+18446744073709551616 - l2) % 18446744073709551616=l3 at *
 generalize bor l1 l2 0=br at *
 have s2:=cG h1 h2 br q2
 obtain⟨r1,r2,r3⟩:=ce h1 h2 br p1.2.2 p2.2.2 q2
 generalize (h1+18446744073709551616 - h2 - br) % 18446744073709551616=h3 at *
 generalize bor h1 h2 br=b2 at *
 have a1:=bK l3 cu
 have t1:(l3+cu) % 18446744073709551616+(l3+cu) / 18446744073709551616*18446744073709551616=l3+cu∧(l3+cu) % 18446744073709551616<18446744073709551616∧(l3+cu) / 18446744073709551616≤1:=by omega
 generalize (l3+cu) % 18446744073709551616=l4 at *
 generalize (l3+cu) / 18446744073709551616=m at *
 have a2:=cZ h3 cs m t1.2.2
 have t2:(h3+cs+m) % 18446744073709551616+(h3+cs+m) / 18446744073709551616*18446744073709551616=h3+cs+m∧(h3+cs+m) % 18446744073709551616<18446744073709551616:=by omega
 generalize (h3+cs+m) % 18446744073709551616=h4 at *
 generalize (h3+cs+m) / 18446744073709551616=b3 at *
 have HF:=ac (pI P Q l1 h1 l2 h2 l3 br b2 h3 cu cs l4 m h4 b3 c hPl hQl hc1 hc2 p1.1 p2.1 p1.2.1 p2.2.1 (by omega) (by omega) t1.1 t2.1 t1.2.1 t2.2 hcc)
 have HL:=ac t1.2.1
 clear p1 p2 hcc q1 q2 q3 r1 r2 r3 t1 t2 hPl hQl
 go_enter Tryz.func140,Tryz.ntmps140
 go_wp2_with fail
 refine hM1.mono ?_
 rintro e w2 ⟨rfl,rfl⟩
 go_wp2_with fail
 refine hM2.mono ?_
 rintro e w2 ⟨rfl,rfl⟩
 clear hM1 hM2
 go_wp2
 go_ret2
 exact⟨l4,_,rfl,HL.out,HF.out.1,HF.out.2.1,HF.out.2.2,rfl⟩

def stv (a b c d:Nat)(o:Bool):Value:=.agg #[.int .u64 a,.int .u64 b,.int .u64 c,.int .u64 d,.bool o]

theorem aR {w:World}{h:Nat}{a b c d f:Value}{t:TypeId}(e:w.heap[h]?=some (.cells #[a,b,c,d,f] t)):w.cell? ⟨h,0,none⟩=some a∧w.cell? ⟨h,1,none⟩=some b∧w.cell? ⟨h,2,none⟩=some c∧w.cell? ⟨h,3,none⟩=some d∧w.cell? ⟨h,4,none⟩=some f:=
 ⟨by simp [World.cell?,e],by simp [World.cell?,e],by simp [World.cell?,e],by simp [World.cell?,e],by simp [World.cell?,e]⟩

theorem jb (a b c d:Nat)(o:Bool)(w:World):Calls Tryz.prog 115 #[stv a b c d o] w fun e w'=>e=.returned (.bool (decide (b=0)))∧Below w.heap.size w w':=by
 unfold stv
 have hb:Below w.heap.size w (w.alloc (.cells #[.int .u64 a,.int .u64 b,.int .u64 c,.int .u64 d,.bool o] 119)):=(Below.refl _ _).alloc (Nat.le_refl _) _
 obtain⟨_,hc,_,_,_⟩:=aR (show (w.alloc (.cells #[.int .u64 a,.int .u64 b,.int .u64 c,.int .u64 d,.bool o] 119)).heap[w.heap.size]?=_ from heap_alloc_new ..)
 have hdec:((b:Int) == 0)=decide (b=0):=by by_cases h:b=0 <;> simp [h]
 have HB:=ac hb
 clear hb
 go_enter Tryz.func115,Tryz.ntmps115
 go_wp2
 go_ret
 exact⟨rfl,HB.out⟩

theorem kZ (a b c d q:Nat)(o:Bool)(w:World)(h1:a+q*c<18446744073709551616)(h2:b+q*d<18446744073709551616) :
  Calls Tryz.prog 135 #[stv a b c d o,.int .u64 q] w fun e w'=>e=.returned (stv c d (a+q*c) (b+q*d) (!o))∧Below w.heap.size w w':=by
 unfold stv
 have hb:Below w.heap.size w (w.alloc (.cells #[.int .u64 a,.int .u64 b,.int .u64 c,.int .u64 d,.bool o] 119)):=(Below.refl _ _).alloc (Nat.le_refl _) _
 obtain⟨c0,c1,c2,c3,c4⟩:=aR (show (w.alloc (.cells #[.int .u64 a,.int .u64 b,.int .u64 c,.int .u64 d,.bool o] 119)).heap[w.heap.size]?=_ from heap_alloc_new ..)
 obtain⟨p,hp,ep⟩:∃p:Nat,q*c=p∧(q:Int)*(c:Int)=(p:Int):=⟨q*c,rfl,by rw [Int.natCast_mul]⟩
 obtain⟨r,hr,er⟩:∃r:Nat,q*d=r∧(q:Int)*(d:Int)=(r:Int):=⟨q*d,rfl,by rw [Int.natCast_mul]⟩
 rw [hp] at h1 ⊢
 rw [hr] at h2 ⊢
 have wp:IntKind.u64.wrap (p:Int)=(p:Int):=by rw [IntKind.wrap_u64];omega
 have wr:IntKind.u64.wrap (r:Int)=(r:Int):=by rw [IntKind.wrap_u64];omega
 have ap:(a:Int)+(p:Int)=((a+p:Nat):Int):=by omega
 have ar:(b:Int)+(r:Int)=((b+r:Nat):Int):=by omega
 clear hp hr
 generalize a+p=ap' at *
 generalize b+r=ar' at *
 have HB:=ac (hb.alloc hb.size (.cells #[.int .u64 c,.int .u64 d,.int .u64 ap',.int .u64 ar',.bool (!o)] 119))
 clear hb
 go_enter Tryz.func135,Tryz.ntmps135
 go_wp2
 go_returns
 exact⟨rfl,HB.out⟩
end Go.Proofs.YtgnmgbbokcpppaaGreatDoor

