/- Package whole: Shift downwards. -/
import Derived.Test.YtcbpdngogkbndaaGreatDoorB12
set_option maxRecDepth 20000
set_option maxHeartbeats 4000000
namespace Go.Proofs.YtcbpdngogkbndaaGreatDoor
open Go.RowKit
open Lm
attribute [local go_sem ↓] Go.wp_at_zero Go.wp_at_succ

theorem fW {x n:Nat}(h:blen x≤n):x / 2 ^ n=0:=Nat.div_eq_of_lt ((blen_le_iff x n).1 h)

theorem jE {x y:Nat}(h:x≤y):blen x≤blen y:=(blen_le_iff x _).2 (Nat.lt_of_le_of_lt h ((blen_le_iff y _).1 (Nat.le_refl _)))

theorem fi {X:List Nat}(h:Limbs X):blen (val X)≤64*X.length:=by
 rw [blen_le_iff,bC]
 exact val_lt h

theorem kG {x t u:Nat}(h:aS x t)(k:aS x u):t=u:=by
 have h1:∀ {a b:Nat},aS x a→aS x b→¬a<b:=by
  intro a b ha hb hlt
  have h2:=cD ha
  have h3:=hb.1
  rw [h2] at h3
  have h4:=(dG (t:=a) (k:=x / 2 ^ a / 2) (i:=b)).1 h3
  omega
 have:=h1 h k
 have:=h1 k h
 omega

theorem Res.fewM {w:World}{base:Nat}{v:Value}{rs:List Nat}{s:Nat}(_:Ans w base v rs)(h2:val rs=s)(h3:tr rs=rs)(h4:blen s≤67108864):rs.length≤1048576:=by
 have:=few_limbs rs 1048576 (by rw [h2];omega)
 rw [h3] at this
 exact this

def DnR (w:World)(z:Int)(e:Ending)(w':World):Prop:=aZ w' w.heap.size e z∧Below w.heap.size w w'

theorem mb (v:Value)(X:List Nat)(n:Nat)(m:Int)(w:World)(hA:Arg w v X)(hT:Tab w)(hf:X.length≤17592186044416)(hm:m=-(n:Int))(hn0:1≤n)(hn:n≤1099511627776)(hx0:val X≠0) :
  Calls Tryz.prog 59 #[.agg #[.bool true,v],.int .i64 m] w (DnR w (-(val X:Int) / ((2 ^ n:Nat):Int))):=by
 obtain⟨a1,c1,rfl,_,_,_⟩:=hA.form
 obtain⟨w0,hw0,hb0,h0,h2⟩:=aQ w (.cells #[.bool true,.slice a1 X.length c1] 27) (.cells #[.bool false,.slice none 0 0] 27)
 obtain⟨k0,k1⟩:=duo h0
 have N:=cM true _ X w0 (hA.below hb0)
 have KL:=aa (fun (W:World) (hg:Below w0.heap.size w0 W)=>aF _ X W ((hA.below hb0).below hg))
 have KR:=aa (fun (W:World) (hg:Below w0.heap.size w0 W)=>f8 _ X n W ((hA.below hb0).below hg) (by omega) hn)
 have KT:=aa (fun (W:World) (hg:Below w0.heap.size w0 W)=>eF _ X W ((hA.below hb0).below hg) ((hT.below hb0).below hg))
 have hlx:blen (val X)≤1125899906842624:=by have:=fi hA.limbs;omega
 have H0:=aa h0
 have H2:=aa h2
 have HB0:=aa hb0
 have e1:IntKind.i64.wrap (-m)=(n:Int):=by rw [IntKind.wrap_i64];omega
 have e2:IntKind.i64.wrap (-((blen (val X):Nat):Int))=-((blen (val X):Nat):Int):=by rw [IntKind.wrap_i64];omega
 have hz:zz true (val X)<0:=by simp [zz];omega
 rw [decide_eq_true hz] at N
 obtain⟨t,ht⟩:=ff (val X) hx0
 have HTL:=aa ht
 have hsh:=iF (cD ht) n
 clear hA hT hb0 h0 h2
 by_cases hl:blen (val X)≤n
 ·have htn:t<n:=dp ht ((blen_le_iff _ _).1 hl)
  rw [if_pos htn,fW hl] at hsh
  rw [hsh]
  have i1:m≤-((blen (val X):Nat):Int):=by omega
  clear hz hsh htn ht KR KT hm
  generalize blen (val X)=l at *
  go_enter Tryz.func59,Tryz.ntmps59
  go_wp2_with fail
  refine N.mono ?_
  rintro e t1 ⟨rfl,hb1⟩
  obtain⟨l0,l1⟩:=duo (ab hb1 H0.out)
  have LL:=KL.out t1 hb1
  have HB1:=aa hb1
  clear N k0 k1 hb1
  go_wp2_with fail
  refine LL.mono ?_
  rintro e wn ⟨rfl,hw⟩;rw [hw];clear hw wn LL KL
  have O:=dE (-1) t1 (by omega) (by omega)
  go_wp2_with fail
  refine O.mono ?_
  rintro e t9 ⟨⟨b5,a5,n5,k5,rfl,hza⟩,hb9⟩
  have hr:ZR t9 t1.heap.size b5 (.slice a5 n5 k5) 0 (-((0+1:Nat):Int)):=by
   obtain⟨rs,q1,q2,q3,q4⟩:=hza
   exact⟨rs,q1,.inl ⟨rfl,q2,q3,q4,by decide⟩⟩
  have HBG:=HB1
  have HBF:=aa (ag HB1.out hb9)
  clear hza O hb9 l0 l1
  have hz3:=ab HBF.out H2.out
  have T3:=ak (a':=.bool b5) (b':=.slice a5 n5 k5) hz3
  have HE:=aa (And.intro ((hr.base (Nat.le_trans HB0.out.size HBG.out.size)).duo (u0:=.bool b5) (u1:=.slice a5 n5 k5) hz3) (ai (u0:=.bool b5) (u1:=.slice a5 n5 k5) (ag HB0.out HBF.out) (show w.heap.size≤w.heap.size+1 by omega)))
  obtain⟨p0,p1⟩:=duo T3
  have hf:=ae hz3
  obtain⟨m0,m1'⟩:=duo hz3
  clear T3 hz3 hr
  go_wp2
  clear hf m0 m1'
  generalize (t9.setCell ⟨w.heap.size+1,0,none⟩ (.bool b5)).setCell ⟨w.heap.size+1,1,none⟩ (.slice a5 n5 k5)=w9 at *
  refine bodyPost_ret (v:=.tuple #[.agg #[.bool b5,.slice a5 n5 k5],.int .i64 0]) (by simp [results,Tryz.results59,go_sem,p0,p1]) rfl ?_
  exact⟨⟨_,_,_,_,_,rfl,HE.out.1⟩,HE.out.2⟩
 ·have i1:¬m≤-((blen (val X):Nat):Int):=by omega
  have hzn:∃zn:Int,-(val X:Int) / ((2 ^ n:Nat):Int)=zn:=⟨_,rfl⟩
  obtain⟨zn,hzn⟩:=hzn
  rw [hzn] at hsh ⊢
  obtain⟨q,hq⟩:∃q,val X / 2 ^ n=q:=⟨_,rfl⟩
  rw [hq] at hsh
  have HSH:=aa hsh
  clear hz hl hzn ht hm hsh
  generalize blen (val X)=l at *
  go_enter Tryz.func59,Tryz.ntmps59
  go_wp2_with fail
  refine N.mono ?_
  rintro e t1 ⟨rfl,hb1⟩
  obtain⟨l0,l1⟩:=duo (ab hb1 H0.out)
  have LL:=KL.out t1 hb1
  have HB1:=aa hb1
  clear N k0 k1 hb1
  go_wp2_with fail
  refine LL.mono ?_
  rintro e wn ⟨rfl,hw⟩;rw [hw];clear hw wn LL KL
  have RR:=KR.out t1 HB1.out
  go_wp2_with fail
  refine RR.mono ?_
  rintro e t2 ⟨hb2,v7,c7,rs,rfl,ha,hres⟩
  rw [hq] at hres
  obtain⟨a7,n7,rfl⟩:=ha.shape
  have HB2:=aa (ag HB1.out hb2)
  obtain⟨l0',l1'⟩:=duo (ab HB2.out H0.out)
  clear RR KR l0 l1 hb2
  rcases hres with ⟨rfl,q1,q2,q3⟩|⟨rfl,q1,q2⟩
  ·have TT:=KT.out t2 HB2.out
   go_wp2_with fail
   refine TT.mono ?_
   rintro e wn ⟨⟨t',htl,rfl,_,ht'⟩,hw⟩;rw [hw];clear hw wn TT KT
   obtain rfl:t'=t:=kG (ht' hx0) HTL.out
   clear ht' htl l0' l1'
   by_cases htn:t'<n
   ·have hsh:=HSH.out
    rw [if_pos htn] at hsh
    have i2:(t':Int)<(n:Int):=by omega
    have HZN:=aa (show decide (zn<0)=true∧zn.natAbs=q+1 from ⟨decide_eq_true (by omega),by omega⟩)
    obtain⟨t3,ht3,hbt,hxt⟩:=ay t2 (.cells #[.int .u64 1] 60)
    have HB3:=aa (ag HB2.out hbt)
    have C:=dz _ _ rs [1] t3 ((ha.below hbt).arg (by have:=Res.fewM ha q1 q2 q3;omega)) (d9 hxt) (by have:=Res.fewM ha q1 q2 q3;omega) (by simp)
    rw [show val [1]=1 by simp [val],q1,←HZN.out.2] at C
    clear hbt hxt ha q1 q2 q3 hsh
    go_wp2_with fail
    refine C.mono ?_
    rintro e t4 ⟨hb4,v8,c8,rs8,rfl,ha8,hres8⟩
    obtain⟨a8,n8,rfl⟩:=ha8.shape
    have HBT:=aa (ag HB3.out hb4)
    have hans:=ba true _ rs8 c8 zn.natAbs _ t4 ha8 hres8
    rw [show zz true zn.natAbs=zn by have h:=cY zn;rw [HZN.out.1] at h;exact h] at hans
    clear C hb4 ha8 hres8
    go_wp2_with fail
    refine hans.mono ?_
    rintro e t9 ⟨⟨b5,a5,n5,k5,c5,rfl,hr⟩,hb9⟩
    have HBF:=aa (ag HBT.out hb9)
    have HBG:=HB3
    clear hans hb9
    have hz3:=ab HBF.out H2.out
    have T3:=ak (a':=.bool b5) (b':=.slice a5 n5 k5) hz3
    have HE:=aa (And.intro ((hr.base (Nat.le_trans HB0.out.size HBG.out.size)).duo (u0:=.bool b5) (u1:=.slice a5 n5 k5) hz3) (ai (u0:=.bool b5) (u1:=.slice a5 n5 k5) (ag HB0.out HBF.out) (show w.heap.size≤w.heap.size+1 by omega)))
    obtain⟨p0,p1⟩:=duo T3
    have hf:=ae hz3
    obtain⟨m0,m1'⟩:=duo hz3
    clear T3 hz3 hr
    go_wp2
    clear hf m0 m1'
    generalize (t9.setCell ⟨w.heap.size+1,0,none⟩ (.bool b5)).setCell ⟨w.heap.size+1,1,none⟩ (.slice a5 n5 k5)=w9 at *
    refine bodyPost_ret (v:=.tuple #[.agg #[.bool b5,.slice a5 n5 k5],.int .i64 c5]) (by simp [results,Tryz.results59,go_sem,p0,p1]) rfl ?_
    exact⟨⟨_,_,_,_,_,rfl,HE.out.1⟩,HE.out.2⟩
   ·have hsh:=HSH.out
    rw [if_neg htn] at hsh
    have i2:¬(t':Int)<(n:Int):=by omega
    have HZN:=aa (show zz true q=zn by rw [hsh];rfl)
    have hans:=ba true _ rs 0 q _ t2 ha (.inl ⟨rfl,q1,q2,q3⟩)
    rw [HZN.out] at hans
    clear ha q1 q2 q3 hsh
    go_wp2_with fail
    refine hans.mono ?_
    rintro e t9 ⟨⟨b5,a5,n5,k5,c5,rfl,hr⟩,hb9⟩
    have HBF:=aa (ag HB2.out hb9)
    have HBG:=HB1
    clear hans hb9
    have hz3:=ab HBF.out H2.out
    have T3:=ak (a':=.bool b5) (b':=.slice a5 n5 k5) hz3
    have HE:=aa (And.intro ((hr.base (Nat.le_trans HB0.out.size HBG.out.size)).duo (u0:=.bool b5) (u1:=.slice a5 n5 k5) hz3) (ai (u0:=.bool b5) (u1:=.slice a5 n5 k5) (ag HB0.out HBF.out) (show w.heap.size≤w.heap.size+1 by omega)))
    obtain⟨p0,p1⟩:=duo T3
    have hf:=ae hz3
    obtain⟨m0,m1'⟩:=duo hz3
    clear T3 hz3 hr
    go_wp2
    clear hf m0 m1'
    generalize (t9.setCell ⟨w.heap.size+1,0,none⟩ (.bool b5)).setCell ⟨w.heap.size+1,1,none⟩ (.slice a5 n5 k5)=w9 at *
    refine bodyPost_ret (v:=.tuple #[.agg #[.bool b5,.slice a5 n5 k5],.int .i64 c5]) (by simp [results,Tryz.results59,go_sem,p0,p1]) rfl ?_
    exact⟨⟨_,_,_,_,_,rfl,HE.out.1⟩,HE.out.2⟩
  ·have HZN:=aa (show decide (zn<0)=true∧q≤zn.natAbs by have hsh:=HSH.out;have hq0:q≠0:=(fun h=>by rw [h] at q2;exact absurd q2 (by decide));split at hsh <;> exact⟨decide_eq_true (by omega),by omega⟩)
   have hans:=ba true _ rs 3 zn.natAbs _ t2 ha (.inr ⟨rfl,q1,by have:=jE HZN.out.2;omega⟩)
   rw [show zz true zn.natAbs=zn by have h:=cY zn;rw [HZN.out.1] at h;exact h] at hans
   clear ha q1 q2
   go_wp2_with fail
   refine hans.mono ?_
   rintro e t9 ⟨⟨b5,a5,n5,k5,c5,rfl,hr⟩,hb9⟩
   have HBF:=aa (ag HB2.out hb9)
   have HBG:=HB1
   clear hans hb9
   have hz3:=ab HBF.out H2.out
   have T3:=ak (a':=.bool b5) (b':=.slice a5 n5 k5) hz3
   have HE:=aa (And.intro ((hr.base (Nat.le_trans HB0.out.size HBG.out.size)).duo (u0:=.bool b5) (u1:=.slice a5 n5 k5) hz3) (ai (u0:=.bool b5) (u1:=.slice a5 n5 k5) (ag HB0.out HBF.out) (show w.heap.size≤w.heap.size+1 by omega)))
   obtain⟨p0,p1⟩:=duo T3
   have hf:=ae hz3
   obtain⟨m0,m1'⟩:=duo hz3
   clear T3 hz3 hr
   go_wp2
   clear hf m0 m1'
   generalize (t9.setCell ⟨w.heap.size+1,0,none⟩ (.bool b5)).setCell ⟨w.heap.size+1,1,none⟩ (.slice a5 n5 k5)=w9 at *
   refine bodyPost_ret (v:=.tuple #[.agg #[.bool b5,.slice a5 n5 k5],.int .i64 c5]) (by simp [results,Tryz.results59,go_sem,p0,p1]) rfl ?_
   exact⟨⟨_,_,_,_,_,rfl,HE.out.1⟩,HE.out.2⟩

theorem f7 (b:Bool)(v:Value)(X:List Nat)(n:Nat)(m:Int)(w:World)(hA:Arg w v X)(hf:X.length≤17592186044416)(hm:m=-(n:Int))(hn0:1≤n)(hn:n≤1099511627776)(hz:zz b (val X)=(val X:Int)) :
  Calls Tryz.prog 59 #[.agg #[.bool b,v],.int .i64 m] w (DnR w ((val X:Int) / ((2 ^ n:Nat):Int))):=by
 obtain⟨a1,c1,rfl,_,_,_⟩:=hA.form
 obtain⟨w0,hw0,hb0,h0,h2⟩:=aQ w (.cells #[.bool b,.slice a1 X.length c1] 27) (.cells #[.bool false,.slice none 0 0] 27)
 obtain⟨k0,k1⟩:=duo h0
 have N:=cM b _ X w0 (hA.below hb0)
 rw [hz,decide_eq_false (by omega)] at N
 have KL:=aa (fun (W:World) (hg:Below w0.heap.size w0 W)=>aF _ X W ((hA.below hb0).below hg))
 have KR:=aa (fun (W:World) (hg:Below w0.heap.size w0 W)=>f8 _ X n W ((hA.below hb0).below hg) (by omega) hn)
 have hlx:blen (val X)≤1125899906842624:=by have:=fi hA.limbs;omega
 have H0:=aa h0
 have H2:=aa h2
 have HB0:=aa hb0
 have e1:IntKind.i64.wrap (-m)=(n:Int):=by rw [IntKind.wrap_i64];omega
 have e2:IntKind.i64.wrap (-((blen (val X):Nat):Int))=-((blen (val X):Nat):Int):=by rw [IntKind.wrap_i64];omega
 rw [←Int.natCast_ediv]
 clear hA hb0 h0 h2 hz
 by_cases hl:blen (val X)≤n
 ·rw [fW hl]
  have i1:m≤-((blen (val X):Nat):Int):=by omega
  clear KR hl hm
  generalize blen (val X)=l at *
  go_enter Tryz.func59,Tryz.ntmps59
  go_wp2_with fail
  refine N.mono ?_
  rintro e t1 ⟨rfl,hb1⟩
  obtain⟨l0,l1⟩:=duo (ab hb1 H0.out)
  have LL:=KL.out t1 hb1
  have HB1:=aa hb1
  clear N k0 k1 hb1
  go_wp2_with fail
  refine LL.mono ?_
  rintro e wn ⟨rfl,hw⟩;rw [hw];clear hw wn LL KL
  have hz3:=ab HB1.out H2.out
  have T3:=ak (a':=.bool false) (b':=.slice none 0 0) hz3
  have HE:=aa (And.intro (show ZR ((t1.setCell ⟨w.heap.size+1,0,none⟩ (.bool false)).setCell ⟨w.heap.size+1,1,none⟩ (.slice none 0 0)) w.heap.size false (.slice none 0 0) 0 ((0:Nat):Int) from ⟨[],Ans.nil _ _,.inl ⟨rfl,rfl,rfl,rfl,by decide⟩⟩) (ai (u0:=.bool false) (u1:=.slice none 0 0) (ag HB0.out HB1.out) (show w.heap.size≤w.heap.size+1 by omega)))
  obtain⟨p0,p1⟩:=duo T3
  have hf:=ae hz3
  obtain⟨m0,m1'⟩:=duo hz3
  clear T3 hz3
  go_wp2
  clear hf m0 m1'
  generalize (t1.setCell ⟨w.heap.size+1,0,none⟩ (.bool false)).setCell ⟨w.heap.size+1,1,none⟩ (.slice none 0 0)=w9 at *
  refine bodyPost_ret (v:=.tuple #[.agg #[.bool false,.slice none 0 0],.int .i64 0]) (by simp [results,Tryz.results59,go_sem,p0,p1]) rfl ?_
  exact⟨⟨_,_,_,_,_,rfl,HE.out.1⟩,HE.out.2⟩
 ·have i1:¬m≤-((blen (val X):Nat):Int):=by omega
  obtain⟨q,hq⟩:∃q,val X / 2 ^ n=q:=⟨_,rfl⟩
  rw [hq]
  clear hl hm
  generalize blen (val X)=l at *
  go_enter Tryz.func59,Tryz.ntmps59
  go_wp2_with fail
  refine N.mono ?_
  rintro e t1 ⟨rfl,hb1⟩
  obtain⟨l0,l1⟩:=duo (ab hb1 H0.out)
  have LL:=KL.out t1 hb1
  have HB1:=aa hb1
  clear N k0 k1 hb1
  go_wp2_with fail
  refine LL.mono ?_
  rintro e wn ⟨rfl,hw⟩;rw [hw];clear hw wn LL KL
  have RR:=KR.out t1 HB1.out
  go_wp2_with fail
  refine RR.mono ?_
  rintro e t2 ⟨hb2,v7,c7,rs,rfl,ha,hres⟩
  rw [hq] at hres
  obtain⟨a7,n7,rfl⟩:=ha.shape
  have HB2:=aa (ag HB1.out hb2)
  obtain⟨l0',l1'⟩:=duo (ab HB2.out H0.out)
  clear RR KR l0 l1 hb2
  have hans:=ba false _ rs c7 q _ t2 ha hres
  rw [show zz false q=(q:Int) from rfl] at hans
  clear ha l0' l1'
  rcases hres with ⟨rfl,q1,q2,q3⟩|⟨rfl,q1,q2⟩
  ·clear q1 q2 q3
   go_wp2_with fail
   refine hans.mono ?_
   rintro e t9 ⟨⟨b5,a5,n5,k5,c5,rfl,hr⟩,hb9⟩
   have HBF:=aa (ag HB2.out hb9)
   have HBG:=HB1
   clear hans hb9
   have hz3:=ab HBF.out H2.out
   have T3:=ak (a':=.bool b5) (b':=.slice a5 n5 k5) hz3
   have HE:=aa (And.intro ((hr.base (Nat.le_trans HB0.out.size HBG.out.size)).duo (u0:=.bool b5) (u1:=.slice a5 n5 k5) hz3) (ai (u0:=.bool b5) (u1:=.slice a5 n5 k5) (ag HB0.out HBF.out) (show w.heap.size≤w.heap.size+1 by omega)))
   obtain⟨p0,p1⟩:=duo T3
   have hf:=ae hz3
   obtain⟨m0,m1'⟩:=duo hz3
   clear T3 hz3 hr
   go_wp2
   clear hf m0 m1'
   generalize (t9.setCell ⟨w.heap.size+1,0,none⟩ (.bool b5)).setCell ⟨w.heap.size+1,1,none⟩ (.slice a5 n5 k5)=w9 at *
   refine bodyPost_ret (v:=.tuple #[.agg #[.bool b5,.slice a5 n5 k5],.int .i64 c5]) (by simp [results,Tryz.results59,go_sem,p0,p1]) rfl ?_
   exact⟨⟨_,_,_,_,_,rfl,HE.out.1⟩,HE.out.2⟩
  ·clear q1 q2
   go_wp2_with fail
   refine hans.mono ?_
   rintro e t9 ⟨⟨b5,a5,n5,k5,c5,rfl,hr⟩,hb9⟩
   have HBF:=aa (ag HB2.out hb9)
   have HBG:=HB1
   clear hans hb9
   have hz3:=ab HBF.out H2.out
   have T3:=ak (a':=.bool b5) (b':=.slice a5 n5 k5) hz3
   have HE:=aa (And.intro ((hr.base (Nat.le_trans HB0.out.size HBG.out.size)).duo (u0:=.bool b5) (u1:=.slice a5 n5 k5) hz3) (ai (u0:=.bool b5) (u1:=.slice a5 n5 k5) (ag HB0.out HBF.out) (show w.heap.size≤w.heap.size+1 by omega)))
   obtain⟨p0,p1⟩:=duo T3
   have hf:=ae hz3
   obtain⟨m0,m1'⟩:=duo hz3
   clear T3 hz3 hr
   go_wp2
   clear hf m0 m1'
   generalize (t9.setCell ⟨w.heap.size+1,0,none⟩ (.bool b5)).setCell ⟨w.heap.size+1,1,none⟩ (.slice a5 n5 k5)=w9 at *
   refine bodyPost_ret (v:=.tuple #[.agg #[.bool b5,.slice a5 n5 k5],.int .i64 c5]) (by simp [results,Tryz.results59,go_sem,p0,p1]) rfl ?_
   exact⟨⟨_,_,_,_,_,rfl,HE.out.1⟩,HE.out.2⟩

theorem jc (b:Bool)(v:Value)(X:List Nat)(n:Nat)(m:Int)(w:World)(hA:Arg w v X)(hT:Tab w)(hf:X.length≤17592186044416)(hm:m=-(n:Int))(hn0:1≤n)(hn:n≤1099511627776) :
  Calls Tryz.prog 59 #[.agg #[.bool b,v],.int .i64 m] w (DnR w (zz b (val X) / ((2 ^ n:Nat):Int))):=by
 by_cases h0:val X=0
 ·have h:zz b (val X)=(val X:Int):=by rw [h0];cases b <;> simp [zz]
  rw [h]
  exact f7 b v X n m w hA hf hm hn0 hn h
 ·cases b
  ·exact f7 false v X n m w hA hf hm hn0 hn rfl
  ·exact mb v X n m w hA hT hf hm hn0 hn h0

theorem kR (b:Bool)(v:Value)(X:List Nat)(n:Nat)(m:Int)(w:World)(hA:Arg w v X)(hT:Tab w)(hf:X.length≤17592186044416)(hm:m=-(n:Int))(hn:n≤1099511627776) :
  Calls Tryz.prog 29 #[.agg #[.bool b,v],.int .i64 m] w (DnR w (zz b (val X) / ((2 ^ n:Nat):Int))):=by
 rcases Nat.eq_zero_or_pos n with h|h
 ·subst h
  have C:=ln b v X 0 w hA hf (by omega)
  rw [show zz b (val X)*2 ^ 0=zz b (val X) / ((2 ^ 0:Nat):Int) by simp] at C
  rw [show m=((0:Nat):Int) by omega]
  exact C
 ·obtain⟨a1,c1,rfl,_,_,_⟩:=hA.form
  obtain⟨w0,hw0,hb0,h0,h2⟩:=aQ w (.cells #[.bool b,.slice a1 X.length c1] 27) (.cells #[.bool false,.slice none 0 0] 27)
  obtain⟨k0,k1⟩:=duo h0
  have C:=jc b _ X n m w0 (hA.below hb0) (hT.below hb0) hf hm h hn
  have H2:=aa h2
  have HB0:=aa hb0
  have i0:m<0:=by omega
  clear hA hT hb0 h0 h2 hm h
  generalize zz b (val X) / ((2 ^ n:Nat):Int)=z at *
  go_enter Tryz.func29,Tryz.ntmps29
  go_wp2_with fail
  refine C.mono ?_
  rintro e t9 ⟨⟨b5,a5,n5,k5,c5,rfl,hr⟩,hb9⟩
  have hz3:=ab hb9 H2.out
  have T3:=ak (a':=.bool b5) (b':=.slice a5 n5 k5) hz3
  have HE:=aa (And.intro ((hr.base HB0.out.size).duo (u0:=.bool b5) (u1:=.slice a5 n5 k5) hz3) (ai (u0:=.bool b5) (u1:=.slice a5 n5 k5) (ag HB0.out hb9) (show w.heap.size≤w.heap.size+1 by omega)))
  obtain⟨p0,p1⟩:=duo T3
  have hf:=ae hz3
  obtain⟨m0,m1'⟩:=duo hz3
  clear T3 hz3 hr C hb9
  go_wp2
  clear hf m0 m1'
  generalize (t9.setCell ⟨w.heap.size+1,0,none⟩ (.bool b5)).setCell ⟨w.heap.size+1,1,none⟩ (.slice a5 n5 k5)=w9 at *
  refine bodyPost_ret (v:=.tuple #[.agg #[.bool b5,.slice a5 n5 k5],.int .i64 c5]) (by simp [results,Tryz.results29,go_sem,p0,p1]) rfl ?_
  exact⟨⟨_,_,_,_,_,rfl,HE.out.1⟩,HE.out.2⟩

end Go.Proofs.YtcbpdngogkbndaaGreatDoor
