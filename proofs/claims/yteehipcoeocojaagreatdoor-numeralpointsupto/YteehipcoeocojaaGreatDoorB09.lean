/- Package div: rest, Both, Quo, Rest, Divides. -/
import Derived.Test.YteehipcoeocojaaGreatDoorB08
import Derived.Test.YteehipcoeocojaaGreatDoorB01
import Derived.Deep.RegionHeld3
import Derived.Deep.DrawnRows
import Derived.Test.YteehipcoeocojaaGreatDoorB03
import Derived.Test.YteehipcoeocojaaGreatDoorB02
import Derived.Test.YteehipcoeocojaaGreatDoorB04
import Derived.BigQuiet
import Derived.Laws.Bits128
import Derived.Handy
set_option maxRecDepth 20000
set_option maxHeartbeats 4000000
namespace Go.Proofs.YteehipcoeocojaaGreatDoor
open Go.RowKit
open Lm
attribute [local go_sem ↓] Go.wp_at_zero Go.wp_at_succ

def lh (w w':World)(e:Ending)(s t:Nat):Prop:=
 ∃v1 v2 c r1 r2 mid,e=.returned (.tuple #[v1,v2,.int .i64 c])∧Ans w' w.heap.size v1 r1∧(w.heap.size≤mid∧mid≤w'.heap.size)∧(∀g,v1.ownBlock=some g→g<mid)∧Ans w' mid v2 r2 ∧
  ((c=0∧val r1=s∧tr r1=r1∧val r2=t∧tr r2=r2∧blen s≤67108864∧blen t≤67108864)∨(c=3∧r1=[]∧r2=[]∧(67108864<blen s∨67108864<blen t)))

theorem iU (v:Value)(base:Nat)(xs:List Nat)(w:World)(h:Ans w base v xs)(hf:xs.length≤1125899906842624) :
  Calls Tryz.prog 126 #[v] w fun e w'=>w'=w∧∃v' c rs,e=.returned (.tuple #[v',.int .i64 c])∧Ans w base v' rs∧(∀g,v'.ownBlock=some g→v.ownBlock=some g)∧((c=0∧val rs=val xs∧tr rs=rs∧blen (val xs)≤67108864)∨(c=3∧rs=[]∧67108864<blen (val xs))):=by
 have ha:=h.arg hf
 obtain⟨ao,cap,rfl,hcap,hmax,hlies⟩:=ha.form
 have hle:=tr_length_le xs
 have H1:=bg _ cap xs w hcap hmax hlies
 have H2:=az _ _ _ ha
 have HA:Hid (Ans w base (.slice ao (tr xs).length cap) (tr xs)):=h.trim
 have HT:Hid (tr (tr xs)=tr xs∧val (tr xs)=val xs):=⟨tr_tr xs,val_tr xs⟩
 generalize tr xs=T at *
 generalize val xs=V at *
 generalize blen V=y at *
 clear hlies h ha
 by_cases hy:y≤67108864
 ·go_enter Tryz.func126,Tryz.ntmps126
  go_wp2_with fail
  refine H2.mono ?_
  rintro e w' ⟨rfl,rfl⟩
  go_wp2_with fail
  refine H1.mono ?_
  rintro e w' ⟨rfl,rfl⟩
  go_wp2
  go_ret2
  exact⟨rfl,_,_,T,rfl,HA.out,(fun g e=>by cases ao <;> exact e),.inl ⟨rfl,HT.out.2,HT.out.1,hy⟩⟩
 ·go_enter Tryz.func126,Tryz.ntmps126
  go_wp2_with fail
  refine H2.mono ?_
  rintro e w' ⟨rfl,rfl⟩
  go_wp2
  go_ret2
  exact⟨rfl,_,_,[],rfl,Ans.nil _ _,(fun g e=>(by cases e)),.inr ⟨rfl,rfl,by omega⟩⟩

theorem mE {x y k:Nat}(hy:0<y)(h:k+blen y<blen x):k<blen (x / y):=by
 refine Nat.lt_of_not_le fun hle=>?_
 have h1:=(blen_le_iff (x / y) k).1 hle
 have h2:y<2 ^ blen y:=(blen_le_iff y _).1 (Nat.le_refl _)
 have h3:x<2 ^ (k+blen y):=by
  rw [Nat.div_lt_iff_lt_mul hy] at h1
  rw [Nat.pow_add]
  exact Nat.lt_of_lt_of_le h1 (Nat.mul_le_mul_left _ (Nat.le_of_lt h2))
 have:=(blen_le_iff x _).2 h3
 omega

theorem kV (va vb:Value)(X Y:List Nat)(w:World)(hA:Arg w va X)(hA2:Arg w vb Y)(hT:Tab w)(hf1:X.length≤17592186044416)(hf2:Y.length≤17592186044416)(hY:val Y≠0) :
  Calls Tryz.prog 109 #[va,vb] w fun e w'=>lh w w' e (val X / val Y) (val X % val Y)∧Below w.heap.size w w':=by
 have HR:=kD va vb X Y w hA hA2
 have HDV:=mq vb Y w hA2 hT hY (by omega)
 have HA:=aa hA
 have HT:=aa hT
 obtain⟨a1,c1,rfl,_,_,_⟩:=hA.form
 obtain⟨a2,c2,rfl,_,_,_⟩:=hA2.form
 have hr:bH (val X) (val Y)=if 67108864+blen (val Y)<blen (val X) then 3 else 0:=by unfold bH;rw [if_neg hY]
 rw [hr] at HR
 have HY:=aa (show 0<val Y by omega)
 clear hA hA2 hT hr hY
 by_cases hb:67108864+blen (val Y)<blen (val X)
 ·rw [if_pos hb] at HR
  have HX:Hid (67108864<blen (val X / val Y)):=aa (mE HY.out hb)
  clear HDV hb
  go_enter Tryz.func109,Tryz.ntmps109
  go_wp2_with fail
  refine HR.mono ?_
  rintro e wn ⟨rfl,hw⟩;subst hw
  clear HR
  go_wp2
  go_returns
  exact⟨⟨_,_,_,[],[],wn.heap.size,rfl,Ans.nil _ _,⟨Nat.le_refl _,Nat.le_refl _⟩,(fun g e=>(by cases e)),Ans.nil _ _,.inr ⟨rfl,rfl,rfl,.inl HX.out⟩⟩,Below.refl _ _⟩
 ·rw [if_neg hb] at HR
  clear hb
  go_enter Tryz.func109,Tryz.ntmps109
  go_wp2_with fail
  refine HR.mono ?_
  rintro e wn ⟨rfl,hw⟩;rw [hw];clear hw wn
  go_wp2_with fail
  refine HDV.mono ?_
  rintro e w1 ⟨⟨vd,rfl,hd⟩,hb1⟩
  have H1:=mr _ vd X _ _ _ w1 (HA.out.below hb1) hd (HT.out.below hb1) hf1
  have HB1:=aa hb1
  clear hd hb1 HDV HR
  go_wp2_with fail
  refine H1.mono ?_
  rintro e w2 ⟨⟨vq,vr,qs,rs,mid,rfl,A1,hmid,hq,A2,e1,e2,l1,l2,_⟩,hb2⟩
  have HQ:=iU vq w1.heap.size qs w2 A1 (by omega)
  have HRR:=kF vr mid rs w2 A2 (by omega)
  have HB2:=aa (HB1.out.trans (hb2.mono HB1.out.size))
  have HM:=aa (And.intro (Nat.le_trans HB1.out.size hmid.1) (And.intro hmid.2 hq))
  rw [e1] at HQ
  rw [e2] at HRR
  clear A1 A2 hmid hq e1 e2 l1 l2 hb2 H1
  go_wp2_with fail
  refine HQ.mono ?_
  rintro e w3 ⟨hw,v1,c1,r1,rfl,An1,hown,hres⟩;subst hw
  clear HQ
  rcases hres with ⟨rfl,ev1,tv1,bl1⟩|⟨rfl,rfl,bl1⟩
  ·have H1:=aa (And.intro An1 (And.intro hown (And.intro ev1 (And.intro tv1 bl1))))
   clear An1 hown ev1 tv1 bl1
   go_wp2_with fail
   refine HRR.mono ?_
   rintro e w4 ⟨hw,v2,c2,r2,rfl,An2,hres⟩;subst hw
   clear HRR
   rcases hres with ⟨rfl,ev2,tv2,bl2⟩|⟨rfl,rfl,bl2⟩
   ·have H2:=aa (And.intro An2 (And.intro ev2 (And.intro tv2 bl2)))
    clear An2 ev2 tv2 bl2
    go_wp2
    go_returns
    obtain⟨a1,a2,a3,a4,a5⟩:=H1.out
    obtain⟨b1,b2,b3,b4⟩:=H2.out
    exact⟨⟨v1,v2,_,r1,r2,mid,rfl,a1.base HB1.out.size,⟨HM.out.1,HM.out.2.1⟩,(fun g e=>HM.out.2.2 g (a2 g e)),b1,.inl ⟨rfl,a3,a4,b2,b3,a5,b4⟩⟩,HB2.out⟩
   ·have H2:=aa bl2
    clear An2 bl2
    go_wp2
    go_returns
    exact⟨⟨_,_,_,[],[],w.heap.size,rfl,Ans.nil _ _,⟨Nat.le_refl _,HB2.out.size⟩,(fun g e=>(by cases e)),Ans.nil _ _,.inr ⟨rfl,rfl,rfl,.inr H2.out⟩⟩,HB2.out⟩
  ·have H2:=aa bl1
   clear An1 hown bl1 HRR
   go_wp2
   go_returns
   exact⟨⟨_,_,_,[],[],w.heap.size,rfl,Ans.nil _ _,⟨Nat.le_refl _,HB2.out.size⟩,(fun g e=>(by cases e)),Ans.nil _ _,.inr ⟨rfl,rfl,rfl,.inl H2.out⟩⟩,HB2.out⟩


end Go.Proofs.YteehipcoeocojaaGreatDoor
namespace Go.Proofs.YteehipcoeocojaaGreatDoor
open Go.RowKit
open Lm

def Nv (w:World)(base:Nat)(v:Value)(x:Nat):Prop:=∃rs,Ans w base v rs∧val rs=x∧tr rs=rs∧rs.length≤1048576

theorem Nv.base {w:World}{base base':Nat}{v:Value}{x:Nat}(h:Nv w base v x)(hb:base'≤base):Nv w base' v x:=by
 obtain⟨rs,h1,h2⟩:=h
 exact⟨rs,h1.base hb,h2⟩

theorem Nv.arg {w:World}{base:Nat}{v:Value}{x:Nat}(h:Nv w base v x):∃rs,Arg w v rs∧val rs=x∧tr rs=rs∧rs.length≤1048576:=by
 obtain⟨rs,h1,h2,h3,h4⟩:=h
 exact⟨rs,h1.arg (by omega),h2,h3,h4⟩

theorem Nv.of {w:World}{base:Nat}{v:Value}{rs:List Nat}{x:Nat}(h:Ans w base v rs)(hv:val rs=x)(ht:tr rs=rs)(hb:blen x≤67108864):Nv w base v x:=by
 refine⟨rs,h,hv,ht,?_⟩
 have:=few_limbs rs 1048576 (by rw [hv];omega)
 rwa [ht] at this

theorem Res.fits {w:World}{base:Nat}{e:Ending}{s:Nat}(h:Res w base e s)(hs:blen s≤67108864):∃v,e=.returned (.tuple #[v,.int .i64 0])∧Nv w base v s:=by
 obtain⟨v,c,rs,rfl,hA,h⟩:=h
 rcases h with ⟨rfl,h1,h2,h3⟩|⟨_,_,h3⟩
 ·exact⟨v,rfl,Nv.of hA h1 h2 h3⟩
 ·omega
end Go.Proofs.YteehipcoeocojaaGreatDoor
namespace Go.Proofs.YteehipcoeocojaaGreatDoor
open Go.RowKit
open Lm
attribute [local go_sem ↓] Go.wp_at_zero Go.wp_at_succ

theorem df {x y:Nat}(h:x≤y):blen x≤blen y:=(blen_le_iff _ _).2 (Nat.lt_of_le_of_lt h ((blen_le_iff _ _).1 (Nat.le_refl _)))

theorem ck {U:List Nat}{k:Nat}(h:tr U=U)(hb:blen (val U)≤64*k):U.length≤k:=by
 have h1:=(blen_le_iff _ _).1 hb
 rw [Nat.pow_mul] at h1
 have:=aD U k h1
 rw [h] at this
 exact this

theorem lW {X:List Nat}(hX:Limbs X)(s nn:Nat)(hn:nn=min s X.length):val X=val (X.take nn)+18446744073709551616 ^ s*val (X.drop nn)∧val X / 18446744073709551616 ^ s=val (X.drop nn)∧val (X.take nn)<18446744073709551616 ^ s:=by
 have hp:0<18446744073709551616 ^ s:=Nat.pow_pos (by omega)
 have h3:val (X.take nn)<18446744073709551616 ^ s:=by
  have h:=val_lt (zs:=X.take nn) (fun z hz=>hX z (List.mem_of_mem_take hz))
  refine Nat.lt_of_lt_of_le h (Nat.pow_le_pow_right (by omega) (by simp;omega))
 have h1:val X=val (X.take nn)+18446744073709551616 ^ s*val (X.drop nn):=by
  rcases Nat.lt_or_ge X.length s with h|h
  ·have e:nn=X.length:=by omega
   rw [e,List.take_length,List.drop_length];simp [val]
  ·have e:nn=s:=by omega
   rw [e]
   have hh:=ae X 0 s (X.length - s) (by omega)
   rw [show s+(X.length - s)=X.length by omega,aZ] at hh
   have e1:sv X 0 s=val (X.take s):=by simp [sv,seg]
   have e2:sv X (0+s) (X.length - s)=val (X.drop s):=by
    rw [Nat.zero_add]
    unfold sv seg
    rw [List.take_of_length_le (by simp)]
   rw [hh,e1,e2]
 refine⟨h1,?_,h3⟩
 rw [h1,Nat.add_mul_div_left _ _ hp,Nat.div_eq_of_lt h3,Nat.zero_add]



theorem l7 {Z:List Nat}(h:tr Z=Z):Z=[]∨18446744073709551616 ^ (Z.length - 1)≤val Z:=by
 rcases Nat.eq_zero_or_pos Z.length with h0|h0
 ·exact .inl (List.eq_nil_of_length_eq_zero h0)
 ·have:=tr_val_ge Z (Z.length - 1) (by rw [h];omega)
  rw [h] at this
  exact .inr this

theorem lI {M:List Nat}{s u V:Nat}(hM:s+u≤M.length)(h:sv M 0 (s+u)=V)(hV:V<18446744073709551616 ^ s):sv M s u=0∧sv M 0 s=V:=by
 rw [ae M 0 s u (by omega),Nat.zero_add] at h
 have h0:sv M s u=0:=by
  rcases Nat.eq_zero_or_pos (sv M s u) with h1|h1
  ·exact h1
  ·have:=Nat.mul_le_mul_left (18446744073709551616 ^ s) h1
   omega
 rw [h0,Nat.mul_zero,Nat.add_zero] at h
 exact⟨h0,h⟩

theorem kO {M M' U:List Nat}{s o V:Nat}(hl:M'.length=s+U.length)(h0:sv M 0 s=V)(hO:Out M M' o (o+U.length))(hv:sv M' o U.length=val U)(ho:o=s∨(U.length=0∧o=0)):val M'=V+18446744073709551616 ^ s*val U:=by
 rw [←aZ M',hl,ae M' 0 s U.length (by omega),Nat.zero_add]
 rcases ho with rfl|⟨hu,rfl⟩
 ·rw [hv,hO.sv 0 o (by omega),h0]
 ·have hU:U=[]:=List.eq_nil_of_length_eq_zero hu
  rw [hU] at hO ⊢
  rw [hO.sv 0 s (by simp),h0]
  simp [sv,seg,val]

def dp (x y n:Nat)(w:World)(e:Ending)(w':World):Prop:=
 (∃vr Q R,e=.returned (.tuple #[.slice (some ⟨w.heap.size,0,none⟩) n n,vr])∧Arg w' (.slice (some ⟨w.heap.size,0,none⟩) n n) Q∧Arg w' vr R∧val Q=x / y∧val R=x % y∧Q.length=n∧tr R=R)∧Below w.heap.size w w'

theorem b8 {X:List Nat}(h:Limbs X)(hl:X.length≤1048576):blen (val X)≤67108864:=by
 have h1:blen (val X)≤64*X.length:=(blen_le_iff _ _).2 (by rw [Nat.pow_mul];exact val_lt h)
 omega

theorem fp (ao:Option Addr)(cap:Nat)(vb:Value)(y:Nat)(w:World) :
  Calls Tryz.prog 82 #[.slice ao 0 cap,vb] w (dp 0 y 0 w):=by
 obtain⟨i0,hi,hz0,hz1,hz2⟩:=info_parts Tryz.infoU
 go_enter Tryz.func82,Tryz.ntmps82
 go_wp2_with (at_make;refine wpList_make_full _ rfl _ _ 23 rfl w.heap.size 63 i0 (.int .u64 0) 1 Tryz.underlying23 hi hz0 hz1 .i64 .i64 _ _ 0 rfl rfl (by omega) (by omega) (by rw [hz2];omega) (by unfold maxLen;omega) (Nat.le_refl _) ?_;intro w1 hown hgrow)
 have hb1:=Blk.made hown
 have hbel:Below w.heap.size w w1:=(Below.refl _ _).grown hgrow (Nat.le_refl _) (fun k hk=>by cases hk)
 have HQ:Hid (Arg w1 (.slice (some ⟨w.heap.size,0,none⟩) 0 0) []):=by
  have h:=Ans.of_blk (base:=w.heap.size) (zs:=[]) (Nat.le_refl _) hb1 rfl (Nat.zero_le _) (by simp) (by intro z hz;cases hz)
  exact h.arg (by simp)
 have HN:Hid (Arg w1 (.slice none 0 0) []):=(Ans.nil w1 w.heap.size).arg (by simp)
 have HB:=aa hbel
 clear hown hgrow hb1 hbel hi hz0 hz1 hz2
 refine wp_loop_rounds 1 ?_
 rw [rounds_succ]
 go_wp2
 go_ret2
 exact⟨⟨_,[],[],rfl,HQ.out,HN.out,by simp [val],by simp [val],rfl,rfl⟩,HB.out⟩

theorem hG (b off cap:Nat)(vb:Value)(X Y:List Nat)(w:World)(hA:Arg w (.slice (some ⟨b,off,none⟩) X.length cap) X)(hB:Arg w vb Y)(hT:Tab w)(hX:0<X.length)(hl:X.length≤1048576)(hY0:val Y≠0)(hYl:Y.length≤17592186044416)(hYb:blen (val Y)≤67108864) :
  Calls Tryz.prog 82 #[.slice (some ⟨b,off,none⟩) X.length cap,vb] w (dp (val X) (val Y) X.length w):=by
 obtain⟨i0,hi,hz0,hz1,hz2⟩:=info_parts Tryz.infoU
 have hcl:X.length≤cap:=by obtain⟨_,_,e,hle,_,_⟩:=hA.form;cases e;exact hle
 have hc0:¬cap=0:=by omega
 have hmx:max ((X.length:Int) - 1048576) 0=0:=by omega
 have i1:(0:Int)<(X.length:Int):=by omega
 have hq1:blen (val X / val Y)≤67108864:=Nat.le_trans (df (Nat.div_le_self _ _)) (b8 hA.limbs hl)
 have hq2:blen (val X % val Y)≤67108864:=Nat.le_trans (df (Nat.le_of_lt (Nat.mod_lt _ (by omega)))) hYb
 have hq3:val X / val Y<18446744073709551616 ^ X.length:=Nat.lt_of_le_of_lt (Nat.div_le_self _ _) (val_lt hA.limbs)
 have HA:=aa hA
 have HBB:=aa hB
 have HT:=aa hT
 have HQ:=aa (And.intro hq1 (And.intro hq2 hq3))
 have HY0:=aa hY0
 have HYL:=aa hYl
 clear hA hB hT hq1 hq2 hq3 hY0 hYb hYl
 go_enter Tryz.func82,Tryz.ntmps82
 go_wp2_with (at_make;refine wpList_make_full _ rfl _ _ 23 rfl w.heap.size 63 i0 (.int .u64 0) 1 Tryz.underlying23 hi hz0 hz1 .i64 .i64 _ _ X.length rfl rfl (by omega) (by omega) (by rw [hz2];omega) (by unfold maxLen;omega) (Nat.le_refl _) ?_;intro w1 hown hgrow)
 have hb1:=Blk.made hown
 have hbel:Below w.heap.size w w1:=(Below.refl _ _).grown hgrow (Nat.le_refl _) (fun k hk=>by cases hk)
 have hlt1:w.heap.size<w1.heap.size:=hb1.lt
 have HB1:=aa hb1
 have HL1:=aa hbel
 clear hown hgrow hb1 hbel hi hz0 hz1 hz2
 refine wp_loop_rounds 2 ?_
 rw [rounds_succ]
 obtain⟨w3,hw3⟩:∃W,w1.alloc (.cells #[.slice (some ⟨b,off,none⟩) X.length cap,.slice none 0 0] 23)=W:=⟨_,rfl⟩
 have hb3:Below w1.heap.size w1 w3:=by rw [←hw3];exact ac _ _
 have hx3:w3.heap[w1.heap.size]?=some (.cells #[.slice (some ⟨b,off,none⟩) X.length cap,.slice none 0 0] 23):=by rw [←hw3];exact heap_alloc_new ..
 have C1:=ms w1.heap.size ⟨b,off,none⟩ cap X w3 hx3 ((HA.out.below HL1.out).below hb3) hX (by omega)
 have HL3:=aa (HL1.out.trans (hb3.mono HL1.out.size))
 have HB3:=aa (HB1.out.below' hb3)
 clear hb3 hx3 HB1 HL1
 go_wp2_with fail
 refine C1.mono ?_
 rintro e w4 ⟨⟨v4,rfl,A4⟩,hb4⟩
 have HL4:=aa (HL3.out.trans (hb4.mono HL3.out.size))
 have HB4:=aa (HB3.out.below' hb4)
 have C2:=kV v4 vb X Y w4 (A4.arg (by omega)) (HBB.out.below HL4.out) (HT.out.below HL4.out) (by omega) HYL.out HY0.out
 clear C1 HL3 HB3 A4 hb4 hw3
 go_wp2_with fail
 refine C2.mono ?_
 rintro e w5 ⟨⟨v1,v2,c,r1,r2,mid,rfl,D1,hmid,hlt,D2,hcase⟩,hb5⟩
 rcases hcase with ⟨rfl,hv1,hn1,hv2,hn2,_,_⟩|⟨rfl,_,_,hbad⟩
 ·have hr1:r1.length≤X.length:=by
   have h:=aD r1 X.length (by rw [hv1];exact HQ.out.2.2)
   rw [hn1] at h
   exact h
  obtain⟨a5,c5,rfl,_,_,hL5⟩:=(D1.arg (by omega)).form
  have hb5':=HB4.out.below' hb5
  obtain⟨w6,M6,hcp,B6,L6,F6,O6,S6⟩:=bf w.heap.size 0 X.length X.length (List.replicate X.length 0) a5 c5 r1 w5 hb5' (limbs_replicate _) D1.limbs (bh _ _ _) (by simp) hr1 hL5
  have hl6:M6.length=X.length:=by rw [O6.len,List.length_replicate]
  have hv6:val M6=val X / val Y:=by rw [←hv1,←S6,aF hl6]
  have hbel5:Below w.heap.size w w5:=HL4.out.trans (hb5.mono HL4.out.size)
  have hbel6:Below w.heap.size w w6:=hbel5.trans (F6.below (Nat.le_refl _) hbel5.size)
  have hr2:r2.length≤1048576:=ck hn2 (by rw [hv2];exact HQ.out.2.1)
  have hA6:Arg w6 (.slice (some ⟨w.heap.size,0,none⟩) X.length X.length) M6:=by
   have h:=Ans.of_blk (base:=w.heap.size) (zs:=M6) (Nat.le_refl _) B6 List.take_length.symm (Nat.le_refl _) (by omega) L6
   rw [hl6] at h
   exact h.arg (by omega)
  have hD6:Arg w6 v2 r2:=by
   have h1:Ans w6 mid v2 r2:=by
    refine⟨?_,D2.limbs⟩
    obtain⟨q1,q2⟩:=D2.own
    refine⟨q1,?_⟩
    rcases q2 with q2|⟨g',cap',cur,hv,hg',hh,r⟩
    ·exact .inl q2
    ·have:w4.heap.size≤mid:=hmid.1
     have hs4:=HL4.out.size
     have hs5:w.heap.size<w4.heap.size:=HB4.out.lt
     exact .inr ⟨g',cap',cur,hv,hg',by rw [F6.block g' (lt_of_block hh) (by omega)];exact hh,r⟩
   exact h1.arg (by omega)
  have HF:=aa (And.intro hA6 (And.intro hD6 (And.intro hv6 (And.intro hv2 (And.intro hl6 (And.intro hn2 hbel6))))))
  clear C2 D1 D2 hmid hlt hb5 hb5' hv1 hn1 hv2 hn2 B6 L6 F6 O6 S6 hl6 hv6 hbel5 hbel6 hA6 hD6 hL5 HL4 HB4
  go_wp2
  rw [rounds_succ]
  go_wp2
  go_ret2
  exact⟨⟨_,M6,r2,rfl,HF.out.1,HF.out.2.1,HF.out.2.2.1,HF.out.2.2.2.1,HF.out.2.2.2.2.1,HF.out.2.2.2.2.2.1⟩,HF.out.2.2.2.2.2.2⟩
 ·exact absurd hbad (by have:=HQ.out;omega)

theorem fN (va vb:Value)(X Y:List Nat)(w:World)(hA:Arg w va X)(hB:Arg w vb Y)(hT:Tab w)(hl:X.length≤1048576)(hY0:val Y≠0)(hYl:Y.length≤17592186044416)(hYb:blen (val Y)≤67108864) :
  Calls Tryz.prog 82 #[va,vb] w (dp (val X) (val Y) X.length w):=by
 obtain⟨ao,cap,rfl,hcap,hmax,hL⟩:=hA.form
 rcases hL with rfl|⟨b,off,rfl,_⟩
 ·exact fp ao cap vb (val Y) w
 ·by_cases h0:X.length=0
  ·obtain rfl:=List.length_eq_zero_iff.1 h0
   exact fp _ cap vb (val Y) w
  ·exact hG b off cap vb X Y w hA hB hT (by omega) hl hY0 hYl hYb

def lG (x P n k:Nat)(w:World)(e:Ending)(w':World):Prop:=
 (∃g1 n1 c1 g2 n2 c2 H Lw,(w.heap.size≤g1∧w.heap.size≤g2)∧e=.returned (.tuple #[.slice (some ⟨g1,0,none⟩) n1 c1,.slice (some ⟨g2,0,none⟩) n2 c2])∧Arg w' (.slice (some ⟨g1,0,none⟩) n1 c1) H∧Arg w' (.slice (some ⟨g2,0,none⟩) n2 c2) Lw∧val H=x / P∧val Lw=x % P∧H.length≤n∧Lw.length≤k)∧Below w.heap.size w w'

theorem bt5 {a b c:World}(h:Below a.heap.size a b)(k:Below b.heap.size b c):Below a.heap.size a c:=h.trans (k.mono h.size)

theorem iS (x B o:Nat):x % (B*o)=x % B+B*(x / B % o):=Nat.mod_mul

theorem kq (x B o:Nat):x / (B*o)=x / B / o:=(Nat.div_div_eq_div_mul x B o).symm

theorem iq {s o y k:Nat}{R:List Nat}(hR:tr R=R)(hv:val R=y % o)(h0:0<o)(hP:18446744073709551616 ^ s*o<18446744073709551616 ^ k):s+R.length≤k:=by
 rcases l7 hR with rfl|h
 ·have h1:18446744073709551616 ^ s≤18446744073709551616 ^ s*o:=Nat.le_mul_of_pos_right _ h0
  have h2:=Nat.lt_of_le_of_lt h1 hP
  have:=(Nat.pow_lt_pow_iff_right (by omega)).1 h2
  simp;omega
 ·rcases Nat.eq_zero_or_pos R.length with hz|hz
  ·have h1:18446744073709551616 ^ s≤18446744073709551616 ^ s*o:=Nat.le_mul_of_pos_right _ h0
   have h2:=Nat.lt_of_le_of_lt h1 hP
   have:=(Nat.pow_lt_pow_iff_right (by omega)).1 h2
   omega
  ·have h1:val R<o:=by rw [hv];exact Nat.mod_lt _ h0
   have h2:18446744073709551616 ^ s*18446744073709551616 ^ (R.length - 1)<18446744073709551616 ^ k:=Nat.lt_of_le_of_lt (Nat.mul_le_mul_left _ (Nat.le_of_lt (Nat.lt_of_le_of_lt h h1))) hP
   rw [←Nat.pow_add] at h2
   have:=(Nat.pow_lt_pow_iff_right (by omega)).1 h2
   omega

theorem jO (d s:Nat)(ao:Option Addr)(co:Nat)(b off cap:Nat)(O X:List Nat)(w:World)(hO:Arg w (.slice ao O.length co) O)(hA:Arg w (.slice (some ⟨b,off,none⟩) X.length cap) X)(hT:Tab w)(hl:X.length≤1048576)(hO0:val O≠0)(hOl:O.length≤17592186044416)(hOb:blen (val O)≤67108864)(hs:s≤1048576)(hP:18446744073709551616 ^ s*val O<18446744073709551616 ^ 1048576) :
  Calls Tryz.prog 55 #[.agg #[.int .i64 d,.slice ao O.length co,.int .i64 s],.slice (some ⟨b,off,none⟩) X.length cap] w (lG (val X) (18446744073709551616 ^ s*val O) X.length 1048576 w):=by
 obtain⟨i0,hi,hz0,hz1,hz2⟩:=info_parts Tryz.infoU
 obtain⟨w0,hw0⟩:∃w0,w.alloc (.cells #[.int .i64 d,.slice ao O.length co,.int .i64 s] 88)=w0:=⟨_,rfl⟩
 have hb0:Below w.heap.size w w0:=by rw [←hw0];exact ac _ _
 have h0:w0.heap[w.heap.size]?=some (.cells #[.int .i64 d,.slice ao O.length co,.int .i64 s] 88):=by rw [←hw0];exact heap_alloc_new ..
 obtain⟨k0,k1,k2⟩:=tri h0
 obtain⟨nn,hnn,hn2⟩:∃nn:Nat,min (s:Int) (X.length:Int)=(nn:Int)∧nn=min s X.length:=⟨min s X.length,by omega,rfl⟩
 obtain⟨lp1,lp2,lp3⟩:=lW hA.limbs s nn hn2
 have hcl:X.length≤cap:=by obtain⟨_,_,e,hle,_,_⟩:=hA.form;cases e;exact hle
 have hcm:cap≤9223372036854775807:=by obtain⟨_,_,e,_,hm,_⟩:=hA.form;cases e;exact hm
 have hnl:nn≤X.length:=by omega
 have hncl:nn≤cap:=by omega
 obtain⟨o2,hif,ho2⟩:∃o2,(if cap=nn then some (⟨b,off,none⟩:Addr) else some ⟨b,off+nn,none⟩)=some ⟨b,o2,none⟩∧(o2=off+nn∨X.length=nn):=by
  by_cases h:cap=nn
  ·exact⟨off,by rw [if_pos h],.inr (by omega)⟩
  ·exact⟨off+nn,by rw [if_neg h],.inl rfl⟩
 have hAL:=dB (hA.below hb0) ho2 (by omega) (show X.length - nn≤cap - nn by omega) (by omega)
 have hdl:(X.drop nn).length=X.length - nn:=List.length_drop
 have C:=fN _ _ (X.drop nn) O w0.drew (hAL.below (Below.refl _ _).drew) ((hO.below hb0).below (Below.refl _ _).drew) ((hT.below hb0).below (Below.refl _ _).drew) (by rw [hdl];omega) hO0 hOl hOb
 rw [hdl] at C
 have KS:=aa (fun (W:World) (hg:Below w0.heap.size w0 W)=>show W.cell? ⟨w.heap.size,1,none⟩=some (.slice ao O.length co) from (tri ((hg.block w.heap.size (lt_of_block h0)).trans h0)).2.1)
 have g0:Below w0.heap.size w0 w0.drew:=(Below.refl _ _).drew
 have HB0:=aa hb0
 have H0:=aa h0
 have HXa:=aa hA
 have HLP:=aa (And.intro lp1 (And.intro lp2 lp3))
 have HPP:=aa hP
 have HO0:=aa hO0
 have hns:nn≤s:=by omega
 clear hb0 h0 hA hT hO hn2 lp1 lp2 lp3 hAL hP hO0 hOl hOb ho2
 go_enter Tryz.func55,Tryz.ntmps55
 go_upto_region 2 with fail
 go_region_held3 (fun w'=>w'.cell? ⟨w.heap.size,1,none⟩=some (.slice ao O.length co)) (first|with_reducible exact KS.out _ g1|with_reducible exact KS.out _ g0) (first
  | (go_at_call 82;refine C.mono ?_;rintro e' w1 ⟨⟨vr,Q,R,rfl,AQ,AR,hvQ,hvR,hlQ,hnR⟩,hb1⟩;have g1:=bt5 g0 hb1;obtain⟨a5,c5,rfl,_,_,hLr⟩:=AR.form))
 have hB1:=bt5 HB0.out g1
 have hlen:=iq hnR hvR (Nat.pos_of_ne_zero HO0.out) HPP.out
 obtain⟨N,hN,hNi⟩:∃N,N=s+R.length∧(s:Int)+(R.length:Int)=(N:Int):=⟨_,rfl,by omega⟩
 have hNs:N - s=R.length:=by omega
 obtain⟨o5,hif5,ho5⟩:∃o5,(∀g:Nat,(if N=s then some (⟨g,0,none⟩:Addr) else some ⟨g,s,none⟩)=some ⟨g,o5,none⟩)∧((o5=s∨(R.length=0∧o5=0))∧o5+R.length≤N):=by
  by_cases h:N=s
  ·exact⟨0,fun g=>by rw [if_pos h],.inr ⟨by omega,rfl⟩,by omega⟩
  ·exact⟨s,fun g=>by rw [if_neg h],.inl rfl,by omega⟩
 have lTk:(X.take nn).length=nn:=by rw [List.length_take];omega
 have h1:=(g1.block w.heap.size (lt_of_block H0.out)).trans H0.out
 obtain⟨k0,k1,k2⟩:=tri h1
 have hwl:w.heap.size<w1.heap.size:=lt_of_block h1
 have H1:=aa h1
 have HB1:=aa hB1
 have HAR:=aa AR
 have HAQ:=aa AQ
 have HV:=aa (And.intro hvQ (And.intro hvR (And.intro hlQ hnR)))
 have HNN:=aa hN
 have HO5:=aa ho5
 have hsN:s≤N:=by omega
 have hnN:nn≤N:=by omega
 have hN9:N≤1048576:=by omega
 clear hb1 g1 g0 hB1 AQ AR hvQ hvR hlQ hnR hLr h1 hN ho5 hif C KS H0 HB0
 go_wp2_with (at_make;refine wpList_make_full _ rfl _ _ 23 rfl w1.heap.size 63 i0 (.int .u64 0) 1 Tryz.underlying23 hi hz0 hz1 .i64 .i64 _ _ N rfl rfl (by omega) (by omega) (by rw [hz2];omega) (by unfold maxLen;omega) (Nat.le_refl _) ?_;intro w3 hown hgrow;have hbel3:Below w1.heap.size w1 w3:=(Below.refl w1.heap.size w1).grown hgrow (Nat.le_refl _) (fun k hk=>by cases hk);obtain⟨w4,M4,hcp,B4,L4,F4,O4,S4⟩:=bf w1.heap.size 0 N N (List.replicate N 0) (some ⟨b,off,none⟩) cap (X.take nn) w3 (Blk.made hown) (limbs_replicate _) (HXa.out.front nn hnl).limbs (bh N 0 N) (by simp) (by rw [lTk];omega) (ah.arg ((HXa.out.front nn hnl).below (HB1.out.trans (hbel3.mono HB1.out.size))));rw [lTk] at hcp;have hbel4:Below w1.heap.size w1 w4:=hbel3.trans (F4.below (Nat.le_refl _) hbel3.size);obtain⟨j0,j1,j2⟩:=tri ((hbel4.block w.heap.size hwl).trans H1.out);have hM4l:M4.length=N:=by rw [O4.len,List.length_replicate])
 obtain⟨z0,z1⟩:=lI (M:=M4) (s:=s) (u:=R.length) (by have:=HNN.out;omega) (by rw [←HNN.out];exact S4) HLP.out.2.2
 have hz5:sv M4 o5 R.length=0:=by
  rcases HO5.out.1 with h|⟨h,_⟩
  ·rw [h];exact z0
  ·rw [h];exact aj _ _
 have hLu:ah w4 a5 R:=by
  obtain⟨_,_,e,_,_,hl⟩:=(HAR.out.below hbel4).form
  cases e
  exact hl
 obtain⟨w5,M5,hcp2,B5,L5,F5,O5,S5⟩:=bf w1.heap.size o5 R.length R.length M4 a5 c5 R w4 B4 L4 HAR.out.limbs hz5 (by rw [hM4l];exact HO5.out.2) (Nat.le_refl _) hLu
 have hbel5:Below w1.heap.size w1 w5:=hbel4.trans (F5.below (Nat.le_refl _) hbel4.size)
 have hM5l:M5.length=s+R.length:=by rw [O5.len,hM4l];exact HNN.out
 have hval:=kO hM5l z1 O5 S5 HO5.out.1
 have hArg:Arg w5 (.slice (some ⟨w1.heap.size,0,none⟩) N N) M5:=by
  have h:=Ans.of_blk (base:=w.heap.size) (zs:=M5) (by omega) B5 List.take_length.symm (Nat.le_refl _) (by omega) L5
  rw [hM5l,←HNN.out] at h
  exact h.arg (by rw [hM5l,←HNN.out];omega)
 have hlow:val M5=val X % (18446744073709551616 ^ s*val O):=by
  rw [hval,iS,HV.out.2.1,HLP.out.2.1]
  have e1:=HLP.out.1
  have e2:val X % 18446744073709551616 ^ s=val (X.take nn):=by
   rw [e1,Nat.add_mul_mod_self_left,Nat.mod_eq_of_lt HLP.out.2.2]
  rw [e2]
 have hhigh:val Q=val X / (18446744073709551616 ^ s*val O):=by
  rw [kq,HLP.out.2.1]
  exact HV.out.1
 have HF:=aa (And.intro hArg (And.intro (HAQ.out.below hbel5) (And.intro hlow (And.intro hhigh (HB1.out.trans (hbel5.mono HB1.out.size))))))
 have HM5:Hid (M5.length≤1048576):=aa (by rw [hM5l];exact hlen)
 have HGG:Hid (w.heap.size≤w0.drew.heap.size∧w.heap.size≤w1.heap.size):=aa ⟨by rw [←hw0];exact Nat.le_trans (Nat.le_succ _) (by simp),Nat.le_of_lt hwl⟩
 have HQL:Hid (Q.length≤X.length):=aa (by have:=HV.out.2.2.1;omega)
 clear hown hgrow hbel3 hbel4 hbel5 B4 L4 F4 O4 S4 B5 L5 F5 O5 S5 hval hArg hLu hz5 z0 z1 hM5l hlow hhigh hi hz0 hz1 hz2
 go_wp2
 rw [hcp2]
 go_wp2
 go_ret2
 exact⟨⟨_,_,_,_,_,_,Q,M5,HGG.out,rfl,HF.out.2.1,HF.out.1,HF.out.2.2.2.1,HF.out.2.2.1,HQL.out,HM5.out⟩,HF.out.2.2.2.2⟩

theorem lg (v:Value)(zs:List Nat)(n:Nat)(w:World)(h1:Arg w v zs)(f1:zs.length≤35184372088831)(hn:n≤1099511627776) :
  Calls Tryz.prog 103 #[v,.int .i64 n] w fun e w'=>Below w.heap.size w w'∧Res w' w.heap.size e (val zs / 2 ^ n):=by
 obtain⟨a1,c1,rfl,hc1,hm1,hl1⟩:=h1.form
 have H0:=fV n w (by omega) (by omega)
 have H1:=bd a1 c1 zs w hc1 hm1 hl1
 have l1:=tr_length_le zs
 have L1:=hl1.tr
 have M1:=limbs_tr h1.limbs
 obtain⟨q,s,hs,hnq⟩:∃q s,s<64∧n=q*64+s:=⟨n / 64,n % 64,by omega,by omega⟩
 have eq1:(n:Int) / 64=(q:Int):=by omega
 have eq2:(n:Int) % 64=(s:Int):=by omega
 have HN:Hid (n=q*64+s):=hnq
 have hq:q≤17179869184:=by omega
 obtain⟨i0,hi,hz0,hz1,hz2⟩:=info_parts Tryz.infoU
 clear hnq
 by_cases hql:(tr zs).length≤q
 ·have HV:Hid (val zs / 2 ^ n=0):=by
   refine aa ?_
   rw [Nat.div_eq_of_lt]
   have:=val_lt M1
   rw [val_tr,W_pow] at this
   have h2:(2:Nat) ^ ((tr zs).length*64)≤2 ^ n:=Nat.pow_le_pow_right (by omega) (by have:=HN.out;omega)
   omega
  clear L1 M1 hl1 h1 hi hz0 hz1 hz2
  generalize tr zs=Z at *
  go_enter Tryz.func103,Tryz.ntmps103
  go_wp2_with fail
  refine H0.mono ?_
  rintro e w' ⟨rfl,rfl⟩
  go_wp2_with fail
  refine H1.mono ?_
  rintro e w' ⟨rfl,rfl⟩
  clear H0 H1
  go_wp2
  go_ret2
  rw [HV.out]
  exact⟨Below.refl _ _,_,_,[],rfl,Ans.nil _ _,.inl ⟨rfl,rfl,rfl,by simp [blen]⟩⟩
 ·rcases L1 with h' | ⟨b,off,rfl,hcell⟩
  ·simp [h'] at hql
  ·have hbw:b<w.heap.size:=ah.block (zs:=tr zs) (.inr ⟨b,off,rfl,hcell⟩) (by omega)
   have hcl:(tr zs).length≤c1:=by omega
   have hlx:((tr zs).drop q).length=(tr zs).length - q:=by simp
   have HVX:Hid (val ((tr zs).drop q) / 2 ^ s=val zs / 2 ^ n):=by
    refine aa ?_
    rw [val_drop M1 q (by omega),val_tr,Nat.div_div_eq_div_mul,←Nat.pow_add,←HN.out]
   have hcx:∀k,k<((tr zs).drop q).length→w.cell? ⟨b,off+q+k,none⟩=some (.int .u64 ((((tr zs).drop q).getD k 0:Nat):Int)):=by
    intro k hk
    have:=hcell (q+k) (by omega)
    rw [←Nat.add_assoc] at this
    rw [this]
    simp [List.getD]
   have hlimx:Limbs ((tr zs).drop q):=fun z hz=>M1 z (List.mem_of_mem_drop hz)
   clear hcell hl1 h1 M1
   generalize (tr zs).drop q=X at *
   generalize (tr zs).length=m at *
   obtain⟨d,rfl⟩:∃d,m=q+d:=⟨m - q,by omega⟩
   have hdx:X.length=d:=by omega
   subst hdx
   clear hlx
   have hd:decide ((q:Int)+(X.length:Int)≤(q:Int))=false:=by simp;omega
   have hxp:0<X.length:=by omega
   go_enter Tryz.func103,Tryz.ntmps103
   go_wp2_with fail
   refine H0.mono ?_
   rintro e w' ⟨rfl,rfl⟩
   go_wp2_with fail
   refine H1.mono ?_
   rintro e w' ⟨rfl,rfl⟩
   clear H0 H1
   go_wp2_with (at_make;refine wpList_make_full _ rfl _ _ 23 rfl w'.heap.size 63 i0 (.int .u64 0) 1 Tryz.underlying23 hi hz0 hz1 .i64 .i64 _ _ X.length rfl rfl (by omega) (by omega) (by rw [hz2];omega) (by unfold maxLen;omega) (Nat.le_refl _) ?_;intro w1 hown hgrow)
   have hb1:=Blk.made hown
   have hbel:Below w'.heap.size w' w1:=(Below.refl _ _).grown hgrow (Nat.le_refl _) (fun k hk=>by cases hk)
   clear hown hgrow hi hz0 hz1 hz2
   go_loopw [31] (fun i wr=>∃(k:Nat) (out:List Nat),k≤X.length∧i=.int .i64 k∧out.length=X.length∧Limbs out∧Blk wr w'.heap.size out∧Below w'.heap.size w' wr ∧
     2 ^ s*val (out.take k)+X.getD 0 0 % 2 ^ s=val (X.take k)+X.getD k 0 % 2 ^ s*18446744073709551616 ^ k) (fun i _=>X.length - (intOf i).toNat)
   case atStart=>exact⟨0,_,Nat.zero_le _,rfl,by simp,limbs_replicate _,hb1,hbel,by simp [val]⟩
   case round=>
    obtain⟨k,out,hk,rfl,hlen,hlo,hblk,hbl,hval⟩:=hrel
    clear hb1 hbel
    have HV:=aa hval
    have HB:=aa hblk
    have HL:=aa hbl
    clear hval
    by_cases hkl:k<X.length
    ·have hck:wr.cell? ⟨b,off+q+k,none⟩=some (.int .u64 ((X.getD k 0:Nat):Int)):=by rw [hbl.cell (p:=⟨b,off+q+k,none⟩) hbw];exact hcx k hkl
     have hlies:ah wr.drew (some ⟨b,off+q,none⟩) X:=.inr ⟨b,off+q,rfl,fun j hj=>by rw [hbl.drew.cell (p:=⟨b,off+q+j,none⟩) hbw];exact hcx j hj⟩
     have H42:=eX (some ⟨b,off+q,none⟩) (c1 - q) X (k+1) wr.drew (by omega) (by omega) hlies
     rw [show ((k+1:Nat):Int)=(k:Int)+1 from by omega] at H42
     have hfr:=hblk.free k
     have hco:=hblk.cell k (by omega)
     have hst:=right_step X out s k hs (by omega) HV.out
     have z1:=limb_lt hlimx k
     have hne1:¬b=w'.heap.size:=by omega
     have hne2:¬w'.heap.size=b:=by omega
     generalize out.getD k 0=o at *
     have HS:=aa hst
     clear hst hlies hblk hbl HV hcx
     generalize hy:X.getD (k+1) 0=y at *
     have HY:=aa hy
     clear hy
     generalize X.getD k 0=x at *
     have hi1:(0:Int)≤(k:Int):=by omega
     have hi2:(k:Int)<(X.length:Int):=by omega
     have hwk:IntKind.i64.wrap ((k:Int)+1)=(k:Int)+1:=by rw [IntKind.wrap_i64];omega
     obtain⟨t,ht⟩:∃t,t=64 - s:=⟨_,rfl⟩
     have htb:t≤64:=by omega
     have hw64:IntKind.i64.wrap (64 - (s:Int))=(t:Int):=by rw [IntKind.wrap_i64];omega
     have hw66:IntKind.i64.wrap (t:Int)=(t:Int):=by rw [IntKind.wrap_i64];omega
     have hw65:(64 - (s:Int))=(t:Int):=by omega
     have HT:=aa ht
     clear ht
     go_wp2
     go_region_held3 (fun w2=>w2.cell? ⟨b,off+q+k,none⟩=some (.int .u64 x)) (go_keep) (first | (go_at_call 85;refine H42.mono ?_;rintro e w2 ⟨rfl,rfl⟩))
     go_wp2
     go_roundw
     case rel=>
      have e:=HT.out
      subst e
      rw [walk_shr2 x y s hs z1]
      exact⟨k+1,out.set k (shr x y s),by omega,by go_num,by simp;omega,limbs_set hlo _ _ (shr_lt2 x y s hs z1),HB.out.set _ _,(HL.out.setCell (Nat.le_refl _) _).drew,by rw [HY.out];exact HS.out⟩
     case measure=>simp [intOf];omega
    ·have ek:k=X.length:=by omega
     subst ek
     have HA:=iI _ w'.heap.size _ _ hblk hlo (Nat.le_refl _) (by omega)
     rw [right_end X out s hlen HV.out,HVX.out,hlen] at HA
     clear hblk hbl HV HB hlo hcx hlimx
     go_wp2_with fail
     refine HA.mono ?_
     rintro e w2 ⟨rfl,hres⟩
     unfold Res at hres
     obtain⟨v,c,rs,rfl,hres⟩:=hres
     have HX:=aa hres
     clear hres
     go_wp2
     go_ret2
     exact⟨HL.out,v,c,rs,rfl,HX.out⟩

theorem gh (n:Int):bits .and .i64 n 1=n % 2:=by
 have h1:(BitVec.ofInt 64 1).toNat=2 ^ 1 - 1:=by decide
 have key:(BitVec.ofInt 64 n &&& BitVec.ofInt 64 1).toNat=(n % ((2 ^ 64:Nat):Int)).toNat % 2 ^ 1:=by
  rw [BitVec.toNat_and,BitVec.toNat_ofInt,h1,Nat.and_two_pow_sub_one_eq_mod]
 show IntKind.i64.wrap ((BitVec.ofInt 64 n &&& BitVec.ofInt 64 1).toNat:Nat)=n % 2
 rw [key,IntKind.wrap_i64]
 omega

theorem gg (x k:Nat):x / 2 ^ k=2*(x / 2 ^ (k+1))+x / 2 ^ k % 2:=by
 rw [Nat.pow_succ,←Nat.div_div_eq_div_mul]
 omega

theorem cF {x y:Nat}(h:x≤y):blen x≤blen y:=(blen_le_iff x _).2 (Nat.lt_of_le_of_lt h ((blen_le_iff y _).1 (Nat.le_refl _)))

theorem d9 {x n k:Nat}(hx:0<x)(hk:k≤n):x ^ k≤x ^ n:=Nat.pow_le_pow_right hx hk

theorem Res.big {w:World}{base s:Nat}(h:67108864<blen s):Res w base (.returned (.tuple #[.slice none 0 0,.int .i64 3])) s:=
 ⟨_,3,[],rfl,Ans.nil _ _,.inr ⟨rfl,rfl,h⟩⟩

theorem Res.of_nv {w:World}{base s:Nat}{v:Value}(h:Nv w base v s)(hb:blen s≤67108864):Res w base (.returned (.tuple #[v,.int .i64 0])) s:=by
 obtain⟨rs,h1,h2,h3,_⟩:=h
 exact⟨v,0,rs,rfl,h1,.inl ⟨rfl,h2,h3,hb⟩⟩

theorem Res.parts {w:World}{base:Nat}{e:Ending}{s:Nat}(h:Res w base e s):(∃v,e=.returned (.tuple #[v,.int .i64 0])∧Nv w base v s∧blen s≤67108864)∨(∃v,e=.returned (.tuple #[v,.int .i64 3])∧67108864<blen s):=by
 obtain⟨v,c,rs,rfl,hA,h⟩:=h
 rcases h with ⟨rfl,h1,h2,h3⟩|⟨rfl,_,h3⟩
 ·exact .inl ⟨v,rfl,Nv.of hA h1 h2 h3,h3⟩
 ·exact .inr ⟨v,rfl,h3⟩

theorem jP (va:Value)(X:List Nat)(n:Nat)(w:World)(hA:Arg w va X)(hT:Tab w)(hl:X.length≤1048577)(hx:0<val X)(hn0:0<n)(hn:n≤9223372036854775807) :
  Calls Tryz.prog 104 #[va,.int .i64 n] w fun e w'=>Below w.heap.size w w'∧Res w' w.heap.size e (val X ^ n):=by
 obtain⟨x,hxx⟩:∃x,val X=x:=⟨_,rfl⟩
 rw [hxx] at hx ⊢
 have HF:=cu 1 w (by omega)
 have HLN:=fun W=>Tryz.bits_Len (n:Int) W (by omega) (by omega)
 rw [Int.toNat_natCast] at HLN
 have wn:IntKind.u64.wrap (n:Int)=(n:Int):=by rw [IntKind.wrap_u64];omega
 obtain⟨L,hL⟩:∃L,Lib.bitLen n=L:=⟨_,rfl⟩
 have hnl:n<2 ^ L:=by
  obtain⟨_,_,h3⟩:=Lib.bitLenAux_bounds 64 n (by omega) (by omega)
  rw [←hL];exact h3
 have hL64:L≤64:=by rw [←hL];exact Lib.bitLen_le n 64 (by omega) (by omega)
 rw [hL] at HLN
 obtain⟨a1,c1,rfl,_,_,_⟩:=hA.form
 have HA:=aa hA
 have HT:=aa hT
 have HX:=aa (And.intro hxx hx)
 have HN:=aa (And.intro hnl hn0)
 clear hA hT hxx hx hL hnl hn0
 go_enter Tryz.func104,Tryz.ntmps104
 go_wp2_with fail
 refine HF.mono ?_
 rintro e w1 ⟨⟨v1,rfl,A1⟩,hb1⟩
 have ST:=aa (And.intro (Nv.of A1 (x:=1) (by rw [val_tr];simp [val]) (tr_tr _) (by decide)) hb1)
 clear HF A1 hb1
 go_wp2_with fail
 refine (HLN _).mono ?_
 rintro e wn' ⟨rfl,hw⟩;rw [hw];clear hw wn' HLN
 go_wp2
 go_loopw [6,7,8] (fun v c i wr=>∃(k:Nat),c=.int .i64 0∧i=.int .i64 ((k:Int) - 1)∧k≤L∧Nv wr w.heap.size v (x ^ (n / 2 ^ k))∧Below w.heap.size w wr) (fun _ _ i _=>(intOf i+1).toNat)
 case atStart=>
  refine⟨L,rfl,rfl,Nat.le_refl _,?_,ST.out.2⟩
  rw [Nat.div_eq_of_lt HN.out.1,Nat.pow_zero]
  exact ST.out.1
 case round=>
  obtain⟨k,rfl,rfl,hk,hnv,hbel⟩:=hrel
  have HNV:=aa hnv
  have HB:=aa hbel
  clear hnv hbel ST
  by_cases hk0:k=0
  ·subst hk0
   have h:=HNV.out
   rw [Nat.pow_zero,Nat.div_one] at h
   have HE:=aa h
   clear h
   go_wp2
   go_returns
   refine⟨HB.out,Res.of_nv HE.out ?_⟩
   obtain⟨rs,h1,h2,h3,h4⟩:=HE.out
   rw [←h2]
   have:=(blen_le_iff (val rs) (64*rs.length)).2 (by have:=val_lt h1.limbs;rw [show (18446744073709551616:Nat)=2 ^ 64 from rfl,←Nat.pow_mul] at this;exact this)
   omega
  ·obtain⟨j,rfl⟩:∃j,k=j+1:=⟨k - 1,by omega⟩
   have ej:(((j+1:Nat):Int) - 1)=(j:Int):=by omega
   rw [ej]
   have hj0:(0:Int)≤(j:Int):=by omega
   have hj64:j<64:=by omega
   obtain⟨rs,A1,e1,_,l1⟩:=HNV.out.arg
   have HS:=e9 _ rs wr A1 (HT.out.below HB.out) (by omega)
   have e2:val rs*val rs=x ^ (2*(n / 2 ^ (j+1))):=by rw [e1,←Nat.pow_add];congr 1;omega
   rw [e2] at HS
   have hst:=gg n j
   have hle:n / 2 ^ j≤n:=Nat.div_le_self _ _
   have hsh:(n:Int) / 2 ^ j=((n / 2 ^ j:Nat):Int):=by rw [Int.natCast_ediv,Int.natCast_pow];rfl
   have hand:=gh ((n / 2 ^ j:Nat):Int)
   have hm2:((n / 2 ^ j:Nat):Int) % 2=((n / 2 ^ j % 2:Nat):Int):=by omega
   rw [hm2] at hand
   have wj:IntKind.i64.wrap (((n / 2 ^ j:Nat)):Int)=(((n / 2 ^ j:Nat)):Int):=by rw [IntKind.wrap_i64];omega
   generalize n / 2 ^ (j+1)=p at *
   obtain⟨q,hq⟩:∃q,n / 2 ^ j=q:=⟨_,rfl⟩
   rw [hq] at hst hle hsh hand hm2 wj
   have HQ:=aa (And.intro hst hle)
   have HQD:=aa hq
   clear hq
   clear A1 e1 e2 l1 ej hk0 hst
   go_wp2_with fail
   refine HS.mono ?_
   rintro e w2 ⟨hb2,hr⟩
   have HB2:=aa (HB.out.trans (hb2.mono HB.out.size))
   rcases hr.parts with ⟨v2,rfl,N2,bl2⟩|⟨v2,rfl,bl2⟩
   ·have HN2:=aa N2
    clear HS hb2 hr N2 bl2
    rcases Nat.mod_two_eq_zero_or_one q with h0|h1
    ·rw [h0] at hand
     have HEQ:Hid (2*p=q):=aa (by have:=HQ.out.1;omega)
     clear h0
     go_wp2
     go_roundw
     case rel=>exact⟨j,rfl,rfl,by omega,by rw [HQD.out,←HEQ.out];exact HN2.out.base HB.out.size,HB2.out⟩
     case measure=>simp [intOf]
    ·rw [h1] at hand
     have HEQ:Hid (2*p+1=q):=aa (by have:=HQ.out.1;omega)
     obtain⟨rs2,A2,e2,_,l2⟩:=HN2.out.arg
     have HM:=cL v2 _ rs2 X w2 A2 (HA.out.below HB2.out) (HT.out.below HB2.out) (by omega)
     have e3:val rs2*val X=x ^ q:=by rw [e2,HX.out.1,←HEQ.out,Nat.pow_succ]
     rw [e3] at HM
     clear h1 A2 e2 l2 e3
     go_wp2_with fail
     refine HM.mono ?_
     rintro e w3 ⟨hb3,hr⟩
     have HB3:=aa (HB2.out.trans (hb3.mono HB2.out.size))
     rcases hr.parts with ⟨v3,rfl,N3,bl3⟩|⟨v3,rfl,bl3⟩
     ·have HN3:=aa N3
      clear HM hb3 hr N3 bl3
      go_wp2
      go_roundw
      case rel=>exact⟨j,rfl,rfl,by omega,by rw [HQD.out];exact HN3.out.base HB2.out.size,HB3.out⟩
      case measure=>simp [intOf]
     ·have HBG:=aa (Nat.lt_of_lt_of_le bl3 (cF (d9 HX.out.2 HQ.out.2)))
      clear HM hb3 hr bl3
      go_wp2
      go_returns
      exact⟨HB3.out,Res.big HBG.out⟩
   ·have HBG:=aa (Nat.lt_of_lt_of_le bl2 (cF (d9 (n:=n) (k:=2*p) HX.out.2 (by have:=HQ.out;omega))))
    clear HS hb2 hr bl2
    go_wp2
    go_returns
    exact⟨HB2.out,Res.big HBG.out⟩

theorem dV {x:Nat}(h:1<blen x):2≤x:=by
 refine Nat.le_of_not_lt fun hlt=>?_
 have:blen x≤1:=(blen_le_iff x 1).2 (by omega)
 omega

theorem j4 {x n:Nat}(hx:1<blen x)(h:67108863<(blen x - 1)*n):67108864<blen (x ^ n):=by
 have h1:=dA x (by have:=dV hx;omega)
 have h2:2 ^ ((blen x - 1)*n)≤x ^ n:=by rw [Nat.pow_mul];exact Nat.pow_le_pow_left h1 n
 refine Nat.lt_of_not_le fun hle=>?_
 have h3:=(blen_le_iff (x ^ n) _).1 (Nat.le_refl (blen (x ^ n)))
 have h4:(blen x - 1)*n<blen (x ^ n):=(Nat.pow_lt_pow_iff_right (by omega)).1 (Nat.lt_of_le_of_lt h2 h3)
 omega

theorem gt {x t:Nat}(h:aO x t):x=x / 2 ^ t*2 ^ t∧0<x / 2 ^ t:=by
 obtain⟨h1,h2⟩:=h
 have h3:=Nat.div_add_mod x (2 ^ t)
 rw [h1,Nat.mul_comm] at h3
 refine⟨h3.symm,?_⟩
 generalize x / 2 ^ t=q at *
 rcases Nat.eq_zero_or_pos q with h|h
 ·rw [h] at h2;simp at h2
 ·exact h

theorem dk (va:Value)(X:List Nat)(n:Nat)(w:World)(hA:Arg w va X)(hT:Tab w)(hl:X.length≤17592186044416)(hn:n≤9223372036854775807) :
  Calls Tryz.prog 76 #[va,.int .i64 n] w fun e w'=>Below w.heap.size w w'∧Res w' w.heap.size e (val X ^ n):=by
 have HL:=az _ _ w hA
 obtain⟨L,hL⟩:∃L,blen (val X)=L:=⟨_,rfl⟩
 rw [hL] at HL
 have hLb:L≤64*X.length:=by
  rw [←hL]
  exact (blen_le_iff _ _).2 (by have:=val_lt hA.limbs;rw [show (18446744073709551616:Nat)=2 ^ 64 from rfl,←Nat.pow_mul] at this;exact this)
 by_cases h0:n=0
 ·subst h0
  have HF:=cu 1 w (by omega)
  have HR:Hid (∀w' v,Ans w' w.heap.size v (tr [1])→Res w' w.heap.size (.returned (.tuple #[v,.int .i64 0])) (val X ^ 0)):=aa fun w' v h=>⟨v,0,_,rfl,h,.inl ⟨rfl,by rw [val_tr];simp [val],tr_tr _,by rw [Nat.pow_zero];decide⟩⟩
  clear hA hT hL
  go_enter Tryz.func76,Tryz.ntmps76
  go_wp2_with fail
  refine HL.mono ?_
  rintro e wn ⟨rfl,hw⟩;rw [hw];clear hw wn HL
  go_wp2_with fail
  refine HF.mono ?_
  rintro e w1 ⟨⟨v1,rfl,A1⟩,hb1⟩
  have H:=aa (And.intro A1 hb1)
  clear HF A1 hb1
  go_wp2
  go_returns
  exact⟨H.out.2,HR.out _ _ H.out.1⟩
 ·have hz:((n:Int) == 0)=false:=by rw [beq_eq_false_iff_ne];omega
  have hnn:¬((n:Int)<0):=by omega
  by_cases h1:L≤1
  ·have HN:=cN va X w hA hl
   have i1:(L:Int)≤1:=by omega
   have hx1:val X ^ n=val X:=by
    have:val X<2 ^ 1:=(blen_le_iff _ 1).1 (by rw [hL];exact h1)
    rcases Nat.eq_zero_or_pos (val X) with h|h
    ·rw [h];exact Nat.zero_pow (by omega)
    ·rw [show val X=1 by omega,Nat.one_pow]
   rw [hx1]
   have HX:=aa (show blen (val X)≤67108864 by omega)
   clear hA hT hL hx1
   go_enter Tryz.func76,Tryz.ntmps76
   go_wp2_with fail
   refine HL.mono ?_
   rintro e wn ⟨rfl,hw⟩;rw [hw];clear hw wn HL
   go_wp2_with fail
   refine HN.mono ?_
   rintro e w1 ⟨⟨v1,rfl,A1⟩,hb1⟩
   have H:=aa (And.intro A1 hb1)
   clear HN A1 hb1
   go_wp2
   go_returns
   exact⟨H.out.2,_,0,_,rfl,H.out.1,.inl ⟨rfl,val_tr _,tr_tr _,HX.out⟩⟩
  ·have i1:¬((L:Int)≤1):=by omega
   obtain⟨M,hM⟩:∃M,L=M+1:=⟨L - 1,by omega⟩
   have eM:(L:Int) - 1=(M:Int):=by omega
   obtain⟨Q,hQ⟩:∃Q,67108863 / n=Q:=⟨_,rfl⟩
   have eQ:(67108863:Int) / (n:Int)=(Q:Int):=by rw [←hQ,Int.natCast_ediv];rfl
   have hQl:Q≤67108863:=by rw [←hQ];exact Nat.div_le_self _ _
   by_cases h2:Q<M
   ·have i2:(Q:Int)<(M:Int):=by omega
    have HB:Hid (67108864<blen (val X ^ n)):=by
     refine aa (j4 (by omega) ?_)
     rw [hL,hM,Nat.add_sub_cancel]
     rw [←hQ] at h2
     exact (Nat.div_lt_iff_lt_mul (by omega)).1 h2
    clear hA hT hL hM hQ
    go_enter Tryz.func76,Tryz.ntmps76
    go_wp2_with fail
    refine HL.mono ?_
    rintro e wn ⟨rfl,hw⟩;rw [hw];clear hw wn HL
    go_wp2
    go_returns
    exact⟨Below.refl _ _,Res.big HB.out⟩
   ·have i2:¬((Q:Int)<(M:Int)):=by omega
    have hMn:M*n≤67108863:=by
     have:M≤67108863 / n:=by omega
     exact (Nat.le_div_iff_mul_le (by omega)).1 this
    have HTL:=kG va X w hA hT
    have HA:=aa hA
    have HT:=aa hT
    have hx2:2≤val X:=dV (by omega)
    have HX:=aa (And.intro hL (And.intro hM (And.intro hMn hx2)))
    clear hA hT hL hM hQ hMn hx2
    go_enter Tryz.func76,Tryz.ntmps76
    go_wp2_with fail
    refine HL.mono ?_
    rintro e wn ⟨rfl,hw⟩;rw [hw];clear hw wn HL
    go_wp2_with fail
    refine HTL.mono ?_
    rintro e wn ⟨⟨t,ht,rfl,_,htl⟩,hw⟩;rw [hw];clear hw wn HTL
    have hit:=htl (by have:=HX.out.2.2.2;omega)
    obtain⟨od1,od2⟩:=gt hit
    have htM:t≤M:=by
     have h3:2 ^ t≤val X:=by rw [od1];exact Nat.le_mul_of_pos_left _ od2
     have h4:=(blen_le_iff (val X) _).1 (Nat.le_refl _)
     have h5:t<blen (val X):=(Nat.pow_lt_pow_iff_right (by omega)).1 (Nat.lt_of_le_of_lt h3 h4)
     have:=HX.out.1
     have:=HX.out.2.1
     omega
    have hM26:M≤67108863:=by
     have:=HX.out.2.2.1
     have:=Nat.le_mul_of_pos_right M (show 0<n by omega)
     omega
    have HR:=lg va X t w HA.out (by omega) (by omega)
    have HO:=aa (And.intro od1 (And.intro od2 htM))
    clear htl hit od1 od2 ht
    go_wp2_with fail
    refine HR.mono ?_
    rintro e w1 ⟨hb1,hr1⟩
    have hble:blen (val X / 2 ^ t)≤blen (val X):=cF (Nat.div_le_self _ _)
    obtain⟨v1,rfl,N1⟩:=hr1.fits (by have:=HX.out.1;have:=HX.out.2.1;omega)
    obtain⟨rs1,A1,e1,_,l1⟩:=N1.arg
    have HP:=jP v1 rs1 n w1 A1 (HT.out.below hb1) (by omega) (by rw [e1];exact HO.out.2.1) (by omega) hn
    rw [e1] at HP
    have HB1:=aa hb1
    clear HR hb1 hr1 hble N1 A1 e1 l1
    go_wp2_with fail
    refine HP.mono ?_
    rintro e w2 ⟨hb2,hr2⟩
    have HB2:=aa (HB1.out.trans (hb2.mono HB1.out.size))
    have hpw:(val X / 2 ^ t) ^ n*2 ^ (t*n)=val X ^ n:=by
     rw [Nat.pow_mul,←Nat.mul_pow,←HO.out.1]
    have htn:t*n≤67108863:=Nat.le_trans (Nat.mul_le_mul_right n HO.out.2.2) HX.out.2.2.1
    obtain⟨u,hu,eu⟩:∃u:Nat,t*n=u∧(t:Int)*(n:Int)=(u:Int):=⟨t*n,rfl,by rw [Int.natCast_mul]⟩
    rw [hu] at hpw htn
    rcases hr2.parts with ⟨v2,rfl,N2,bl2⟩|⟨v2,rfl,bl2⟩
    ·obtain⟨rs2,A2,e2,_,l2⟩:=N2.arg
     have HLF:=i7 v2 rs2 u w2 A2 (by omega) (by omega)
     rw [e2,hpw] at HLF
     clear HP hb2 hr2 N2 A2 e2 l2 bl2 hpw hu
     go_wp2_with fail
     refine HLF.mono ?_
     rintro e w3 ⟨hb3,v3,c3,rs3,rfl,A3,h3⟩
     have H:=aa (And.intro (A3.base HB2.out.size) (And.intro h3 (HB2.out.trans (hb3.mono HB2.out.size))))
     clear HLF hb3 A3 h3
     go_wp2
     go_returns
     exact⟨H.out.2.2,v3,c3,rs3,rfl,H.out.1,H.out.2.1⟩
    ·have HBG:=aa (Nat.lt_of_lt_of_le bl2 (cF (show (val X / 2 ^ t) ^ n≤val X ^ n by rw [←hpw];exact Nat.le_mul_of_pos_right _ (Nat.two_pow_pos _))))
     clear HP hb2 hr2 bl2 hpw hu
     go_wp2
     go_returns
     exact⟨HB2.out,Res.big HBG.out⟩

def aw:List (Nat × Value × Nat)→List Value
 | []=>[]
 | (d,o,s) :: l=>.int .i64 d :: o :: .int .i64 s :: aw l

theorem jF (l:List (Nat × Value × Nat))(d:Nat)(o:Value)(s:Nat):aw (l ++ [(d,o,s)])=aw l ++ [.int .i64 d,o,.int .i64 s]:=by
 induction l with
 | nil=>rfl
 | cons p l ih=>obtain⟨d,o,s⟩:=p;simp [aw,ih]

theorem iR (l:List (Nat × Value × Nat)):∀(i d:Nat) (o:Value) (s:Nat),l[i]?=some (d,o,s)→(aw l)[i*3]?=some (.int .i64 d)∧(aw l)[i*3+1]?=some o∧(aw l)[i*3+2]?=some (.int .i64 s):=by
 induction l with
 | nil=>intro i d o s h;simp at h
 | cons p l ih=>
  obtain⟨d0,o0,s0⟩:=p
  intro i d o s h
  cases i with
  | zero=>simp at h;obtain⟨rfl,rfl,rfl⟩:=h;exact⟨rfl,rfl,rfl⟩
  | succ i=>
   obtain⟨h1,h2,h3⟩:=ih i d o s (by simpa using h)
   have e1:(i+1)*3=i*3+1+1+1:=by omega
   rw [e1]
   exact⟨by simpa [aw] using h1,by simpa [aw] using h2,by simpa [aw] using h3⟩

def bt (w:World)(b n:Nat)(p:Nat × Value × Nat):Prop:=
 ∃a O c,p.2.1=.slice a O.length c∧Arg w p.2.1 O∧18446744073709551616 ^ p.2.2*val O=b ^ p.1∧1≤p.1∧p.1<n∧val O≠0∧O.length≤1048576∧blen (val O)≤67108864∧p.2.2≤1125899906842624

theorem bt.below {w w':World}{b n:Nat}{p:Nat × Value × Nat}(h:bt w b n p)(hb:Below w.heap.size w w'):bt w' b n p:=by
 obtain⟨a,O,c,h1,h2,h3⟩:=h
 exact⟨a,O,c,h1,h2.below hb,h3⟩

def be (w:World)(v:Value)(b n:Nat):Prop:=∃l,aW w v l∧∀p ∈ l,bt w b n p

theorem aW.below {w w':World}{v:Value}{l:List (Nat × Value × Nat)}(h:aW w v l)(hb:Below w.heap.size w w'):aW w' v l:=by
 rcases h with h|⟨g,cap,h1,h2,h3,h4,h5⟩
 ·exact .inl h
 ·refine .inr ⟨g,cap,h1,Nat.lt_of_lt_of_le h2 hb.size,h3,h4,fun i d o s hi=>?_⟩
  obtain⟨q1,q2,q3,q4⟩:=h5 i d o s hi
  have e:∀k,w'.cell? ⟨g,k,none⟩=w.cell? ⟨g,k,none⟩:=fun k=>World.cell?_of_block (hb.block g h2)
  rw [e,e,e]
  exact⟨q1,q2,q3,q4⟩

theorem be.below {w w':World}{v:Value}{b n:Nat}(h:be w v b n)(hb:Below w.heap.size w w'):be w' v b n:=by
 obtain⟨l,h1,h2⟩:=h
 exact⟨l,h1.below hb,fun p hp=>(h2 p hp).below hb⟩

theorem Ans.grown5 {w w':World}{base:Nat}{v:Value}{zs:List Nat}{row:Option Nat}(h:Ans w base v zs)(hg:w.grownBy w' row)(hne:v.ownBlock=none∨v.ownBlock≠row):Ans w' base v zs:=by
 refine⟨?_,h.limbs⟩
 obtain⟨h1,h2⟩:=h.own
 refine⟨h1,?_⟩
 rcases h2 with h2|⟨g',cap,cur,hv,hg',hh,r⟩
 ·exact .inl h2
 ·refine .inr ⟨g',cap,cur,hv,hg',?_,r⟩
  rw [hg.block g' (lt_of_block hh) ?_]
  ·exact hh
  ·rcases hne with hne|hne
   ·rw [hv] at hne;cases hne
   ·rw [hv] at hne;exact hne

def gI (w:World)(row:Option Nat)(f t n:Nat)(p:Nat × Value × Nat):Prop:=
 ∃O,Ans w 0 p.2.1 O∧val O=f ^ p.1∧64*p.2.2=t*p.1∧1≤p.1∧p.1<n∧O.length≤1048576∧blen (val O)≤67108864∧(p.2.1.ownBlock=none∨p.2.1.ownBlock≠row)

theorem my:(Tryz.prog.info? 88).map (fun i=>(i.zero,i.size,i.bytes))=some (some (.agg #[.int .i64 0,.slice none 0 0,.int .i64 0]),3,40):=by kernel_rfl

theorem eA {w:World}{base:Nat}{v:Value}{zs:List Nat}(h:Ans w base v zs){g:Nat}(hg:v.ownBlock=some g):base≤g∧g<w.heap.size:=by
 obtain⟨_,h2⟩:=h.own
 rcases h2 with ⟨rfl,_⟩|⟨g',cap,cur,rfl,hg',hh,_⟩
 ·cases hg
 ·simp [Value.ownBlock] at hg
  subst hg
  exact⟨hg',lt_of_block hh⟩

theorem iT {w:World}{base:Nat}{v:Value}{l:List (Nat × Value × Nat)}(ho:w.ownsRow base 88 3 v l.length (aw l))(hs:∀p ∈ l,p.1≤9223372036854775807∧p.2.2≤9223372036854775807∧∃a n c,p.2.1=.slice a n c):aW w v l:=by
 obtain⟨h1,h2⟩:=ho
 rcases h2 with ⟨rfl,h3⟩|⟨g,cap,cur,rfl,hge,hh,hle,hml,hsz,htk⟩
 ·exact .inl ⟨rfl,List.length_eq_zero_iff.1 h3⟩
 ·refine .inr ⟨g,cap,rfl,lt_of_block hh,hle,by have:maxLen=9223372036854775807:=rfl;omega,fun i d o s hi=>?_⟩
  obtain⟨q1,q2,q3⟩:=iR l i d o s hi
  have hil:i<l.length:=(List.getElem?_eq_some_iff.1 hi).1
  have e:∀k,k<l.length*3→w.cell? ⟨g,k,none⟩=(aw l)[k]?:=fun k hk=>by
   have:(aw l)[k]?=cur.toList[k]?:=by rw [←htk,List.getElem?_take,if_pos hk]
   rw [this]
   simp [World.cell?,hh]
  rw [e _ (by omega),e _ (by omega),e _ (by omega)]
  obtain⟨r1,r2,r3⟩:=hs _ (List.mem_of_getElem? hi)
  exact⟨q1,q2,q3,r1,r2,r3⟩

def PSt (base F t n:Nat)(w:World)(v:Value)(l:List (Nat × Value × Nat)):Prop:=w.ownsRow base 88 3 v l.length (aw l)∧∀p ∈ l,gI w v.ownBlock F t n p

theorem fF {w w':World}{base sz m:Nat}{e:TypeId}{v:Value}{xs:List Value}(h:w.ownsRow base e sz v m xs)(hb:Below w.heap.size w w'):w'.ownsRow base e sz v m xs:=by
 obtain⟨h1,h2⟩:=h
 refine⟨h1,?_⟩
 rcases h2 with h2|⟨g,cap,cur,hv,hg,hh,r⟩
 ·exact .inl h2
 ·exact .inr ⟨g,cap,cur,hv,hg,by rw [hb.block g (lt_of_block hh)];exact hh,r⟩

theorem bV {w:World}{base sz m:Nat}{e:TypeId}{v:Value}{xs:List Value}(h:w.ownsRow base e sz v m xs):∀g,v.ownBlock=some g→g<w.heap.size:=by
 obtain⟨h1,h2⟩:=h
 intro g hg
 rcases h2 with ⟨rfl,_⟩|⟨g',cap,cur,rfl,_,hh,_⟩
 ·cases hg
 ·simp [Value.ownBlock] at hg
  subst hg
  exact lt_of_block hh

theorem cm {w:World}{base sz m:Nat}{e:TypeId}{v:Value}{xs:List Value}(h:w.ownsRow base e sz v m xs):∀g,v.ownBlock=some g→base≤g:=by
 obtain⟨h1,h2⟩:=h
 intro g hg
 rcases h2 with ⟨rfl,_⟩|⟨g',cap,cur,rfl,hge,_⟩
 ·cases hg
 ·simp [Value.ownBlock] at hg
  subst hg
  exact hge

theorem PSt.below {base F t n:Nat}{w w':World}{v:Value}{l:List (Nat × Value × Nat)}(h:PSt base F t n w v l)(hb:Below w.heap.size w w'):PSt base F t n w' v l:=by
 refine⟨fF h.1 hb,fun p hp=>?_⟩
 obtain⟨O,h1,h2⟩:=h.2 p hp
 exact⟨O,h1.below hb,h2⟩

theorem PSt.step {base F t n:Nat}{w w':World}{v v':Value}{l:List (Nat × Value × Nat)}{o:Obj}{d s bo:Nat}{vo:Value}{O:List Nat}(h:PSt base F t n w v l)(ho:Ans w bo vo O)(hv:∀g,v.ownBlock=some g→g<bo)
  (hval:val O=F ^ d) (hs:64*s=t*d) (h1:1≤d) (h2:d<n) (hl:O.length≤1048576) (hb:blen (val O)≤67108864)
  (hown:w'.ownsRow base 88 3 v' (l.length+1) (aw l ++ [.int .i64 d,vo,.int .i64 s])) (hgrow:(w.alloc o).grownBy w' v.ownBlock) (hat:v'.ownBlock=v.ownBlock∨v'.ownBlock=some (w.alloc o).heap.size):PSt base F t n w' v' (l ++ [(d,vo,s)]):=by
 have hal:Below w.heap.size w (w.alloc o):=ac w o
 have key:∀(u:Value) (B0:Nat) (U:List Nat),Ans w B0 u U→(u.ownBlock=none∨u.ownBlock≠v.ownBlock)→Ans w' B0 u U∧(u.ownBlock=none∨u.ownBlock≠v'.ownBlock):=by
  intro u B0 U hu hne
  refine⟨(hu.below hal).grown5 hgrow hne,?_⟩
  rcases hat with e|e
  ·rw [e];exact hne
  ·rcases hub:u.ownBlock with _|g
   ·exact .inl rfl
   ·have:=(eA hu hub).2
    rw [e]
    refine .inr fun h=>?_
    have h:=Option.some.inj h
    have:=hal.size
    omega
 refine⟨by rw [jF,List.length_append];exact hown,fun p hp=>?_⟩
 rcases List.mem_append.1 hp with hp|hp
 ·obtain⟨U,q1,q2,q3,q4,q5,q6,q7,q8⟩:=h.2 p hp
  obtain⟨r1,r2⟩:=key _ _ _ q1 q8
  exact⟨U,r1,q2,q3,q4,q5,q6,q7,r2⟩
 ·simp at hp
  subst hp
  obtain⟨r1,r2⟩:=key vo bo O ho (by
   rcases hub:vo.ownBlock with _|g
   ·exact .inl rfl
   ·refine .inr fun h=>?_
    have h3:=hv g h.symm
    have h4:=(eA ho hub).1
    omega)
  exact⟨O,r1.base (Nat.zero_le _),hval,hs,h1,h2,hl,hb,r2⟩

theorem PSt.ok {base F t n b:Nat}{w:World}{v:Value}{l:List (Nat × Value × Nat)}(h:PSt base F t n w v l)(hb:b=2 ^ t*F)(hF:1≤F)(ht:t≤5)(hn:n≤1125899906842624):∀p ∈ l,bt w b n p:=by
 intro p hp
 obtain⟨O,q1,q2,q3,q4,q5,q6,q7,_⟩:=h.2 p hp
 have hA:=q1.arg (by omega)
 obtain⟨a,c,e,_,_,_⟩:=hA.form
 have hts:t*p.1≤5*p.1:=Nat.mul_le_mul_right _ ht
 refine⟨a,O,c,e,hA,?_,q4,q5,?_,q6,q7,by omega⟩
 ·rw [q2,hb,Nat.mul_pow,←Nat.pow_mul,←q3,Nat.pow_mul]
 ·rw [q2]
  exact Nat.pos_iff_ne_zero.1 (Nat.pow_pos (by omega))

theorem PSt.at {base F t n b:Nat}{w:World}{v:Value}{l:List (Nat × Value × Nat)}(h:PSt base F t n w v l)(hb:b=2 ^ t*F)(hF:1≤F)(ht:t≤5)(hn:n≤1125899906842624):aW w v l:=by
 refine iT h.1 (fun p hp=>?_)
 obtain⟨a,O,c,e,_,_,_,q,_,_,_,r⟩:=h.ok hb hF ht hn p hp
 exact⟨by omega,by omega,a,_,c,e⟩

theorem PSt.pows {base F t n b:Nat}{w:World}{v:Value}{l:List (Nat × Value × Nat)}(h:PSt base F t n w v l)(hb:b=2 ^ t*F)(hF:1≤F)(ht:t≤5)(hn:n≤1125899906842624):be w v b n:=
 ⟨l,h.at hb hF ht hn,h.ok hb hF ht hn⟩

theorem cg {w:World}(l:List Value)(t:TypeId)(j:Nat)(u:Value)(hj:l[j]?=some u):(w.alloc (.cells l.toArray t)).cell? ((⟨w.heap.size,0,none⟩:Addr).add j)=some u:=by
 have e:(⟨w.heap.size,0,none⟩:Addr).add j=⟨w.heap.size,j,none⟩:=by
  unfold Addr.add;split <;> simp_all
 rw [e]
 simp only [World.cell?,heap_alloc_new]
 simpa using hj

theorem fR (v1 v2:Value)(x y:Nat)(w:World)(h1:Num w v1 x)(h2:Num w v2 y) :
  Calls Tryz.prog 61 #[v1,v2] w fun e w'=>e=.returned (.int .i64 (cmpN x y))∧af w w':=by
 obtain⟨Z,hA1,hZ,hZt,rfl,hZl⟩:=h1
 obtain⟨Y,hA2,hY,hYt,rfl,hYl⟩:=h2
 obtain⟨a1,c1,rfl,hc1,hm1,L1⟩:=hA1.form
 obtain⟨a2,c2,rfl,hc2,hm2,L2⟩:=hA2.form
 clear hA1 hA2
 by_cases hl:Z.length=Y.length
 ·have HL:=aa hl.symm
  rw [←hl] at hc2 hYl ⊢
  clear hl
  have hne:((Z.length:Int) != (Z.length:Int))=false:=by simp
  go_enter Tryz.func61,Tryz.ntmps61
  go_wp2
  go_loopw [5] (fun i wr=>∃k:Nat,k≤Z.length∧i=.int .i64 ((k:Int) - 1)∧af w wr∧cmpN (vb 4294967296 (Z.take k)) (vb 4294967296 (Y.take k))=cmpN (vb 4294967296 Z) (vb 4294967296 Y)) (fun i _=>(intOf i+1).toNat)
  case atStart=>exact⟨Z.length,Nat.le_refl _,by go_num,af.refl _,by rw [List.take_length,←HL.out,List.take_length]⟩
  case round=>
   obtain⟨k,hk,rfl,hs,hv⟩:=hrel
   have HV:=aa hv
   have HS:=aa hs
   clear hv
   by_cases hk0:k=0
   ·subst hk0
    have HN:Hid (cmpN (vb 4294967296 Z) (vb 4294967296 Y)=0):=aa (by rw [←HV.out];rfl)
    clear HV L1 L2 hs
    go_wp2
    go_ret
    rw [HN.out]
    exact⟨rfl,HS.out⟩
   ·obtain⟨j,rfl⟩:∃j,k=j+1:=⟨k - 1,by omega⟩
    rcases L1.below (hs.below _) with h0|⟨b,off,rfl,hcell⟩
    ·simp [h0] at hk
    ·rcases L2.below (hs.below _) with h0|⟨b',off',rfl,hcell'⟩
     ·have:=HL.out;simp [h0] at this;omega
     ·have hck:=hcell j (by omega)
      have hck':=hcell' j (by have:=HL.out;omega)
      have ej:((j+1:Nat):Int) - 1=(j:Int):=by omega
      have ej2:(j:Int)+1 - 1=(j:Int):=by omega
      rw [ej]
      have hi1:(0:Int)≤(j:Int):=by omega
      have hi2:(j:Int)<(Z.length:Int):=by omega
      rcases Nat.lt_trichotomy (Z.getD j 0) (Y.getD j 0) with hxy|hxy|hxy
      ·have HN:Hid (cmpN (vb 4294967296 Z) (vb 4294967296 Y)=-1):=aa (by rw [←HV.out,vcmp_top hZ hY _ (by omega),cmpN_lt hxy])
       generalize Z.getD j 0=a at *
       generalize Y.getD j 0=c at *
       have i1:(a:Int)<(c:Int):=by omega
       clear hcell hcell' HV L1 L2 hs
       go_wp2
       go_quiet (fail)
       go_wp2
       go_ret
       rw [HN.out]
       exact⟨rfl,HS.out.drewN _⟩
      ·have HN:Hid (cmpN (vb 4294967296 (Z.take j)) (vb 4294967296 (Y.take j))=cmpN (vb 4294967296 Z) (vb 4294967296 Y)):=aa (by rw [←HV.out,vcmp_same _ hxy])
       rw [hxy] at hck
       generalize Y.getD j 0=c at *
       have hd1:decide ((c:Int)<(c:Int))=false:=decide_eq_false (by omega)
       clear hcell hcell' HV L1 L2 hs hxy
       go_wp2
       go_quiet (fail)
       go_wp2
       go_quiet (fail)
       go_wp2
       go_roundw
       case rel=>exact⟨j,by omega,by go_num,by first|exact (HS.out.drewN _).drewN _|exact HS.out.drewN _,HN.out⟩
       case measure=>simp [intOf]
      ·have HN:Hid (cmpN (vb 4294967296 Z) (vb 4294967296 Y)=1):=aa (by rw [←HV.out,vcmp_top hZ hY _ (by omega),cmpN_gt hxy])
       generalize Z.getD j 0=a at *
       generalize Y.getD j 0=c at *
       have i1:(c:Int)<(a:Int):=by omega
       have hd1:decide ((a:Int)<(c:Int))=false:=decide_eq_false (by omega)
       clear hcell hcell' HV L1 L2 hs
       go_wp2
       go_quiet (fail)
       go_wp2
       go_quiet (fail)
       go_wp2
       go_ret
       rw [HN.out]
       exact⟨rfl,by first|exact (HS.out.drewN _).drewN _|exact HS.out.drewN _⟩
 ·have hne:((Z.length:Int) != (Y.length:Int))=true:=by rw [bne_iff_ne];omega
  rcases Nat.lt_or_gt_of_ne hl with hlt|hlt
  ·rw [cmpN_lt (vb_shorter hZ hYt hlt)]
   have i1:(Z.length:Int)<(Y.length:Int):=by omega
   clear L1 L2
   go_enter Tryz.func61,Tryz.ntmps61
   go_wp2
   go_ret
   exact⟨rfl,af.refl _⟩
  ·rw [cmpN_gt (vb_shorter hY hZt hlt)]
   have hd1:decide ((Z.length:Int)<(Y.length:Int))=false:=decide_eq_false (by omega)
   have i1:(Y.length:Int)<(Z.length:Int):=by omega
   clear L1 L2
   go_enter Tryz.func61,Tryz.ntmps61
   go_wp2
   go_ret
   exact⟨rfl,af.refl _⟩

theorem ch {ds:List Nat}(hd:Digs 4294967296 ds)(ht:tr ds=ds)(L:Nat)(hb:blen (vb 4294967296 ds)≤32*L):ds.length≤L:=by
 refine Nat.le_of_not_lt fun hlt=>?_
 obtain⟨n,hn⟩:∃n,ds.length=n+1:=⟨ds.length - 1,by omega⟩
 have h1:=blen_vb hd ht n hn
 have h2:=blen_half _ (tr_last' ds n ht hn)
 omega

theorem bD {ds:List Nat}(n:Nat)(h:ds.length≤n):vb 4294967296 (ds.take n)=vb 4294967296 ds:=by rw [List.take_of_length_le h]

theorem eE {X Y out:List Nat}(hX:Digs 4294967296 X)(hY:Digs 4294967296 Y)(n cy:Nat)(h1:X.length≤n)(h2:Y.length≤n)(ho:out.length=n+1)
  (h:vb 4294967296 (out.take (n+1))+cy*4294967296 ^ (n+1)=vb 4294967296 (X.take (n+1))+vb 4294967296 (Y.take (n+1))):vb 4294967296 out=vb 4294967296 X+vb 4294967296 Y:=by
 rw [bD _ (by omega),bD _ (by omega),bD _ (by omega)] at h
 have a:=vb_take_lt hX n
 have b:=vb_take_lt hY n
 rw [bD _ h1] at a
 rw [bD _ h2] at b
 rcases Nat.eq_zero_or_pos cy with h0|h0
 ·subst h0;omega
 ·exfalso
  have:=Nat.mul_le_mul_right (4294967296 ^ (n+1)) h0
  rw [Nat.pow_succ,B_pow] at this h
  omega

theorem gp (v1 v2:Value)(x y:Nat)(w:World)(h1:Num w v1 x)(h2:Num w v2 y)(f1:blen x≤1125899906840000)(f2:blen y≤1125899906840000) :
  Calls Tryz.prog 44 #[v1,v2] w fun e w'=>(∃v',e=.returned v'∧Num w' v' (x+y)∧New w.heap.size v')∧Below w.heap.size w w':=by
 obtain⟨X,A1,hX,hXt,rfl,_⟩:=h1
 obtain⟨Y,A2,hY,hYt,rfl,_⟩:=h2
 have lX:=ch hX hXt 35184372088750 (by omega)
 have lY:=ch hY hYt 35184372088750 (by omega)
 obtain⟨a1,c1,rfl,hc1,hm1,_⟩:=A1.form
 obtain⟨a2,c2,rfl,hc2,hm2,_⟩:=A2.form
 obtain⟨i0,hi,hz0,hz1,hz2⟩:=info_parts Tryz.infoU
 clear f1 f2 hXt hYt
 by_cases hl:X.length<Y.length
 ·have i1:(X.length:Int)<(Y.length:Int):=by omega
  go_enter Tryz.func44,Tryz.ntmps44
  go_wp2_with (at_make;refine wpList_make_full _ rfl _ _ 26 rfl w.heap.size 63 i0 (.int .u64 0) 1 Tryz.underlying26 hi hz0 hz1 .i64 .i64 _ _ (Y.length+1) rfl rfl (by omega) (by omega) (by rw [hz2];omega) (by unfold maxLen;omega) (Nat.le_refl _) ?_;intro w1 hown hgrow)
  have hb1:=Blk.made hown
  have hbel:Below w.heap.size w w1:=(Below.refl _ _).grown hgrow (Nat.le_refl _) (fun k hk=>by cases hk)
  clear hown hgrow hi hz0 hz1 hz2
  go_loopw [7,8] (fun c i wr=>∃(k cy:Nat) (out:List Nat),k≤Y.length+1∧i=.int .i64 k∧c=.int .u64 cy∧cy≤1∧out.length=Y.length+1∧Digs 4294967296 out∧Blk wr w.heap.size out∧Below w.heap.size w wr ∧
    vb 4294967296 (out.take k)+cy*4294967296 ^ k=vb 4294967296 (X.take k)+vb 4294967296 (Y.take k)) (fun _ i _=>Y.length+1 - (intOf i).toNat)
  case atStart=>exact⟨0,0,_,Nat.zero_le _,rfl,rfl,by omega,by simp,digs_replicate (by omega) _,hb1,hbel,by simp [vb]⟩
  case round=>
   obtain⟨k,cy,out,hk,rfl,rfl,hcy,hlen,hdo,hblk,hbl,hval⟩:=hrel
   clear hb1 hbel
   have HB:=aa hblk
   have HL:=aa hbl
   by_cases hkl:k≤Y.length
   ·have H1:=cf _ X k wr (A1.below hbl)
    have H2:=cf _ Y k wr (A2.below hbl)
    have hfr:=hblk.free k
    have hco:=hblk.cell k (by omega)
    generalize out.getD k 0=o at *
    have z1:=dig_lt (by omega) hX k
    have z2:=dig_lt (by omega) hY k
    have HV:=aa (vb_add_step X Y out k cy (by omega) hval)
    generalize X.getD k 0=x at *
    generalize Y.getD k 0=y at *
    have e0:(x:Int)+(y:Int)+(cy:Int)=((x+y+cy:Nat):Int):=by omega
    have b0:x+y+cy<18446744073709551616:=by omega
    have e1:((x+y+cy:Nat):Int) % 4294967296=(((x+y+cy) % 4294967296:Nat):Int):=by omega
    have e2:((x+y+cy:Nat):Int) / 4294967296=(((x+y+cy) / 4294967296:Nat):Int):=by omega
    have b1:(x+y+cy) % 4294967296<4294967296:=by omega
    have b2:(x+y+cy) / 4294967296≤1:=by omega
    generalize (x+y+cy) % 4294967296=m at *
    generalize (x+y+cy) / 4294967296=d at *
    generalize x+y+cy=s at *
    clear hval hblk hbl A1 A2 hX hY
    go_wp2_with fail
    refine H1.mono ?_
    rintro e w2 ⟨rfl,rfl⟩
    go_wp2_with fail
    refine H2.mono ?_
    rintro e w2 ⟨rfl,rfl⟩
    clear H1 H2
    go_wp2
    go_roundw
    case rel=>exact⟨k+1,d,out.set k m,by omega,by go_num,rfl,b2,by simp;omega,digs_set hdo _ _ b1,HB.out.set k m,HL.out.setCell (Nat.le_refl _) _,HV.out⟩
    case measure=>simp [intOf];omega
   ·have ek:k=Y.length+1:=by omega
    subst ek
    have hve:=eE hX hY Y.length cy (by omega) (by omega) hlen hval
    have hA:=Ans.of_blk (base:=w.heap.size) (zs:=out) (Nat.le_refl _) hblk List.take_length.symm (Nat.le_refl _) (by omega) (digs_limbs hdo)
    have H:=cC w.heap.size _ _ _ (hA.arg (by omega)) hdo (by omega) (New.at _ _ _ _ _ (Nat.le_refl _))
    rw [hlen,hve] at H
    clear hval hblk hbl A1 A2 hX hY hA hve HB
    have hd1:decide ((Y.length:Int)+1≤(Y.length:Int))=false:=decide_eq_false (by omega)
    go_wp2_with fail
    refine H.mono ?_
    rintro e w2 ⟨⟨v',rfl,hnum,hnw⟩,rfl⟩
    have HN:=aa (And.intro hnum hnw)
    clear hnum hnw H
    go_wp2
    go_ret
    exact⟨⟨v',rfl,HN.out.1,HN.out.2⟩,HL.out⟩
 ·have hd0:decide ((X.length:Int)<(Y.length:Int))=false:=decide_eq_false (by omega)
  go_enter Tryz.func44,Tryz.ntmps44
  go_wp2_with (at_make;refine wpList_make_full _ rfl _ _ 26 rfl w.heap.size 63 i0 (.int .u64 0) 1 Tryz.underlying26 hi hz0 hz1 .i64 .i64 _ _ (X.length+1) rfl rfl (by omega) (by omega) (by rw [hz2];omega) (by unfold maxLen;omega) (Nat.le_refl _) ?_;intro w1 hown hgrow)
  have hb1:=Blk.made hown
  have hbel:Below w.heap.size w w1:=(Below.refl _ _).grown hgrow (Nat.le_refl _) (fun k hk=>by cases hk)
  clear hown hgrow hi hz0 hz1 hz2
  go_loopw [7,8] (fun c i wr=>∃(k cy:Nat) (out:List Nat),k≤X.length+1∧i=.int .i64 k∧c=.int .u64 cy∧cy≤1∧out.length=X.length+1∧Digs 4294967296 out∧Blk wr w.heap.size out∧Below w.heap.size w wr ∧
    vb 4294967296 (out.take k)+cy*4294967296 ^ k=vb 4294967296 (X.take k)+vb 4294967296 (Y.take k)) (fun _ i _=>X.length+1 - (intOf i).toNat)
  case atStart=>exact⟨0,0,_,Nat.zero_le _,rfl,rfl,by omega,by simp,digs_replicate (by omega) _,hb1,hbel,by simp [vb]⟩
  case round=>
   obtain⟨k,cy,out,hk,rfl,rfl,hcy,hlen,hdo,hblk,hbl,hval⟩:=hrel
   clear hb1 hbel
   have HB:=aa hblk
   have HL:=aa hbl
   by_cases hkl:k≤X.length
   ·have H1:=cf _ X k wr (A1.below hbl)
    have H2:=cf _ Y k wr (A2.below hbl)
    have hfr:=hblk.free k
    have hco:=hblk.cell k (by omega)
    generalize out.getD k 0=o at *
    have z1:=dig_lt (by omega) hX k
    have z2:=dig_lt (by omega) hY k
    have HV:=aa (vb_add_step X Y out k cy (by omega) hval)
    generalize X.getD k 0=x at *
    generalize Y.getD k 0=y at *
    have e0:(x:Int)+(y:Int)+(cy:Int)=((x+y+cy:Nat):Int):=by omega
    have b0:x+y+cy<18446744073709551616:=by omega
    have e1:((x+y+cy:Nat):Int) % 4294967296=(((x+y+cy) % 4294967296:Nat):Int):=by omega
    have e2:((x+y+cy:Nat):Int) / 4294967296=(((x+y+cy) / 4294967296:Nat):Int):=by omega
    have b1:(x+y+cy) % 4294967296<4294967296:=by omega
    have b2:(x+y+cy) / 4294967296≤1:=by omega
    generalize (x+y+cy) % 4294967296=m at *
    generalize (x+y+cy) / 4294967296=d at *
    generalize x+y+cy=s at *
    clear hval hblk hbl A1 A2 hX hY
    go_wp2_with fail
    refine H1.mono ?_
    rintro e w2 ⟨rfl,rfl⟩
    go_wp2_with fail
    refine H2.mono ?_
    rintro e w2 ⟨rfl,rfl⟩
    clear H1 H2
    go_wp2
    go_roundw
    case rel=>exact⟨k+1,d,out.set k m,by omega,by go_num,rfl,b2,by simp;omega,digs_set hdo _ _ b1,HB.out.set k m,HL.out.setCell (Nat.le_refl _) _,HV.out⟩
    case measure=>simp [intOf];omega
   ·have ek:k=X.length+1:=by omega
    subst ek
    have hve:=eE hX hY X.length cy (by omega) (by omega) hlen hval
    have hA:=Ans.of_blk (base:=w.heap.size) (zs:=out) (Nat.le_refl _) hblk List.take_length.symm (Nat.le_refl _) (by omega) (digs_limbs hdo)
    have H:=cC w.heap.size _ _ _ (hA.arg (by omega)) hdo (by omega) (New.at _ _ _ _ _ (Nat.le_refl _))
    rw [hlen,hve] at H
    clear hval hblk hbl A1 A2 hX hY hA hve HB
    have hd1:decide ((X.length:Int)+1≤(X.length:Int))=false:=decide_eq_false (by omega)
    go_wp2_with fail
    refine H.mono ?_
    rintro e w2 ⟨⟨v',rfl,hnum,hnw⟩,rfl⟩
    have HN:=aa (And.intro hnum hnw)
    clear hnum hnw H
    go_wp2
    go_ret
    exact⟨⟨v',rfl,HN.out.1,HN.out.2⟩,HL.out⟩

theorem kh {X Y out:List Nat}(ho:Digs 4294967296 out)(hl:out.length=X.length)(hyl:Y.length≤X.length)(hle:vb 4294967296 Y≤vb 4294967296 X)(bw:Nat)
  (h:vb 4294967296 (out.take X.length)+vb 4294967296 (Y.take X.length)=vb 4294967296 (X.take X.length)+bw*4294967296 ^ X.length):vb 4294967296 out=vb 4294967296 X - vb 4294967296 Y:=by
 rw [bD _ (by omega),bD _ hyl,List.take_length] at h
 have h1:=vb_take_lt ho X.length
 rw [bD _ (by omega)] at h1
 rcases Nat.eq_zero_or_pos bw with h0|h0
 ·subst h0;omega
 ·exfalso
  have:=Nat.mul_le_mul_right (4294967296 ^ X.length) h0
  rw [B_pow] at this h
  omega

theorem iE (v1 v2:Value)(x y:Nat)(w:World)(h1:Num w v1 x)(h2:Num w v2 y)(hle:y≤x)(f1:blen x≤1125899906840000) :
  Calls Tryz.prog 62 #[v1,v2] w fun e w'=>(∃v',e=.returned v'∧Num w' v' (x - y)∧New w.heap.size v')∧Below w.heap.size w w':=by
 obtain⟨X,A1,hX,hXt,rfl,_⟩:=h1
 obtain⟨Y,A2,hY,hYt,rfl,_⟩:=h2
 have lX:=ch hX hXt 35184372088750 (by omega)
 have hyl:Y.length≤X.length:=by
  refine Nat.le_of_not_lt fun h=>?_
  have:=vb_shorter hX hYt h
  omega
 obtain⟨a1,c1,rfl,hc1,hm1,L1⟩:=A1.form
 obtain⟨i0,hi,hz0,hz1,hz2⟩:=info_parts Tryz.infoU
 have HLE:=aa hle
 clear f1 hXt hYt hle
 go_enter Tryz.func62,Tryz.ntmps62
 go_wp2_with (at_make;refine wpList_make_full _ rfl _ _ 26 rfl w.heap.size 63 i0 (.int .u64 0) 1 Tryz.underlying26 hi hz0 hz1 .i64 .i64 _ _ X.length rfl rfl (by omega) (by omega) (by rw [hz2];omega) (by unfold maxLen;omega) (Nat.le_refl _) ?_;intro w1 hown hgrow)
 have hb1:=Blk.made hown
 have hbel:Below w.heap.size w w1:=(Below.refl _ _).grown hgrow (Nat.le_refl _) (fun k hk=>by cases hk)
 clear hown hgrow hi hz0 hz1 hz2
 go_loopw [6,14] (fun c i wr=>∃(k cy:Nat) (out:List Nat),k≤X.length∧i=.int .i64 k∧c=.int .u64 cy∧cy≤1∧out.length=X.length∧Digs 4294967296 out∧Blk wr w.heap.size out∧Below w.heap.size w wr ∧
   vb 4294967296 (out.take k)+vb 4294967296 (Y.take k)=vb 4294967296 (X.take k)+cy*4294967296 ^ k) (fun _ i _=>X.length - (intOf i).toNat)
 case atStart=>exact⟨0,0,_,Nat.zero_le _,rfl,rfl,by omega,by simp,digs_replicate (by omega) _,hb1,hbel,by simp [vb]⟩
 case round=>
  obtain⟨k,cy,out,hk,rfl,rfl,hcy,hlen,hdo,hblk,hbl,hval⟩:=hrel
  clear hb1 hbel
  have HB:=aa hblk
  have HL:=aa hbl
  by_cases hkl:k<X.length
  ·rcases L1.below hbl with h0|⟨b,off,rfl,hcell⟩
   ·simp [h0] at hkl
   ·have H2:=cf _ Y k wr.drew (A2.below hbl.drew)
    have hck:=hcell k hkl
    have hbw:=ah.block (L1:ah w (some ⟨b,off,none⟩) X) (by omega)
    have hne1:¬b=w.heap.size:=by omega
    have hne2:¬w.heap.size=b:=by omega
    have hfr:=hblk.free k
    have hco:=hblk.cell k (by omega)
    generalize out.getD k 0=o at *
    have z1:=dig_lt (by omega) hX k
    have z2:=dig_lt (by omega) hY k
    have HV:=aa (vb_sub_step X Y out k cy (by omega) z1 z2 hcy hval)
    generalize X.getD k 0=x at *
    generalize Y.getD k 0=y at *
    have w1:IntKind.u64.wrap ((x:Int)+4294967296)=((x+4294967296:Nat):Int):=by rw [IntKind.wrap_u64];omega
    have w2:IntKind.u64.wrap (((x+4294967296:Nat):Int) - (y:Int))=((x+4294967296 - y:Nat):Int):=by rw [IntKind.wrap_u64];omega
    have w3:IntKind.u64.wrap (((x+4294967296 - y:Nat):Int) - (cy:Int))=((x+4294967296 - y - cy:Nat):Int):=by rw [IntKind.wrap_u64];omega
    have e0:(x:Int)+4294967296=((x+4294967296:Nat):Int):=by omega
    have e1:((x+4294967296:Nat):Int) - (y:Int)=((x+4294967296 - y:Nat):Int):=by omega
    have e2:((x+4294967296 - y:Nat):Int) - (cy:Int)=((x+4294967296 - y - cy:Nat):Int):=by omega
    have b0:x+4294967296<18446744073709551616:=by omega
    have b1:x+4294967296 - y<18446744073709551616:=by omega
    have b2:x+4294967296 - y - cy<18446744073709551616:=by omega
    have e3:((x+4294967296 - y - cy:Nat):Int) % 4294967296=(((x+4294967296 - y - cy) % 4294967296:Nat):Int):=by omega
    have e4:((x+4294967296 - y - cy:Nat):Int) / 4294967296=(((x+4294967296 - y - cy) / 4294967296:Nat):Int):=by omega
    have b3:(x+4294967296 - y - cy) % 4294967296<4294967296:=by omega
    have b4:(x+4294967296 - y - cy) / 4294967296≤1:=by omega
    generalize (x+4294967296 - y - cy) % 4294967296=m at *
    generalize (x+4294967296 - y - cy) / 4294967296=d at *
    generalize x+4294967296 - y - cy=t3 at *
    generalize x+4294967296 - y=t2 at *
    generalize x+4294967296=t1 at *
    have e5:(1:Int) - (d:Int)=((1 - d:Nat):Int):=by omega
    have w4:IntKind.u64.wrap (t1:Int)=(t1:Int):=by rw [IntKind.wrap_u64];omega
    have w5:IntKind.u64.wrap (t2:Int)=(t2:Int):=by rw [IntKind.wrap_u64];omega
    have w6:IntKind.u64.wrap (t3:Int)=(t3:Int):=by rw [IntKind.wrap_u64];omega
    have hi1:(0:Int)≤(k:Int):=by omega
    have hi2:(k:Int)<(X.length:Int):=by omega
    clear hval hblk hbl A1 A2 hX hY hcell L1
    go_wp2
    go_region_held3 (fun w'=>w'.cell? ⟨b,off+k,none⟩=some (.int .u64 x)) (go_keep) (first | (go_at_call 66;refine H2.mono ?_;rintro e w2 ⟨rfl,rfl⟩))
    go_wp2
    go_roundw
    case rel=>exact⟨k+1,1 - d,out.set k m,by omega,by go_num,by go_num,by omega,by simp;omega,digs_set hdo _ _ b3,HB.out.set k m,(HL.out.setCell (Nat.le_refl _) _).drew,HV.out⟩
    case measure=>simp [intOf];omega
  ·have ek:k=X.length:=by omega
   subst ek
   have hve:=kh hdo hlen hyl HLE.out cy hval
   have hA:=Ans.of_blk (base:=w.heap.size) (zs:=out) (Nat.le_refl _) hblk List.take_length.symm (Nat.le_refl _) (by omega) (digs_limbs hdo)
   have H:=cC w.heap.size _ _ _ (hA.arg (by omega)) hdo (by omega) (New.at _ _ _ _ _ (Nat.le_refl _))
   rw [hlen,hve] at H
   clear hval hblk hbl A1 A2 hX hY hA hve HB L1
   go_wp2_with fail
   refine H.mono ?_
   rintro e w2 ⟨⟨v',rfl,hnum,hnw⟩,rfl⟩
   have HN:=aa (And.intro hnum hnw)
   clear hnum hnw H
   go_wp2
   go_ret
   exact⟨⟨v',rfl,HN.out.1,HN.out.2⟩,HL.out⟩
end Go.Proofs.YteehipcoeocojaaGreatDoor

