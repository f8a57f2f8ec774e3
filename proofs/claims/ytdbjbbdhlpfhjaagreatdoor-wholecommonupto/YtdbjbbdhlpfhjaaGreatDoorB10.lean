/- Package whole: join. -/
import Derived.Test.YtdbjbbdhlpfhjaaGreatDoorB09
import Derived.Test.YtdbjbbdhlpfhjaaGreatDoorB08
import Derived.Test.YtdbjbbdhlpfhjaaGreatDoorB02
import Derived.Deep.RegionHeld3
import Derived.Deep.CutBlock
import Derived.Deep.DeepCutAuto
import Derived.Maps.AppendAt
import Derived.BigQuiet
import Derived.Deep.QuietTactic
set_option maxRecDepth 20000
set_option maxHeartbeats 4000000
namespace Go.Proofs.YtdbjbbdhlpfhjaaGreatDoor
open Go.RowKit
open Lm
attribute [local go_sem ↓] Go.wp_at_zero Go.wp_at_succ

theorem pI {M:List Nat}{s u V:Nat}(hM:s+u≤M.length)(h:sv M 0 (s+u)=V)(hV:V<18446744073709551616 ^ s):sv M s u=0∧sv M 0 s=V:=by
 rw [aB M 0 s u (by omega),Nat.zero_add] at h
 have h0:sv M s u=0:=by
  rcases Nat.eq_zero_or_pos (sv M s u) with h1|h1
  ·exact h1
  ·have:=Nat.mul_le_mul_left (18446744073709551616 ^ s) h1
   omega
 rw [h0,Nat.mul_zero,Nat.add_zero] at h
 exact⟨h0,h⟩

theorem oW {M M' U:List Nat}{s o V:Nat}(hl:M'.length=s+U.length)(h0:sv M 0 s=V)(hO:Out M M' o (o+U.length))(hv:sv M' o U.length=val U)(ho:o=s∨(U.length=0∧o=0)):val M'=V+18446744073709551616 ^ s*val U:=by
 rw [←bH M',hl,aB M' 0 s U.length (by omega),Nat.zero_add]
 rcases ho with rfl|⟨hu,rfl⟩
 ·rw [hv,hO.sv 0 o (by omega),h0]
 ·have hU:U=[]:=List.eq_nil_of_length_eq_zero hu
  rw [hU] at hO ⊢
  rw [hO.sv 0 s (by simp),h0]
  simp [sv,seg,val]

theorem gT (va vb:Value)(X Y:List Nat)(n:Nat)(w:World)(hA:Arg w va X)(hB:Arg w vb Y)(hx:X.length≤17592186044416)(hn:n≤17592186044416)(hy:Y.length≤n) :
  Calls Tryz.prog 124 #[va,.int .i64 n,vb] w (bE w (val Y+18446744073709551616 ^ n*val X)):=by
 obtain⟨a5,c5,rfl,_,_,_⟩:=hA.form
 obtain⟨a6,c6,rfl,_,_,_⟩:=hB.form
 obtain⟨i0,hi,hz0,hz1,hz2⟩:=info_parts Tryz.infoU
 obtain⟨N,hN,hNi⟩:∃N,N=n+X.length∧(n:Int)+(X.length:Int)=(N:Int):=⟨_,rfl,by omega⟩
 have hNs:N - n=X.length:=by omega
 obtain⟨o5,hif5,ho5⟩:∃o5,(∀g:Nat,(if N=n then some (⟨g,0,none⟩:Addr) else some ⟨g,n,none⟩)=some ⟨g,o5,none⟩)∧((o5=n∨(X.length=0∧o5=0))∧o5+X.length≤N):=by
  by_cases h:N=n
  ·exact⟨0,fun g=>by rw [if_pos h],.inr ⟨by omega,rfl⟩,by omega⟩
  ·exact⟨n,fun g=>by rw [if_neg h],.inl rfl,by omega⟩
 have HA:=aa hA
 have HBa:=aa hB
 have HNN:=aa hN
 have HO5:=aa ho5
 have hsN:n≤N:=by omega
 have hyN:Y.length≤N:=by omega
 have hNb:N≤35184372088832:=by omega
 have hyv:val Y<18446744073709551616 ^ n:=Nat.lt_of_lt_of_le (val_lt hB.limbs) (Nat.pow_le_pow_right (by omega) hy)
 have HYV:=aa hyv
 clear hA hB hN ho5 hyv
 go_enter Tryz.func124,Tryz.ntmps124
 go_wp2_with (at_make;refine wpList_make_full _ rfl _ _ 25 rfl w.heap.size 61 i0 (.int .u64 0) 1 Tryz.underlying25 hi hz0 hz1 .i64 .i64 _ _ N rfl rfl (by omega) (by omega) (by rw [hz2];omega) (by unfold maxLen;omega) (Nat.le_refl _) ?_;intro w3 hown hgrow;have hbel3:Below w.heap.size w w3:=(Below.refl w.heap.size w).grown hgrow (Nat.le_refl _) (fun k hk=>by cases hk);obtain⟨w4,M4,hcp,B4,L4,F4,O4,S4⟩:=bU w.heap.size 0 N N (List.replicate N 0) a6 c6 Y w3 (Blk.made hown) (limbs_replicate _) HBa.out.limbs (bT N 0 N) (by simp) (by omega) (HBa.out.below hbel3).wlies;have hbel4:Below w.heap.size w w4:=hbel3.trans (F4.below (Nat.le_refl _) hbel3.size);have hM4l:M4.length=N:=by rw [O4.len,List.length_replicate])
 obtain⟨z0,z1⟩:=pI (M:=M4) (s:=n) (u:=X.length) (by have:=HNN.out;omega) (by rw [←HNN.out];exact S4) HYV.out
 have hz5:sv M4 o5 X.length=0:=by
  rcases HO5.out.1 with h|⟨h,_⟩
  ·rw [h];exact z0
  ·rw [h];exact aR _ _
 obtain⟨w5,M5,hcp2,B5,L5,F5,O5,S5⟩:=bU w.heap.size o5 X.length X.length M4 a5 c5 X w4 B4 L4 HA.out.limbs hz5 (by rw [hM4l];exact HO5.out.2) (Nat.le_refl _) (HA.out.below hbel4).wlies
 have hbel5:Below w.heap.size w w5:=hbel4.trans (F5.below (Nat.le_refl _) hbel4.size)
 have hM5l:M5.length=n+X.length:=by rw [O5.len,hM4l];exact HNN.out
 have hval:=oW hM5l z1 O5 S5 HO5.out.1
 have HR:=bE.trimmed (w:=w) (x:=val Y+18446744073709551616 ^ n*val X) (Nat.le_refl _) B5 L5 (by omega) hval hbel5
 rw [hM5l,←HNN.out] at HR
 clear hown hgrow hbel3 hbel4 hbel5 B4 L4 F4 O4 S4 B5 L5 F5 O5 S5 hval hz5 z0 z1 hM5l hi hz0 hz1 hz2
 go_wp2
 rw [hcp2]
 go_wp2_with fail
 refine HR.mono ?_
 rintro e w6 ⟨rfl,rfl,hd⟩
 have HD:=aa hd
 go_wp2
 go_returns
 exact HD.out

theorem ll (va vb:Value)(X Y:List Nat)(w:World)(hA:Arg w va X)(hA2:Arg w vb Y)(hT:Tab w)(hf1:X.length≤17592186044416)(hf2:Y.length≤17592186044416)(hY:val Y≠0) :
  Calls Tryz.prog 126 #[va,vb] w fun e w'=>Below w.heap.size w w'∧Res w' w.heap.size e (val X / val Y):=by
 have HR:=gZ va vb X Y w hA hA2
 have HDV:=iw vb Y w hA2 hT hY (by omega)
 have HA:=aa hA
 have HT:=aa hT
 obtain⟨a1,c1,rfl,_,_,_⟩:=hA.form
 obtain⟨a2,c2,rfl,_,_,_⟩:=hA2.form
 have hr:cr (val X) (val Y)=if 67108864+blen (val Y)<blen (val X) then 3 else 0:=by unfold cr;rw [if_neg hY]
 rw [hr] at HR
 have HY:=aa (show 0<val Y by omega)
 clear hA hA2 hT hr hY
 by_cases hb:67108864+blen (val Y)<blen (val X)
 ·rw [if_pos hb] at HR
  have HX:Hid (67108864<blen (val X / val Y)):=aa (jC HY.out hb)
  clear HDV hb
  go_enter Tryz.func126,Tryz.ntmps126
  go_wp2_with fail
  refine HR.mono ?_
  rintro e wn ⟨rfl,hw⟩;subst hw
  clear HR
  go_wp2
  go_returns
  exact⟨Below.refl _ _,_,_,[],rfl,Ans.nil _ _,.inr ⟨rfl,rfl,HX.out⟩⟩
 ·rw [if_neg hb] at HR
  clear hb
  go_enter Tryz.func126,Tryz.ntmps126
  go_wp2_with fail
  refine HR.mono ?_
  rintro e wn ⟨rfl,hw⟩;rw [hw];clear hw wn
  go_wp2_with fail
  refine HDV.mono ?_
  rintro e w1 ⟨⟨vd,rfl,hd⟩,hb1⟩
  have H1:=gQ _ vd X _ _ _ w1 (HA.out.below hb1) hd (HT.out.below hb1) hf1
  have HB1:=aa hb1
  clear hd hb1 HDV HR
  go_wp2_with fail
  refine H1.mono ?_
  rintro e w2 ⟨⟨vq,vr,qs,rs,mid,rfl,A1,hmid,hq,A2,e1,e2,l1,l2,_⟩,hb2⟩
  have HQ:=je vq w1.heap.size qs w2 A1 (by omega)
  have HB2:=aa (HB1.out.trans (hb2.mono HB1.out.size))
  rw [e1] at HQ
  clear A1 A2 hmid hq e1 e2 l1 l2 hb2 H1
  go_wp2_with fail
  refine HQ.mono ?_
  rintro e w3 ⟨hw,v1,c1,r1,rfl,An1,hres⟩;subst hw
  have H1:=aa (And.intro An1 hres)
  clear HQ An1 hres
  go_wp2
  go_returns
  exact⟨HB2.out,v1,_,r1,rfl,H1.out.1.base HB1.out.size,H1.out.2⟩

def WDone2 (w:World)(x y:Nat)(e:Ending)(w':World):Prop:=
 (∃v1 v2 r1 r2,e=.returned (.tuple #[v1,v2])∧Ans w' w.heap.size v1 r1∧Ans w' w.heap.size v2 r2∧val r1=x∧tr r1=r1∧val r2=y∧tr r2=r2∧(v1.ownBlock=none∨v1.ownBlock≠v2.ownBlock))∧Below w.heap.size w w'

theorem apart_of {w:World}{v1 v2:Value}{m:Nat}{r2:List Nat}(h:∀g,v1.ownBlock=some g→g<m)(h2:Ans w m v2 r2):v1.ownBlock=none∨v1.ownBlock≠v2.ownBlock:=by
 cases e:v1.ownBlock with
 | none=>exact .inl rfl
 | some g=>
  refine .inr fun e2=>?_
  have a:=h g e
  have b:=(h2.own.lt g e2.symm).1
  omega

theorem apart_of2 {w:World}{v1 v2:Value}{m:Nat}{r1:List Nat}(h:∀g,v2.ownBlock=some g→g<m)(h1:Ans w m v1 r1):v1.ownBlock=none∨v1.ownBlock≠v2.ownBlock:=by
 cases e:v1.ownBlock with
 | none=>exact .inl rfl
 | some g=>
  refine .inr fun e2=>?_
  have a:=h g e2.symm
  have b:=(h1.own.lt g e).1
  omega

namespace Lm

theorem both_partsW (x y K:Nat)(hK:0<K)(hy:0<y) :
  x / y=((x / K) % y*K+x % K) / y+K*((x / K) / y)∧x % y=((x / K) % y*K+x % K) % y∧((x / K) % y*K+x % K) / y<K:=by
 have h1:=Nat.div_add_mod x K
 have h2:=Nat.div_add_mod (x / K) y
 have h3:=Nat.mod_lt (x / K) hy
 have h4:x % K<K:=Nat.mod_lt x hK
 generalize x / K=H at *
 generalize x % K=l at *
 generalize H / y=q at *
 generalize H % y=r at *
 have e:x=(r*K+l)+y*(K*q):=by
  rw [←h1,←h2];grind
 refine⟨?_,?_,?_⟩
 ·rw [e,Nat.add_mul_div_left _ _ hy]
 ·rw [e,Nat.add_mul_mod_self_left]
 ·rw [Nat.div_lt_iff_lt_mul hy]
  have h5:=Nat.mul_le_mul_right K (Nat.succ_le_of_lt h3)
  rw [Nat.succ_mul,Nat.mul_comm y] at h5
  omega

theorem blen_quoW {x y:Nat}(hy:0<y)(n:Nat)(h:blen x≤n+blen y):blen (x / y)≤n+1:=by
 rw [blen_le_iff,Nat.div_lt_iff_lt_mul hy]
 have h1:x<2 ^ (n+blen y):=Nat.lt_of_lt_of_le ((blen_le_iff x _).1 (Nat.le_refl _)) (Nat.pow_le_pow_right (by omega) h)
 have h2:2 ^ (blen y - 1)≤y:=by
  refine Nat.le_of_not_lt fun hlt=>?_
  have h3:=(blen_le_iff y _).2 hlt
  have h4:0<blen y:=by
   rcases Nat.eq_zero_or_pos (blen y) with h0|h0
   ·have:=(blen_le_iff y 0).1 (by omega)
    omega
   ·exact h0
  omega
 have h4:0<blen y:=by
  rcases Nat.eq_zero_or_pos (blen y) with h0|h0
  ·have:=(blen_le_iff y 0).1 (by omega)
   omega
  ·exact h0
 have h5:2 ^ (n+blen y)=2 ^ (n+1)*2 ^ (blen y - 1):=by rw [←Nat.pow_add];congr 1;omega
 rw [h5] at h1
 exact Nat.lt_of_lt_of_le h1 (Nat.mul_le_mul_left _ h2)

end Lm

theorem wboth_near (va vb:Value)(X Y:List Nat)(w:World)(hA0:Arg w va X)(hB:Arg w vb Y)(hT:Tab w)(hx0:X.length≤17592186044000)(hy:Y.length≤17592186044000)(hy0:0<val Y)(hn:blen (val X)<67108864+blen (val Y)) :
  Calls Tryz.prog 84 #[va,vb] w (WDone2 w (val X / val Y) (val X % val Y)):=by
 obtain⟨a1,c1,rfl,T1,hA⟩:=hA0.wtrim
 have HT1:=T1 w (Below.refl _ _)
 have g1:=tr_length_le X
 rw [←val_tr X] at hn ⊢
 clear T1 hA0
 generalize tr X=P at *
 have hx:P.length≤17592186044000:=by omega
 have hq:=blen_quoW (x:=val P) hy0 67108863 (by omega)
 have L1:=bf _ _ w hA
 have L2:=bf _ _ w hB
 have hbx:blen (val P)≤P.length*64:=(blen_le_iff _ _).2 (by have:=val_lt hA.limbs;rw [W_pow] at this;exact this)
 have hby:blen (val Y)≤Y.length*64:=(blen_le_iff _ _).2 (by have:=val_lt hB.limbs;rw [W_pow] at this;exact this)
 obtain⟨d,hd⟩:∃d:Int,((blen (val P):Nat):Int) - ((blen (val Y):Nat):Int)=d:=⟨_,rfl⟩
 have i1:¬(67108864:Int)≤d:=by omega
 have wd:IntKind.i64.wrap d=d:=by rw [IntKind.wrap_i64];omega
 have wd2:IntKind.i64.wrap (((blen (val P):Nat):Int) - ((blen (val Y):Nat):Int))=d:=by rw [IntKind.wrap_i64];omega
 by_cases hs:blen (val Y)≤67108864
 ·have i2:((blen (val Y):Nat):Int)≤67108864:=by omega
  have HB:=jJ _ vb P Y w hA hB hT (by omega) (by omega) (by omega)
  have hm:blen (val P % val Y)≤67108864:=by
   exact Nat.le_trans (fo (Nat.le_of_lt (Nat.mod_lt (val P) hy0))) hs
  have HQ:=aa (And.intro hq hm)
  clear hA hB hT hq hm
  generalize val P / val Y=qq at *
  generalize val P % val Y=mm at *
  generalize blen (val P)=lx at *
  generalize blen (val Y)=ly at *
  go_enter Tryz.func84,Tryz.ntmps84
  go_wp2_with fail
  refine HT1.mono ?_
  rintro e wn ⟨rfl,hw⟩;rw [hw];clear hw wn HT1
  go_wp2_with fail
  refine L1.mono ?_
  rintro e wn ⟨rfl,hw⟩;rw [hw];clear hw wn L1
  go_wp2_with fail
  refine L2.mono ?_
  rintro e wn ⟨rfl,hw⟩;rw [hw];clear hw wn
  go_wp2_with fail
  refine L2.mono ?_
  rintro e wn ⟨rfl,hw⟩;rw [hw];clear hw wn
  go_wp2_with fail
  refine HB.mono ?_
  rintro e w1 ⟨⟨v1,v2,c,r1,r2,mid,rfl,a1,⟨m1,m2⟩,hlo,a2,hres⟩,hb⟩
  have hd2:WDone2 w qq mm (.returned (.tuple #[v1,v2])) w1:=by
   rcases hres with ⟨_,q1,q2,q3,q4,_⟩|⟨_,_,_,q4⟩
   ·exact⟨⟨v1,v2,r1,r2,rfl,a1,a2.base m1,q1,q2,q3,q4,apart_of hlo a2⟩,hb⟩
   ·have:=HQ.out;omega
  have HD:=aa hd2
  clear hres hd2 a1 a2 hb
  go_wp2
  go_returns
  exact HD.out
 ·have i2:¬((blen (val Y):Nat):Int)≤67108864:=by omega
  have HQ:=ll _ vb P Y w hA hB hT (by omega) (by omega) (by omega)
  have HA:=aa hA
  have HB:=aa hB
  have HT:=aa hT
  have HL:=aa (And.intro hq hy0)
  clear hA hB hT hq
  generalize hlx:blen (val P)=lx at *
  generalize hly:blen (val Y)=ly at *
  clear hlx hly
  go_enter Tryz.func84,Tryz.ntmps84
  go_wp2_with fail
  refine HT1.mono ?_
  rintro e wn ⟨rfl,hw⟩;rw [hw];clear hw wn HT1
  go_wp2_with fail
  refine L1.mono ?_
  rintro e wn ⟨rfl,hw⟩;rw [hw];clear hw wn L1
  go_wp2_with fail
  refine L2.mono ?_
  rintro e wn ⟨rfl,hw⟩;rw [hw];clear hw wn
  go_wp2_with fail
  refine L2.mono ?_
  rintro e wn ⟨rfl,hw⟩;rw [hw];clear hw wn
  go_wp2_with fail
  refine HQ.mono ?_
  rintro e w1 ⟨hb,v,c,rs,rfl,ha,hres⟩
  obtain⟨rfl,q1,q2⟩:c=0∧val rs=val P / val Y∧tr rs=rs:=by
   rcases hres with ⟨h1,h2,h3,_⟩|⟨_,_,q4⟩
   ·exact⟨h1,h2,h3⟩
   ·have:=HL.out.1;omega
  have hrl:rs.length≤P.length:=by
   rw [←q2]
   refine aQ rs _ ?_
   rw [q1]
   exact Nat.lt_of_le_of_lt (Nat.div_le_self _ _) (val_lt HA.out.limbs)
  have HP:=fH (rs.length+Y.length+1) rs Y v vb w1 (by omega) (by omega) (ha.arg (by omega)) (HB.out.below hb) (HT.out.below hb)
  clear hres
  go_wp2_with fail
  refine HP.mono ?_
  rintro e w2 ⟨⟨v2,r2,rfl,a2,p1,p2⟩,hb2⟩
  have hmod:=Nat.div_add_mod (val P) (val Y)
  have hr2:r2.length≤1125899906842624:=by
   rw [←p2]
   refine Nat.le_trans (aQ r2 P.length ?_) (by omega)
   rw [p1,q1,Nat.mul_comm]
   have:=val_lt HA.out.limbs
   omega
  have hbb:Below w.heap.size w w2:=hb.trans (hb2.mono hb.size)
  have HLS:=dp _ v2 P r2 w2 (HA.out.below hbb) (a2.arg hr2) (by omega) (by rw [p1,q1,Nat.mul_comm];omega)
  rw [p1,q1,Nat.mul_comm (val P / val Y),show val P - val Y*(val P / val Y)=val P % val Y by omega] at HLS
  have HV:=aa (And.intro (ha.below hb2) (And.intro q1 q2))
  have HBB:=aa hbb
  clear ha hb a2 p1 p2 hb2 hbb q1 q2 hmod hr2
  go_wp2_with fail
  refine HLS.mono ?_
  rintro e w3 ⟨⟨v3,r3,rfl,a3,p1,p2⟩,hb3⟩
  have HD:=aa (show WDone2 w (val P / val Y) (val P % val Y) (.returned (.tuple #[v,v3])) w3 from ⟨⟨v,v3,rs,r3,rfl,HV.out.1.below hb3,a3.base HBB.out.size,HV.out.2.1,HV.out.2.2,p1,p2,apart_of (fun g hg=>(HV.out.1.own.lt g hg).2) a3⟩,HBB.out.trans (hb3.mono HBB.out.size)⟩)
  clear a3 p1 p2 hb3 HV
  go_wp2
  go_returns
  exact HD.out

theorem wboth_any:∀(N:Nat) (X Y:List Nat) (va vb:Value) (w:World),blen (val X)≤N+blen (val Y)→Arg w va X→Arg w vb Y→Tab w→X.length≤17592186044000→Y.length≤17592186044000→0<val Y →
  Calls Tryz.prog 84 #[va,vb] w (WDone2 w (val X / val Y) (val X % val Y)):=by
 intro N
 induction N with
 | zero=>
  intro X Y va vb w hN hA hB hT hx hy hy0
  exact wboth_near va vb X Y w hA hB hT hx hy hy0 (by omega)
 | succ N ih=>
  intro X Y va vb w hN hA0 hB hT hx0 hy hy0
  by_cases hnear:blen (val X)<67108864+blen (val Y)
  ·exact wboth_near va vb X Y w hA0 hB hT hx0 hy hy0 hnear
  ·obtain⟨a1,c1,rfl,T1,hA⟩:=hA0.wtrim
   have HT1:=T1 w (Below.refl _ _)
   have g1:=tr_length_le X
   rw [←val_tr X] at hN hnear ⊢
   clear T1 hA0
   generalize tr X=P at *
   have hx:P.length≤17592186044000:=by omega
   have L1:=bf _ _ w hA
   have L2:=bf _ _ w hB
   have hbx:blen (val P)≤P.length*64:=(blen_le_iff _ _).2 (by have:=val_lt hA.limbs;rw [W_pow] at this;exact this)
   obtain⟨m,hm⟩:∃m,blen (val P) - blen (val Y)=m:=⟨_,rfl⟩
   obtain⟨k,hk⟩:∃k,m / 128=k:=⟨_,rfl⟩
   have em:((blen (val P):Nat):Int) - ((blen (val Y):Nat):Int)=(m:Int):=by omega
   have ek:(m:Int) / 128=(k:Int):=by omega
   have i1:(67108864:Int)≤(m:Int):=by omega
   have wm:IntKind.i64.wrap (m:Int)=(m:Int):=by rw [IntKind.wrap_i64];omega
   have hkP:k<P.length:=by omega
   have hk1:1≤k:=by omega
   obtain⟨b0,o0,rfl⟩:∃b off,a1=some ⟨b,off,none⟩:=by
    obtain⟨_,_,e,_,_,hl⟩:=hA.form
    cases e
    rcases hl with h0|⟨b,off,e,_⟩
    ·have hz:P.length=0:=by rw [h0];rfl
     omega
    ·exact⟨b,off,e⟩
   have hcap:P.length≤c1:=by obtain⟨_,_,e,h,_,_⟩:=hA.form;cases e;exact h
   have hcm:c1≤9223372036854775807:=by obtain⟨_,_,e,_,h,_⟩:=hA.form;cases e;exact h
   have vh:=bJ P k (by omega)
   have lth:=val_lt (hA.front k (by omega)).limbs
   have lt1:(P.take k).length=k:=by simp;omega
   have ld1:(P.drop k).length=P.length - k:=by simp
   rw [lt1] at lth
   have edv:val P / 18446744073709551616 ^ k=val (P.drop k):=by
    rw [vh,Nat.add_mul_div_left _ _ (W_pos k),Nat.div_eq_of_lt lth,Nat.zero_add]
   have emd:val P % 18446744073709551616 ^ k=val (P.take k):=by
    rw [vh,Nat.add_mul_mod_self_left,Nat.mod_eq_of_lt lth]
   obtain⟨P1,P2,P3⟩:=both_partsW (val P) (val Y) (18446744073709551616 ^ k) (W_pos k) hy0
   rw [edv,emd] at P1 P2 P3
   have hbh:blen (val (P.drop k))≤N+blen (val Y):=by
    rw [←edv,blen_le_iff,Nat.div_lt_iff_lt_mul (W_pos k),W_pow,←Nat.pow_add]
    exact (blen_le_iff _ _).1 (by omega)
   have hbl:blen (val (P.take k)+18446744073709551616 ^ k*(val (P.drop k) % val Y))≤k*64+blen (val Y):=by
    rw [blen_le_iff,Nat.pow_add,←W_pow]
    have h1:=Nat.mod_lt (val (P.drop k)) hy0
    have h3:=(blen_le_iff (val Y) _).1 (Nat.le_refl _)
    generalize val (P.drop k) % val Y=R at *
    have h4:18446744073709551616 ^ k*(R+1)≤18446744073709551616 ^ k*2 ^ blen (val Y):=Nat.mul_le_mul_left _ (by omega)
    rw [Nat.mul_add,Nat.mul_one] at h4
    omega
   have HA:=aa hA
   have HB:=aa hB
   have HT:=aa hT
   have HP:=aa (And.intro P1 (And.intro P2 P3))
   have HBL:=aa (And.intro hbh hbl)
   have HIH:=aa ih
   have hlen2:k*64+blen (val Y)≤P.length*64:=by omega
   have hN2:k*64+blen (val Y)≤N+blen (val Y):=by omega
   have HI1:=ih (P.drop k) Y _ vb w hbh (hA.drop k (by omega)) hB hT (by omega) hy hy0
   have hne:¬c1=k:=by omega
   have hkc:k≤c1:=by omega
   clear P1 P2 P3 hbh hbl hA hB hT hm hk ih vh edv emd lth
   generalize hlx:blen (val P)=lx at *
   generalize hly:blen (val Y)=ly at *
   have HX:=aa (And.intro hlx hly)
   clear hlx hly
   go_enter Tryz.func84,Tryz.ntmps84
   go_wp2_with fail
   refine HT1.mono ?_
   rintro e wn ⟨rfl,hw⟩;rw [hw];clear hw wn HT1
   go_wp2_with fail
   refine L1.mono ?_
   rintro e wn ⟨rfl,hw⟩;rw [hw];clear hw wn L1
   go_wp2_with fail
   refine L2.mono ?_
   rintro e wn ⟨rfl,hw⟩;rw [hw];clear hw wn L2
   go_wp2_with fail
   refine HI1.mono ?_
   rintro e w2 ⟨⟨vh,vr,rh,rr,rfl,ah,ar,ph,th,pr,tr',_⟩,hb2⟩
   have HB2:=aa hb2
   have lrr:rr.length≤Y.length:=by
    rw [←tr']
    refine aQ rr _ ?_
    rw [pr]
    exact Nat.lt_trans (Nat.mod_lt _ hy0) (val_lt HB.out.limbs)
   have HJ:=gT vr _ rr (P.take k) k w2 (ar.arg (by omega)) ((HA.out.front k (by omega)).below hb2) (by omega) (by omega) (by omega)
   rw [pr] at HJ
   have HAH:=aa (And.intro ah (And.intro ph th))
   clear ah ar ph th pr tr' hb2 HI1
   go_wp2_with fail
   refine HJ.mono ?_
   rintro e w4 ⟨⟨vj,rj,rfl,aj,pj,tj⟩,hb4⟩
   have HB4:=aa (HB2.out.trans (hb4.mono HB2.out.size))
   have hbj:blen (val rj)≤k*64+ly:=by rw [pj];exact HBL.out.2
   have lj:rj.length≤P.length:=dI tj rfl (by omega)
   have HI2:=HIH.out rj Y vj vb w4 (by rw [HX.out.2];omega) (aj.arg (by omega)) (HB.out.below HB4.out) (HT.out.below HB4.out) (by omega) hy hy0
   have pj2:val rj=val (P.drop k) % val Y*18446744073709551616 ^ k+val (P.take k):=by rw [pj,Nat.add_comm,Nat.mul_comm]
   rw [pj2,←HP.out.2.1] at HI2
   have HAH2:=aa (And.intro (HAH.out.1.below hb4) HAH.out.2)
   clear aj pj tj hb4 HJ hbj pj2
   go_wp2_with fail
   refine HI2.mono ?_
   rintro e w5 ⟨⟨vl,vr2,rl,rr2,rfl,al,ar2,pl,tl,pr2,tr2,_⟩,hb5⟩
   have HB5:=aa (HB4.out.trans (hb5.mono HB4.out.size))
   have lrh:rh.length≤P.length:=by
    rw [←HAH2.out.2.2]
    refine aQ rh _ ?_
    rw [HAH2.out.2.1]
    refine Nat.lt_of_le_of_lt (Nat.div_le_self _ _) ?_
    have h:=val_lt (HA.out.drop k (by omega)).limbs
    rw [ld1] at h
    exact Nat.lt_of_lt_of_le h (Nat.pow_le_pow_right (by omega) (by omega))
   have lrl:rl.length≤k:=by
    rw [←tl]
    refine aQ rl _ ?_
    rw [pl]
    exact HP.out.2.2
   have HJ2:=gT vh vl rh rl k w5 ((HAH2.out.1.below hb5).arg (by omega)) (al.arg (by omega)) (by omega) (by omega) lrl
   rw [pl,HAH2.out.2.1,←HP.out.1] at HJ2
   have HR2:=aa (And.intro ar2 (And.intro pr2 tr2))
   clear al ar2 pl tl pr2 tr2 hb5 HI2
   go_wp2_with fail
   refine HJ2.mono ?_
   rintro e w6 ⟨⟨vq,rq,rfl,aq,pq,tq⟩,hb6⟩
   have HD:=aa (show WDone2 w (val P / val Y) (val P % val Y) (.returned (.tuple #[vq,vr2])) w6 from ⟨⟨vq,vr2,rq,rr2,rfl,aq.base HB5.out.size,(HR2.out.1.base HB4.out.size).below hb6,pq,tq,HR2.out.2.1,HR2.out.2.2,apart_of2 (fun g hg=>(HR2.out.1.own.lt g hg).2) aq⟩,HB5.out.trans (hb6.mono HB5.out.size)⟩)
   clear aq pq tq hb6
   go_wp2
   go_returns
   exact HD.out

theorem ck {w:World}{h:Nat}{a b c:Value}{t:TypeId}(e:w.heap[h]?=some (.cells #[a,b,c] t)):w.cell? ⟨h,0,none⟩=some a∧w.cell? ⟨h,1,none⟩=some b∧w.cell? ⟨h,2,none⟩=some c:=
 ⟨by simp [World.cell?,e],by simp [World.cell?,e],by simp [World.cell?,e]⟩

theorem dF {w:World}{h:Nat}{a b c:Value}{t:TypeId}(e:w.heap[h]?=some (.cells #[a,b,c] t)):∀k,w.frozen? ⟨h,k,none⟩=false:=fun k=>by simp [World.frozen?,e]

theorem bc {W0 W t:World}(h:Below W0.heap.size W0 W)(h2:Below W.heap.size W t):Below W0.heap.size W0 t:=h.trans (h2.mono h.size)

theorem mI {Q Y R:List Nat}(h:Limbs Q∧Limbs Y∧Q.length+Y.length≤17592186044000)(hv:val R=val Q*val Y)(ht:tr R=R):R.length≤17592186044416:=by
 obtain⟨h1,h2,h3⟩:=h
 have e1:=val_lt h1
 have e2:=val_lt h2
 have e3:val R<2 ^ ((Q.length+Y.length)*64):=by
  rw [hv]
  have e4:val Q*val Y<18446744073709551616 ^ Q.length*18446744073709551616 ^ Y.length:=Nat.mul_lt_mul'' e1 e2
  rw [←Nat.pow_add] at e4
  rw [←W_pow]
  exact e4
 have e5:=few_limbs R (Q.length+Y.length) ((blen_le_iff _ _).2 e3)
 rw [ht] at e5
 omega

theorem gS {X R S:List Nat}(m:Nat)(h1:Limbs X)(h2:X.length≤m)(hR:Limbs R)(lR:R.length≤m)(hv:val S=val X+val R)(ht:tr S=S):S.length≤m+1:=by
 have e1:=val_lt h1
 have e2:=val_lt hR
 have e3:18446744073709551616 ^ X.length≤18446744073709551616 ^ m:=Nat.pow_le_pow_right (by omega) h2
 have e4:18446744073709551616 ^ R.length≤18446744073709551616 ^ m:=Nat.pow_le_pow_right (by omega) lR
 have e5:(18446744073709551616:Nat) ^ (m+1)=18446744073709551616 ^ m*18446744073709551616:=Nat.pow_succ ..
 have e6:val S<18446744073709551616 ^ (m+1):=by
  rw [hv,e5]
  generalize (18446744073709551616:Nat) ^ m=P at *
  omega
 have e7:=few_limbs S (m+1) ((blen_le_iff _ _).2 (by rw [←W_pow];exact e6))
 rw [ht] at e7
 exact e7

def gv (g:Nat)(vy:Value)(x:Nat)(o:Bool)(w wx:World):Prop:=
 ∃v rs,wx.heap[g]?=some (.cells #[vy,v,.bool o] 107)∧Ans wx w.heap.size v rs∧val rs=x∧tr rs=rs∧Fr g w wx

theorem oZ {g x base:Nat}{vx vy v:Value}{o:Bool}{w t:World}{rs:List Nat}(hF:t.heap[g]?=some (.cells #[vx,vy,.bool o] 107))(hA:Ans t base v rs)(hb:w.heap.size≤base)(hg:g<w.heap.size)(hv:val rs=x)(ht:tr rs=rs)(g2:Below w.heap.size w t) :
  gv g vy x o w ((t.setCell ⟨g,0,none⟩ vy).setCell ⟨g,1,none⟩ v)∧gv g vy x o w ((t.setCell ⟨g,1,none⟩ v).setCell ⟨g,0,none⟩ vy):=by
 have hne:v.ownBlock≠some g:=fun e=>by have:=(hA.own.lt g e).1;omega
 exact⟨⟨v,rs,aT (aT hF vy) v,((hA.apart g 0 vy hne).apart g 1 v hne).base hb,hv,ht,((Fr.of_below g2).setCell 0 vy).setCell 1 v⟩,
  ⟨v,rs,aT (aT hF v) vy,((hA.apart g 1 v hne).apart g 0 vy hne).base hb,hv,ht,((Fr.of_below g2).setCell 1 v).setCell 0 vy⟩⟩

def lb (g:Nat)(vy:Value)(x:Nat)(o:Bool)(w:World)(e:Ending)(w':World):Prop:=
 e=.returned (.tuple #[])∧∃v rs,w'.heap[g]?=some (.cells #[vy,v,.bool (!o)] 107)∧Ans w' w.heap.size v rs∧val rs=x∧tr rs=rs∧Fr g w w'

theorem jP (g:Nat)(vx vy vq:Value)(X Y Q:List Nat)(o:Bool)(w:World)(hF:w.heap[g]?=some (.cells #[vx,vy,.bool o] 107))(hX:Arg w vx X)(hY:Arg w vy Y)(hQ:Arg w vq Q)(hT:Tab w)(lX:X.length≤17592186044416)(lQ:Q.length+Y.length≤17592186044000) :
  Calls Tryz.prog 246 #[.pointer (some ⟨g,0,none⟩),vq] w (lb g vy (val X+val Q*val Y) o w):=by
 obtain⟨a1,c1,rfl,_,_,_⟩:=hX.form
 obtain⟨a2,c2,rfl,_,_,_⟩:=hY.form
 obtain⟨a3,c3,rfl,_,_,_⟩:=hQ.form
 have HF:=aa hF
 have HX:=aa hX
 have g0:Below w.heap.size w w.drew:=(Below.refl _ _).drew
 have P1:=fH (Q.length+Y.length+1) Q Y _ _ w.drew (by omega) (by omega) (hQ.below g0) (hY.below g0) (hT.below g0)
 have SM:=aa (fun (W:World) (v:Value) (rs:List Nat) (hg:Below w.heap.size w W) (hv:Arg W v rs) (hl:rs.length≤17592186044416)=>fW _ v X rs W (hX.below hg) hv lX hl)
 obtain⟨k0,k1,k2⟩:=ck (ac g0 hF)
 have HL3:=aa (And.intro hX.limbs lX)
 have HL:=aa (And.intro hQ.limbs (And.intro hY.limbs lQ))
 clear hX hY hQ hT hF lX lQ
 go_enter Tryz.func246,Tryz.ntmps246
 go_upto_region 0 with fail
 go_cut [0] from 4 to 25 (fun s wx=>s=.pointer (some ⟨g,0,none⟩)∧gv g (.slice a2 Y.length c2) (val X+val Q*val Y) o w wx)
 case first=>
  go_region_with (first
  | (go_at_call 87;refine (SM.out t1 _ _ g1 N1 L1).mono ?_;rintro e' t2 ⟨⟨v9,r9,rfl,hA9,hv9,ht9⟩,hb2⟩;have g2:=bc g1 hb2;clear k0 k1 k2;obtain⟨k0,k1,k2⟩:=ck (ac g2 HF.out);have kf:=dF (ac g2 HF.out);have N9:=hA9.arg (by have h9:=gS 17592186044416 HL3.out.1 HL3.out.2 N1.limbs L1 hv9 ht9;omega);obtain⟨a9,c9,rfl,_,_,_⟩:=N9.form)
  | (go_at_call 86;refine P1.mono ?_;rintro e' t1 ⟨⟨v8,r8,rfl,hA8,hv8,ht8⟩,hb1⟩;have g1:=bc g0 hb1;have L1:r8.length≤17592186044416:=mI HL.out hv8 ht8;have N1:=hA8.arg (by omega);clear k0 k1 k2;obtain⟨k0,k1,k2⟩:=ck (ac g1 HF.out);obtain⟨a8,c8,rfl,_,_,_⟩:=N1.form))
  all_goals
   have HC:=aa (oZ (ac g2 HF.out) hA9 (Nat.le_trans g1.size (Nat.le_refl _)) (bC HF.out) (by rw [hv9,hv8]) ht9 g2)
   clear P1 SM g0 g1 g2 hb1 hb2 hA8 hv8 ht8 N1 L1 N9 hA9 hv9 ht9 k0 k1 k2 kf
   go_wp2_with fail
   go_meet
   first
    | exact⟨rfl,HC.out.1⟩
    | exact⟨rfl,HC.out.2⟩
 case rest=>
  obtain⟨rfl,v,rs,h1,h2,h3,h4,h5⟩:=hcut
  obtain⟨m0,m1,m2⟩:=ck h1
  have mf:=dF h1
  have HE:=aa (And.intro (aT h1 (Value.bool !o):(wc.setCell ⟨g,2,none⟩ (.bool (!o))).heap[g]?=_) (And.intro h2 (And.intro h3 (And.intro h4 h5))))
  have hne:v.ownBlock≠some g:=fun e=>by have:=(h2.own.lt g e).1;have:=bC HF.out;omega
  have HH:=aa (show Ans (wc.setCell ⟨g,2,none⟩ (.bool (!o))) w.heap.size v rs∧Fr g w (wc.setCell ⟨g,2,none⟩ (.bool (!o))) from ⟨h2.apart g 2 _ hne,h5.setCell 2 _⟩)
  clear h1 h2 h3 h4 h5 P1 SM g0 k0 k1 k2
  go_wp2
  go_end0
  exact⟨rfl,v,rs,HE.out.1,HH.out.1,HE.out.2.2.1,HE.out.2.2.2.1,HH.out.2⟩
end Go.Proofs.YtdbjbbdhlpfhjaaGreatDoor
namespace Go.Proofs.YtdbjbbdhlpfhjaaGreatDoor
open Go.RowKit
open Lm

def aU (n:Nat):Bool:=decide (0<n % 2)

theorem ij (n:Nat):aU (n+1)=!aU n:=by
 unfold aU
 rcases Nat.mod_two_eq_zero_or_one n with h|h
 ·rw [decide_eq_true (by omega),decide_eq_false (by omega)];rfl
 ·rw [decide_eq_false (by omega),decide_eq_true (by omega)];rfl

structure bD (n xh yh x y a b c d:Nat):Prop where
 top:dH xh yh x y a b c d (aU n)
 zero:n=0→a=1∧b=0∧c=0∧d=1
 acc:1≤n→fN x y a b c d∧a≤c
 grow:2 ^ (n / 2)≤d
 grow1:1≤n→2 ^ ((n - 1) / 2)≤b

theorem bD.start {x y:Nat}(h:y≤x):bD 0 x y x y 1 0 0 1:=
 ⟨⟨LSteps.start _ _,.inl ⟨rfl,rfl,rfl,rfl,h⟩⟩,fun _=>⟨rfl,rfl,rfl,rfl⟩,fun h=>by omega,by simp,fun h=>by omega⟩

theorem bD.next {n xh yh x y a b c d:Nat}(h:bD n xh yh x y a b c d)(hy:0<y)(h1:b+x / y*d≤x % y)(h2:x % y+(d+(b+x / y*d))≤y) :
  bD (n+1) xh yh y (x % y) c d (a+x / y*c) (b+x / y*d):=by
 obtain⟨n1,n2,n3,n4,n5,n6,n7⟩:=h.top.next hy
 have hq:1≤x / y:=(Nat.le_div_iff_mul_le hy).2 (by omega)
 have p2:c≤x / y*c:=Nat.le_mul_of_pos_left _ hq
 have p3:d≤x / y*d:=Nat.le_mul_of_pos_left _ hq
 have hl:fN y (x % y) c d (a+x / y*c) (b+x / y*d):=⟨n2,n3,n4,n5,n6,h1,h2⟩
 refine⟨?_,fun h=>by omega,fun _=>⟨hl,by omega⟩,?_,fun _=>?_⟩
 ·rw [ij];exact⟨n1,.inr hl⟩
 ·rcases Nat.eq_zero_or_pos n with h0|h0
  ·subst h0
   simp
   omega
  ·have g:=h.grow
   have g1:=h.grow1 h0
   rcases Nat.mod_two_eq_zero_or_one n with hm|hm
   ·have e:(n+1) / 2=n / 2:=by omega
    rw [e];omega
   ·have e:(n+1) / 2=n / 2+1:=by omega
    have e1:(n - 1) / 2=n / 2:=by omega
    rw [e1] at g1
    rw [e,Nat.pow_succ];omega
 ·rw [show n+1 - 1=n by omega];exact h.grow

theorem bD.few {n xh yh x y a b c d:Nat}(h:bD n xh yh x y a b c d)(hx:0<x)(hl:xh<18446744073709551616):n<128:=by
 have h1:=h.top.1.d_le hx
 have h2:=h.grow
 rcases Nat.lt_or_ge n 128 with h3|h3
 ·exact h3
 ·exfalso
  have h4:2 ^ 64≤2 ^ (n / 2):=Nat.pow_le_pow_right (by omega) (by omega)
  have h5:(2:Nat) ^ 64=18446744073709551616:=rfl
  omega

theorem nh {X Y X' Y' a b c d:Nat}(det:a*d=b*c+1)(f1:X'+b*Y=a*X)(f2:Y'+c*X=d*Y)(hg:Nat.gcd X' Y'=Nat.gcd X Y)(hac:a≤c)(hbd:b≤d)(hy:Y'≤Y):Many a b c d false X Y X' Y':=by
 have e1:(X':Int)=(a:Int)*X - (b:Int)*Y:=by
  have:=congrArg (fun n:Nat=>(n:Int)) f1
  simp only [Int.natCast_add,Int.natCast_mul] at this
  omega
 have e2:(Y':Int)=(d:Int)*Y - (c:Int)*X:=by
  have:=congrArg (fun n:Nat=>(n:Int)) f2
  simp only [Int.natCast_add,Int.natCast_mul] at this
  omega
 have g1:X=d*X'+b*Y':=by
  have k1:d*(X'+b*Y)=d*(a*X):=by rw [f1]
  have k2:b*(Y'+c*X)=b*(d*Y):=by rw [f2]
  have k3:a*d*X=(b*c+1)*X:=by rw [det]
  grind
 have g2:Y=c*X'+a*Y':=by
  have k1:c*(X'+b*Y)=c*(a*X):=by rw [f1]
  have k2:a*(Y'+c*X)=a*(d*Y):=by rw [f2]
  have k3:a*d*Y=(b*c+1)*Y:=by rw [det]
  grind
 exact⟨g1,g2,by rw [e1];simp [fsg],by rw [e2];simp [fsg],hg,⟨hac,hbd⟩,hy⟩

theorem po {X Y X' Y' a b c d:Nat}(det:b*c=a*d+1)(f1:X'+a*X=b*Y)(f2:Y'+d*Y=c*X)(hg:Nat.gcd X' Y'=Nat.gcd X Y)(hac:a≤c)(hbd:b≤d)(hy:Y'≤Y):Many a b c d true X Y X' Y':=by
 have e1:(X':Int)=(b:Int)*Y - (a:Int)*X:=by
  have:=congrArg (fun n:Nat=>(n:Int)) f1
  simp only [Int.natCast_add,Int.natCast_mul] at this
  omega
 have e2:(Y':Int)=(c:Int)*X - (d:Int)*Y:=by
  have:=congrArg (fun n:Nat=>(n:Int)) f2
  simp only [Int.natCast_add,Int.natCast_mul] at this
  omega
 have g1:X=d*X'+b*Y':=by
  have k1:d*(X'+a*X)=d*(b*Y):=by rw [f1]
  have k2:b*(Y'+d*Y)=b*(c*X):=by rw [f2]
  have k3:b*c*X=(a*d+1)*X:=by rw [det]
  grind
 have g2:Y=c*X'+a*Y':=by
  have k1:c*(X'+a*X)=c*(b*Y):=by rw [f1]
  have k2:a*(Y'+d*Y)=a*(c*X):=by rw [f2]
  have k3:b*c*Y=(a*d+1)*Y:=by rw [det]
  grind
 exact⟨g1,g2,by rw [e1];simp [fsg];omega,by rw [e2];simp [fsg];omega,hg,⟨hac,hbd⟩,hy⟩

theorem bD.many {n xh yh x y a b c d X Y P xl yl:Nat}(h:bD n xh yh x y a b c d)(hn:1≤n)(eX:X=xh*P+xl)(eY:Y=yh*P+yl)(lx:xl<P)(ly:yl<P) :
  ∃X' Y',LTake X Y X' Y'∧Many a b c d (aU n) X Y X' Y'∧(aU n=false→X'+b*Y=a*X∧Y'+c*X=d*Y)∧(aU n=true→X'+a*X=b*Y∧Y'+d*Y=c*X):=by
 obtain⟨hl,hac⟩:=h.acc hn
 have hs:=h.top.1
 cases ho:aU n
 ·obtain⟨X',Y',f1,f2,t⟩:=lehmer_even (hs.even ho) hs.hx hs.hy eX eY lx ly hl.dy hl.xy hl.cd hl.c1
  exact⟨X',Y',t,nh (hs.even ho) f1 f2 t.gcd hac hl.bd (by have:=t.lt;have:=t.le;omega),fun _=>⟨f1,f2⟩,(fun h=>(by cases h))⟩
 ·obtain⟨X',Y',f1,f2,t⟩:=lehmer_odd (hs.odd ho) hs.hx hs.hy eX eY lx ly hl.dy hl.xy hl.ab hl.cd hl.c1
  exact⟨X',Y',t,po (hs.odd ho) f1 f2 t.gcd hac hl.bd (by have:=t.lt;have:=t.le;omega),(fun h=>(by cases h)),fun _=>⟨f1,f2⟩⟩

theorem iT {vo va vb l o o2 A B x y P:Nat}(h:vo+P*o=A*va+B*vb)(hl:l+18446744073709551616*o2=A*x+B*y+o) :
  vo+P*l+P*18446744073709551616*o2=A*(va+P*x)+B*(vb+P*y):=by
 have e1:P*(l+18446744073709551616*o2)=P*(A*x+B*y+o):=by rw [hl]
 grind

theorem iu {X':List Nat}{A B x y o:Nat}(h:val X'+18446744073709551616 ^ X'.length*o=A*x+B*y):val (X' ++ [o])=A*x+B*y:=by
 rw [val_append,←h]
 simp [val]

theorem oI (X:List Nat)(k:Nat):val (X ++ List.replicate k 0)=val X:=by
 rw [val_append,val_replicate]
 simp

structure FrP (P:Nat→Prop)(w w':World):Prop where
 os:w'.os=w.os
 tape:w'.tape=w.tape
 output:w'.output=w.output
 size:w.heap.size≤w'.heap.size
 block:∀k,k<w.heap.size→P k→w'.heap[k]?=w.heap[k]?

theorem FrP.refl (P:Nat→Prop)(w:World):FrP P w w:=⟨rfl,rfl,rfl,Nat.le_refl _,fun _ _ _=>rfl⟩

theorem FrP.setCell {P:Nat→Prop}{a w:World}(h:FrP P a w)(g off:Nat)(u:Value)(hg:g<a.heap.size→¬P g):FrP P a (w.setCell ⟨g,off,none⟩ u):=
 ⟨h.os,h.tape,h.output,by simpa using h.size,fun k h1 h2=>(Below.heap_setCell w _ u k (fun e=>by subst e;exact hg h1 h2)).trans (h.block k h1 h2)⟩

theorem FrP.below {P:Nat→Prop}{a w w':World}(h:FrP P a w)(hb:Below w.heap.size w w'):FrP P a w':=
 ⟨hb.os.trans h.os,hb.tape.trans h.tape,hb.output.trans h.output,Nat.le_trans h.size hb.size,fun k h1 h2=>(hb.block k (Nat.lt_of_lt_of_le h1 h.size)).trans (h.block k h1 h2)⟩

theorem FrP.of_below {P:Nat→Prop}{w w':World}(hb:Below w.heap.size w w'):FrP P w w':=(FrP.refl P w).below hb

theorem FrP.grown {P:Nat→Prop}{a w w':World}{row:Option Nat}(h:FrP P a w)(hg:w.grownBy w' row)(hr:∀k,row=some k→k<a.heap.size→¬P k):FrP P a w':=
 ⟨hg.os.trans h.os,hg.tape.trans h.tape,hg.output.trans h.output,Nat.le_trans h.size hg.size,fun k h1 h2=>(hg.block k (Nat.lt_of_lt_of_le h1 h.size) (fun e=>hr k e.symm h1 h2)).trans (h.block k h1 h2)⟩

def Pk (g:Nat)(vx vy:Value)(k:Nat):Prop:=k≠g∧vx.ownBlock≠some k∧vy.ownBlock≠some k

def Nx (n:Nat)(vx vy v:Value):Prop:=∀k,v.ownBlock=some k→vx.ownBlock=some k∨vy.ownBlock=some k∨n≤k

structure MSt (w:World)(g base:Nat)(vx vy:Value)(o:Bool)(S5:Array Value)(wr:World)(vx' vy':Value)(X' Y':List Nat):Prop where
 x:Ans wr base vx' X'
 y:Ans wr base vy' Y'
 apart:∀k,vx'.ownBlock=some k→vy'.ownBlock≠some k
 nx:Nx (w.heap.size+1) vx vy vx'
 ny:Nx (w.heap.size+1) vx vy vy'
 fr:FrP (Pk g vx vy) w wr
 box:wr.heap[g]?=some (.cells #[vx,vy,.bool o] 107)
 sb:wr.heap[w.heap.size]?=some (.cells S5 139)
 hbase:base≤w.heap.size
 gb:g<w.heap.size∧vx.ownBlock≠some g∧vy.ownBlock≠some g
 ltx:∀k,vx.ownBlock=some k→k<w.heap.size
 lty:∀k,vy.ownBlock=some k→k<w.heap.size

theorem Nx.not {n g:Nat}{vx vy v:Value}(h:Nx n vx vy v){k:Nat}(e:v.ownBlock=some k)(hk:k<n):¬Pk g vx vy k:=by
 intro ⟨_,h2,h3⟩
 rcases h k e with h4|h4|h4
 ·exact h2 h4
 ·exact h3 h4
 ·omega

section
variable {w:World} {g base:Nat} {vx vy:Value} {o:Bool} {S5:Array Value} {wr:World} {vx' vy':Value} {X' Y':List Nat}

theorem MSt.xne (h:MSt w g base vx vy o S5 wr vx' vy' X' Y'):vx'.ownBlock≠some g∧vx'.ownBlock≠some w.heap.size:=by
 refine⟨fun e=>?_,fun e=>?_⟩
 ·rcases h.nx _ e with h1|h1|h1
  ·exact h.gb.2.1 h1
  ·exact h.gb.2.2 h1
  ·have:=h.gb.1;omega
 ·rcases h.nx _ e with h1|h1|h1
  ·have:=h.ltx _ h1;omega
  ·have:=h.lty _ h1;omega
  ·omega

theorem MSt.yne (h:MSt w g base vx vy o S5 wr vx' vy' X' Y'):vy'.ownBlock≠some g∧vy'.ownBlock≠some w.heap.size:=by
 refine⟨fun e=>?_,fun e=>?_⟩
 ·rcases h.ny _ e with h1|h1|h1
  ·exact h.gb.2.1 h1
  ·exact h.gb.2.2 h1
  ·have:=h.gb.1;omega
 ·rcases h.ny _ e with h1|h1|h1
  ·have:=h.ltx _ h1;omega
  ·have:=h.lty _ h1;omega
  ·omega

theorem MSt.wsz (h:MSt w g base vx vy o S5 wr vx' vy' X' Y'):w.heap.size<wr.heap.size:=bC h.sb

theorem MSt.below (h:MSt w g base vx vy o S5 wr vx' vy' X' Y'){w2:World}(hb:Below wr.heap.size wr w2):MSt w g base vx vy o S5 w2 vx' vy' X' Y':=
 ⟨h.x.below hb,h.y.below hb,h.apart,h.nx,h.ny,h.fr.below hb,ac hb h.box,ac hb h.sb,h.hbase,h.gb,h.ltx,h.lty⟩

theorem iU {X:List Nat}{z:Nat}(h:Limbs X)(hz:z<18446744073709551616):Limbs (X ++ [z]):=by
 intro u hu
 rcases List.mem_append.1 hu with h1|h1
 ·exact h u h1
 ·simp at h1;subst h1;exact hz

theorem Ans.grownW {w w':World}{base:Nat}{v:Value}{zs:List Nat}{row:Option Nat}(h:Ans w base v zs)(hg:w.grownBy w' row)(hne:∀k,v.ownBlock=some k→row≠some k):Ans w' base v zs:=by
 refine⟨h.own.kept hg ?_,h.limbs⟩
 cases hv:v.ownBlock with
 | none=>exact .inl rfl
 | some k=>exact .inr (fun e=>hne k hv e.symm)

theorem ft {w w':World}{g:Nat}{x:Obj}{row:Option Nat}(h:w.heap[g]?=some x)(hg:w.grownBy w' row)(hne:row≠some g):w'.heap[g]?=some x:=by
 rw [hg.block g (bC h) (fun e=>hne e.symm)];exact h

theorem MSt.growx (h:MSt w g base vx vy o S5 wr vx' vy' X' Y')(z:Nat)(hz:z<18446744073709551616){v':Value}{w1:World}{c:Obj}(ho:w1.ownsRow base 61 1 v' (X'.length+1) (X'.map lv ++ [.int .u64 (z:Int)]))(hg:(wr.alloc c).grownBy w1 vx'.ownBlock)(hat:v'.ownBlock=vx'.ownBlock∨v'.ownBlock=some (wr.alloc c).heap.size):MSt w g base vx vy o S5 w1 v' vy' (X' ++ [z]) Y':=by
 have hb:Below wr.heap.size wr (wr.alloc c):=(Below.refl _ _).alloc (Nat.le_refl _) _
 have h2:=h.below hb
 have hs:=h.wsz
 refine⟨⟨by rw [List.length_append,List.map_append];exact ho,iU h.x.limbs hz⟩,h2.y.grownW hg (fun k e=>fun e2=>h.apart k e2 e),fun k e e2=>?_,fun k e=>?_,h.ny,h2.fr.grown hg (fun k e hk=>h.nx.not e (by omega)),ft h2.box hg h.xne.1,ft h2.sb hg h.xne.2,h.hbase,h.gb,h.ltx,h.lty⟩
 ·rcases hat with h3|h3
  ·exact h.apart k (by rw [←h3];exact e) e2
  ·have h4:=(h.y.own.lt k e2).2
   rw [e] at h3
   have:=Option.some.inj h3
   have:=hb.size
   omega
 ·rcases hat with h3|h3
  ·exact h.nx k (by rw [←h3];exact e)
  ·rw [e] at h3
   have:=Option.some.inj h3
   have:=hb.size
   exact .inr (.inr (by omega))

theorem MSt.growy (h:MSt w g base vx vy o S5 wr vx' vy' X' Y')(z:Nat)(hz:z<18446744073709551616){v':Value}{w1:World}{c:Obj}(ho:w1.ownsRow base 61 1 v' (Y'.length+1) (Y'.map lv ++ [.int .u64 (z:Int)]))(hg:(wr.alloc c).grownBy w1 vy'.ownBlock)(hat:v'.ownBlock=vy'.ownBlock∨v'.ownBlock=some (wr.alloc c).heap.size):MSt w g base vx vy o S5 w1 vx' v' X' (Y' ++ [z]):=by
 have hb:Below wr.heap.size wr (wr.alloc c):=(Below.refl _ _).alloc (Nat.le_refl _) _
 have h2:=h.below hb
 have hs:=h.wsz
 refine⟨h2.x.grownW hg (fun k e=>h.apart k e),⟨by rw [List.length_append,List.map_append];exact ho,iU h.y.limbs hz⟩,fun k e e2=>?_,h.nx,fun k e=>?_,h2.fr.grown hg (fun k e hk=>h.ny.not e (by omega)),ft h2.box hg h.yne.1,ft h2.sb hg h.yne.2,h.hbase,h.gb,h.ltx,h.lty⟩
 ·rcases hat with h3|h3
  ·exact h.apart k e (by rw [←h3];exact e2)
  ·have h4:=(h.x.own.lt k e).2
   rw [e2] at h3
   have:=Option.some.inj h3
   have:=hb.size
   omega
 ·rcases hat with h3|h3
  ·exact h.ny k (by rw [←h3];exact e)
  ·rw [e] at h3
   have:=Option.some.inj h3
   have:=hb.size
   exact .inr (.inr (by omega))

theorem MSt.set2 {gx cx gy cy:Nat}(h:MSt w g base vx vy o S5 wr (.slice (some ⟨gx,0,none⟩) X'.length cx) (.slice (some ⟨gy,0,none⟩) Y'.length cy) X' Y')(k l m:Nat)(hl:l<18446744073709551616)(hm:m<18446744073709551616) :
  MSt w g base vx vy o S5 ((wr.setCell ⟨gx,k,none⟩ (.int .u64 (l:Int))).setCell ⟨gy,k,none⟩ (.int .u64 (m:Int))) (.slice (some ⟨gx,0,none⟩) (X'.set k l).length cx) (.slice (some ⟨gy,0,none⟩) (Y'.set k m).length cy) (X'.set k l) (Y'.set k m):=by
 have hne:gx≠gy:=fun e=>h.apart gx rfl (by rw [e];rfl)
 have hxg:gx≠g:=fun e=>h.xne.1 (by rw [←e];rfl)
 have hxw:gx≠w.heap.size:=fun e=>h.xne.2 (by rw [←e];rfl)
 have hyg:gy≠g:=fun e=>h.yne.1 (by rw [←e];rfl)
 have hyw:gy≠w.heap.size:=fun e=>h.yne.2 (by rw [←e];rfl)
 have h1:=h.x.stored' k l hl
 have h2:Ans (wr.setCell ⟨gx,k,none⟩ (.int .u64 (l:Int))) base (.slice (some ⟨gy,0,none⟩) Y'.length cy) Y':=h.y.apart gx k _ (fun e=>hne (Option.some.inj e).symm)
 have f1:=h.fr.setCell gx k (.int .u64 (l:Int)) (fun hk=>h.nx.not rfl (by omega))
 refine⟨h1.apart gy k _ (fun e=>hne (Option.some.inj e)),h2.stored' k m hm,fun i e e2=>h.apart i e e2,fun i e=>h.nx i e,fun i e=>h.ny i e,f1.setCell gy k _ (fun hk=>h.ny.not rfl (by omega)),aN (aN h.box (Ne.symm hxg)) (Ne.symm hyg),aN (aN h.sb (Ne.symm hxw)) (Ne.symm hyw),h.hbase,h.gb,h.ltx,h.lty⟩

theorem MSt.trimx {ax:Option Addr}{cx:Nat}(h:MSt w g base vx vy o S5 wr (.slice ax X'.length cx) vy' X' Y'):MSt w g base vx vy o S5 wr (.slice ax (tr X').length cx) vy' (tr X') Y':=by
 refine⟨h.x.trim,h.y,fun k e=>h.apart k ?_,fun k e=>h.nx k ?_,h.ny,h.fr,h.box,h.sb,h.hbase,h.gb,h.ltx,h.lty⟩ <;> (cases ax <;> exact e)

theorem MSt.trimy {ay:Option Addr}{cy:Nat}(h:MSt w g base vx vy o S5 wr vx' (.slice ay Y'.length cy) X' Y'):MSt w g base vx vy o S5 wr vx' (.slice ay (tr Y').length cy) X' (tr Y'):=by
 refine⟨h.x,h.y.trim,fun k e e2=>h.apart k e ?_,h.nx,fun k e=>h.ny k ?_,h.fr,h.box,h.sb,h.hbase,h.gb,h.ltx,h.lty⟩
 ·cases ay <;> exact e2
 ·cases ay <;> exact e
end

structure aL (w:World)(g base:Nat)(vx vy:Value)(fx fy:Nat)(o:Bool):Prop where
 box:w.heap[g]?=some (.cells #[vx,vy,.bool o] 107)
 gb:vx.ownBlock≠some g∧vy.ownBlock≠some g
 at2:∃X Y,Ans w base vx X∧Ans w base vy Y∧val X=fx∧val Y=fy∧tr X=X∧tr Y=Y
 apart:∀k,vx.ownBlock=some k→vy.ownBlock≠some k

def fV (g base:Nat)(vx vy:Value)(fx fy:Nat)(o:Bool)(w:World)(e:Ending)(w':World):Prop:=
 e=.returned (.tuple #[])∧∃vx' vy',aL w' g base vx' vy' fx fy o∧Nx w.heap.size vx vy vx'∧Nx w.heap.size vx vy vy'∧FrP (Pk g vx vy) w w'

theorem aL.start {w:World}{g base:Nat}{vx vy:Value}{fx fy:Nat}{o:Bool}(h:aL w g base vx vy fx fy o)(hb:base≤w.heap.size)(S5:Array Value){X Y:List Nat}(hX:Ans w base vx X)(hY:Ans w base vy Y):MSt w g base vx vy o S5 (w.alloc (.cells S5 139)) vx vy X Y:=by
 have hbl:Below w.heap.size w (w.alloc (.cells S5 139)):=(Below.refl _ _).alloc (Nat.le_refl _) _
 exact⟨hX.below hbl,hY.below hbl,h.apart,fun k e=>.inl e,fun k e=>.inr (.inl e),FrP.of_below hbl,ac hbl h.box,heap_alloc_new ..,hb,⟨bC h.box,h.gb⟩,fun k e=>(hX.own.lt k e).2,fun k e=>(hY.own.lt k e).2⟩

theorem Nx.less {n m:Nat}{vx vy v:Value}(h:Nx n vx vy v)(hm:m≤n):Nx m vx vy v:=fun k e=>by
 rcases h k e with h1|h1|h1
 ·exact .inl h1
 ·exact .inr (.inl h1)
 ·exact .inr (.inr (by omega))

theorem MSt.stored {w:World}{g base:Nat}{vx vy:Value}{o:Bool}{S5:Array Value}{wr:World}{vx' vy':Value}{X' Y':List Nat}(h:MSt w g base vx vy o S5 wr vx' vy' X' Y')(hx:tr X'=X')(hy:tr Y'=Y') :
  aL ((wr.setCell ⟨g,0,none⟩ vx').setCell ⟨g,1,none⟩ vy') g base vx' vy' (val X') (val Y') o∧((wr.setCell ⟨g,0,none⟩ vx').setCell ⟨g,1,none⟩ vy').heap[w.heap.size]?=some (.cells S5 139)∧FrP (Pk g vx vy) w ((wr.setCell ⟨g,0,none⟩ vx').setCell ⟨g,1,none⟩ vy')∧Nx w.heap.size vx vy vx'∧Nx w.heap.size vx vy vy':=by
 have hne:w.heap.size≠g:=by have:=h.gb.1;omega
 refine⟨⟨aT (aT h.box vx') vy',⟨h.xne.1,h.yne.1⟩,⟨X',Y',(h.x.apart g 0 _ h.xne.1).apart g 1 _ h.xne.1,(h.y.apart g 0 _ h.yne.1).apart g 1 _ h.yne.1,rfl,rfl,hx,hy⟩,h.apart⟩,aN (aN h.sb hne) hne,(h.fr.setCell g 0 _ (fun _ e=>e.1 rfl)).setCell g 1 _ (fun _ e=>e.1 rfl),h.nx.less (by omega),h.ny.less (by omega)⟩

theorem aL.below {w w2:World}{g base:Nat}{vx vy:Value}{fx fy:Nat}{o:Bool}(h:aL w g base vx vy fx fy o)(hb:Below w.heap.size w w2):aL w2 g base vx vy fx fy o:=by
 obtain⟨X,Y,h1,h2,h3⟩:=h.at2
 exact⟨ac hb h.box,h.gb,⟨X,Y,h1.below hb,h2.below hb,h3⟩,h.apart⟩

theorem aL.flip {w:World}{g base:Nat}{vx vy:Value}{fx fy:Nat}{o:Bool}(h:aL w g base vx vy fx fy o)(o':Bool):aL (w.setCell ⟨g,2,none⟩ (.bool o')) g base vx vy fx fy o':=by
 obtain⟨X,Y,h1,h2,h3⟩:=h.at2
 have gb:=h.gb
 exact⟨aT h.box _,h.gb,⟨X,Y,h1.apart g 2 _ gb.1,h2.apart g 2 _ gb.2,h3⟩,h.apart⟩

structure Bl (k:Nat)(X0 Y0 X1 Y1:List Nat)(a b c d ov un:Nat):Prop where
 lx:X1.length=X0.length
 ly:Y1.length=Y0.length
 sx:∀j,k≤j→X1.getD j 0=X0.getD j 0
 sy:∀j,k≤j→Y1.getD j 0=Y0.getD j 0
 vx:val (X1.take k)+18446744073709551616 ^ k*ov=a*val (X0.take k)+b*val (Y0.take k)
 vy:val (Y1.take k)+18446744073709551616 ^ k*un=c*val (X0.take k)+d*val (Y0.take k)
 o:ov<a+b
 u:un<c+d

theorem Bl.start (X0 Y0:List Nat){a b c d:Nat}(h1:0<a+b)(h2:0<c+d):Bl 0 X0 Y0 X0 Y0 a b c d 0 0:=
 ⟨rfl,rfl,fun _ _=>rfl,fun _ _=>rfl,by simp [val],by simp [val],h1,h2⟩

theorem Bl.next {k:Nat}{X0 Y0 X1 Y1:List Nat}{a b c d ov un l ov2 m un2:Nat}(h:Bl k X0 Y0 X1 Y1 a b c d ov un)(hx:k<X0.length)(hy:k<Y0.length)(e1:l+18446744073709551616*ov2=a*X0.getD k 0+b*Y0.getD k 0+ov)(o1:ov2<a+b)(e2:m+18446744073709551616*un2=c*X0.getD k 0+d*Y0.getD k 0+un)(o2:un2<c+d) :
  Bl (k+1) X0 Y0 (X1.set k l) (Y1.set k m) a b c d ov2 un2:=by
 have hlx:=h.lx
 have hly:=h.ly
 refine⟨by rw [List.length_set];exact hlx,by rw [List.length_set];exact hly,fun j hj=>?_,fun j hj=>?_,?_,?_,o1,o2⟩
 ·rw [cQ,if_neg (by omega)];exact h.sx j (by omega)
 ·rw [cQ,if_neg (by omega)];exact h.sy j (by omega)
 ·rw [take_set_succ _ _ _ (by omega),val_take_next X0,val_take_next Y0,Nat.pow_succ]
  exact iT h.vx e1
 ·rw [take_set_succ _ _ _ (by omega),val_take_next X0,val_take_next Y0,Nat.pow_succ]
  exact iT h.vy e2

theorem Bl.ends {n:Nat}{X0 Y0 X1 Y1:List Nat}{a b c d ov un:Nat}(h:Bl n X0 Y0 X1 Y1 a b c d ov un)(hx:X0.length=n)(hy:Y0.length=n):val (X1 ++ [ov])=a*val X0+b*val Y0∧val (Y1 ++ [un])=c*val X0+d*val Y0:=by
 have h1:=h.vx
 have h2:=h.vy
 have hlx:=h.lx
 have hly:=h.ly
 rw [List.take_of_length_le (by omega),List.take_of_length_le (by omega),List.take_of_length_le (by omega)] at h1 h2
 refine⟨iu ?_,iu ?_⟩
 ·rw [hlx,hx];exact h1
 ·rw [hly,hy];exact h2
end Go.Proofs.YtdbjbbdhlpfhjaaGreatDoor
namespace Go.Proofs.YtdbjbbdhlpfhjaaGreatDoor
open Go.RowKit
open Lm
attribute [local go_sem ↓] Go.wp_at_zero Go.wp_at_succ

theorem mP (base gx cx gy cy a b c d:Nat)(X Y:List Nat)(w:World)(hX:Ans w base (.slice (some ⟨gx,0,none⟩) X.length cx) X)(hY:Ans w base (.slice (some ⟨gy,0,none⟩) Y.length cy) Y)(hne:gx≠gy)(hxy:Y.length≤X.length)(hbx:base≤gx)(hby:base≤gy)(hbw:base≤w.heap.size)
  (ha:a<4294967296) (hb:b<4294967296) (hc:c<4294967296) (hd:d<4294967296) (aq:Option Addr) (lq kq:Nat) (hod:(0<lq % 2)=(false=true)) (P:Nat→Prop) (hPx:¬P gx) (hPy:¬P gy) :
  Calls Tryz.prog 121 #[stw a b c d aq lq kq,.slice (some ⟨gx,0,none⟩) X.length cx,.slice (some ⟨gy,0,none⟩) Y.length cy] w fun e w'=>gB base gx cx gy cy X Y (sgL false a) (sgL false b) (sgL false d) (sgL false c) w e w'∧FrP P w w':=by
 unfold stw
 obtain⟨w0,hw0⟩:∃w0,w0=w.alloc (.cells #[.int .u64 a,.int .u64 b,.int .u64 c,.int .u64 d,.slice aq lq kq] 139):=⟨_,rfl⟩
 have hb0:Below w.heap.size w w0:=by rw [hw0];exact (Below.refl _ _).alloc (Nat.le_refl _) _
 have h0:w0.heap[w.heap.size]?=some (.cells #[.int .u64 a,.int .u64 b,.int .u64 c,.int .u64 d,.slice aq lq kq] 139):=by rw [hw0];exact heap_alloc_new ..
 have hgx:gx≠w.heap.size:=fun e=>by
  have:=(hX.own.lt gx rfl).2;omega
 have hgy:gy≠w.heap.size:=fun e=>by
  have:=(hY.own.lt gy rfl).2;omega
 have O:=gE a b c d aq lq kq false w0 hod
 unfold stw at O
 obtain⟨d0,d1,d2,d3,d4⟩:=aH h0
 have HXA:=aa (hX.below hb0)
 have HYA:=aa (hY.below hb0)
 have H00:=aa h0
 have HB0:=aa (hb0.mono hbw)
 have HBS:=aa (Nat.le_trans hbw hb0.size)
 have HW0:=aa hw0
 clear hX hY hb0 h0 hw0 hod
 go_enter Tryz.func121,Tryz.ntmps121
 go_upto_region 2 with fail
 rw [←HW0.out]
 go_wp2_with fail
 refine O.mono ?_
 rintro e w2 ⟨rfl,hb2⟩
 have HT0:Hid (cn w w2 base gx cx gy cy X Y X Y 0 (sgL false a) (sgL false b) (sgL false d) (sgL false c) 0 0):=aa ⟨rfl,rfl,HXA.out.below hb2,HYA.out.below hb2,fun _ _=>rfl,fun _ _=>rfl,by omega,by omega,by omega,by omega,by simp [val],by simp [val],HB0.out.trans (hb2.mono HBS.out)⟩
 have H0:=aa (ac hb2 H00.out)
 have HF0:Hid (FrP P w w2):=aa ((FrP.of_below (by rw [HW0.out];exact (Below.refl _ _).alloc (Nat.le_refl _) _)).below hb2)
 clear O hb2 d0 d1 d2 d3 d4 HXA HYA H00 HB0 HW0 HBS
 go_wp2
 go_loopw [6,7,16] (fun ov un i wr=>∃(k:Nat) (X' Y':List Nat) (over under:Int),k≤Y.length∧ov=.int .i64 over∧un=.int .i64 under∧i=.int .i64 (k:Int)∧cn w wr base gx cx gy cy X Y X' Y' k (sgL false a) (sgL false b) (sgL false d) (sgL false c) over under∧wr.heap[w.heap.size]?=some (.cells #[.int .u64 a,.int .u64 b,.int .u64 c,.int .u64 d,.slice aq lq kq] 139)∧FrP P w wr) (fun _ _ i _=>Y.length - (intOf i).toNat)
 case atStart=>exact⟨0,X,Y,0,0,Nat.zero_le _,rfl,rfl,rfl,HT0.out,H0.out,HF0.out⟩
 case round=>
  obtain⟨k,X',Y',over,under,hk,rfl,rfl,rfl,htk,hbk,hfp⟩:=hrel
  have HFP:=aa hfp
  have HTK:=aa htk
  have HBK:=aa hbk
  have hlx:=htk.lx
  have hly:=htk.ly
  have ax:=htk.ax
  have ay:=htk.ay
  rw [hlx] at ax
  rw [hly] at ay
  clear HT0 H0 HF0 hfp
  by_cases hkl:k<Y.length
  ·have i1:(k:Int)<(Y.length:Int):=by omega
   have i2:(k:Int)<(X.length:Int):=by omega
   have i0:(0:Int)≤(k:Int):=by omega
   have hkb:k<9223372036854775807:=by
    have:=(htk.ay.cellAt).1
    omega
   have wk:IntKind.i64.wrap (k:Int)=(k:Int):=by
    rw [IntKind.wrap_i64];omega
   have fx:=htk.ax.cellAt.2.1
   have fy:=htk.ay.cellAt.2.1
   have cxk:=htk.ax.cellAt.2.2 k (by omega)
   have cyk:=htk.ay.cellAt.2.2 k (by omega)
   rw [htk.sx k (Nat.le_refl _)] at cxk
   rw [htk.sy k (Nat.le_refl _)] at cyk
   have lv:X.getD k 0<18446744073709551616:=by have:=limb_lt htk.ax.limbs k;rw [htk.sx k (Nat.le_refl _)] at this;exact this
   have lw:Y.getD k 0<18446744073709551616:=by have:=limb_lt htk.ay.limbs k;rw [htk.sy k (Nat.le_refl _)] at this;exact this
   obtain⟨s0,s1,s2,s3,s4⟩:=aH hbk
   obtain⟨xk,hxk⟩:∃xk,X.getD k 0=xk:=⟨_,rfl⟩
   obtain⟨yk,hyk⟩:∃yk,Y.getD k 0=yk:=⟨_,rfl⟩
   rw [hxk] at cxk lv
   rw [hyk] at cyk lw
   have L1:=fun W=>fe a xk b yk over W (by omega) (by omega) (by omega) (by omega) htk.o1 htk.o2
   have L2:=fun W=>fe d yk c xk under W (by omega) (by omega) (by omega) (by omega) htk.u1 htk.u2
   have HNX:=aa (fun l m o' u'=>htk.next (l:=l) (m:=m) (o':=o') (u':=u') hne hkl hxy hbx hby)
   rw [hxk,hyk] at HNX
   clear hxk hyk htk hbk ax ay
   go_wp2_with fail
   refine (L1 _).mono ?_
   rintro e w2 ⟨l,t,rfl,hl,he1,ht1,ht2,hw⟩
   rw [hw];clear hw w2 L1
   have cyk2:(wr.setCell ⟨gx,k,none⟩ (.int .u64 (l:Int))).cell? ⟨gy,k,none⟩=some (.int .u64 (yk:Int)):=by rw [bh hne];exact cyk
   have q0:∀i v,wr.cell? ⟨w.heap.size,i,none⟩=some v→(wr.setCell ⟨gx,k,none⟩ (.int .u64 (l:Int))).cell? ⟨w.heap.size,i,none⟩=some v:=fun i v h=>by rw [bh hgx];exact h
   have r0:=q0 _ _ s0
   have r1:=q0 _ _ s1
   have r2:=q0 _ _ s2
   have r3:=q0 _ _ s3
   have r4:=q0 _ _ s4
   have HL1:=aa (And.intro hl (And.intro he1 (And.intro ht1 ht2)))
   clear q0 he1 ht1 ht2
   go_wp2_with fail
   refine (L2 _).mono ?_
   rintro e w2 ⟨m,u,rfl,hm,he2,hu1,hu2,hw⟩
   rw [hw];clear hw w2 L2
   have HL2:=aa (And.intro hm (And.intro he2 (And.intro hu1 hu2)))
   have fy2:(wr.setCell ⟨gx,k,none⟩ (.int .u64 (l:Int))).frozen? ⟨gy,k,none⟩=false:=by
    simp only [World.frozen?]
    rw [Below.heap_setCell _ _ _ _ (Ne.symm hne)]
    exact fy k
   clear he2 hu1 hu2
   go_wp2
   go_roundw
   case rel=>
    obtain⟨a1,a2,a3,a4⟩:=HL1.out
    obtain⟨b1,b2,b3,b4⟩:=HL2.out
    refine⟨k+1,_,_,t,u,hkl,rfl,rfl,by go_num,HNX.out l m t u a1 b1 ?_ ?_ a3 a4 b3 b4,?_,(HFP.out.setCell gx k _ (fun _=>hPx)).setCell gy k _ (fun _=>hPy)⟩
    ·rw [a2,Int.natCast_mul,Int.natCast_mul] <;> simp only [sgL] <;> grind
    ·rw [b2,Int.natCast_mul,Int.natCast_mul] <;> simp only [sgL] <;> grind
    ·rw [Below.heap_setCell _ _ _ _ (Ne.symm hgy),Below.heap_setCell _ _ _ _ (Ne.symm hgx)];exact HBK.out
   case measure=>simp [intOf];omega
  ·have i1:¬((k:Int)<(Y.length:Int)):=by omega
   have ek:k=Y.length:=by omega
   have HE:Hid (cn w wr base gx cx gy cy X Y X' Y' Y.length (sgL false a) (sgL false b) (sgL false d) (sgL false c) over under):=by rw [←ek];exact HTK
   clear htk hbk ax ay ek
   go_wp2
   go_end0
   exact⟨⟨rfl,X',Y',over,under,HE.out⟩,HFP.out⟩

theorem j9 (base gx cx gy cy a b c d:Nat)(X Y:List Nat)(w:World)(hX:Ans w base (.slice (some ⟨gx,0,none⟩) X.length cx) X)(hY:Ans w base (.slice (some ⟨gy,0,none⟩) Y.length cy) Y)(hne:gx≠gy)(hxy:Y.length≤X.length)(hbx:base≤gx)(hby:base≤gy)(hbw:base≤w.heap.size)
  (ha:a<4294967296) (hb:b<4294967296) (hc:c<4294967296) (hd:d<4294967296) (aq:Option Addr) (lq kq:Nat) (hod:(0<lq % 2)=(true=true)) (P:Nat→Prop) (hPx:¬P gx) (hPy:¬P gy) :
  Calls Tryz.prog 121 #[stw a b c d aq lq kq,.slice (some ⟨gx,0,none⟩) X.length cx,.slice (some ⟨gy,0,none⟩) Y.length cy] w fun e w'=>gB base gx cx gy cy X Y (sgL true a) (sgL true b) (sgL true d) (sgL true c) w e w'∧FrP P w w':=by
 unfold stw
 obtain⟨w0,hw0⟩:∃w0,w0=w.alloc (.cells #[.int .u64 a,.int .u64 b,.int .u64 c,.int .u64 d,.slice aq lq kq] 139):=⟨_,rfl⟩
 have hb0:Below w.heap.size w w0:=by rw [hw0];exact (Below.refl _ _).alloc (Nat.le_refl _) _
 have h0:w0.heap[w.heap.size]?=some (.cells #[.int .u64 a,.int .u64 b,.int .u64 c,.int .u64 d,.slice aq lq kq] 139):=by rw [hw0];exact heap_alloc_new ..
 have hgx:gx≠w.heap.size:=fun e=>by
  have:=(hX.own.lt gx rfl).2;omega
 have hgy:gy≠w.heap.size:=fun e=>by
  have:=(hY.own.lt gy rfl).2;omega
 have O:=gE a b c d aq lq kq true w0 hod
 unfold stw at O
 obtain⟨d0,d1,d2,d3,d4⟩:=aH h0
 have HXA:=aa (hX.below hb0)
 have HYA:=aa (hY.below hb0)
 have H00:=aa h0
 have HB0:=aa (hb0.mono hbw)
 have HBS:=aa (Nat.le_trans hbw hb0.size)
 have HW0:=aa hw0
 clear hX hY hb0 h0 hw0 hod
 go_enter Tryz.func121,Tryz.ntmps121
 go_upto_region 2 with fail
 rw [←HW0.out]
 go_wp2_with fail
 refine O.mono ?_
 rintro e w2 ⟨rfl,hb2⟩
 have HT0:Hid (cn w w2 base gx cx gy cy X Y X Y 0 (sgL true a) (sgL true b) (sgL true d) (sgL true c) 0 0):=aa ⟨rfl,rfl,HXA.out.below hb2,HYA.out.below hb2,fun _ _=>rfl,fun _ _=>rfl,by omega,by omega,by omega,by omega,by simp [val],by simp [val],HB0.out.trans (hb2.mono HBS.out)⟩
 have H0:=aa (ac hb2 H00.out)
 have HF0:Hid (FrP P w w2):=aa ((FrP.of_below (by rw [HW0.out];exact (Below.refl _ _).alloc (Nat.le_refl _) _)).below hb2)
 clear O hb2 d0 d1 d2 d3 d4 HXA HYA H00 HB0 HW0 HBS
 go_wp2
 go_loopw [6,7,16] (fun ov un i wr=>∃(k:Nat) (X' Y':List Nat) (over under:Int),k≤Y.length∧ov=.int .i64 over∧un=.int .i64 under∧i=.int .i64 (k:Int)∧cn w wr base gx cx gy cy X Y X' Y' k (sgL true a) (sgL true b) (sgL true d) (sgL true c) over under∧wr.heap[w.heap.size]?=some (.cells #[.int .u64 a,.int .u64 b,.int .u64 c,.int .u64 d,.slice aq lq kq] 139)∧FrP P w wr) (fun _ _ i _=>Y.length - (intOf i).toNat)
 case atStart=>exact⟨0,X,Y,0,0,Nat.zero_le _,rfl,rfl,rfl,HT0.out,H0.out,HF0.out⟩
 case round=>
  obtain⟨k,X',Y',over,under,hk,rfl,rfl,rfl,htk,hbk,hfp⟩:=hrel
  have HFP:=aa hfp
  have HTK:=aa htk
  have HBK:=aa hbk
  have hlx:=htk.lx
  have hly:=htk.ly
  have ax:=htk.ax
  have ay:=htk.ay
  rw [hlx] at ax
  rw [hly] at ay
  clear HT0 H0 HF0 hfp
  by_cases hkl:k<Y.length
  ·have i1:(k:Int)<(Y.length:Int):=by omega
   have i2:(k:Int)<(X.length:Int):=by omega
   have i0:(0:Int)≤(k:Int):=by omega
   have hkb:k<9223372036854775807:=by
    have:=(htk.ay.cellAt).1
    omega
   have wk:IntKind.i64.wrap (k:Int)=(k:Int):=by
    rw [IntKind.wrap_i64];omega
   have fx:=htk.ax.cellAt.2.1
   have fy:=htk.ay.cellAt.2.1
   have cxk:=htk.ax.cellAt.2.2 k (by omega)
   have cyk:=htk.ay.cellAt.2.2 k (by omega)
   rw [htk.sx k (Nat.le_refl _)] at cxk
   rw [htk.sy k (Nat.le_refl _)] at cyk
   have lv:X.getD k 0<18446744073709551616:=by have:=limb_lt htk.ax.limbs k;rw [htk.sx k (Nat.le_refl _)] at this;exact this
   have lw:Y.getD k 0<18446744073709551616:=by have:=limb_lt htk.ay.limbs k;rw [htk.sy k (Nat.le_refl _)] at this;exact this
   obtain⟨s0,s1,s2,s3,s4⟩:=aH hbk
   obtain⟨xk,hxk⟩:∃xk,X.getD k 0=xk:=⟨_,rfl⟩
   obtain⟨yk,hyk⟩:∃yk,Y.getD k 0=yk:=⟨_,rfl⟩
   rw [hxk] at cxk lv
   rw [hyk] at cyk lw
   have L1:=fun W=>fe b yk a xk over W (by omega) (by omega) (by omega) (by omega) htk.o1 htk.o2
   have L2:=fun W=>fe c xk d yk under W (by omega) (by omega) (by omega) (by omega) htk.u1 htk.u2
   have HNX:=aa (fun l m o' u'=>htk.next (l:=l) (m:=m) (o':=o') (u':=u') hne hkl hxy hbx hby)
   rw [hxk,hyk] at HNX
   clear hxk hyk htk hbk ax ay
   go_wp2_with fail
   refine (L1 _).mono ?_
   rintro e w2 ⟨l,t,rfl,hl,he1,ht1,ht2,hw⟩
   rw [hw];clear hw w2 L1
   have cyk2:(wr.setCell ⟨gx,k,none⟩ (.int .u64 (l:Int))).cell? ⟨gy,k,none⟩=some (.int .u64 (yk:Int)):=by rw [bh hne];exact cyk
   have q0:∀i v,wr.cell? ⟨w.heap.size,i,none⟩=some v→(wr.setCell ⟨gx,k,none⟩ (.int .u64 (l:Int))).cell? ⟨w.heap.size,i,none⟩=some v:=fun i v h=>by rw [bh hgx];exact h
   have r0:=q0 _ _ s0
   have r1:=q0 _ _ s1
   have r2:=q0 _ _ s2
   have r3:=q0 _ _ s3
   have r4:=q0 _ _ s4
   have HL1:=aa (And.intro hl (And.intro he1 (And.intro ht1 ht2)))
   clear q0 he1 ht1 ht2
   go_wp2_with fail
   refine (L2 _).mono ?_
   rintro e w2 ⟨m,u,rfl,hm,he2,hu1,hu2,hw⟩
   rw [hw];clear hw w2 L2
   have HL2:=aa (And.intro hm (And.intro he2 (And.intro hu1 hu2)))
   have fy2:(wr.setCell ⟨gx,k,none⟩ (.int .u64 (l:Int))).frozen? ⟨gy,k,none⟩=false:=by
    simp only [World.frozen?]
    rw [Below.heap_setCell _ _ _ _ (Ne.symm hne)]
    exact fy k
   clear he2 hu1 hu2
   go_wp2
   go_roundw
   case rel=>
    obtain⟨a1,a2,a3,a4⟩:=HL1.out
    obtain⟨b1,b2,b3,b4⟩:=HL2.out
    refine⟨k+1,_,_,t,u,hkl,rfl,rfl,by go_num,HNX.out l m t u a1 b1 ?_ ?_ a3 a4 b3 b4,?_,(HFP.out.setCell gx k _ (fun _=>hPx)).setCell gy k _ (fun _=>hPy)⟩
    ·rw [a2,Int.natCast_mul,Int.natCast_mul] <;> simp only [sgL] <;> grind
    ·rw [b2,Int.natCast_mul,Int.natCast_mul] <;> simp only [sgL] <;> grind
    ·rw [Below.heap_setCell _ _ _ _ (Ne.symm hgy),Below.heap_setCell _ _ _ _ (Ne.symm hgx)];exact HBK.out
   case measure=>simp [intOf];omega
  ·have i1:¬((k:Int)<(Y.length:Int)):=by omega
   have ek:k=Y.length:=by omega
   have HE:Hid (cn w wr base gx cx gy cy X Y X' Y' Y.length (sgL true a) (sgL true b) (sgL true d) (sgL true c) over under):=by rw [←ek];exact HTK
   clear htk hbk ax ay ek
   go_wp2
   go_end0
   exact⟨⟨rfl,X',Y',over,under,HE.out⟩,HFP.out⟩

def eC:Value→Nat
 | .slice _ n _=>n
 | _=>0

theorem f8 {w:World}(z:Nat)(j:Nat)(u:Value)(hj:([Value.int .u64 (z:Int)]:List Value)[j]?=some u):(w.alloc (.cells #[.int .u64 (z:Int)] 61)).cell? ((⟨w.heap.size,0,none⟩:Addr).add j)=some u:=by
 cases j with
 | zero=>
  simp at hj
  subst hj
  obtain⟨W,hW⟩:∃W,w.alloc (.cells #[.int .u64 (z:Int)] 61)=W:=⟨_,rfl⟩
  have hh:W.heap[w.heap.size]?=some (.cells #[.int .u64 (z:Int)] 61):=by rw [←hW];exact heap_alloc_new w _
  rw [hW]
  simp [Addr.add,World.cell?,hh]
 | succ j=>simp at hj

theorem lH {w:World}(j:Nat)(u:Value)(hj:([Value.int .u64 0]:List Value)[j]?=some u):(w.alloc (.cells #[.int .u64 0] 61)).cell? ((⟨w.heap.size,0,none⟩:Addr).add j)=some u:=f8 0 j u hj

theorem jT:∀u ∈ ([Value.int .u64 0]:List Value),u.oneCell'=true:=by
 intro u hu;simp at hu;subst hu;rfl

theorem io (z:Nat):∀u ∈ ([Value.int .u64 (z:Int)]:List Value),u.oneCell'=true:=by
 intro u hu;simp at hu;subst hu;rfl

theorem MSt.noughts {w:World}{g base:Nat}{vx vy:Value}{o:Bool}{S5:Array Value}{wr:World}{vx' vy':Value}{X' Y':List Nat}(h:MSt w g base vx vy o S5 wr vx' vy' X' Y'){v':Value}{w1:World}{c:Obj}(ho:w1.ownsRow base 61 1 v' (X'.length+1) (X'.map lv ++ [.int .u64 0]))(hg:(wr.alloc c).grownBy w1 vx'.ownBlock)(hat:v'.ownBlock=vx'.ownBlock∨v'.ownBlock=some (wr.alloc c).heap.size):MSt w g base vx vy o S5 w1 v' vy' (X' ++ [0]) Y'∧eC v'=X'.length+1:=by
 have h1:=h.growx 0 (by omega) ho hg hat
 refine⟨h1,?_⟩
 obtain⟨a,c,e⟩:=h1.x.shape
 rw [e]
 simp [eC]

theorem pD (X:List Nat):val (X ++ [0])=val X:=by
 have:=oI X 1
 exact this

theorem pE (g base:Nat)(vx vy:Value)(X Y:List Nat)(o:Bool)(a b c d R n:Nat)(w:World)(hF:aL w g base vx vy (val X) (val Y) o)(hbase:base≤w.heap.size)(hX:Ans w base vx X)(hY:Ans w base vy Y)(hXY:X.length≤Y.length)(hY0:1≤Y.length)(lY:Y.length≤17592186044000)
  (ha:a<18446744073709551616) (hb:b<18446744073709551616) (hc:c<18446744073709551616) (hd:d<18446744073709551616) (hab0:0<a+b) (hab:a+b≤18446744073709551616) (hcd0:0<c+d) (hcd:c+d≤18446744073709551616) :
  Calls Tryz.prog 245 #[.pointer (some ⟨g,0,none⟩),stw a b c d (some ⟨R,0,none⟩) n 128] w (fV g base vx vy (a*val X+b*val Y) (c*val X+d*val Y) (o != aU n) w):=by
 unfold stw
 obtain⟨S5,hS5⟩:∃S5:Array Value,#[Value.int .u64 (a:Int),.int .u64 (b:Int),.int .u64 (c:Int),.int .u64 (d:Int),.slice (some ⟨R,0,none⟩) n 128]=S5:=⟨_,rfl⟩
 obtain⟨ay,cy,rfl⟩:=hY.shape
 obtain⟨ax,cx,rfl⟩:=hX.shape
 obtain⟨i0,hi,hz0,hz1,hz2⟩:=info_parts Tryz.infoU
 have M0:=hF.start hbase S5 hX hY
 obtain⟨w0,hw0⟩:∃w0,w.alloc (.cells S5 139)=w0:=⟨_,rfl⟩
 rw [hw0] at M0
 have HM0:=aa M0
 obtain⟨k0,k1,k2⟩:=ck M0.box
 rw [←hS5] at hw0
 have HS5:=aa hS5
 have HXY:=aa hXY
 have HY0:=aa hY0
 clear hF hX hY hXY M0 hS5
 go_enter Tryz.func245,Tryz.ntmps245
 go_wp2
 go_quiet (fail)
 go_wp2
 go_loopw [4] (fun v wr=>∃(X1:List Nat) (a1:Option Addr) (c1:Nat),v=.slice a1 X1.length c1∧MSt w g base (.slice ax X.length cx) (.slice ay Y.length cy) o S5 wr (.slice a1 X1.length c1) (.slice ay Y.length cy) X1 Y∧val X1=val X∧X1.length≤Y.length) (fun v _=>Y.length - eC v)
 case atStart=>exact⟨X,ax,cx,rfl,HM0.out.below (((aA.refl _).drewN _).below _),rfl,HXY.out⟩
 case round=>
  obtain⟨X1,a1,c1,rfl,hm,hv,hle⟩:=hrel
  have HM:=aa hm
  have HV:=aa hv
  have HLE:=aa hle
  clear HM0 hm hv k0 k1 k2
  by_cases hlt:X1.length<Y.length
  ·have i1:(X1.length:Int)<(Y.length:Int):=by omega
   have hbs:base≤wr.heap.size:=by have:=HM.out.wsz;omega
   have HO:=aa (World.ownsRow.alloc HM.out.x.own (.cells #[.int .u64 0] 61))
   go_wp2_with (at_builtin;refine wpList_append_own_at _ rfl _ _ 25 rfl base 61 i0 (.int .u64 0) 1 8 Tryz.underlying25 hi hz0 hz1 hz2 rfl (by decide) (.slice a1 X1.length c1) X1.length (X1.map lv) rfl HO.out ⟨wr.heap.size,0,none⟩ 1 1 [.int .u64 0] rfl rfl lH jT (by unfold maxLen;omega) (by omega) (by simp;omega) ?_;intro v' w2 hown hgrow _ hat)
   have HN:=aa (HM.out.noughts hown hgrow hat)
   clear hown hgrow hat HO
   go_wp2
   go_roundw
   case rel=>
    obtain⟨a9,c9,he9⟩:=HN.out.1.x.shape
    subst he9
    exact⟨X1 ++ [0],a9,c9,rfl,HN.out.1,by rw [pD];exact HV.out,by simp;omega⟩
   case measure=>
    have:=HN.out.2
    simp only [eC] at this ⊢
    omega
  ·have i1:¬(X1.length:Int)<(Y.length:Int):=by omega
   have heq:X1.length=Y.length:=by omega
   obtain⟨gx,ha1⟩:∃gx,a1=some ⟨gx,0,none⟩:=by
    rcases HM.out.x.form with ⟨_,e⟩|⟨gx,_,e,_⟩
    ·exact absurd (congrArg List.length e) (by rw [List.length_nil];have:=HY0.out;omega)
    ·cases e;exact⟨gx,rfl⟩
   obtain⟨gy,ha2⟩:∃gy,ay=some ⟨gy,0,none⟩:=by
    rcases HM.out.y.form with ⟨_,e⟩|⟨gy,_,e,_⟩
    ·exact absurd (congrArg List.length e) (by rw [List.length_nil];have:=HY0.out;omega)
    ·cases e;exact⟨gy,rfl⟩
   subst ha1
   subst ha2
   have HB0:=aa (Bl.start X1 Y hab0 hcd0)
   have HEQ:=aa heq
   have HML:=aa (And.intro HM.out.x.cellAt.1 HM.out.y.cellAt.1)
   clear heq hlt
   go_wp2
   rename World=>wo
   go_loopw [6,7,29] (fun ov un i wr=>∃(k:Nat) (X2 Y2:List Nat) (over under:Nat),k≤Y.length∧ov=.int .u64 over∧un=.int .u64 under∧i=.int .i64 (k:Int)∧MSt w g base (.slice ax X.length cx) (.slice (some ⟨gy,0,none⟩) Y.length cy) o S5 wr (.slice (some ⟨gx,0,none⟩) X2.length c1) (.slice (some ⟨gy,0,none⟩) Y2.length cy) X2 Y2∧Bl k X1 Y X2 Y2 a b c d over under) (fun _ _ i _=>Y.length - (intOf i).toNat)
   case atStart=>exact⟨0,X1,Y,0,0,Nat.zero_le _,rfl,rfl,rfl,HM.out,HB0.out⟩
   case round=>
    obtain⟨k,X2,Y2,over,under,hk,rfl,rfl,rfl,hm2,hbl⟩:=hrel
    have HM2:=aa hm2
    have HBL:=aa hbl
    have hlx:=hbl.lx
    have hly:=hbl.ly
    have ax2:=hm2.x
    have ay2:=hm2.y
    rw [hlx] at ax2
    rw [hly] at ay2
    have sb:=hm2.sb
    rw [←HS5.out] at sb
    obtain⟨s0,s1,s2,s3,s4⟩:=aH sb
    clear HM HB0 sb
    by_cases hkl:k<Y.length
    ·have i1:(k:Int)<(Y.length:Int):=by omega
     have i2:(k:Int)<(X1.length:Int):=by have:=HEQ.out;omega
     have i0:(0:Int)≤(k:Int):=by omega
     have hkb:k<9223372036854775807:=by omega
     have wk:IntKind.i64.wrap (k:Int)=(k:Int):=by
      rw [IntKind.wrap_i64];omega
     have hne:gx≠gy:=fun e=>hm2.apart gx rfl (by rw [e];rfl)
     have hgx:gx≠w.heap.size:=fun e=>hm2.xne.2 (by rw [←e];rfl)
     have fx:=hm2.x.cellAt.2.1
     have fy:=hm2.y.cellAt.2.1
     have cxk:=hm2.x.cellAt.2.2 k (by have:=HEQ.out;omega)
     have cyk:=hm2.y.cellAt.2.2 k (by omega)
     rw [hbl.sx k (Nat.le_refl _)] at cxk
     rw [hbl.sy k (Nat.le_refl _)] at cyk
     have lv:X1.getD k 0<18446744073709551616:=by have:=limb_lt hm2.x.limbs k;rw [hbl.sx k (Nat.le_refl _)] at this;exact this
     have lw:Y.getD k 0<18446744073709551616:=by have:=limb_lt hm2.y.limbs k;rw [hbl.sy k (Nat.le_refl _)] at this;exact this
     have HNX:=aa (fun l m o' u'=>hbl.next (l:=l) (m:=m) (ov2:=o') (un2:=u') (by have:=HEQ.out;omega) hkl)
     have hou:=hbl.o
     have hun:=hbl.u
     obtain⟨xk,hxk⟩:∃xk,X1.getD k 0=xk:=⟨_,rfl⟩
     obtain⟨yk,hyk⟩:∃yk,Y.getD k 0=yk:=⟨_,rfl⟩
     rw [hxk] at cxk lv HNX
     rw [hyk] at cyk lw HNX
     have L1:=fun W=>gM a xk b yk over W (by omega) (by omega) hab hab0 (by omega) (by omega) hou
     have L2:=fun W=>gM c xk d yk under W (by omega) (by omega) hcd hcd0 (by omega) (by omega) hun
     clear hxk hyk hm2 hbl ax2 ay2
     go_wp2_with fail
     refine (L1 _).mono ?_
     rintro e w2 ⟨l,t,rfl,hl,he1,ht1,hw⟩
     rw [hw];clear hw w2 L1
     have cyk2:(wr.setCell ⟨gx,k,none⟩ (.int .u64 (l:Int))).cell? ⟨gy,k,none⟩=some (.int .u64 (yk:Int)):=by rw [bh hne];exact cyk
     have q0:∀i v,wr.cell? ⟨w.heap.size,i,none⟩=some v→(wr.setCell ⟨gx,k,none⟩ (.int .u64 (l:Int))).cell? ⟨w.heap.size,i,none⟩=some v:=fun i v h=>by rw [bh hgx];exact h
     have r0:=q0 _ _ s0
     have r1:=q0 _ _ s1
     have r2:=q0 _ _ s2
     have r3:=q0 _ _ s3
     have r4:=q0 _ _ s4
     have HL1:=aa (And.intro hl (And.intro he1 ht1))
     clear q0 he1 ht1
     go_wp2_with fail
     refine (L2 _).mono ?_
     rintro e w2 ⟨m,u,rfl,hm,he2,hu1,hw⟩
     rw [hw];clear hw w2 L2
     have HL2:=aa (And.intro hm (And.intro he2 hu1))
     have fy2:(wr.setCell ⟨gx,k,none⟩ (.int .u64 (l:Int))).frozen? ⟨gy,k,none⟩=false:=by
      simp only [World.frozen?]
      rw [Below.heap_setCell _ _ _ _ (Ne.symm hne)]
      exact fy k
     clear he2 hu1
     go_wp2
     go_roundw
     case rel=>
      obtain⟨a1,a2,a3⟩:=HL1.out
      obtain⟨b1,b2,b3⟩:=HL2.out
      exact⟨k+1,X2.set k l,Y2.set k m,t,u,hkl,rfl,rfl,by go_num,HM2.out.set2 k l m a1 b1,HNX.out l m t u a2 a3 b2 b3⟩
     case measure=>simp [intOf];omega
    ·have i1:¬((k:Int)<(Y.length:Int)):=by omega
     have ek:k=Y.length:=by omega
     have HE:=aa ((ek ▸ HBL.out).ends HEQ.out rfl)
     have hou:=hbl.o
     have hun:=hbl.u
     rw [←hlx] at HML HEQ
     rw [←hly] at HML HEQ i1
     rw [←hlx,←hly]
     have hl2:X2.length=Y2.length:=HEQ.out
     have hly2:Y2.length≤17592186044000:=by omega
     clear hlx hly ax2 ay2 hm2 hbl s0 s1 s2 s3 s4 ek HBL
     have HO:=aa (World.ownsRow.alloc HM2.out.x.own (.cells #[.int .u64 (over:Int)] 61))
     have hbs:base≤wr.heap.size:=by have:=HM2.out.wsz;omega
     go_wp2_with (at_builtin;refine wpList_append_own_at _ rfl _ _ 25 rfl base 61 i0 (.int .u64 0) 1 8 Tryz.underlying25 hi hz0 hz1 hz2 rfl (by decide) (.slice (some ⟨gx,0,none⟩) X2.length c1) X2.length (X2.map lv) rfl HO.out ⟨wr.heap.size,0,none⟩ 1 1 [.int .u64 (over:Int)] rfl rfl (f8 over) (io over) (by unfold maxLen;omega) (by omega) (by simp;omega) ?_;intro v' w2 hown hgrow _ hat)
     have HX9:=aa (HM2.out.growx over (by omega) hown hgrow hat)
     clear hown hgrow hat HO
     obtain⟨a3,c3,e3⟩:=HX9.out.x.shape
     subst e3
     obtain⟨_,_,e4,p1,p2,p3⟩:=(HX9.out.x.arg (by simp;omega)).form
     cases e4
     have T1:=cL a3 c3 (X2 ++ [over]) w2 p1 p2 p3
     have HX8:=aa HX9.out.trimx
     have hb2:base≤w2.heap.size:=by have:=HX9.out.wsz;omega
     clear p1 p2 p3 HX9
     refine T1.mono ?_
     rintro e w2' ⟨rfl,hw⟩;rw [hw];clear hw w2' T1
     have HO:=aa (World.ownsRow.alloc HX8.out.y.own (.cells #[.int .u64 (under:Int)] 61))
     go_wp2_with (at_builtin;refine wpList_append_own_at _ rfl _ _ 25 rfl base 61 i0 (.int .u64 0) 1 8 Tryz.underlying25 hi hz0 hz1 hz2 rfl (by decide) (.slice (some ⟨gy,0,none⟩) Y2.length cy) Y2.length (Y2.map lv) rfl HO.out ⟨w2.heap.size,0,none⟩ 1 1 [.int .u64 (under:Int)] rfl rfl (f8 under) (io under) (by unfold maxLen;omega) (by omega) (by simp;omega) ?_;intro v' w3 hown hgrow _ hat)
     have HY9:=aa (HX8.out.growy under (by omega) hown hgrow hat)
     clear hown hgrow hat HO HX8
     obtain⟨a5,c5,e5⟩:=HY9.out.y.shape
     subst e5
     obtain⟨_,_,e4,p1,p2,p3⟩:=(HY9.out.y.arg (by simp;omega)).form
     cases e4
     have T2:=cL a5 c5 (Y2 ++ [under]) w3 p1 p2 p3
     have HY8:=aa HY9.out.trimy
     clear p1 p2 p3 HY9
     refine T2.mono ?_
     rintro e w3' ⟨rfl,hw⟩;rw [hw];clear hw w3' T2
     obtain⟨q0,q1,q2⟩:=ck HY8.out.box
     have qf:=dF HY8.out.box
     obtain⟨X9,hX9⟩:∃X9,tr (X2 ++ [over])=X9:=⟨_,rfl⟩
     obtain⟨Y9,hY9⟩:∃Y9,tr (Y2 ++ [under])=Y9:=⟨_,rfl⟩
     have HX9:=aa hX9
     have HY9:=aa hY9
     rw [hX9,hY9] at HY8
     rw [hX9,hY9]
     have E1:val X9=a*val X+b*val Y:=by rw [←hX9,val_tr,HE.out.1,HV.out]
     have E2:val Y9=c*val X+d*val Y:=by rw [←hY9,val_tr,HE.out.2,HV.out]
     have hST:=HY8.out.stored (by rw [←hX9,tr_tr]) (by rw [←hY9,tr_tr])
     rw [E1,E2] at hST
     obtain⟨w4,hw4⟩:∃w4,(w3.setCell ⟨g,0,none⟩ (.slice a3 X9.length c3)).setCell ⟨g,1,none⟩ (.slice a5 Y9.length c5)=w4:=⟨_,rfl⟩
     rw [hw4] at hST
     obtain⟨hF,hS,hR,hN1,hN2⟩:=hST
     have HF:=aa hF
     have HR:=aa (And.intro hR (And.intro hN1 hN2))
     rw [←HS5.out] at hS
     obtain⟨s0,s1,s2,s3,s4⟩:=aH hS
     have OD:=gE a b c d (some ⟨R,0,none⟩) n 128 (aU n) w4.drew (by unfold aU;simp)
     unfold stw at OD
     have g0:Below w4.heap.size w4 w4.drew:=(Below.refl _ _).drew
     obtain⟨m0,m1,m2⟩:=ck (ac g0 hF.box)
     clear hX9 hY9 E1 E2 hF hS hR hN1 hN2 HX9 HY9 HE HV HLE HML HEQ HY8 hou hun HM2
     go_wp2
     go_region_with (go_at_call 163;refine OD.mono ?_;rintro e w6 ⟨rfl,hb6⟩;have g6:=bc g0 hb6;clear m0 m1 m2;obtain⟨m0,m1,m2⟩:=ck (ac g6 HF.out.box);have mf:=dF (ac g6 HF.out.box))
     all_goals
      go_wp2_with fail
      go_end0
      exact⟨rfl,_,_,(HF.out.below g6).flip _,HR.out.2.1,HR.out.2.2,(HR.out.1.below g6).setCell g 2 _ (fun _ e=>e.1 rfl)⟩
end Go.Proofs.YtdbjbbdhlpfhjaaGreatDoor

