/- Package div: oddPart, timesTwos. -/
import Derived.Test.YtgnmgbbokcpppaaGreatDoorB08
import Derived.Test.YtgnmgbbokcpppaaGreatDoorB01
import Derived.Deep.RegionWith
import Derived.Test.YtgnmgbbokcpppaaGreatDoorB10
import Derived.Test.YtgnmgbbokcpppaaGreatDoorB11
set_option maxRecDepth 20000
set_option maxHeartbeats 1000000
namespace Go.Proofs.YtgnmgbbokcpppaaGreatDoor
open Go.RowKit
open Lm
attribute [local go_sem ↓] Go.wp_at_zero Go.wp_at_succ

theorem ia {x t u:Nat}(h:aU x t)(k:aU x u):t=u:=by
 have key:∀t u,t<u→aU x t→aU x u→False:=by
  intro t u hlt h k
  have e:=d8 k
  obtain⟨d,rfl⟩:∃d,u=t+(d+1):=⟨u - t - 1,by omega⟩
  have h2:=h.2
  generalize x / 2 ^ (t+(d+1)) / 2=m at e
  rw [e,Nat.pow_add,Nat.mul_assoc,Nat.mul_div_cancel_left _ (Nat.two_pow_pos t),Nat.pow_succ,Nat.mul_assoc,Nat.mul_left_comm] at h2
  omega
 rcases Nat.lt_trichotomy t u with h1|h1|h1
 ·exact (key t u h1 h k).elim
 ·exact h1
 ·exact (key u t h1 k h).elim

theorem oG (T:List Nat)(hT:Limbs T)(n:Nat)(hn:n≤T.length):val (T.drop n)=val T / 18446744073709551616 ^ n:=by
 have h1:=b8 T n hn
 have h2:=bJ hT n hn
 rw [h1,Nat.add_comm,Nat.mul_add_div (Nat.pow_pos (by omega)),Nat.div_eq_of_lt h2,Nat.add_zero]

def iV (w:World)(x:Nat)(k:Nat)(e:Ending)(w':World):Prop:=
 (∃(g t:Nat) (Z:List Nat),e=.returned (.slice (some ⟨g,0,none⟩) (tr Z).length Z.length)∧w.heap.size≤g∧Blk w' g Z∧Limbs Z∧aU x t∧val Z*2 ^ t=x∧val Z % 2=1∧Z.length≤k)∧Below w.heap.size w w'

theorem ju (vb:Value)(X:List Nat)(w:World)(hA:Arg w vb X)(hT:Tab w)(hX0:val X≠0)(hfew:X.length≤35184372088000) :
  Calls Tryz.prog 90 #[vb] w (iV w (val X) X.length):=by
 obtain⟨a0,cap,rfl,hcc,hcm,hl⟩:=hA.form
 obtain⟨b,off,rfl⟩:∃b off,a0=some ⟨b,off,none⟩:=by
  rcases hl with h0|⟨b,off,e,_⟩
  ·subst h0;exact absurd rfl hX0
  ·exact⟨b,off,e⟩
 have hle:=tr_length_le X
 have H1:=aS _ cap X w hcc hcm hl
 have A0:=hA.trim
 have H2:=fs _ (tr X) w A0 hT
 rw [←val_tr X] at hX0 ⊢
 have hbw:b<w.heap.size:=hA.block (by
  rcases Nat.eq_zero_or_pos X.length with h|h
  ·rw [List.length_eq_zero_iff.1 h] at hX0;exact absurd rfl hX0
  ·exact h)
 generalize tr X=T at *
 have HX0:=ac hX0
 have HA0:=ac A0
 obtain⟨i0,hi,hz0,hz1,hz2⟩:=info_parts Tryz.infoU
 clear hl hA A0 hT hX0
 go_enter Tryz.func90,Tryz.ntmps90
 go_wp2_with fail
 refine H1.mono ?_
 rintro e wn ⟨rfl,hw⟩;rw [hw];clear hw wn H1
 go_wp2_with fail
 refine H2.mono ?_
 rintro e wn ⟨⟨t,ht,rfl,_,hit⟩,hw⟩;rw [hw];clear hw wn H2
 have HIT:=ac (hit HX0.out)
 have htl:t<64*T.length:=fc HIT.out (by have:=val_lt HA0.out.limbs;rw [Nat.pow_mul];exact this)
 obtain⟨nn,s,en,es,hts,hs64,hts2⟩:∃nn s:Nat,(t:Int) / 64=(nn:Int)∧(t:Int) % 64=(s:Int)∧nn*64+s≤t∧s<64∧t≤nn*64+s:=⟨t / 64,t % 64,by omega,by omega,by omega,by omega,by omega⟩
 have hlow:nn<T.length:=by omega
 obtain⟨R,hR1,hR2,hR3⟩:∃R:Nat,T.length - nn=R∧R≤T.length∧0<R:=⟨_,rfl,by omega,by omega⟩
 have AD:=HA0.out.drop nn (by omega)
 have lD:(T.drop nn).length=R:=by rw [List.length_drop];exact hR1
 rw [hR1] at AD
 have hcne:¬cap=nn:=by omega
 have k0:(0:Int)≤(nn:Int):=by omega
 have k1:(nn:Int)≤(T.length:Int):=by omega
 have k2:(nn:Int)≤(cap:Int):=by omega
 have HAD:=ac (And.intro AD lD)
 clear AD lD hit
 go_wp2_with (at_make;refine wpList_make_full _ rfl _ _ 23 rfl w.heap.size 62 i0 (.int .u64 0) 1 Tryz.underlying23 hi hz0 hz1 .i64 .i64 _ _ R rfl rfl (by omega) (by omega) (by rw [hz2];omega) (by unfold maxLen;omega) (Nat.le_refl _) ?_;intro w3 hown hgrow)
 have hm3:Blk w3 w.heap.size (List.replicate R 0):=Blk.made hown
 have hbel3:Below w.heap.size w w3:=(Below.refl _ _).grown hgrow (Nat.le_refl _) (fun k hk=>by cases hk)
 have HB3:=ac hbel3
 have HSD:=jF w.heap.size 0 R R (List.replicate R 0) _ (T.drop nn) s w3 hm3 (limbs_replicate _) (HAD.out.1.below hbel3) (fun b' off' n' c' e=>by cases e;exact .inl (by omega)) (by simp) (Nat.le_refl _) (by omega) (by rw [HAD.out.2];exact Nat.le_refl _) (by rw [HAD.out.2];exact Nat.le_refl _) hs64
 clear hown hgrow hi hz0 hz1 hz2 hbel3 hm3
 refine HSD.mono ?_
 rintro e w4 ⟨he,Z4,O4,L4,B4,F4,S4⟩;subst he
 have l4:Z4.length=R:=by rw [O4.len,List.length_replicate]
 have HTR:=aS (some ⟨w.heap.size,0,none⟩) R Z4 w4 (by omega) (by omega) (.inr ⟨_,0,rfl,fun j hj=>by rw [Nat.zero_add];exact B4.cell j hj⟩)
 rw [l4] at HTR
 have HEND:Hid (iV w (val T) X.length (.returned (.slice (some ⟨w.heap.size,0,none⟩) (tr Z4).length R)) w4):=by
  rw [aT l4,oG T HA0.out.limbs nn (by omega),Nat.div_div_eq_div_mul,show (18446744073709551616:Nat) ^ nn*2 ^ s=2 ^ t by rw [show (18446744073709551616:Nat)=2 ^ 64 from rfl,←Nat.pow_mul,←Nat.pow_add];congr 1;omega] at S4
  refine ac ⟨⟨w.heap.size,t,Z4,by rw [l4],Nat.le_refl _,B4,L4,HIT.out,?_,?_,by omega⟩,HB3.out.trans (F4.below (Nat.le_refl _) HB3.out.size)⟩
  ·rw [S4]
   have h1:=Nat.div_add_mod (val T) (2 ^ t)
   rw [HIT.out.1,Nat.add_zero,Nat.mul_comm] at h1
   exact h1
  ·rw [S4];exact HIT.out.2
 clear O4 L4 B4 F4 S4 HSD l4
 go_wp2_with fail
 refine HTR.mono ?_
 rintro e wn ⟨rfl,hw⟩;subst hw
 clear HTR
 go_wp2
 go_ret
 exact HEND.out

theorem oz (vb:Value)(X:List Nat)(t:Nat)(w:World)(hA:Arg w vb X)(hX:0<X.length)(hf1:t / 64+X.length≤35184372088000) :
  Calls Tryz.prog 88 #[vb,.int .i64 t] w fun e w'=>(∃v rs,e=.returned v∧Ans w' w.heap.size v rs∧tr rs=rs∧val rs=val X*2 ^ t)∧Below w.heap.size w w':=by
 obtain⟨a0,cap,rfl,hcc,hcm,hl⟩:=hA.form
 obtain⟨nn,s,en,es,hts,hs64,hts2⟩:∃nn s:Nat,(t:Int) / 64=(nn:Int)∧(t:Int) % 64=(s:Int)∧nn*64+s≤t∧s<64∧t≤nn*64+s:=⟨t / 64,t % 64,by omega,by omega,by omega,by omega,by omega⟩
 obtain⟨K,eK,hK1,hK2⟩:∃K:Nat,(nn:Int)+(X.length:Int)=(K:Int)∧K≤nn+X.length∧nn+X.length≤K:=⟨_,rfl,Nat.le_refl _,Nat.le_refl _⟩
 obtain⟨R,eR,hR1,hR2⟩:∃R:Nat,(K:Int)+1=(R:Int)∧R≤K+1∧K+1≤R:=⟨K+1,by omega,by omega,by omega⟩
 have hnn:nn≤t / 64:=by omega
 have wK:IntKind.i64.wrap (K:Int)=(K:Int):=by rw [IntKind.wrap_i64];omega
 have HA:=ac hA
 obtain⟨i0,hi,hz0,hz1,hz2⟩:=info_parts Tryz.infoU
 have hcne:¬R=nn:=by omega
 have k0:(0:Int)≤(nn:Int):=by omega
 have k1:(nn:Int)≤(R:Int):=by omega
 have k2:(0:Int)≤(K:Int):=by omega
 have k3:(K:Int)<(R:Int):=by omega
 clear hl hA
 go_enter Tryz.func88,Tryz.ntmps88
 go_wp2_with (at_make;refine wpList_make_full _ rfl _ _ 23 rfl w.heap.size 62 i0 (.int .u64 0) 1 Tryz.underlying23 hi hz0 hz1 .i64 .i64 _ _ R rfl rfl (by omega) (by omega) (by rw [hz2];omega) (by unfold maxLen;omega) (Nat.le_refl _) ?_;intro w3 hown hgrow)
 have hm3:Blk w3 w.heap.size (List.replicate R 0):=Blk.made hown
 have hbel3:Below w.heap.size w w3:=(Below.refl _ _).grown hgrow (Nat.le_refl _) (fun k hk=>by cases hk)
 have HB3:=ac hbel3
 have HAD:=HA.out.below hbel3
 have HSU:=fJ w.heap.size nn (R - nn) (R - nn) (List.replicate R 0) _ X s w3 hm3 (limbs_replicate _) HAD (fun b' off' n' c' e=>by cases e;exact .inl (by have:=HA.out.block hX;omega)) (by simp;omega) (Nat.le_refl _) (by omega) (by omega) hs64
 clear hown hgrow hi hz0 hz1 hz2 hbel3 hm3 HAD
 refine HSU.mono ?_
 rintro e w4 ⟨cy,Z4,hcy,rfl,O4,L4,B4,F4,S4⟩
 have hcy2:cy<18446744073709551616:=by
  have:=Nat.pow_le_pow_right (n:=2) (by omega) (Nat.le_of_lt hs64)
  omega
 have l4:Z4.length=R:=by rw [O4.len,List.length_replicate]
 have fr4:=B4.free K
 have cl4:=B4.cell K (by omega)
 have B5:=B4.set K cy
 have F5:=F4.setCell K (.int .u64 (cy:Int))
 have l5:(Z4.set K cy).length=R:=by rw [List.length_set];exact l4
 have HV5:Hid (val (Z4.set K cy)=val X*2 ^ t):=by
  refine ac ?_
  have e1:=ch Z4 nn X.length cy (by omega)
  rw [show nn+X.length=K by omega] at e1
  have e2:=am (Z4.set K cy) 0 nn (X.length+1) (by omega)
  rw [show nn+(X.length+1)=R by omega,aT l5,Nat.zero_add,e1] at e2
  have o5:Out Z4 (Z4.set K cy) K (K+1):=(Out.refl _ _ _).set _ _ (by omega) (by omega)
  rw [o5.sv 0 nn (by omega),O4.sv 0 nn (by omega),bU,Nat.zero_add,Nat.mul_comm _ cy,S4] at e2
  rw [e2,Nat.mul_left_comm,show (18446744073709551616:Nat) ^ nn*2 ^ s=2 ^ t by rw [show (18446744073709551616:Nat)=2 ^ 64 from rfl,←Nat.pow_mul,←Nat.pow_add];congr 1;omega]
 obtain⟨w5,hw5⟩:∃w5,w5=w4.setCell ⟨w.heap.size,K,none⟩ (.int .u64 (cy:Int)):=⟨_,rfl⟩
 rw [←hw5] at B5 F5
 have L5:=limbs_set L4 K cy hcy2
 generalize Z4.set K cy=Z5 at *
 generalize Z4.getD K 0=z4 at *
 have HTR:=aS (some ⟨w.heap.size,0,none⟩) R Z5 w5 (by omega) (by omega) (.inr ⟨_,0,rfl,fun j hj=>by rw [Nat.zero_add];exact B5.cell j hj⟩)
 rw [l5] at HTR
 have HEND:Hid ((∃v rs,Ending.returned (.slice (some ⟨w.heap.size,0,none⟩) (tr Z5).length R)=.returned v∧Ans w5 w.heap.size v rs∧tr rs=rs∧val rs=val X*2 ^ t)∧Below w.heap.size w w5):=by
  have AM:=(Ans.of_blk (base:=w.heap.size) (zs:=Z5) (Nat.le_refl _) B5 List.take_length.symm (Nat.le_refl _) (by omega) L5).trim
  rw [l5] at AM
  exact ac ⟨⟨_,tr Z5,rfl,AM,tr_tr _,by rw [val_tr];exact HV5.out⟩,HB3.out.trans (F5.below (Nat.le_refl _) HB3.out.size)⟩
 rw [hw5] at HTR
 have HW5:=ac hw5
 clear O4 L4 B4 F4 S4 HSU l4 B5 F5 l5 HV5 L5 hw5
 go_wp2_with fail
 refine HTR.mono ?_
 rintro e wn ⟨rfl,hw⟩;rw [hw,←HW5.out];clear hw wn
 clear HTR
 go_wp2
 go_ret
 exact HEND.out

def iu (x y:Nat):Prop:=
 ∀(gx gy base:Nat) (Zx Zy:List Nat) (w:World),Blk w gx Zx→Limbs Zx→Blk w gy Zy→Limbs Zy→gx≠gy→base≤gx→base≤gy→Tab w→0<base→val Zx=x→val Zy=y→Zx.length≤17592186044416→Zy.length≤17592186044416 →
  Calls Tryz.prog 89 #[.slice (some ⟨gx,0,none⟩) (tr Zx).length Zx.length,.slice (some ⟨gy,0,none⟩) (tr Zy).length Zy.length] w fun e w'=>(∃v rs,e=.returned v∧Ans w' base v rs∧tr rs=rs∧val rs=Nat.gcd x y)∧Below base w w'

theorem Blk.arg_tr {w:World}{g:Nat}{Z:List Nat}(h:Blk w g Z)(hl:Limbs Z)(hf:Z.length≤1125899906842624):Arg w (.slice (some ⟨g,0,none⟩) (tr Z).length Z.length) (tr Z):=by
 have:=h.seg_arg hl 0 Z.length Z.length (by omega) (Nat.le_refl _) (by omega) hf
 rw [show seg Z 0 Z.length=Z by simp [seg]] at this
 exact this.trim

theorem jz {w:World}{base:Nat}{v:Value}{zs:List Nat}(h:Ans w base v zs)(h1:1≤zs.length):∃g cap z:Nat,v=.slice (some ⟨g,0,none⟩) zs.length cap∧base≤g∧w.cell? ⟨g,0,none⟩=some (.int .u64 (z:Int))∧Hid (zs.getD 0 0=z):=by
 rcases h.form with ⟨_,h0⟩|⟨g,cap,e,hg,_,_,_,_,hc⟩
 ·rw [h0] at h1;simp at h1
 ·exact⟨g,cap,_,e,hg,hc 0 (by omega),ac rfl⟩

theorem eE {Z:List Nat}(h:val Z<18446744073709551616)(h1:1≤Z.length):Z.getD 0 0=val Z:=by
 match Z with
 | []=>simp at h1
 | a :: r=>
  simp only [val] at h ⊢
  have:val r=0:=by omega
  rw [this]
  simp

theorem lf {x y i j:Nat}(hx:x % 2=1)(hy:y % 2=1):Nat.gcd (x*2 ^ i) (y*2 ^ j)=Nat.gcd x y*2 ^ min i j:=by
 have cop:∀(z k:Nat),z % 2=1→Nat.Coprime z (2 ^ k):=by
  intro z k hz
  refine Nat.Coprime.pow_right k ?_
  have h1:Nat.gcd z 2=Nat.gcd 2 (z % 2):=by rw [Nat.gcd_comm,Nat.gcd_rec,Nat.gcd_comm]
  show Nat.gcd z 2=1
  rw [h1,hz];decide
 rcases Nat.le_total i j with h|h
 ·obtain⟨d,rfl⟩:∃d,j=i+d:=⟨j - i,by omega⟩
  rw [Nat.min_eq_left h,Nat.pow_add,Nat.mul_comm (2 ^ i) (2 ^ d),←Nat.mul_assoc,Nat.gcd_mul_right]
  rw [Nat.Coprime.gcd_mul_right_cancel_right y (cop x d hx).symm]
 ·obtain⟨d,rfl⟩:∃d,i=j+d:=⟨i - j,by omega⟩
  rw [Nat.min_eq_right h,Nat.pow_add,Nat.mul_comm (2 ^ j) (2 ^ d),←Nat.mul_assoc,Nat.gcd_mul_right]
  rw [Nat.Coprime.gcd_mul_right_cancel x (cop y d hy).symm]

def gi (w:World)(G:Nat)(e:Ending)(w':World):Prop:=
 (∃v rs,e=.returned v∧Ans w' w.heap.size v rs∧tr rs=rs∧val rs=G)∧Below w.heap.size w w'

theorem pH (va vb:Value)(X Y:List Nat)(w:World)(hA:Arg w va X)(hA2:Arg w vb Y)(hT:Tab w)(hf1:X.length≤17592186044000)(hf2:Y.length≤17592186044000)(hX:val X≠0)(hY:val Y≠0)
  (hE:∀i j,0<val X / 2 ^ i→0<val Y / 2 ^ j→iu (val X / 2 ^ i) (val Y / 2 ^ j)) :
  Calls Tryz.prog 57 #[va,vb] w (gi w (Nat.gcd (val X) (val Y))):=by
 have Z1:=dt va X w hA
 have Z2:=dt vb Y w hA2
 rw [decide_eq_false hX] at Z1
 rw [decide_eq_false hY] at Z2
 have O1:=ju va X w hA hT hX (by omega)
 have HA1:=ac hA
 have HA2:=ac hA2
 have HT:=ac hT
 have HE:=ac hE
 have HXY:=ac (And.intro hX hY)
 obtain⟨a1,c1,rfl,_,_,_⟩:=hA.form
 obtain⟨a2,c2,rfl,_,_,_⟩:=hA2.form
 have htab:=hT.1
 clear hA hA2 hT hE hX hY
 go_enter Tryz.func57,Tryz.ntmps57
 go_wp2_with fail
 refine Z1.mono ?_
 rintro e wn ⟨rfl,hw⟩;rw [hw];clear hw wn Z1
 go_wp2_with fail
 refine Z2.mono ?_
 rintro e wn ⟨rfl,hw⟩;rw [hw];clear hw wn Z2
 go_wp2_with fail
 refine O1.mono ?_
 rintro e w1 ⟨⟨g1,t1,P,rfl,hg1,B1,L1,I1,e1,m1,l1⟩,hb1⟩
 have O2:=ju _ Y w1 (HA2.out.below hb1) (HT.out.below hb1) HXY.out.2 (by omega)
 have H1:=ac (And.intro B1 (And.intro L1 (And.intro I1 (And.intro e1 m1))))
 have HB1:=ac hb1
 clear O1 B1 L1 I1 e1 m1 hb1
 go_wp2_with fail
 refine O2.mono ?_
 rintro e w2 ⟨⟨g2,t2,R,rfl,hg2,B2,L2,I2,e2,m2,l2⟩,hb2⟩
 have HB2:=ac (HB1.out.trans (hb2.mono HB1.out.size))
 have hE:=HE.out t1 t2
 have v1:val X / 2 ^ t1=val P:=by rw [←H1.out.2.2.2.1,Nat.mul_div_cancel _ (Nat.two_pow_pos _)]
 have v2:val Y / 2 ^ t2=val R:=by rw [←e2,Nat.mul_div_cancel _ (Nat.two_pow_pos _)]
 rw [v1,v2] at hE
 have hsz1:=HB1.out.size
 have EU:=hE (by have:=H1.out.2.2.2.2;omega) (by omega) g1 g2 w.heap.size P R w2 (H1.out.1.below hb2 H1.out.1.lt) H1.out.2.1 B2 L2 (by have:=H1.out.1.lt;omega) hg1 (by omega) (HT.out.below HB2.out) htab rfl rfl (by omega) (by omega)
 have H2:=ac (And.intro I2 (And.intro e2 m2))
 clear O2 B2 L2 I2 e2 m2 hb2 hE v1 v2
 go_wp2_with fail
 refine EU.mono ?_
 rintro e w3 ⟨⟨v3,rs3,rfl,A3,t3,e3⟩,hb3⟩
 have HB3:=ac (HB2.out.trans hb3)
 have T1:=fs _ X w3 (HA1.out.below HB3.out) (HT.out.below HB3.out)
 have T2:=fs _ Y w3 (HA2.out.below HB3.out) (HT.out.below HB3.out)
 have H3:=ac (And.intro A3 (And.intro t3 e3))
 clear EU hb3 A3 t3 e3
 go_wp2_with fail
 refine T1.mono ?_
 rintro e wn ⟨⟨s1,hs1,rfl,_,i1⟩,hw⟩;rw [hw];clear hw wn T1
 go_wp2_with fail
 refine T2.mono ?_
 rintro e wn ⟨⟨s2,hs2,rfl,_,i2⟩,hw⟩;rw [hw];clear hw wn T2
 have q1:=ia (i1 HXY.out.1) H1.out.2.2.1
 have q2:=ia (i2 HXY.out.2) H2.out.1
 obtain⟨t,et,ht1,ht2,ht3⟩:∃t:Nat,min (s1:Int) (s2:Int)=(t:Int)∧t≤s1∧t≤s2∧(t=min s1 s2):=⟨min s1 s2,by omega,by omega,by omega,rfl⟩
 have HG:Hid (Nat.gcd (val P) (val R)*2 ^ t=Nat.gcd (val X) (val Y)):=by
  rw [←H1.out.2.2.2.1,←H2.out.2.1,lf H1.out.2.2.2.2 H2.out.2.2,ht3,q1,q2];exact ac rfl
 have hgp:0<Nat.gcd (val X) (val Y):=Nat.gcd_pos_of_pos_left _ (Nat.pos_of_ne_zero HXY.out.1)
 have hr3:0<rs3.length:=by
  rcases Nat.eq_zero_or_pos rs3.length with h|h
  ·have:val rs3=0:=by rw [List.length_eq_zero_iff.1 h];rfl
   rw [H3.out.2.2] at this
   rw [←HG.out,this,Nat.zero_mul] at hgp
   omega
  ·exact h
 have hlen:t / 64+rs3.length≤35184372088000:=by
  have h1:rs3.length≤P.length:=by
   have h2:=aL rs3 P.length (by
    rw [H3.out.2.2]
    have hp:0<val P:=by have:=H1.out.2.2.2.2;omega
    exact Nat.lt_of_le_of_lt (Nat.gcd_le_left _ hp) (val_lt H1.out.2.1))
   rw [H3.out.2.1] at h2
   exact h2
  have:t≤64*X.length:=by omega
  omega
 have TT:=oz v3 rs3 t w3 (H3.out.1.arg (by omega)) hr3 hlen
 rw [H3.out.2.2,HG.out] at TT
 have HQ:=ac (And.intro q1 (And.intro q2 ht3))
 clear i1 i2 q1 q2 ht3 hgp hr3 hlen
 go_wp2_with fail
 refine TT.mono ?_
 rintro e w4 ⟨⟨v4,rs4,rfl,A4,t4,e4⟩,hb4⟩
 have HX:Hid (gi w (Nat.gcd (val X) (val Y)) (.returned v4) w4):=ac ⟨⟨v4,rs4,rfl,A4.base HB3.out.size,t4,e4⟩,HB3.out.trans (hb4.mono HB3.out.size)⟩
 clear TT A4 t4 e4 hb4
 go_wp2
 go_ret
 exact HX.out

theorem iA {n V A B L:Nat}{p q c:Int}(N:Nat)(hn:N=18446744073709551616 ^ n)(hL:L<N)(hV:V<N)(h:(L:Int)+N*c=p*A - q*B)(R:Nat)(hVe:(V:Int)=p*(A+N*R) - q*B):L=V:=by
 have e:(V:Int)=L+N*(c+p*R):=by
  have:p*((A:Int)+N*R) - q*B=p*A - q*B+N*(p*R):=by grind
  rw [hVe,this,←h];grind
 generalize c+p*R=z at e
 have hz:z=0:=by
  rcases Int.lt_trichotomy z 0 with h1|h1|h1
  ·have:=Int.mul_le_mul_of_nonneg_left (show z≤-1 by omega) (show (0:Int)≤(N:Int) by omega)
   omega
  ·exact h1
  ·have:=Int.mul_le_mul_of_nonneg_left (show 1≤z by omega) (show (0:Int)≤(N:Int) by omega)
   omega
 subst hz
 omega

theorem Ans.front {w:World}{base g cap:Nat}{zs:List Nat}(h:Ans w base (.slice (some ⟨g,0,none⟩) zs.length cap) zs)(n:Nat)(hn:n≤zs.length):Ans w base (.slice (some ⟨g,0,none⟩) n cap) (zs.take n):=by
 refine⟨?_,fun z hz=>h.limbs z (List.mem_of_mem_take hz)⟩
 obtain⟨_,h2⟩:=h.own
 have e:(zs.take n).length=n:=by simp;omega
 refine⟨by simp,?_⟩
 rcases h2 with ⟨h1,_⟩|⟨g',cap',cur,hv,hg,hh,hnn,hcm,hs,ht⟩
 ·cases h1
 ·cases hv
  refine .inr ⟨g,cap,cur,by rw [e],hg,hh,by rw [e];omega,hcm,hs,?_⟩
  rw [e]
  have e2:cur.toList.take (n*1)=(cur.toList.take (zs.length*1)).take n:=by
   rw [List.take_take,Nat.mul_one,Nat.mul_one,Nat.min_eq_left hn]
  rw [e2,ht,List.map_take]

theorem gN {w w':World}{base gx cx gy cy:Nat}{X Y X' Y':List Nat}{a b c d:Nat}{o:Bool}{ov un:Int}(h:bV w w' base gx cx gy cy X Y X' Y' Y.length (sgL o a) (sgL o b) (sgL o d) (sgL o c) ov un)(hY:Limbs Y)(hxy:Y.length≤X.length)
  {xh yh x y xl yl Pw:Nat} (hs:LSteps xh yh x y a b c d o) (ha:cY x y a b c d) (eX:val X=xh*Pw+xl) (eY:val Y=yh*Pw+yl) (lx:xl<Pw) (ly:yl<Pw) :
  ∃V W,LTake (val X) (val Y) V W∧val (X'.take Y.length)=V∧val Y'=W:=by
 have hYl:=val_lt hY
 have hX'l:val (X'.take Y.length)<18446744073709551616 ^ Y.length:=Nat.lt_of_lt_of_le (val_lt (fun z hz=>h.ax.limbs z (List.mem_of_mem_take hz))) (Nat.pow_le_pow_right (by omega) (by simp;omega))
 have hY'l:val Y'<18446744073709551616 ^ Y.length:=by rw [←h.ly];exact val_lt h.ay.limbs
 have eXs:val X=val (X.take Y.length)+18446744073709551616 ^ Y.length*val (X.drop Y.length):=by
  conv=>lhs;rw [←List.take_append_drop Y.length X,val_append]
  rw [List.length_take,Nat.min_eq_left hxy]
 have vx:=h.vx
 have vy:=h.vy
 rw [List.take_of_length_le (Nat.le_of_eq h.ly),List.take_length] at vy
 rw [List.take_length] at vx
 obtain⟨N,hN⟩:∃N:Nat,N=18446744073709551616 ^ Y.length:=⟨_,rfl⟩
 have hNI:(18446744073709551616:Int) ^ Y.length=(N:Int):=by rw [hN,Int.natCast_pow];rfl
 rw [hNI] at vx vy
 rw [←hN] at hYl hX'l hY'l eXs
 have key:∃V W:Nat,(sgL o a*(val X:Int) - sgL o b*(val Y:Int)=(V:Int))∧(sgL o d*(val Y:Int) - sgL o c*(val X:Int)=(W:Int))∧LTake (val X) (val Y) V W:=by
  cases o with
  | false=>
   obtain⟨V,W,f1,f2,f3⟩:=lehmer_even (hs.even rfl) hs.hx hs.hy eX eY lx ly ha.dy ha.xy ha.cd ha.c1
   refine⟨V,W,?_,?_,f3⟩
   ·simp only [sgL]
    have:((V+b*val Y:Nat):Int)=((a*val X:Nat):Int):=by rw [f1]
    rw [Int.natCast_add,Int.natCast_mul,Int.natCast_mul] at this
    omega
   ·simp only [sgL]
    have:((W+c*val X:Nat):Int)=((d*val Y:Nat):Int):=by rw [f2]
    rw [Int.natCast_add,Int.natCast_mul,Int.natCast_mul] at this
    omega
  | true=>
   obtain⟨V,W,f1,f2,f3⟩:=lehmer_odd (hs.odd rfl) hs.hx hs.hy eX eY lx ly ha.dy ha.xy ha.ab ha.cd ha.c1
   refine⟨V,W,?_,?_,f3⟩
   ·simp only [sgL]
    have:((V+a*val X:Nat):Int)=((b*val Y:Nat):Int):=by rw [f1]
    rw [Int.natCast_add,Int.natCast_mul,Int.natCast_mul] at this
    rw [Int.neg_mul,Int.neg_mul];omega
   ·simp only [sgL]
    have:((W+d*val Y:Nat):Int)=((c*val X:Nat):Int):=by rw [f2]
    rw [Int.natCast_add,Int.natCast_mul,Int.natCast_mul] at this
    rw [Int.neg_mul,Int.neg_mul];omega
 obtain⟨V,W,k1,k2,k3⟩:=key
 have hVl:V<N:=Nat.lt_of_le_of_lt k3.le hYl
 have hWl:W<N:=Nat.lt_trans k3.lt hVl
 refine⟨V,W,k3,?_,?_⟩
 ·refine iA N hN hX'l hVl vx (val (X.drop Y.length)) ?_
  rw [←k1,eXs,Int.natCast_add,Int.natCast_mul]
 ·have vy':(val Y':Int)+N*un=(-sgL o c)*(val (X.take Y.length):Int) - (-sgL o d)*(val Y:Int):=by rw [vy];grind
  refine iA N hN hY'l hWl vy' (val (X.drop Y.length)) ?_
  rw [←k2,eXs,Int.natCast_add,Int.natCast_mul];grind
end Go.Proofs.YtgnmgbbokcpppaaGreatDoor

