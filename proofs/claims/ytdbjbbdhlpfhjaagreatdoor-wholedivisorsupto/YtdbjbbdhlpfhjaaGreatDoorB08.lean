/- Package div: rest, Both, Quo, Rest, Divides. -/
import Derived.Test.YtdbjbbdhlpfhjaaGreatDoorB07
import Derived.Test.YtdbjbbdhlpfhjaaGreatDoorB01
import Derived.Deep.RegionHeld3
import Derived.Deep.DrawnRows
import Derived.Test.YtdbjbbdhlpfhjaaGreatDoorB02
import Derived.Test.YtdbjbbdhlpfhjaaGreatDoorB04
import Derived.BigQuiet
import Derived.Test.YtdbjbbdhlpfhjaaGreatDoorB03
import Derived.Laws.Bits128
import Derived.Handy
import Derived.Laws.IdiomStrings
import Derived.Laws.Cells
import Derived.Test.YtdbjbbdhlpfhjaaGreatDoorB05
import Derived.Deep.RegionWith
import Derived.Deep.CutBlock
import Derived.Deep.DeepCutAuto
import Derived.Deep.QuietTactic
set_option maxRecDepth 20000
set_option maxHeartbeats 1000000
namespace Go.Proofs.YtdbjbbdhlpfhjaaGreatDoor
open Go.RowKit
open Lm
attribute [local go_sem ↓] Go.wp_at_zero Go.wp_at_succ

def rv (w w':World)(e:Ending)(s t:Nat):Prop:=
 ∃v1 v2 c r1 r2 mid,e=.returned (.tuple #[v1,v2,.int .i64 c])∧Ans w' w.heap.size v1 r1∧(w.heap.size≤mid∧mid≤w'.heap.size)∧(∀g,v1.ownBlock=some g→g<mid)∧Ans w' mid v2 r2 ∧
  ((c=0∧val r1=s∧tr r1=r1∧val r2=t∧tr r2=r2∧blen s≤67108864∧blen t≤67108864)∨(c=3∧r1=[]∧r2=[]∧(67108864<blen s∨67108864<blen t)))

theorem rE (v:Value)(base:Nat)(xs:List Nat)(w:World)(h:Ans w base v xs)(hf:xs.length≤1125899906842624) :
  Calls Tryz.prog 167 #[v] w fun e w'=>w'=w∧∃v' c rs,e=.returned (.tuple #[v',.int .i64 c])∧Ans w base v' rs∧(∀g,v'.ownBlock=some g→v.ownBlock=some g)∧((c=0∧val rs=val xs∧tr rs=rs∧blen (val xs)≤67108864)∨(c=3∧rs=[]∧67108864<blen (val xs))):=by
 have ha:=h.arg hf
 obtain⟨ao,cap,rfl,hcap,hmax,hlies⟩:=ha.form
 have hle:=tr_length_le xs
 have H1:=cQ _ cap xs w hcap hmax hlies
 have H2:=bB _ _ _ ha
 have HA:Hid (Ans w base (.slice ao (tr xs).length cap) (tr xs)):=h.trim
 have HT:Hid (tr (tr xs)=tr xs∧val (tr xs)=val xs):=⟨tr_tr xs,val_tr xs⟩
 generalize tr xs=T at *
 generalize val xs=V at *
 generalize blen V=y at *
 clear hlies h ha
 by_cases hy:y≤67108864
 ·go_enter Tryz.func167,Tryz.ntmps167
  go_wp2_with fail
  refine H2.mono ?_
  rintro e w' ⟨rfl,rfl⟩
  go_wp2_with fail
  refine H1.mono ?_
  rintro e w' ⟨rfl,rfl⟩
  go_wp2
  go_ret2
  exact⟨rfl,_,_,T,rfl,HA.out,(fun g e=>by cases ao <;> exact e),.inl ⟨rfl,HT.out.2,HT.out.1,hy⟩⟩
 ·go_enter Tryz.func167,Tryz.ntmps167
  go_wp2_with fail
  refine H2.mono ?_
  rintro e w' ⟨rfl,rfl⟩
  go_wp2
  go_ret2
  exact⟨rfl,_,_,[],rfl,Ans.nil _ _,(fun g e=>(by cases e)),.inr ⟨rfl,rfl,by omega⟩⟩

theorem jn {x y k:Nat}(hy:0<y)(h:k+blen y<blen x):k<blen (x / y):=by
 refine Nat.lt_of_not_le fun hle=>?_
 have h1:=(blen_le_iff (x / y) k).1 hle
 have h2:y<2 ^ blen y:=(blen_le_iff y _).1 (Nat.le_refl _)
 have h3:x<2 ^ (k+blen y):=by
  rw [Nat.div_lt_iff_lt_mul hy] at h1
  rw [Nat.pow_add]
  exact Nat.lt_of_lt_of_le h1 (Nat.mul_le_mul_left _ (Nat.le_of_lt h2))
 have:=(blen_le_iff x _).2 h3
 omega

theorem oR (va vb:Value)(X Y:List Nat)(w:World)(hA:Arg w va X)(hA2:Arg w vb Y)(hT:Tab w)(hf1:X.length≤17592186044416)(hf2:Y.length≤17592186044416)(hY:val Y≠0) :
  Calls Tryz.prog 125 #[va,vb] w fun e w'=>rv w w' e (val X / val Y) (val X % val Y)∧Below w.heap.size w w':=by
 have HR:=jJ va vb X Y w hA hA2
 have HDV:=kl vb Y w hA2 hT hY (by omega)
 have HA:=ac hA
 have HT:=ac hT
 obtain⟨a1,c1,rfl,_,_,_⟩:=hA.form
 obtain⟨a2,c2,rfl,_,_,_⟩:=hA2.form
 have hr:cK (val X) (val Y)=if 67108864+blen (val Y)<blen (val X) then 3 else 0:=by unfold cK;rw [if_neg hY]
 rw [hr] at HR
 have HY:=ac (show 0<val Y by omega)
 clear hA hA2 hT hr hY
 by_cases hb:67108864+blen (val Y)<blen (val X)
 ·rw [if_pos hb] at HR
  have HX:Hid (67108864<blen (val X / val Y)):=ac (jn HY.out hb)
  clear HDV hb
  go_enter Tryz.func125,Tryz.ntmps125
  go_wp2_with fail
  refine HR.mono ?_
  rintro e wn ⟨rfl,hw⟩;subst hw
  clear HR
  go_wp2
  go_returns
  exact⟨⟨_,_,_,[],[],wn.heap.size,rfl,Ans.nil _ _,⟨Nat.le_refl _,Nat.le_refl _⟩,(fun g e=>(by cases e)),Ans.nil _ _,.inr ⟨rfl,rfl,rfl,.inl HX.out⟩⟩,Below.refl _ _⟩
 ·rw [if_neg hb] at HR
  clear hb
  go_enter Tryz.func125,Tryz.ntmps125
  go_wp2_with fail
  refine HR.mono ?_
  rintro e wn ⟨rfl,hw⟩;rw [hw];clear hw wn
  go_wp2_with fail
  refine HDV.mono ?_
  rintro e w1 ⟨⟨vd,rfl,hd⟩,hb1⟩
  have H1:=jd _ vd X _ _ _ w1 (HA.out.below hb1) hd (HT.out.below hb1) hf1
  have HB1:=ac hb1
  clear hd hb1 HDV HR
  go_wp2_with fail
  refine H1.mono ?_
  rintro e w2 ⟨⟨vq,vr,qs,rs,mid,rfl,A1,hmid,hq,A2,e1,e2,l1,l2,_⟩,hb2⟩
  have HQ:=rE vq w1.heap.size qs w2 A1 (by omega)
  have HRR:=jG vr mid rs w2 A2 (by omega)
  have HB2:=ac (HB1.out.trans (hb2.mono HB1.out.size))
  have HM:=ac (And.intro (Nat.le_trans HB1.out.size hmid.1) (And.intro hmid.2 hq))
  rw [e1] at HQ
  rw [e2] at HRR
  clear A1 A2 hmid hq e1 e2 l1 l2 hb2 H1
  go_wp2_with fail
  refine HQ.mono ?_
  rintro e w3 ⟨hw,v1,c1,r1,rfl,An1,hown,hres⟩;subst hw
  clear HQ
  rcases hres with ⟨rfl,ev1,tv1,bl1⟩|⟨rfl,rfl,bl1⟩
  ·have H1:=ac (And.intro An1 (And.intro hown (And.intro ev1 (And.intro tv1 bl1))))
   clear An1 hown ev1 tv1 bl1
   go_wp2_with fail
   refine HRR.mono ?_
   rintro e w4 ⟨hw,v2,c2,r2,rfl,An2,hres⟩;subst hw
   clear HRR
   rcases hres with ⟨rfl,ev2,tv2,bl2⟩|⟨rfl,rfl,bl2⟩
   ·have H2:=ac (And.intro An2 (And.intro ev2 (And.intro tv2 bl2)))
    clear An2 ev2 tv2 bl2
    go_wp2
    go_returns
    obtain⟨a1,a2,a3,a4,a5⟩:=H1.out
    obtain⟨b1,b2,b3,b4⟩:=H2.out
    exact⟨⟨v1,v2,_,r1,r2,mid,rfl,a1.base HB1.out.size,⟨HM.out.1,HM.out.2.1⟩,(fun g e=>HM.out.2.2 g (a2 g e)),b1,.inl ⟨rfl,a3,a4,b2,b3,a5,b4⟩⟩,HB2.out⟩
   ·have H2:=ac bl2
    clear An2 bl2
    go_wp2
    go_returns
    exact⟨⟨_,_,_,[],[],w.heap.size,rfl,Ans.nil _ _,⟨Nat.le_refl _,HB2.out.size⟩,(fun g e=>(by cases e)),Ans.nil _ _,.inr ⟨rfl,rfl,rfl,.inr H2.out⟩⟩,HB2.out⟩
  ·have H2:=ac bl1
   clear An1 hown bl1 HRR
   go_wp2
   go_returns
   exact⟨⟨_,_,_,[],[],w.heap.size,rfl,Ans.nil _ _,⟨Nat.le_refl _,HB2.out.size⟩,(fun g e=>(by cases e)),Ans.nil _ _,.inr ⟨rfl,rfl,rfl,.inl H2.out⟩⟩,HB2.out⟩


end Go.Proofs.YtdbjbbdhlpfhjaaGreatDoor
namespace Go.Proofs.YtdbjbbdhlpfhjaaGreatDoor
open Go.RowKit
open Lm
end Go.Proofs.YtdbjbbdhlpfhjaaGreatDoor
namespace Go.Proofs.YtdbjbbdhlpfhjaaGreatDoor
open Go.RowKit
open Lm
attribute [local go_sem ↓] Go.wp_at_zero Go.wp_at_succ



def bv (z:Nat):Value:=.int .u8 (z:Int)





























structure Nr (V m f c:Nat):Prop where
 low:9223372036854775808≤m
 high:m<18446744073709551616
 below:m*2 ^ f≤V*9223372036854775808
 cuts:V*9223372036854775808*9223372036854775807 ^ c≤m*2 ^ f*9223372036854775808 ^ c

def Pw (b q m f:Nat):Prop:=(q=0∧m=9223372036854775808∧f=0)∨(1≤q∧∃c,c+1≤q∧Nr (b ^ q) m f c)
end Go.Proofs.YtdbjbbdhlpfhjaaGreatDoor
namespace Go.Proofs.YtdbjbbdhlpfhjaaGreatDoor
open Lm
end Go.Proofs.YtdbjbbdhlpfhjaaGreatDoor
namespace Go.Proofs.YtdbjbbdhlpfhjaaGreatDoor
open Go.RowKit
open Lm
attribute [local go_sem ↓] Go.wp_at_zero Go.wp_at_succ





def fig (d:Nat):Nat:=[48,49,50,51,52,53,54,55,56,57,97,98,99,100,101,102,103,104,105,106,107,108,109,110,111,112,113,114,115,116,117,118,119,120,121,122].getD d 0



attribute [local go_sem] gN
end Go.Proofs.YtdbjbbdhlpfhjaaGreatDoor
namespace Go.Proofs.YtdbjbbdhlpfhjaaGreatDoor
open Go.RowKit
open Lm
attribute [local go_sem ↓] Go.wp_at_zero Go.wp_at_succ

theorem s0 (h:0<(ByteArray.mk #[48,48,102,102]).size):(ByteArray.mk #[48,48,102,102])[0].toNat=48:=rfl

theorem s1 (h:1<(ByteArray.mk #[48,48,102,102]).size):(ByteArray.mk #[48,48,102,102])[1].toNat=48:=rfl

theorem s2 (h:2<(ByteArray.mk #[48,48,102,102]).size):(ByteArray.mk #[48,48,102,102])[2].toNat=102:=rfl

theorem s3 (h:3<(ByteArray.mk #[48,48,102,102]).size):(ByteArray.mk #[48,48,102,102])[3].toNat=102:=rfl

attribute [local go_sem] s0 s1 s2 s3
end Go.Proofs.YtdbjbbdhlpfhjaaGreatDoor
namespace Go.Proofs.YtdbjbbdhlpfhjaaGreatDoor
open Go.RowKit
open Lm
attribute [local go_sem ↓] Go.wp_at_zero Go.wp_at_succ
end Go.Proofs.YtdbjbbdhlpfhjaaGreatDoor
namespace Go.Proofs.YtdbjbbdhlpfhjaaGreatDoor
open Go.RowKit
open Lm
attribute [local go_sem ↓] Go.wp_at_zero Go.wp_at_succ
attribute [local go_sem] gN
end Go.Proofs.YtdbjbbdhlpfhjaaGreatDoor
namespace Go.Proofs.YtdbjbbdhlpfhjaaGreatDoor
open Go.RowKit
open Lm

def sgn (d:Nat):UInt8:=UInt8.ofNat (fig d)
end Go.Proofs.YtdbjbbdhlpfhjaaGreatDoor
namespace Go.Proofs.YtdbjbbdhlpfhjaaGreatDoor
namespace Lm

end Lm
end Go.Proofs.YtdbjbbdhlpfhjaaGreatDoor
namespace Go.Proofs.YtdbjbbdhlpfhjaaGreatDoor
open Go.RowKit
open Lm
attribute [local go_sem ↓] Go.wp_at_zero Go.wp_at_succ





def zz (b:Bool)(x:Nat):Int:=if b then -(x:Int) else (x:Int)

theorem aB (b:Bool)(x:Nat):(zz b x).natAbs=x:=by cases b <;> simp [zz]

theorem mB (b:Bool)(x:Nat):zz (!b) x=-(zz b x):=by cases b <;> simp [zz]

theorem eC (b:Bool):zz b 0=0:=by cases b <;> simp [zz]

theorem jS (z:Int):zz (decide (z<0)) z.natAbs=z:=by
 unfold zz
 by_cases h:z<0
 ·rw [if_pos (by simpa using h)];omega
 ·rw [if_neg (by simpa using h)];omega

theorem fC {rs:List Nat}(ht:tr rs=rs):0<rs.length ↔ val rs≠0:=by
 constructor
 ·intro h h0
  have:=aQ rs 0 (by rw [h0];simp)
  rw [ht] at this
  omega
 ·intro h
  rcases Nat.eq_zero_or_pos rs.length with h0|h0
  ·rw [List.eq_nil_of_length_eq_zero h0] at h
   exact absurd rfl h
  ·exact h0

theorem bN {rs:List Nat}{x:Nat}(b:Bool)(ht:tr rs=rs)(hv:val rs=x):(b && decide (0<rs.length))=decide (zz b x<0):=by
 have h:=fC ht
 rw [hv] at h
 cases b
 ·simp [zz]
 ·simp only [Bool.true_and,zz,if_true]
  rw [decide_eq_decide]
  omega

def ZR (w:World)(base:Nat)(b:Bool)(va:Value)(c z:Int):Prop:=
 ∃rs,Ans w base va rs∧((c=0∧b=decide (z<0)∧val rs=z.natAbs∧tr rs=rs∧blen z.natAbs≤67108864)∨(c=3∧b=false∧va=.slice none 0 0∧rs=[]∧67108864<blen z.natAbs))

def jk (w:World)(base:Nat)(e:Ending)(z:Int):Prop:=∃b a n k c,e=.returned (.tuple #[.agg #[.bool b,.slice a n k],.int .i64 c])∧ZR w base b (.slice a n k) c z

theorem ZR.base {w:World}{base base':Nat}{b:Bool}{va:Value}{c z:Int}(h:ZR w base b va c z)(hb:base'≤base):ZR w base' b va c z:=by
 obtain⟨rs,h1,h2⟩:=h
 exact⟨rs,h1.base hb,h2⟩

theorem aL (w:World)(o1:Obj):∃w0,w.alloc o1=w0∧Below w.heap.size w w0∧w0.heap[w.heap.size]?=some o1:=⟨_,rfl,(Below.refl _ _).alloc (Nat.le_refl _) _,heap_alloc_new ..⟩

theorem bD (w:World)(o1 o2:Obj):∃w0,(w.alloc o1).alloc o2=w0∧Below w.heap.size w w0∧w0.heap[w.heap.size]?=some o1∧w0.heap[w.heap.size+1]?=some o2:=by
 obtain⟨w1,h1,b1,c1⟩:=aL w o1
 obtain⟨w2,h2,b2,c2⟩:=aL w1 o2
 have hs:w1.heap.size=w.heap.size+1:=by rw [←h1];exact World.size_alloc _ _
 refine⟨w2,by rw [h1];exact h2,b1.trans (b2.mono b1.size),?_,by rw [←hs];exact c2⟩
 rw [b2.block w.heap.size (lt_of_block c1)];exact c1

theorem cO (w:World)(o1 o2 o3:Obj):∃w0,((w.alloc o1).alloc o2).alloc o3=w0∧Below w.heap.size w w0∧w0.heap[w.heap.size]?=some o1∧w0.heap[w.heap.size+1]?=some o2∧w0.heap[w.heap.size+2]?=some o3:=by
 obtain⟨w1,h1,b1,c1,c2⟩:=bD w o1 o2
 obtain⟨w2,h2,b2,c3⟩:=aL w1 o3
 have hs:w1.heap.size=w.heap.size+2:=by rw [←h1,World.size_alloc,World.size_alloc]
 refine⟨w2,by rw [h1];exact h2,b1.trans (b2.mono b1.size),?_,?_,by rw [←hs];exact c3⟩
 ·rw [b2.block _ (lt_of_block c1)];exact c1
 ·rw [b2.block _ (lt_of_block c2)];exact c2

theorem ae {w w':World}{g:Nat}{x:Obj}(hb:Below w.heap.size w w')(h:w.heap[g]?=some x):w'.heap[g]?=some x:=by
 rw [hb.block g (lt_of_block h)];exact h

theorem duo {w:World}{h:Nat}{a b:Value}{t:TypeId}(e:w.heap[h]?=some (.cells #[a,b] t)):w.cell? ⟨h,0,none⟩=some a∧w.cell? ⟨h,1,none⟩=some b:=⟨by simp [World.cell?,e],by simp [World.cell?,e]⟩

theorem cn (w:World)(o:Obj):Below w.heap.size w (w.alloc o):=(Below.refl _ _).alloc (Nat.le_refl _) _

theorem qv (x:Nat):blen x=0 ↔ x=0:=by
 have h:=blen_le_iff x 0
 rw [Nat.pow_zero] at h
 omega

theorem dC (v:Value)(X:List Nat)(w:World)(hA:Arg w v X) :
  Calls Tryz.prog 39 #[v] w fun e w'=>e=.returned (.bool (decide (val X=0)))∧w'=w:=by
 have L:=bB v X w hA
 obtain⟨a,c,rfl,_,_,_⟩:=hA.form
 have hz:=qv (val X)
 clear hA
 generalize blen (val X)=l at *
 by_cases h0:l=0
 ·have h2:((l:Int) == 0)=true:=by rw [beq_iff_eq];omega
  rw [decide_eq_true (hz.1 h0)]
  go_enter Tryz.func39,Tryz.ntmps39
  go_wp2_with fail
  refine L.mono ?_
  rintro e wn ⟨rfl,hw⟩;rw [hw];clear hw wn L
  go_wp2
  go_ret
  exact⟨rfl,rfl⟩
 ·have h1:¬val X=0:=fun h=>h0 (hz.2 h)
  have h2:((l:Int) == 0)=false:=by rw [beq_eq_false_iff_ne];omega
  rw [decide_eq_false h1]
  go_enter Tryz.func39,Tryz.ntmps39
  go_wp2_with fail
  refine L.mono ?_
  rintro e wn ⟨rfl,hw⟩;rw [hw];clear hw wn L
  go_wp2
  go_ret
  exact⟨rfl,rfl⟩

def sg (b:Bool)(x:Nat):Int:=if x=0 then 0 else if b then -1 else 1

theorem iQ (b:Bool)(x:Nat):sg b x=(zz b x).sign:=by
 unfold sg zz
 by_cases h:x=0
 ·subst h;cases b <;> rfl
 ·rw [if_neg h]
  cases b
  ·simp only [Bool.false_eq_true,if_false]
   exact (Int.sign_eq_one_of_pos (by omega)).symm
  ·simp only [if_true]
   exact (Int.sign_eq_neg_one_of_neg (by omega)).symm

theorem ob (b:Bool)(v:Value)(X:List Nat)(w:World)(hA:Arg w v X) :
  Calls Tryz.prog 42 #[.agg #[.bool b,v]] w fun e w'=>e=.returned (.int .i64 (sg b (val X)))∧Below w.heap.size w w':=by
 obtain⟨a,c,rfl,_,_,_⟩:=hA.form
 obtain⟨w0,hw0⟩:∃w0,w.alloc (.cells #[.bool b,.slice a X.length c] 27)=w0:=⟨_,rfl⟩
 have hb0:Below w.heap.size w w0:=by rw [←hw0];exact cn _ _
 have h0:w0.heap[w.heap.size]?=some (.cells #[.bool b,.slice a X.length c] 27):=by rw [←hw0];exact heap_alloc_new ..
 obtain⟨k0,k1⟩:=duo h0
 have HZ:=dC _ X w0 (hA.below hb0)
 have HB:=ac hb0
 unfold sg
 clear hA h0 hb0
 by_cases hx:val X=0
 ·rw [if_pos hx]
  rw [decide_eq_true hx] at HZ
  go_enter Tryz.func42,Tryz.ntmps42
  go_wp2_with fail
  refine HZ.mono ?_
  rintro e wn ⟨rfl,hw⟩;rw [hw];clear hw wn HZ
  go_wp2
  go_ret
  exact⟨rfl,HB.out⟩
 ·rw [if_neg hx]
  rw [decide_eq_false hx] at HZ
  cases b
  ·go_enter Tryz.func42,Tryz.ntmps42
   go_wp2_with fail
   refine HZ.mono ?_
   rintro e wn ⟨rfl,hw⟩;rw [hw];clear hw wn HZ
   go_wp2
   go_ret
   exact⟨rfl,HB.out⟩
  ·go_enter Tryz.func42,Tryz.ntmps42
   go_wp2_with fail
   refine HZ.mono ?_
   rintro e wn ⟨rfl,hw⟩;rw [hw];clear hw wn HZ
   go_wp2
   go_ret
   exact⟨rfl,HB.out⟩

theorem bI (b:Bool)(v:Value)(rs:List Nat)(base:Nat)(w:World)(hA:Ans w base v rs) :
  Calls Tryz.prog 47 #[.bool b,v] w fun e w'=>e=.returned (.agg #[.bool (b && decide (0<rs.length)),v])∧Below w.heap.size w w':=by
 obtain⟨a,c,rfl⟩:∃a c,v=.slice a rs.length c:=by
  rcases hA.form with ⟨rfl,h⟩|⟨g,cap,rfl,_⟩
  ·exact⟨none,0,by rw [h];rfl⟩
  ·exact⟨_,_,rfl⟩
 clear hA
 generalize rs.length=n at *
 cases b
 ·have HB:=ac (cn w (.cells #[.bool false,.slice a n c] 27))
  go_enter Tryz.func47,Tryz.ntmps47
  go_wp2
  go_returns
  exact⟨rfl,HB.out⟩
 ·by_cases hn:0<n
  ·have i1:(0:Int)<(n:Int):=by omega
   have HB:=ac (cn w (.cells #[.bool true,.slice a n c] 27))
   rw [decide_eq_true hn]
   go_enter Tryz.func47,Tryz.ntmps47
   go_wp2
   go_returns
   exact⟨rfl,HB.out⟩
  ·have i1:¬(0:Int)<(n:Int):=by omega
   have HB:=ac (cn w (.cells #[.bool false,.slice a n c] 27))
   rw [decide_eq_false hn]
   go_enter Tryz.func47,Tryz.ntmps47
   go_wp2
   go_returns
   exact⟨rfl,HB.out⟩

theorem iD (b:Bool)(x y:Nat):zz b x+zz b y=zz b (x+y):=by cases b <;> simp [zz] <;> omega

theorem jL (b:Bool){x y:Nat}(h:y≤x):zz b x+zz (!b) y=zz b (x - y):=by cases b <;> simp [zz] <;> omega

theorem iR (b:Bool){x y:Nat}(h:x≤y):zz b x+zz (!b) y=zz (!b) (y - x):=by cases b <;> simp [zz] <;> omega

theorem nX (b t:Bool)(x y:Nat):zz b x*zz t y=zz (b != t) (x*y):=by
 cases b <;> cases t <;> simp [zz,Int.mul_neg,Int.neg_mul]

theorem av {w:World}{h:Nat}{a b:Value}{t:TypeId}(e:w.heap[h]?=some (.cells #[a,b] t)):∀k,w.frozen? ⟨h,k,none⟩=false:=fun k=>by simp [World.frozen?,e]

theorem aH {w:World}{h:Nat}{a b a' b':Value}{t:TypeId}(e:w.heap[h]?=some (.cells #[a,b] t)):((w.setCell ⟨h,0,none⟩ a').setCell ⟨h,1,none⟩ b').heap[h]?=some (.cells #[a',b'] t):=
 aY (aY e a') b'

theorem aC {B:Nat}{w0 w:World}{g:Nat}{u0 u1:Value}(h:Below B w0 w)(hg:B≤g):Below B w0 ((w.setCell ⟨g,0,none⟩ u0).setCell ⟨g,1,none⟩ u1):=
 (h.setCell (p:=⟨g,0,none⟩) hg u0).setCell (p:=⟨g,1,none⟩) hg u1

theorem Ans.off1 {w:World}{base g o:Nat}{v u:Value}{zs:List Nat}{vs:Array Value}(h:Ans w base v zs)(hl:w.heap[g]?=some (.cells vs 27)):Ans (w.setCell ⟨g,o,none⟩ u) base v zs:=by
 have hne:v.ownBlock≠some g:=by
  obtain⟨_,h2⟩:=h.own
  rcases h2 with ⟨rfl,_⟩|⟨g',cap,cur,rfl,_,hh,_⟩
  ·simp [Value.ownBlock]
  ·intro e
   simp [Value.ownBlock] at e
   subst e
   rw [hl] at hh
   simp at hh
 exact⟨ownsRow_setCell_other h.own hne _,h.limbs⟩

theorem Ans.duo {w:World}{base g:Nat}{v u0 u1 a b:Value}{zs:List Nat}(h:Ans w base v zs)(hl:w.heap[g]?=some (.cells #[a,b] 27)):Ans ((w.setCell ⟨g,0,none⟩ u0).setCell ⟨g,1,none⟩ u1) base v zs:=
 (h.off1 hl).off1 (aY hl u0)

theorem ZR.duo {w:World}{base g:Nat}{b:Bool}{va u0 u1 a1 b1:Value}{c z:Int}(h:ZR w base b va c z)(hl:w.heap[g]?=some (.cells #[a1,b1] 27)):ZR ((w.setCell ⟨g,0,none⟩ u0).setCell ⟨g,1,none⟩ u1) base b va c z:=by
 obtain⟨rs,h1,h2⟩:=h
 exact⟨rs,h1.duo hl,h2⟩

theorem Ans.shape {w:World}{base:Nat}{v:Value}{rs:List Nat}(h:Ans w base v rs):∃a c,v=.slice a rs.length c:=by
 rcases h.form with ⟨rfl,h⟩|⟨g,cap,rfl,_⟩
 ·exact⟨none,0,by simp_all⟩
 ·exact⟨_,_,rfl⟩

theorem bJ {w:World}{g h:Nat}{u0 u1:Value}{x:Obj}(e:w.heap[h]?=some x)(hne:h≠g):((w.setCell ⟨g,0,none⟩ u0).setCell ⟨g,1,none⟩ u1).heap[h]?=some x:=by
 rw [Below.heap_setCell _ _ _ _ hne,Below.heap_setCell _ _ _ _ hne];exact e




end Go.Proofs.YtdbjbbdhlpfhjaaGreatDoor
namespace Go.Proofs.YtdbjbbdhlpfhjaaGreatDoor
namespace Lm

theorem lehmer_gcd {X Y X' Y' a b c d:Nat}(h1:X=d*X'+b*Y')(h2:Y=c*X'+a*Y')(h3:∀g,g ∣ X→g ∣ Y→g ∣ X'∧g ∣ Y'):Nat.gcd X' Y'=Nat.gcd X Y:=by
 refine Nat.dvd_antisymm (Nat.dvd_gcd ?_ ?_) ?_
 ·rw [h1];exact Nat.dvd_add (Nat.dvd_trans (Nat.gcd_dvd_left _ _) (Nat.dvd_mul_left _ _)) (Nat.dvd_trans (Nat.gcd_dvd_right _ _) (Nat.dvd_mul_left _ _))
 ·rw [h2];exact Nat.dvd_add (Nat.dvd_trans (Nat.gcd_dvd_left _ _) (Nat.dvd_mul_left _ _)) (Nat.dvd_trans (Nat.gcd_dvd_right _ _) (Nat.dvd_mul_left _ _))
 ·obtain⟨k1,k2⟩:=h3 _ (Nat.gcd_dvd_left X Y) (Nat.gcd_dvd_right X Y)
  exact Nat.dvd_gcd k1 k2

theorem dvd_of_sum {g p q r:Nat}(h:p+q=r)(hq:g ∣ q)(hr:g ∣ r):g ∣ p:=by
 have:p=r - q:=by omega
 rw [this];exact Nat.dvd_sub hr hq

structure LTake (X Y X' Y':Nat):Prop where
 lt:Y'<X'
 le:X'≤Y
 gcd:Nat.gcd X' Y'=Nat.gcd X Y

theorem lehmer_even {X Y P xh yh xl yl x y a b c d:Nat}(det:a*d=b*c+1)(hx:xh=d*x+b*y)(hy:yh=c*x+a*y)(eX:X=xh*P+xl)(eY:Y=yh*P+yl)(lx:xl<P)(ly:yl<P)
  (h1:d≤y) (h2:y+(b+d)≤x) (hcd:c≤d) (hc:1≤c) :
  ∃X' Y',X'+b*Y=a*X∧Y'+c*X=d*Y∧LTake X Y X' Y':=by
 have e1:a*xh=b*yh+x:=by rw [hx,hy];grind
 have e2:d*yh=c*xh+y:=by rw [hx,hy];grind
 have b1:b*yl≤b*P:=Nat.mul_le_mul_left _ (Nat.le_of_lt ly)
 have b2:c*xl≤c*P:=Nat.mul_le_mul_left _ (Nat.le_of_lt lx)
 have b3:(b+d)*yl<(b+d)*P:=Nat.mul_lt_mul_of_pos_left ly (by omega)
 have b4:(y+(b+d))*P≤x*P:=Nat.mul_le_mul_right _ h2
 have b5:c*P≤y*P:=Nat.mul_le_mul_right _ (by omega)
 rw [Nat.add_mul,Nat.add_mul b d P] at b4
 rw [Nat.add_mul,Nat.add_mul b d P] at b3
 obtain⟨X',eX'⟩:∃X',X'+b*yl=x*P+a*xl:=⟨x*P+a*xl - b*yl,by omega⟩
 obtain⟨Y',eY'⟩:∃Y',Y'+c*xl=y*P+d*yl:=⟨y*P+d*yl - c*xl,by omega⟩
 have f1:X'+b*Y=a*X:=by
  rw [eX,eY,Nat.mul_add,Nat.mul_add,←Nat.mul_assoc,←Nat.mul_assoc,e1,Nat.add_mul];omega
 have f2:Y'+c*X=d*Y:=by
  rw [eX,eY,Nat.mul_add,Nat.mul_add,←Nat.mul_assoc,←Nat.mul_assoc,e2,Nat.add_mul];omega
 have g1:X=d*X'+b*Y':=by
  have k1:d*(X'+b*Y)=d*(a*X):=by rw [f1]
  have k2:b*(Y'+c*X)=b*(d*Y):=by rw [f2]
  have k3:a*d*X=(b*c+1)*X:=by rw [det]
  grind
 have g2:Y=c*X'+a*Y':=by
  have k1:c*(X'+b*Y)=c*(a*X):=by rw [f1]
  have k2:a*(Y'+c*X)=a*(d*Y):=by rw [f2]
  have k3:a*d*Y=(b*c+1)*Y:=by rw [det]
  grind
 refine⟨X',Y',f1,f2,?_,?_,lehmer_gcd g1 g2 fun g k1 k2=>⟨dvd_of_sum f1 (Nat.dvd_mul_left_of_dvd k2 _) (Nat.dvd_mul_left_of_dvd k1 _),dvd_of_sum f2 (Nat.dvd_mul_left_of_dvd k1 _) (Nat.dvd_mul_left_of_dvd k2 _)⟩⟩
 ·omega
 ·rw [g2]
  have:=Nat.le_mul_of_pos_left X' (show 0<c by omega)
  omega

theorem lehmer_odd {X Y P xh yh xl yl x y a b c d:Nat}(det:b*c=a*d+1)(hx:xh=d*x+b*y)(hy:yh=c*x+a*y)(eX:X=xh*P+xl)(eY:Y=yh*P+yl)(lx:xl<P)(ly:yl<P)
  (h1:d≤y) (h2:y+(b+d)≤x) (hab:a≤b) (hcd:c≤d) (hc:1≤c) :
  ∃X' Y',X'+a*X=b*Y∧Y'+d*Y=c*X∧LTake X Y X' Y':=by
 have e1:b*yh=a*xh+x:=by rw [hx,hy];grind
 have e2:c*xh=d*yh+y:=by rw [hx,hy];grind
 have b1:a*xl≤a*P:=Nat.mul_le_mul_left _ (Nat.le_of_lt lx)
 have b2:d*yl≤d*P:=Nat.mul_le_mul_left _ (Nat.le_of_lt ly)
 have b3:(a+c)*xl<(a+c)*P:=Nat.mul_lt_mul_of_pos_left lx (by omega)
 have b4:(y+(a+c))*P≤x*P:=Nat.mul_le_mul_right _ (by omega)
 have b5:d*P≤y*P:=Nat.mul_le_mul_right _ (by omega)
 rw [Nat.add_mul,Nat.add_mul a c P] at b4
 rw [Nat.add_mul,Nat.add_mul a c P] at b3
 obtain⟨X',eX'⟩:∃X',X'+a*xl=x*P+b*yl:=⟨x*P+b*yl - a*xl,by omega⟩
 obtain⟨Y',eY'⟩:∃Y',Y'+d*yl=y*P+c*xl:=⟨y*P+c*xl - d*yl,by omega⟩
 have f1:X'+a*X=b*Y:=by
  rw [eX,eY,Nat.mul_add,Nat.mul_add,←Nat.mul_assoc,←Nat.mul_assoc,e1,Nat.add_mul];omega
 have f2:Y'+d*Y=c*X:=by
  rw [eX,eY,Nat.mul_add,Nat.mul_add,←Nat.mul_assoc,←Nat.mul_assoc,e2,Nat.add_mul];omega
 have g1:X=d*X'+b*Y':=by
  have k1:d*(X'+a*X)=d*(b*Y):=by rw [f1]
  have k2:b*(Y'+d*Y)=b*(c*X):=by rw [f2]
  have k3:b*c*X=(a*d+1)*X:=by rw [det]
  grind
 have g2:Y=c*X'+a*Y':=by
  have k1:c*(X'+a*X)=c*(b*Y):=by rw [f1]
  have k2:a*(Y'+d*Y)=a*(c*X):=by rw [f2]
  have k3:b*c*Y=(a*d+1)*Y:=by rw [det]
  grind
 refine⟨X',Y',f1,f2,?_,?_,lehmer_gcd g1 g2 fun g k1 k2=>⟨dvd_of_sum f1 (Nat.dvd_mul_left_of_dvd k1 _) (Nat.dvd_mul_left_of_dvd k2 _),dvd_of_sum f2 (Nat.dvd_mul_left_of_dvd k2 _) (Nat.dvd_mul_left_of_dvd k1 _)⟩⟩
 ·omega
 ·rw [g2]
  have:=Nat.le_mul_of_pos_left X' (show 0<c by omega)
  omega

structure LSteps (xh yh x y a b c d:Nat)(odd:Bool):Prop where
 hx:xh=d*x+b*y
 hy:yh=c*x+a*y
 even:odd=false→a*d=b*c+1
 odd:odd=true→b*c=a*d+1

theorem LSteps.start (x y:Nat):LSteps x y x y 1 0 0 1 false:=⟨by simp,by simp,by simp,by simp⟩

theorem LSteps.next {xh yh x y a b c d:Nat}{o:Bool}(h:LSteps xh yh x y a b c d o)(_hy:0<y):LSteps xh yh y (x % y) c d (a+x / y*c) (b+x / y*d) (!o):=by
 have e:=Nat.div_add_mod x y
 have h1:=h.hx
 have h2:=h.hy
 generalize x / y=q at *
 generalize x % y=r at *
 subst e
 refine⟨by rw [h1];grind,by rw [h2];grind,?_,?_⟩
 ·intro ho
  have:=h.odd (by cases o <;> simp_all)
  grind
 ·intro ho
  have:=h.even (by cases o <;> simp_all)
  grind

theorem LSteps.d_le {xh yh x y a b c d:Nat}{o:Bool}(h:LSteps xh yh x y a b c d o)(hx:0<x):d≤xh:=by
 have h1:=h.hx
 have:=Nat.le_mul_of_pos_right d hx
 omega

theorem LSteps.sum_le {xh yh x y a b c d:Nat}{o:Bool}(h:LSteps xh yh x y a b c d o)(hx:0<x)(hy:0<y):b+d≤xh:=by
 have h1:=h.hx
 have:=Nat.le_mul_of_pos_right d hx
 have:=Nat.le_mul_of_pos_right b hy
 omega

theorem LSteps.half {xh yh x y a b c d:Nat}{o:Bool}(h:LSteps xh yh x y a b c d o)(hx:d≤x)(hl:xh<18446744073709551616):d<4294967296:=by
 have h1:=h.hx
 have h2:=Nat.mul_le_mul_left d hx
 refine Nat.lt_of_not_le fun hle=>?_
 have h3:=Nat.mul_le_mul hle hle
 omega

end Lm
end Go.Proofs.YtdbjbbdhlpfhjaaGreatDoor
namespace Go.Proofs.YtdbjbbdhlpfhjaaGreatDoor
open Go.RowKit
open Lm
attribute [local go_sem ↓] Go.wp_at_zero Go.wp_at_succ

def rO (p q:Nat)(c:Int)(w:World)(e:Ending)(w':World):Prop:=
 ∃(l:Nat) (t:Int),e=.returned (.tuple #[.int .u64 (l:Int),.int .i64 t])∧l<18446744073709551616∧(l:Int)+18446744073709551616*t=(p:Int) - q+c∧-4294967296≤t∧t≤4294967296∧w'=w

theorem mG (p q l1 h1 l2 h2 l3 br b2 h3 cu cs l4 m h4 b3:Nat)(c:Int)(hp:p≤79228162495817593515539431425)(hq:q≤79228162495817593515539431425)(hc1:-4294967296≤c)(hc2:c≤4294967296)
  (e1:p=h1*18446744073709551616+l1) (e2:q=h2*18446744073709551616+l2) (_:l1<18446744073709551616) (_:l2<18446744073709551616)
  (e3:l3+l2=l1+br*18446744073709551616) (e4:h3+h2+br=h1+b2*18446744073709551616) (e5:l4+m*18446744073709551616=l3+cu) (e6:h4+b3*18446744073709551616=h3+cs+m)
  (hl4:l4<18446744073709551616) (hh4:h4<18446744073709551616) (hc:(cu=c∧cs=0)∨((cu:Int)=c+18446744073709551616∧cs=18446744073709551615∧c<0)) :
  (l4:Int)+18446744073709551616*wrap64 (h4:Int)=(p:Int) - q+c∧-4294967296≤wrap64 (h4:Int)∧wrap64 (h4:Int)≤4294967296:=by
 have key:∃t:Int,(l4:Int)+18446744073709551616*t=(p:Int) - q+c∧((h4:Int)=t∨(h4:Int)=t+18446744073709551616):=by
  have h0:∃s:Int,(l4:Int)+18446744073709551616*((h4:Int)+18446744073709551616*s)=(p:Int) - q+c:=by
   rcases hc with ⟨k1,k2⟩|⟨k1,k2,_⟩
   ·exact⟨(b3:Int) - b2,by omega⟩
   ·exact⟨(b3:Int) - b2 - 1,by omega⟩
  obtain⟨s,hs⟩:=h0
  refine⟨(h4:Int)+18446744073709551616*s,hs,?_⟩
  have:s=0∨s=-1:=by omega
  rcases this with rfl|rfl <;> omega
 obtain⟨t,h1,h2⟩:=key
 have ht1:-4294967296≤t:=by omega
 have ht2:t≤4294967296:=by omega
 have ew:wrap64 (h4:Int)=t:=by
  unfold wrap64
  omega
 rw [ew]
 exact⟨h1,ht1,ht2⟩

theorem re (c:Int)(hc1:-4294967296≤c)(hc2:c≤4294967296) :
  ∃cu cs:Nat,IntKind.u64.wrap c=(cu:Int)∧IntKind.u64.wrap (c / 9223372036854775808)=(cs:Int)∧((cu=c∧cs=0)∨((cu:Int)=c+18446744073709551616∧cs=18446744073709551615∧c<0)):=by
 rw [IntKind.wrap_u64,IntKind.wrap_u64]
 by_cases h0:0≤c
 ·exact⟨c.toNat,0,by omega,by omega,.inl (by omega)⟩
 ·exact⟨(c+18446744073709551616).toNat,18446744073709551615,by omega,by omega,.inr (by omega)⟩

theorem aM {w:World}{h:Nat}{a b c d f:Value}{t:TypeId}(e:w.heap[h]?=some (.cells #[a,b,c,d,f] t)):w.cell? ⟨h,0,none⟩=some a∧w.cell? ⟨h,1,none⟩=some b∧w.cell? ⟨h,2,none⟩=some c∧w.cell? ⟨h,3,none⟩=some d∧w.cell? ⟨h,4,none⟩=some f:=
 ⟨by simp [World.cell?,e],by simp [World.cell?,e],by simp [World.cell?,e],by simp [World.cell?,e],by simp [World.cell?,e]⟩

structure il (x y a b c d:Nat):Prop where
 ab:a≤b
 cd:c≤d
 c1:1≤c
 b1:1≤b
 bd:b≤d
 dy:d≤y
 xy:y+(b+d)≤x

def dZ (xh yh x y a b c d:Nat)(o:Bool):Prop:=
 LSteps xh yh x y a b c d o∧((a=1∧b=0∧c=0∧d=1∧y≤x)∨il x y a b c d)

theorem dZ.next {xh yh x y a b c d:Nat}{o:Bool}(h:dZ xh yh x y a b c d o)(hy:0<y) :
  LSteps xh yh y (x % y) c d (a+x / y*c) (b+x / y*d) (!o)∧c≤d∧a+x / y*c≤b+x / y*d∧1≤a+x / y*c∧1≤d∧d≤b+x / y*d∧y≤x:=by
 have hs:=h.1.next hy
 have hyx:y≤x:=by
  rcases h.2 with ⟨_,_,_,_,h5⟩|h2
  ·exact h5
  ·have:=h2.xy;omega
 have hq:1≤x / y:=(Nat.le_div_iff_mul_le hy).2 (by omega)
 refine⟨hs,?_⟩
 rcases h.2 with ⟨rfl,rfl,rfl,rfl,_⟩|h2
 ·generalize x / y=q at *
  refine⟨by omega,by omega,by omega,by omega,by omega,hyx⟩
 ·have p1:x / y*c≤x / y*d:=Nat.mul_le_mul_left _ h2.cd
  have p2:c≤x / y*c:=Nat.le_mul_of_pos_left _ hq
  have p3:d≤x / y*d:=Nat.le_mul_of_pos_left _ hq
  have:=h2.ab
  have:=h2.cd
  have:=h2.c1
  generalize x / y*c=u at *
  generalize x / y*d=v at *
  exact⟨h2.cd,by omega,by omega,by omega,by omega,hyx⟩

theorem cA {w:World}{h:Nat}{a b c d f:Value}{t:TypeId}(e:w.heap[h]?=some (.cells #[a,b,c,d,f] t)):∀k,w.frozen? ⟨h,k,none⟩=false:=fun k=>by simp [World.frozen?,e]

theorem cI {w:World}{h:Nat}{a b c d f a' b' c' d' f':Value}{t:TypeId}(e:w.heap[h]?=some (.cells #[a,b,c,d,f] t)) :
  (((((w.setCell ⟨h,0,none⟩ a').setCell ⟨h,1,none⟩ b').setCell ⟨h,2,none⟩ c').setCell ⟨h,3,none⟩ d').setCell ⟨h,4,none⟩ f').heap[h]?=some (.cells #[a',b',c',d',f'] t):=
 aY (aY (aY (aY (aY e a') b') c') d') f'

theorem aR {w:World}{h g o:Nat}{x:Obj}{v:Value}(e:w.heap[h]?=some x)(hne:h≠g):(w.setCell ⟨g,o,none⟩ v).heap[h]?=some x:=by
 rw [Below.heap_setCell _ _ _ _ hne];exact e

theorem oF {w w':World}{g o:Nat}{v:Value}(hb:Below w.heap.size w w')(h:w.cell? ⟨g,o,none⟩=some v):w'.cell? ⟨g,o,none⟩=some v:=by
 rw [hb.cell (p:=⟨g,o,none⟩) ?_]
 ·exact h
 ·show g<w.heap.size
  rcases Nat.lt_or_ge g w.heap.size with h' | h'
  ·exact h'
  ·simp [World.cell?,Array.getElem?_eq_none h'] at h

theorem bh {w:World}{g:Nat}{x:Obj}(h:w.heap[g]?=some x):g<w.heap.size:=by
 rcases Nat.lt_or_ge g w.heap.size with h' | h'
 ·exact h'
 ·simp [Array.getElem?_eq_none h'] at h

theorem jy {w:World}{g:Nat}{x o:Obj}(h:w.heap[g]?=some x):(w.alloc o).heap[g]?=some x:=by
 have hb:Below w.heap.size w (w.alloc o):=(Below.refl _ _).alloc (Nat.le_refl _) _
 rw [hb.block g (bh h)];exact h

theorem dZ.small {xh yh x y a b c d:Nat}{o:Bool}(h:dZ xh yh x y a b c d o)(hx:xh<18446744073709551616):a<18446744073709551616∧b<18446744073709551616∧c<18446744073709551616∧d<18446744073709551616:=by
 rcases h.2 with ⟨rfl,rfl,rfl,rfl,_⟩|h2
 ·omega
 ·have:=h.1.d_le (by have:=h2.xy;have:=h2.b1;omega)
  have:=h2.ab
  have:=h2.cd
  have:=h2.bd
  omega

theorem Ans.stored' {w:World}{base g cap:Nat}{zs:List Nat}(h:Ans w base (.slice (some ⟨g,0,none⟩) zs.length cap) zs)(j z:Nat)(hz:z<18446744073709551616):Ans (w.setCell ⟨g,j,none⟩ (.int .u64 (z:Int))) base (.slice (some ⟨g,0,none⟩) (zs.set j z).length cap) (zs.set j z):=by
 refine⟨?_,limbs_set h.limbs _ _ hz⟩
 have:=(h.own.stored j (.int .u64 (z:Int))).1
 rw [List.length_set,List.map_set]
 exact this

theorem Ans.apart {w:World}{base:Nat}{v:Value}{zs:List Nat}(h:Ans w base v zs)(g o:Nat)(u:Value)(hne:v.ownBlock≠some g):Ans (w.setCell ⟨g,o,none⟩ u) base v zs:=
 ⟨ownsRow_setCell_other h.own hne _,h.limbs⟩

theorem kJ {A B P:Int}{vo va vb x a b cy cy2 l:Int}(h:vo+P*cy=A*va - B*vb)(hl:l+18446744073709551616*cy2=A*a - B*b+cy)(_:x=0) :
  vo+P*l+P*18446744073709551616*cy2=A*(va+P*a) - B*(vb+P*b):=by
 have h1:P*(l+18446744073709551616*cy2)=P*(A*a - B*b+cy):=by rw [hl]
 grind

theorem dG (a k z:Nat):((a+18446744073709551616 ^ k*z:Nat):Int)=(a:Int)+(18446744073709551616:Int) ^ k*(z:Int):=by
 rw [Int.natCast_add,Int.natCast_mul,Int.natCast_pow];rfl

structure cE (w w':World)(base gx cx gy cy:Nat)(X Y X' Y':List Nat)(k:Nat)(p q r s:Int)(over under:Int):Prop where
 lx:X'.length=X.length
 ly:Y'.length=Y.length
 ax:Ans w' base (.slice (some ⟨gx,0,none⟩) X'.length cx) X'
 ay:Ans w' base (.slice (some ⟨gy,0,none⟩) Y'.length cy) Y'
 sx:∀i,k≤i→X'.getD i 0=X.getD i 0
 sy:∀i,k≤i→Y'.getD i 0=Y.getD i 0
 o1:-4294967296≤over
 o2:over≤4294967296
 u1:-4294967296≤under
 u2:under≤4294967296
 vx:(val (X'.take k):Int)+18446744073709551616 ^ k*over=p*val (X.take k) - q*val (Y.take k)
 vy:(val (Y'.take k):Int)+18446744073709551616 ^ k*under=r*val (Y.take k) - s*val (X.take k)
 bel:Below base w w'

def gJ (base gx cx gy cy:Nat)(X Y:List Nat)(p q r s:Int)(w:World)(e:Ending)(w':World):Prop:=
 e=.returned (.tuple #[])∧∃X' Y' over under,cE w w' base gx cx gy cy X Y X' Y' Y.length p q r s over under

theorem cE.next {w w':World}{base gx cx gy cy:Nat}{X Y X' Y':List Nat}{k:Nat}{p q r s over under:Int}(h:cE w w' base gx cx gy cy X Y X' Y' k p q r s over under)(hne:gx≠gy)(hk:k<Y.length)(hxy:Y.length≤X.length)(hbx:base≤gx)(hby:base≤gy)
  {l m:Nat} {o' u':Int} (hl:l<18446744073709551616) (hm:m<18446744073709551616) (e1:(l:Int)+18446744073709551616*o'=p*X.getD k 0 - q*Y.getD k 0+over) (e2:(m:Int)+18446744073709551616*u'=r*Y.getD k 0 - s*X.getD k 0+under)
  (b1:-4294967296≤o') (b2:o'≤4294967296) (b3:-4294967296≤u') (b4:u'≤4294967296) :
  cE w ((w'.setCell ⟨gx,k,none⟩ (.int .u64 (l:Int))).setCell ⟨gy,k,none⟩ (.int .u64 (m:Int))) base gx cx gy cy X Y (X'.set k l) (Y'.set k m) (k+1) p q r s o' u':=by
 have lx:=h.lx
 have ly:=h.ly
 have n1:∀(z:List Nat) (i v:Nat),k+1≤i→(z.set k v).getD i 0=z.getD i 0:=by
  intro z i v hi
  simp only [List.getD,List.getElem?_set]
  rw [if_neg (by omega)]
 refine⟨by rw [List.length_set,lx],by rw [List.length_set,ly],?_,?_,fun i hi=>by rw [n1 _ _ _ hi];exact h.sx i (by omega),fun i hi=>by rw [n1 _ _ _ hi];exact h.sy i (by omega),b1,b2,b3,b4,?_,?_,(h.bel.setCell (p:=⟨gx,k,none⟩) hbx _).setCell (p:=⟨gy,k,none⟩) hby _⟩
 ·exact (h.ax.stored' k l hl).apart gy k _ (by simp [Value.ownBlock,hne])
 ·exact (h.ay.apart gx k _ (by simp [Value.ownBlock,Ne.symm hne])).stored' k m hm
 ·rw [take_set_succ _ _ _ (by omega),val_take_next X,val_take_next Y,Int.pow_succ]
  rw [dG,dG,dG]
  exact kJ (x:=0) h.vx e1 rfl
 ·rw [take_set_succ _ _ _ (by omega),val_take_next X,val_take_next Y,Int.pow_succ]
  rw [dG,dG,dG]
  exact kJ (x:=0) h.vy e2 rfl

theorem Ans.cellAt {w:World}{base g cap:Nat}{zs:List Nat}(h:Ans w base (.slice (some ⟨g,0,none⟩) zs.length cap) zs):(zs.length≤cap∧cap≤9223372036854775807)∧(∀k,w.frozen? ⟨g,k,none⟩=false)∧∀k,k<zs.length→w.cell? ⟨g,k,none⟩=some (.int .u64 ((zs.getD k 0:Nat):Int)):=by
 rcases h.form with ⟨e,_⟩|⟨g',cap',e,_,_,h1,h2,h3,h4⟩
 ·cases e
 ·cases e
  exact⟨⟨h1,h2⟩,h3,h4⟩

theorem bk {w:World}{g k g' k':Nat}{u:Value}(h:g≠g'):(w.setCell ⟨g,k,none⟩ u).cell? ⟨g',k',none⟩=w.cell? ⟨g',k',none⟩:=by
 simp only [World.cell?]
 rw [Below.heap_setCell _ _ _ _ (by exact Ne.symm h)]

def sgL:Bool→Nat→Int
 | false,a=>(a:Int)
 | true,a=>-(a:Int)

theorem kN (X:List Nat)(j s:Nat)(hL:Limbs X)(hlen:X.length≤j+2)(hs:s<64) :
  ∃xl,val X=(X.getD (j+1) 0*2 ^ s+X.getD j 0 / 2 ^ (64 - s))*(18446744073709551616 ^ j*2 ^ (64 - s))+xl∧xl<18446744073709551616 ^ j*2 ^ (64 - s):=by
 have e1:val X=val (X.take j)+18446744073709551616 ^ j*X.getD j 0+18446744073709551616 ^ (j+1)*X.getD (j+1) 0:=by
  rw [←val_take_next,←val_take_next,List.take_of_length_le hlen]
 have e2:(18446744073709551616:Nat)=2 ^ s*2 ^ (64 - s):=by rw [←Nat.pow_add,show s+(64 - s)=64 by omega]
 have h3:val (X.take j)<18446744073709551616 ^ j:=by
  have h1:Limbs (X.take j):=fun z hz=>hL z (List.mem_of_mem_take hz)
  exact Nat.lt_of_lt_of_le (val_lt h1) (Nat.pow_le_pow_right (by omega) (by simp;omega))
 have h4:=Nat.div_add_mod (X.getD j 0) (2 ^ (64 - s))
 have h5:=Nat.mod_lt (X.getD j 0) (Nat.two_pow_pos (64 - s))
 refine⟨val (X.take j)+18446744073709551616 ^ j*(X.getD j 0 % 2 ^ (64 - s)),?_,?_⟩
 ·rw [e1,Nat.pow_succ]
  generalize (18446744073709551616:Nat) ^ j=B at *
  generalize X.getD (j+1) 0=h at *
  generalize X.getD j 0=l at *
  have e3:B*18446744073709551616*h=B*(2 ^ s*2 ^ (64 - s))*h:=by rw [←e2]
  rw [e3]
  generalize 2 ^ (64 - s)=Q at *
  generalize 2 ^ s=S at *
  generalize l / Q=q at *
  generalize l % Q=r at *
  subst h4
  grind
 ·generalize (18446744073709551616:Nat) ^ j=B at *
  generalize X.getD j 0 % 2 ^ (64 - s)=r at *
  generalize 2 ^ (64 - s)=Q at *
  have h6:B*(r+1)≤B*Q:=Nat.mul_le_mul_left _ h5
  rw [Nat.mul_add,Nat.mul_one] at h6
  omega

theorem jp {h s:Nat}(hs:s<64)(hh:h*2 ^ s<18446744073709551616)(l:Nat)(hl:l<18446744073709551616):h*2 ^ s+l / 2 ^ (64 - s)<18446744073709551616:=by
 have e2:(18446744073709551616:Nat)=2 ^ s*2 ^ (64 - s):=by rw [←Nat.pow_add,show s+(64 - s)=64 by omega]
 have h1:=shr_lt l s (by omega) hl
 have h2:h<2 ^ (64 - s):=by
  rw [e2,Nat.mul_comm (2 ^ s)] at hh
  exact Nat.lt_of_mul_lt_mul_right hh
 have h3:(h+1)*2 ^ s≤2 ^ (64 - s)*2 ^ s:=Nat.mul_le_mul_right _ h2
 rw [Nat.mul_comm (2 ^ (64 - s)),←e2,Nat.add_mul,Nat.one_mul] at h3
 omega
end Go.Proofs.YtdbjbbdhlpfhjaaGreatDoor
namespace Go.Proofs.YtdbjbbdhlpfhjaaGreatDoor
namespace Lm

def fsg (o:Bool):Int:=if o then -1 else 1

structure Fac (m a x y fx fy:Nat)(o:Bool):Prop where
 sum:x*fy+y*fx=m
 hx:∃k:Int,(x:Int)=-(fsg o)*(fx:Int)*(a:Int)+k*(m:Int)
 hy:∃k:Int,(y:Int)=fsg o*(fy:Int)*(a:Int)+k*(m:Int)
 le:fx≤fy
 yle:y≤a
 a0:a=0→fx=0
 gcd:Nat.gcd x y=Nat.gcd m a

theorem Fac.start (m a:Nat):Fac m a m a 0 1 false:=
 ⟨by omega,⟨1,by simp⟩,⟨0,by simp [fsg]⟩,by omega,by omega,fun _=>rfl,rfl⟩

theorem fsg_not (o:Bool):fsg (!o)=-(fsg o):=by cases o <;> rfl

theorem Fac.one {m a x y fx fy:Nat}{o:Bool}(h:Fac m a x y fx fy o)(hy:0<y)(hq:0<x / y):Fac m a y (x % y) fy (fx+x / y*fy) (!o):=by
 have e:=Nat.div_add_mod x y
 have hr:=Nat.mod_lt x hy
 obtain⟨k,hk⟩:=h.hx
 obtain⟨l,hl⟩:=h.hy
 have hs:=h.sum
 have hg:=h.gcd
 have hya:=h.yle
 refine⟨?_,⟨l,?_⟩,⟨k - (x / y:Nat)*l,?_⟩,?_,by omega,fun ha=>by omega,?_⟩
 ·rw [←hs]
  conv=>rhs;rw [←e]
  generalize x / y=q
  generalize x % y=r
  grind
 ·rw [fsg_not,Int.neg_neg];exact hl
 ·rw [fsg_not]
  have e2:(x:Int)=(y:Int)*((x / y:Nat):Int)+((x % y:Nat):Int):=by
   rw [←Int.natCast_mul,←Int.natCast_add,e]
  rw [Int.natCast_add,Int.natCast_mul]
  generalize ((x / y:Nat):Int)=q at *
  generalize ((x % y:Nat):Int)=r at *
  generalize (x:Int)=X at *
  generalize (y:Int)=Y at *
  generalize (fx:Int)=F at *
  generalize (fy:Int)=G at *
  generalize fsg o=s at *
  grind
 ·have:=Nat.le_mul_of_pos_left fy hq
  omega
 ·rw [←hg,Nat.gcd_comm y,←Nat.gcd_rec,Nat.gcd_comm]

structure Many (A B C D:Nat)(o:Bool)(x y x' y':Nat):Prop where
 hx:x=D*x'+B*y'
 hy:y=C*x'+A*y'
 fx:(x':Int)=fsg o*((A:Int)*x - (B:Int)*y)
 fy:(y':Int)=fsg o*((D:Int)*y - (C:Int)*x)
 gcd:Nat.gcd x' y'=Nat.gcd x y
 le:A≤C∧B≤D
 yle:y'≤y

theorem fsg_xor (o p:Bool):fsg (o != p)=fsg o*fsg p:=by cases o <;> cases p <;> rfl

theorem Fac.many {m a x y fx fy x' y' A B C D:Nat}{o p:Bool}(h:Fac m a x y fx fy o)(t:Many A B C D p x y x' y')(hy:0<y):Fac m a x' y' (A*fx+B*fy) (C*fx+D*fy) (o != p):=by
 obtain⟨k,hk⟩:=h.hx
 obtain⟨l,hl⟩:=h.hy
 have hs:=h.sum
 have hya:=h.yle
 have hpp:fsg p*fsg p=1:=by cases p <;> rfl
 refine⟨?_,⟨fsg p*((A:Int)*k - (B:Int)*l),?_⟩,⟨fsg p*((D:Int)*l - (C:Int)*k),?_⟩,?_,by have:=t.yle;omega,fun ha=>by omega,t.gcd.trans h.gcd⟩
 ·rw [←hs,t.hx,t.hy]
  grind
 ·rw [t.fx,hk,hl,fsg_xor,Int.natCast_add,Int.natCast_mul,Int.natCast_mul]
  generalize fsg o=s
  generalize fsg p=u
  grind
 ·rw [t.fy,hk,hl,fsg_xor,Int.natCast_add,Int.natCast_mul,Int.natCast_mul]
  generalize fsg o=s
  generalize fsg p=u
  grind
 ·exact Nat.add_le_add (Nat.mul_le_mul_right _ t.le.1) (Nat.mul_le_mul_right _ t.le.2)

structure IsInv (m a g x:Nat):Prop where
 lt:x*g<m∨(x=0∧m=g)
 eq:∃k:Int,(a:Int)*(x:Int)=(g:Int)+k*(m:Int)

theorem Fac.ended {m a g fx fy:Nat}{o:Bool}(h:Fac m a g 0 fx fy o)(hm:0<m)(ham:a<m):g=Nat.gcd m a∧fy*g=m∧(if o=true∨fx=0 then IsInv m a g fx else fx<fy∧IsInv m a g (fy - fx)):=by
 have hg:g=Nat.gcd m a:=by have:=h.gcd;rw [Nat.gcd_zero_right] at this;exact this
 have hs:=h.sum
 rw [Nat.zero_mul,Nat.add_zero,Nat.mul_comm] at hs
 have hg0:0<g:=Nat.pos_of_ne_zero fun e=>by rw [e,Nat.mul_zero] at hs;omega
 have hfy:0<fy:=Nat.pos_of_ne_zero fun e=>by rw [e,Nat.zero_mul] at hs;omega
 obtain⟨k,hk⟩:=h.hx
 have hle:=h.le
 refine⟨hg,hs,?_⟩
 have hlt:fx<fy:=by
  rcases Nat.lt_or_ge fx fy with h1|h1
  ·exact h1
  ·exfalso
   have e1:fx=fy:=by omega
   obtain⟨b,hb⟩:g ∣ a:=by rw [hg];exact Nat.gcd_dvd_right m a
   have e2:(g:Int)*((fx:Int)*(-(fsg o)*(b:Int)+k))=(g:Int)*1:=by
    rw [Int.mul_one]
    conv=>rhs;rw [hk]
    rw [←hs,hb,←e1,Int.natCast_mul,Int.natCast_mul]
    generalize fsg o=s
    grind
   have e3:=Int.eq_of_mul_eq_mul_left (by omega:(g:Int)≠0) e2
   have e4:fx=1:=by
    have h2:(fx:Int) ∣ 1:=⟨_,e3.symm⟩
    have h3:=Int.le_of_dvd (by omega) h2
    omega
   have e5:m=g:=by rw [←hs,←e1,e4,Nat.one_mul]
   have e6:b=0:=by
    rcases Nat.eq_zero_or_pos b with h7|h7
    ·exact h7
    ·exfalso
     have:=Nat.le_mul_of_pos_right g h7
     omega
   have e7:=h.a0 (by rw [hb,e6,Nat.mul_zero])
   omega
 have hlt2:fx*g<m:=by
  rw [←hs]
  exact Nat.mul_lt_mul_of_pos_right hlt hg0
 by_cases ho:o=true
 ·rw [if_pos (.inl ho)]
  refine⟨.inl hlt2,⟨-k,?_⟩⟩
  rw [ho] at hk
  have e:fsg true=-1:=rfl
  rw [e] at hk
  rw [hk]
  grind
 ·by_cases h0:fx=0
  ·rw [if_pos (.inr h0)]
   subst h0
   rw [show ((0:Nat):Int)=0 from rfl,Int.mul_zero,Int.zero_mul,Int.zero_add] at hk
   have e1:(g:Int)=k*(m:Int):=hk
   have hgm:g≤m:=by rw [hg];exact Nat.gcd_le_left a hm
   have e2:m=g:=by
    have h2:(m:Int) ∣ (g:Int):=⟨k,by rw [e1,Int.mul_comm]⟩
    have:=Int.le_of_dvd (by omega) h2
    omega
   exact⟨.inr ⟨rfl,e2⟩,⟨-1,by rw [show ((0:Nat):Int)=0 from rfl,Int.mul_zero];omega⟩⟩
  ·rw [if_neg (by rintro (h1|h1) <;> contradiction)]
   refine⟨hlt,.inl ?_,?_⟩
   ·rw [←hs]
    exact Nat.mul_lt_mul_of_pos_right (by omega) hg0
   ·obtain⟨b,hb⟩:g ∣ a:=by rw [hg];exact Nat.gcd_dvd_right m a
    have e:fsg o=1:=by
     cases o
     ·rfl
     ·exact absurd rfl ho
    rw [e] at hk
    refine⟨(b:Int) - k,?_⟩
    rw [Int.natCast_sub (by omega)]
    have hs2:(fy:Int)*(g:Int)=(m:Int):=by rw [←Int.natCast_mul,hs]
    have hb2:(a:Int)=(g:Int)*(b:Int):=by rw [hb,Int.natCast_mul]
    have e9:(a:Int)*(fy:Int)=(b:Int)*(m:Int):=by rw [hb2,←hs2];grind
    grind

end Lm
end Go.Proofs.YtdbjbbdhlpfhjaaGreatDoor
namespace Go.Proofs.YtdbjbbdhlpfhjaaGreatDoor
open Go.RowKit
open Lm
attribute [local go_sem ↓] Go.wp_at_zero Go.wp_at_succ

theorem fJ (a v b u:Nat)(c:Int)(w:World)(ha:a<4294967296)(hv:v<18446744073709551616)(hb:b<4294967296)(hu:u<18446744073709551616)(hc1:-4294967296≤c)(hc2:c≤4294967296) :
  Calls Tryz.prog 164 #[.int .u64 a,.int .u64 v,.int .u64 b,.int .u64 u,.int .i64 c] w (rO (a*v) (b*u) c w):=by
 have hM1:=Tryz.bits_Mul64 a v (by omega) hv w
 have hM2:=Tryz.bits_Mul64 b u (by omega) hu w
 have hPl:a*v≤79228162495817593515539431425:=Nat.mul_le_mul (Nat.le_sub_one_of_lt ha) (Nat.le_sub_one_of_lt hv)
 have hQl:b*u≤79228162495817593515539431425:=Nat.mul_le_mul (Nat.le_sub_one_of_lt hb) (Nat.le_sub_one_of_lt hu)
 obtain⟨P,hP⟩:∃P,a*v=P:=⟨_,rfl⟩
 obtain⟨Q,hQ⟩:∃Q,b*u=Q:=⟨_,rfl⟩
 rw [hP] at hM1 hPl ⊢
 rw [hQ] at hM2 hQl ⊢
 clear hP hQ
 obtain⟨h1,eh1⟩:∃h1,P / 18446744073709551616=h1:=⟨_,rfl⟩
 obtain⟨l1,el1⟩:∃l1,P % 18446744073709551616=l1:=⟨_,rfl⟩
 obtain⟨h2,eh2⟩:∃h2,Q / 18446744073709551616=h2:=⟨_,rfl⟩
 obtain⟨l2,el2⟩:∃l2,Q % 18446744073709551616=l2:=⟨_,rfl⟩
 rw [eh1,el1] at hM1
 rw [eh2,el2] at hM2
 have p1:P=h1*18446744073709551616+l1∧l1<18446744073709551616∧h1<18446744073709551616:=by omega
 have p2:Q=h2*18446744073709551616+l2∧l2<18446744073709551616∧h2<18446744073709551616:=by omega
 clear eh1 el1 eh2 el2
 obtain⟨cu,cs,ecu,ecs,hcc⟩:=re c hc1 hc2
 have s1:=d7 l1 l2
 obtain⟨q1,q2,q3⟩:=df l1 l2 0 p1.2.1 p2.2.1 (by omega)
 rw [Nat.sub_zero] at q1 q3
 generalize (l1+18446744073709551616 - l2) % 18446744073709551616=l3 at *
 generalize bor l1 l2 0=br at *
 have s2:=dT h1 h2 br q2
 obtain⟨r1,r2,r3⟩:=df h1 h2 br p1.2.2 p2.2.2 q2
 generalize (h1+18446744073709551616 - h2 - br) % 18446744073709551616=h3 at *
 generalize bor h1 h2 br=b2 at *
 have a1:=bO l3 cu
 have t1:(l3+cu) % 18446744073709551616+(l3+cu) / 18446744073709551616*18446744073709551616=l3+cu∧(l3+cu) % 18446744073709551616<18446744073709551616∧(l3+cu) / 18446744073709551616≤1:=by omega
 generalize (l3+cu) % 18446744073709551616=l4 at *
 generalize (l3+cu) / 18446744073709551616=m at *
 have a2:=dN h3 cs m t1.2.2
 have t2:(h3+cs+m) % 18446744073709551616+(h3+cs+m) / 18446744073709551616*18446744073709551616=h3+cs+m∧(h3+cs+m) % 18446744073709551616<18446744073709551616:=by omega
 generalize (h3+cs+m) % 18446744073709551616=h4 at *
 generalize (h3+cs+m) / 18446744073709551616=b3 at *
 have HF:=ac (mG P Q l1 h1 l2 h2 l3 br b2 h3 cu cs l4 m h4 b3 c hPl hQl hc1 hc2 p1.1 p2.1 p1.2.1 p2.2.1 (by omega) (by omega) t1.1 t2.1 t1.2.1 t2.2 hcc)
 have HL:=ac t1.2.1
 clear p1 p2 hcc q1 q2 q3 r1 r2 r3 t1 t2 hPl hQl
 go_enter Tryz.func164,Tryz.ntmps164
 go_wp2_with fail
 refine hM1.mono ?_
 rintro e w2 ⟨rfl,rfl⟩
 go_wp2_with fail
 refine hM2.mono ?_
 rintro e w2 ⟨rfl,rfl⟩
 clear hM1 hM2
 go_wp2
 go_ret2
 exact⟨l4,_,rfl,HL.out,HF.out.1,HF.out.2.1,HF.out.2.2,rfl⟩

def pN (p q c r:Nat)(w:World)(e:Ending)(w':World):Prop:=
 ∃(l t:Nat),e=.returned (.tuple #[.int .u64 (l:Int),.int .u64 (t:Int)])∧l<18446744073709551616∧l+18446744073709551616*t=p+q+c∧t<r∧w'=w

theorem kT (a v b u c:Nat)(w:World)(ha:a<18446744073709551616)(hb:b<18446744073709551616)(hab:a+b≤18446744073709551616)(hab0:0<a+b)(hv:v<18446744073709551616)(hu:u<18446744073709551616)(hc:c<a+b) :
  Calls Tryz.prog 247 #[.int .u64 a,.int .u64 v,.int .u64 b,.int .u64 u,.int .u64 c] w (pN (a*v) (b*u) c (a+b) w):=by
 have hM1:=Tryz.bits_Mul64 a v (by omega) hv w
 have hM2:=Tryz.bits_Mul64 b u (by omega) hu w
 have hP0:a*v≤a*18446744073709551615:=Nat.mul_le_mul_left _ (by omega)
 have hQ0:b*u≤b*18446744073709551615:=Nat.mul_le_mul_left _ (by omega)
 obtain⟨P,hP⟩:∃P,a*v=P:=⟨_,rfl⟩
 obtain⟨Q,hQ⟩:∃Q,b*u=Q:=⟨_,rfl⟩
 rw [hP] at hM1 hP0 ⊢
 rw [hQ] at hM2 hQ0 ⊢
 clear hP hQ
 obtain⟨h1,eh1⟩:∃h1,P / 18446744073709551616=h1:=⟨_,rfl⟩
 obtain⟨l1,el1⟩:∃l1,P % 18446744073709551616=l1:=⟨_,rfl⟩
 obtain⟨h2,eh2⟩:∃h2,Q / 18446744073709551616=h2:=⟨_,rfl⟩
 obtain⟨l2,el2⟩:∃l2,Q % 18446744073709551616=l2:=⟨_,rfl⟩
 rw [eh1,el1] at hM1
 rw [eh2,el2] at hM2
 have p1:P=h1*18446744073709551616+l1∧l1<18446744073709551616∧h1<18446744073709551616:=by omega
 have p2:Q=h2*18446744073709551616+l2∧l2<18446744073709551616∧h2<18446744073709551616:=by omega
 clear eh1 el1 eh2 el2
 have a1:=bO l1 l2
 have t1:(l1+l2) % 18446744073709551616+(l1+l2) / 18446744073709551616*18446744073709551616=l1+l2∧(l1+l2) % 18446744073709551616<18446744073709551616∧(l1+l2) / 18446744073709551616≤1:=by omega
 generalize (l1+l2) % 18446744073709551616=l3 at *
 generalize (l1+l2) / 18446744073709551616=o1 at *
 have a2:=dN h1 h2 o1 t1.2.2
 have hh:h1+h2+o1<18446744073709551616:=by omega
 have t2:(h1+h2+o1) % 18446744073709551616=h1+h2+o1:=Nat.mod_eq_of_lt hh
 rw [t2] at a2
 generalize (h1+h2+o1) / 18446744073709551616=z2 at *
 have a3:=bO l3 c
 have t3:(l3+c) % 18446744073709551616+(l3+c) / 18446744073709551616*18446744073709551616=l3+c∧(l3+c) % 18446744073709551616<18446744073709551616∧(l3+c) / 18446744073709551616≤1:=by omega
 generalize (l3+c) % 18446744073709551616=l4 at *
 generalize (l3+c) / 18446744073709551616=o2 at *
 obtain⟨hs,ehs⟩:∃hs,h1+h2+o1=hs:=⟨_,rfl⟩
 rw [ehs] at a2 hh
 obtain⟨tt,ett⟩:∃tt,hs+o2=tt:=⟨_,rfl⟩
 have es:(hs:Int)+(o2:Int)=(tt:Int):=by omega
 have ews:IntKind.u64.wrap (tt:Int)=(tt:Int):=by rw [IntKind.wrap_u64];omega
 have HF:=ac (show l4+18446744073709551616*tt=P+Q+c∧tt<a+b∧l4<18446744073709551616 from ⟨by omega,by omega,t3.2.1⟩)
 clear p1 p2 t1 t2 t3 hP0 hQ0 ehs ett hh
 go_enter Tryz.func247,Tryz.ntmps247
 go_wp2_with fail
 refine hM1.mono ?_
 rintro e w2 ⟨rfl,rfl⟩
 go_wp2_with fail
 refine hM2.mono ?_
 rintro e w2 ⟨rfl,rfl⟩
 clear hM1 hM2
 go_wp2
 go_ret2
 exact⟨l4,tt,rfl,HF.out.2.2,HF.out.1,HF.out.2.1,rfl⟩

theorem qB (v u:Nat)(w:World)(hv:v<18446744073709551616)(hu:u<18446744073709551616)(hu0:0<u) :
  Calls Tryz.prog 165 #[.int .u64 v,.int .u64 u] w fun e w'=>e=.returned (.bool (decide (v+u≤18446744073709551616)))∧w'=w:=by
 have a1:=bO v (u - 1)
 have e1:((u - 1:Nat):Int)=(u:Int) - 1:=by omega
 have t1:((v+(u - 1)) / 18446744073709551616=0)=(v+u≤18446744073709551616):=propext (by omega)
 obtain⟨o,ho⟩:∃o,(v+(u - 1)) / 18446744073709551616=o:=⟨_,rfl⟩
 rw [ho] at a1 t1
 rw [e1] at a1
 have hd:((o:Int) == 0)=decide (v+u≤18446744073709551616):=by
  rw [←decide_eq_decide.2 (Iff.of_eq t1)]
  by_cases h:o=0
  ·subst h;rfl
  ·rw [decide_eq_false h];simpa using h
 have ew:IntKind.u64.wrap ((u:Int) - 1)=(u:Int) - 1:=by rw [IntKind.wrap_u64];omega
 have HD:=ac hd
 clear t1 ho hd e1
 generalize (v+(u - 1)) % 18446744073709551616=l at *
 go_enter Tryz.func165,Tryz.ntmps165
 go_wp2
 go_ret
 exact⟨by rw [←HD.out];rfl,rfl⟩

theorem kQ (ao:Option Addr)(cap:Nat)(X:List Nat)(n:Nat)(w:World)(hl:aG w ao X) :
  Calls Tryz.prog 160 #[.slice ao X.length cap,.int .i64 (n:Int)] w fun e w'=>e=.returned (.int .u64 ((X.getD n 0:Nat):Int))∧w'=w:=by
 by_cases hn:n<X.length
 ·rcases hl with rfl|⟨b,off,rfl,hc⟩
  ·simp at hn
  ·have hci:=hc n hn
   clear hc
   have i1:(n:Int)<(X.length:Int):=by omega
   generalize X.getD n 0=z at hci ⊢
   go_enter Tryz.func160,Tryz.ntmps160
   go_wp2
   go_ret
   exact⟨rfl,rfl⟩
 ·have e2:X.getD n 0=0:=by simp [List.getD,Nat.le_of_not_lt hn]
  rw [e2]
  have i1:¬(n:Int)<(X.length:Int):=by omega
  clear hl e2
  go_enter Tryz.func160,Tryz.ntmps160
  go_wp2
  go_ret
  exact⟨rfl,rfl⟩

theorem iF (ao:Option Addr)(cap:Nat)(X:List Nat)(n s i j gn gs:Nat)(w:World)(hl:aG w ao X)(hL:Limbs X)(hi:n=i+1)(hj:i=j+1)(hn:n≤1125899906842624)(hs:s<64)
  (hcn:w.cell? ⟨gn,0,none⟩=some (.int .i64 (n:Int))) (hcs:w.cell? ⟨gs,0,none⟩=some (.int .i64 (s:Int))) (htop:X.getD i 0*2 ^ s<18446744073709551616) (_:X.getD i 0*2 ^ s+X.getD j 0 / 2 ^ (64 - s)<18446744073709551616) :
  Calls Tryz.prog 159 #[.slice ao X.length cap,.pointer (some ⟨gn,0,none⟩),.pointer (some ⟨gs,0,none⟩)] w fun e w'=>e=.returned (.int .u64 ((X.getD i 0*2 ^ s+X.getD j 0 / 2 ^ (64 - s):Nat):Int))∧aD w w':=by
 have D1:=fun (w':World) (h:aG w' ao X)=>kQ ao cap X i w' h
 have D2:=fun (w':World) (h:aG w' ao X)=>kQ ao cap X j w' h
 have e1:(n:Int) - 1=(i:Int):=by omega
 have e2:(n:Int) - 2=(j:Int):=by omega
 have wi:IntKind.i64.wrap (i:Int)=(i:Int):=by rw [IntKind.wrap_i64];omega
 have wj:IntKind.i64.wrap (j:Int)=(j:Int):=by rw [IntKind.wrap_i64];omega
 have hlo:=limb_lt hL j
 have hhi:=limb_lt hL i
 generalize X.getD i 0=hi' at *
 generalize X.getD j 0=lo at *
 have hl1:=shr_lt lo s (by omega) hlo
 have r4:=fo hi' s (hi'*2 ^ s) (Nat.mod_eq_of_lt htop)
 have r7:=iH hi' s (lo / 2 ^ (64 - s)) (hi'*2 ^ s+lo / 2 ^ (64 - s)) (by omega) hl1 htop rfl
 have r6:=walk_shr lo (64 - s)
 have r5:(64:Int) - (s:Int)=((64 - s:Nat):Int):=by omega
 have ht:64 - s≤64:=by omega
 generalize hU:hi'*2 ^ s+lo / 2 ^ (64 - s)=U at *
 generalize lo / 2 ^ (64 - s)=l1 at *
 generalize 64 - s=t at *
 have wt:IntKind.i64.wrap (t:Int)=(t:Int):=by rw [IntKind.wrap_i64];omega
 generalize hi'*2 ^ s=h1 at *
 have HLL:Hid (∀w',aD w w'→aG w' ao X):=fun w' h=>hl.below (h.below _)
 have Q1:∀k,Calls Tryz.prog 160 #[.slice ao X.length cap,.int .i64 (i:Int)] (w.drewN k) fun e w'=>e=.returned (.int .u64 (hi':Int))∧w'=w.drewN k:=fun k=>D1 _ (HLL.out _ ((aD.refl _).drewN k))
 have Q2:∀k,Calls Tryz.prog 160 #[.slice ao X.length cap,.int .i64 (j:Int)] (w.drewN k) fun e w'=>e=.returned (.int .u64 (lo:Int))∧w'=w.drewN k:=fun k=>D2 _ (HLL.out _ ((aD.refl _).drewN k))
 clear D1 D2 hl hi hj hU hL
 go_enter Tryz.func159,Tryz.ntmps159
 go_wp2
 go_quiet (first | (go_at_call_of 160 i;exact (Q1 _).mono (fun _ _ h=>⟨h.1,_,h.2⟩)) | (go_at_call 160;exact (Q2 _).mono (fun _ _ h=>⟨h.1,_,h.2⟩)))
 go_wp2
 go_ret
 exact⟨rfl,(aD.refl _).drewN _⟩

def qb (x y:Nat)(w:World)(e:Ending)(w':World):Prop:=
 (∃xh yh xl yl P:Nat,e=.returned (.tuple #[.int .u64 (xh:Int),.int .u64 (yh:Int)])∧x=xh*P+xl∧y=yh*P+yl∧xl<P∧yl<P∧xh<18446744073709551616∧yh≤xh∧0<xh)∧Below w.heap.size w w'

theorem nV (bx ox capx:Nat)(ay:Option Addr)(capy:Nat)(X Y:List Nat)(w:World)(hlx:aG w (some ⟨bx,ox,none⟩) X)(hly:aG w ay Y)(hLX:Limbs X)(hLY:Limbs Y)(hX:X.length≤1125899906842624)(htx:tr X=X)(h2:2≤X.length)(hle:val Y≤val X)(hYl:Y.length≤X.length) :
  Calls Tryz.prog 118 #[.slice (some ⟨bx,ox,none⟩) X.length capx,.slice ay Y.length capy] w (qb (val X) (val Y) w):=by
 obtain⟨n,hn⟩:∃n,X.length=n:=⟨_,rfl⟩
 obtain⟨i,hi⟩:∃i,n=i+1:=⟨n - 1,by omega⟩
 obtain⟨j,hj⟩:∃j,i=j+1:=⟨i - 1,by omega⟩
 have htop:=tr_last' X i htx (by omega)
 have hyt:=limb_lt hLX i
 obtain⟨n1,n2,n3,n4⟩:=norm_y (X.getD i 0) (by omega) hyt
 obtain⟨s,hs⟩:∃s,s=64 - Lib.bitLen (X.getD i 0):=⟨_,rfl⟩
 have hsI:(64:Int) - (Lib.bitLen (X.getD i 0):Int)=(s:Int):=by omega
 rw [←hs] at n3 n4
 have hs63:s<64:=by omega
 have HLZ:=fun W=>Tryz.bits_LeadingZeros64 ((X.getD i 0:Nat):Int) W (by omega) (by omega)
 rw [Int.toNat_natCast,hsI] at HLZ
 obtain⟨xl,ex1,ex2⟩:=kN X j s hLX (by omega) hs63
 obtain⟨yl,ey1,ey2⟩:=kN Y j s hLY (by omega) hs63
 have hylt:Y.getD i 0≤X.getD i 0:=by
  have k1:val X<(X.getD i 0+1)*18446744073709551616 ^ i:=by
   have e:val X=val (X.take i)+18446744073709551616 ^ i*X.getD i 0:=by rw [←val_take_next,List.take_of_length_le (by omega)]
   have h3:val (X.take i)<18446744073709551616 ^ i:=Nat.lt_of_lt_of_le (val_lt (fun z hz=>hLX z (List.mem_of_mem_take hz))) (Nat.pow_le_pow_right (by omega) (by simp;omega))
   rw [e,Nat.add_mul,Nat.one_mul,Nat.mul_comm (X.getD i 0)];omega
  have k2:18446744073709551616 ^ i*Y.getD i 0≤val Y:=by
   have e:val Y=val (Y.take i)+18446744073709551616 ^ i*Y.getD i 0:=by rw [←val_take_next,List.take_of_length_le (by omega)]
   omega
  refine Nat.le_of_not_lt fun hlt=>?_
  have k3:(X.getD i 0+1)*18446744073709551616 ^ i≤Y.getD i 0*18446744073709551616 ^ i:=Nat.mul_le_mul_right _ hlt
  rw [Nat.mul_comm (Y.getD i 0)] at k3
  omega
 have hyn:Y.getD i 0*2 ^ s<18446744073709551616:=Nat.lt_of_le_of_lt (Nat.mul_le_mul_right _ hylt) n4
 have fx:=jp hs63 n4 (X.getD j 0) (limb_lt hLX j)
 have fy:=jp hs63 hyn (Y.getD j 0) (limb_lt hLY j)
 rw [←hj] at ex1 ey1
 have hyx:Y.getD i 0*2 ^ s+Y.getD j 0 / 2 ^ (64 - s)≤X.getD i 0*2 ^ s+X.getD j 0 / 2 ^ (64 - s):=by
  generalize Y.getD i 0*2 ^ s+Y.getD j 0 / 2 ^ (64 - s)=yh at *
  generalize X.getD i 0*2 ^ s+X.getD j 0 / 2 ^ (64 - s)=xh at *
  generalize 18446744073709551616 ^ j*2 ^ (64 - s)=Q at *
  refine Nat.le_of_not_lt fun hlt=>?_
  have:=Nat.mul_le_mul_right Q hlt
  rw [Nat.succ_mul] at this
  omega
 have hx0:0<X.getD i 0*2 ^ s+X.getD j 0 / 2 ^ (64 - s):=Nat.lt_of_lt_of_le (Nat.mul_pos (by omega) (Nat.two_pow_pos s)) (Nat.le_add_right _ _)
 have HF:=ac (And.intro ex1 (And.intro ey1 (And.intro ex2 (And.intro ey2 (And.intro fx (And.intro hyx hx0))))))
 clear hx0
 have C1:=fun gn gs W hl=>iF (some ⟨bx,ox,none⟩) capx X n s i j gn gs W hl hLX hi hj (by omega) hs63
 have C2:=fun gn gs W hl=>iF ay capy Y n s i j gn gs W hl hLY hi hj (by omega) hs63
 have HC1:=ac C1
 have HC2:=ac C2
 have hcell:w.cell? ⟨bx,ox+i,none⟩=some (.int .u64 ((X.getD i 0:Nat):Int)):=by
  rcases hlx with h0|⟨b,off,e,hc⟩
  ·rw [h0] at hn;simp at hn;omega
  ·cases e;exact hc i (by omega)
 obtain⟨w0,hw0⟩:∃w0,w0=w.alloc (.cells #[.int .i64 (n:Int)] 3):=⟨_,rfl⟩
 obtain⟨w2,hw2⟩:∃w2,w2=w0.alloc (.cells #[.int .i64 (s:Int)] 3):=⟨_,rfl⟩
 have hs0:w0.heap.size=w.heap.size+1:=by rw [hw0];exact World.size_alloc _ _
 have hb0:Below w.heap.size w w0:=by rw [hw0];exact (Below.refl _ _).alloc (Nat.le_refl _) _
 have hb2:Below w.heap.size w w2:=by rw [hw2];exact hb0.alloc hb0.size _
 have h0:w0.heap[w.heap.size]?=some (.cells #[.int .i64 (n:Int)] 3):=by rw [hw0];exact heap_alloc_new ..
 have q1:w2.heap[w.heap.size+1]?=some (.cells #[.int .i64 (s:Int)] 3):=by
  rw [hw2]
  have h:=heap_alloc_new w0 (.cells #[.int .i64 (s:Int)] 3)
  rw [hs0] at h
  exact h
 have q0:w2.heap[w.heap.size]?=some (.cells #[.int .i64 (n:Int)] 3):=by
  have hb:Below w0.heap.size w0 w2:=by rw [hw2];exact (Below.refl _ _).alloc (Nat.le_refl _) _
  rw [hb.block w.heap.size (by omega)];exact h0
 have M1:=HC1.out w.heap.size (w.heap.size+1) w2 (hlx.below hb2) (by simp [World.cell?,q0]) (by simp [World.cell?,q1]) n4 fx
 have M2:=ac (fun (w3:World) (h:aD w2 w3)=>HC2.out w.heap.size (w.heap.size+1) w3 ((hly.below hb2).below (h.below _)) (by simp [World.cell?,h.heap,q0]) (by simp [World.cell?,h.heap,q1]) hyn fy)
 have hc0:=oF hb0 hcell
 have hn0:w0.cell? ⟨w.heap.size,0,none⟩=some (.int .i64 (n:Int)):=by simp [World.cell?,h0]
 rw [hw0] at hc0 hn0
 have HW:=ac (show (w.alloc (.cells #[.int .i64 (n:Int)] 3)).alloc (.cells #[.int .i64 (s:Int)] 3)=w2 by rw [hw2,hw0])
 have HB2:=ac hb2
 have e1:(n:Int) - 1=(i:Int):=by omega
 have k0:(0:Int)≤(i:Int):=by omega
 have k1:(i:Int)<(n:Int):=by omega
 have wi:IntKind.i64.wrap (i:Int)=(i:Int):=by rw [IntKind.wrap_i64];omega
 have hnl:n≤1125899906842624:=by omega
 rw [hn]
 rw [hn] at M1
 generalize X.getD i 0=y at *
 generalize y*2 ^ s+X.getD j 0 / 2 ^ (64 - s)=xh at *
 generalize Y.getD i 0*2 ^ s+Y.getD j 0 / 2 ^ (64 - s)=yh at *
 clear C1 C2 HC1 HC2 ex1 ex2 ey1 ey2 fx fy hyx hylt htop n1 n2 n3 n4 hs hsI hi hj hlx hly hyn hle hn hw0 hw2 hs0 hb0 hb2 h0 q0 q1 hcell
 go_enter Tryz.func118,Tryz.ntmps118
 go_wp2_with fail
 refine (HLZ _).mono ?_
 rintro e wn ⟨rfl,hw⟩;rw [hw];clear hw wn HLZ
 go_wp2_with fail
 rw [HW.out]
 refine M1.mono ?_
 rintro e w3 ⟨rfl,hs3⟩
 have M3:=M2.out w3 hs3
 have HS3:=ac hs3
 clear M1 M2 hs3
 go_wp2_with fail
 refine M3.mono ?_
 rintro e w4 ⟨rfl,hs4⟩
 have HB4:=ac ((HB2.out.trans (HS3.out.below _)).trans (hs4.below _))
 clear M3 hs4
 go_wp2
 go_ret2
 obtain⟨f1,f2,f3,f4,f5,f6,f7⟩:=HF.out
 exact⟨⟨xh,yh,xl,yl,_,rfl,f1,f2,f3,f4,f5,f6,f7⟩,HB4.out⟩

def stw (a b c d:Nat)(aq:Option Addr)(lq kq:Nat):Value:=.agg #[.int .u64 a,.int .u64 b,.int .u64 c,.int .u64 d,.slice aq lq kq]

theorem mn (a b c d:Nat)(aq:Option Addr)(lq kq:Nat)(w:World):Calls Tryz.prog 120 #[stw a b c d aq lq kq] w fun e w'=>e=.returned (.bool (decide (lq=0)))∧Below w.heap.size w w':=by
 unfold stw
 have hb:Below w.heap.size w (w.alloc (.cells #[.int .u64 a,.int .u64 b,.int .u64 c,.int .u64 d,.slice aq lq kq] 139)):=(Below.refl _ _).alloc (Nat.le_refl _) _
 obtain⟨_,_,_,_,hc⟩:=aM (show (w.alloc (.cells #[.int .u64 a,.int .u64 b,.int .u64 c,.int .u64 d,.slice aq lq kq] 139)).heap[w.heap.size]?=_ from heap_alloc_new ..)
 have hdec:((lq:Int) == 0)=decide (lq=0):=by by_cases h:lq=0 <;> simp [h]
 have HB:=ac hb
 clear hb
 go_enter Tryz.func120,Tryz.ntmps120
 go_wp2
 go_ret
 exact⟨rfl,HB.out⟩

theorem ii (a b c d:Nat)(aq:Option Addr)(lq kq:Nat)(o:Bool)(w:World)(ho:(0<lq % 2)=(o=true)):Calls Tryz.prog 163 #[stw a b c d aq lq kq] w fun e w'=>e=.returned (.bool o)∧Below w.heap.size w w':=by
 unfold stw
 have hb:Below w.heap.size w (w.alloc (.cells #[.int .u64 a,.int .u64 b,.int .u64 c,.int .u64 d,.slice aq lq kq] 139)):=(Below.refl _ _).alloc (Nat.le_refl _) _
 obtain⟨_,_,_,_,hc⟩:=aM (show (w.alloc (.cells #[.int .u64 a,.int .u64 b,.int .u64 c,.int .u64 d,.slice aq lq kq] 139)).heap[w.heap.size]?=_ from heap_alloc_new ..)
 have et:Int.tmod (lq:Int) 2=((lq % 2:Nat):Int):=by rw [Int.tmod_eq_emod_of_nonneg (by omega)];omega
 have hdec:decide (0<lq % 2)=o:=by
  cases o
  ·exact decide_eq_false fun h=>by rw [ho] at h;cases h
  ·exact decide_eq_true (by rw [ho])
 obtain⟨m,hm⟩:∃m,lq % 2=m:=⟨_,rfl⟩
 rw [hm] at et hdec
 have HB:=ac hb
 have HD:=ac hdec
 clear hb hdec ho hm
 go_enter Tryz.func163,Tryz.ntmps163
 go_wp2
 go_ret
 exact⟨by rw [←HD.out];rfl,HB.out⟩

theorem oy (b off cap:Nat)(zs:List Nat)(w:World)(hcap:zs.length≤cap)(hmax:cap≤9223372036854775807)
  (hc:∀k,k<zs.length→w.cell? ⟨b,off+k,none⟩=some (.int .u64 ((zs.getD k 0:Nat):Int))) :
  Calls Tryz.prog 122 #[.slice (some ⟨b,off,none⟩) zs.length cap] w fun e w'=>e=.returned (.slice (some ⟨b,off,none⟩) (tr zs).length cap)∧w'=w:=by
 go_enter Tryz.func122,Tryz.ntmps122
 go_wp2
 go_loop [3] (fun n=>∃k:Nat,k≤zs.length∧n=.int .i64 k∧tr (zs.take k)=tr zs) (fun n=>(intOf n).toNat)
 case atStart=>exact⟨zs.length,Nat.le_refl _,rfl,by rw [List.take_length]⟩
 case round=>
  obtain⟨k,hk,rfl,ht⟩:=hrel
  have HT:Hid (tr (zs.take k)=tr zs):=ht
  clear ht
  by_cases h0:k=0
  ·subst h0
   go_wp2
   go_ret
   have e:=HT.out
   simp only [List.take_zero,tr] at e
   rw [←e]
   exact⟨rfl,rfl⟩
  ·obtain⟨j,rfl⟩:∃j,k=j+1:=⟨k - 1,by omega⟩
   have hcj:=hc j (by omega)
   clear hc
   by_cases hz:zs.getD j 0=0
   ·have HZ:Hid (tr (zs.take j)=tr zs):=by rw [←tr_step zs j (by omega) hz];exact HT.out
    rw [hz] at hcj
    clear hz HT
    go_wp2
    go_round
    case rel=>exact⟨j,by omega,by go_num,HZ.out⟩
    case measure=>simp [intOf]
   ·have HZ:Hid (tr zs=zs.take (j+1)):=by rw [←HT.out];exact tr_stop zs j (by omega) hz
    clear HT
    generalize zs.getD j 0=z at hcj hz
    have hne:((z:Int) == 0)=false:=by rw [beq_eq_false_iff_ne];omega
    clear hz
    go_wp2
    go_ret
    rw [HZ.out]
    have e:(zs.take (j+1)).length=j+1:=by simp;omega
    rw [e]
    exact⟨rfl,rfl⟩

theorem qn (ao:Option Addr)(cap:Nat)(w:World)(_hmax:cap≤9223372036854775807) :
  Calls Tryz.prog 122 #[.slice ao 0 cap] w fun e w'=>e=.returned (.slice ao 0 cap)∧w'=w:=by
 go_enter Tryz.func122,Tryz.ntmps122
 go_wp2
 refine wp_loop_rounds 1 ?_
 rw [rounds_succ]
 go_wp2
 go_ret
 exact⟨rfl,rfl⟩

theorem cV (ao:Option Addr)(cap:Nat)(zs:List Nat)(w:World)(hcap:zs.length≤cap)(hmax:cap≤9223372036854775807)(hl:aG w ao zs) :
  Calls Tryz.prog 122 #[.slice ao zs.length cap] w fun e w'=>e=.returned (.slice ao (tr zs).length cap)∧w'=w:=by
 rcases hl with rfl|⟨b,off,rfl,hc⟩
 ·exact qn ao cap w hmax
 ·exact oy b off cap zs w hcap hmax hc

theorem gj (bz zo n cap:Nat)(Z:List Nat)(va:Value)(X:List Nat)(w:World)(hB:Blk w bz Z)(hLZ:Limbs Z)(hA:Arg w va X)(ho:0<X.length→Off va bz zo (zo+n))
  (hzo:zo+n≤Z.length) (hc1:n≤cap) (hc2:cap≤9223372036854775807) (hXn:X.length≤n) (hfit:sv Z zo n+val X<18446744073709551616 ^ n) :
  Calls Tryz.prog 128 #[.slice (some ⟨bz,zo,none⟩) n cap,va] w (aK bz zo n Z w (sv Z zo n+val X)):=by
 obtain⟨a1,c1,rfl,hcc1,hcm1,hl1⟩:=hA.form
 have hX:=hA.few
 have M1:=hA.limbs
 have hao:0<X.length→∀b off,a1=some ⟨b,off,none⟩→b≠bz∨off+X.length≤zo∨zo+n≤off:=fun h b off e=>by
  subst e
  exact ho h b off _ _ rfl
 have L1:=hl1
 have hln:=hXn
 clear ho hA hl1 hXn
 generalize X=P at *
 have HFIT:=ac hfit
 have HB0:=ac hB
 have HLZ:=ac hLZ
 clear hfit
 go_enter Tryz.func128,Tryz.ntmps128
 go_wp2
 go_loopw [4,10] (fun c i wr=>∃(k cy:Nat) (Z':List Nat),k≤P.length∧i=.int .i64 k∧c=.int .u64 cy∧cy≤1∧Out Z Z' zo (zo+k)∧Limbs Z'∧Blk wr bz Z'∧Fr bz w wr ∧
   sv Z' zo k+cy*18446744073709551616 ^ k=sv Z zo k+val (P.take k)) (fun _ i _=>P.length - (intOf i).toNat)
 case atStart=>exact⟨0,0,Z,Nat.zero_le _,rfl,rfl,by omega,Out.refl _ _ _,HLZ.out,HB0.out,Fr.refl _ _,by simp [aW,val]⟩
 case round=>
  obtain⟨k,cy,Z',hk,rfl,rfl,hcy,hout,hlz,hblk,hfr0,hval⟩:=hrel
  have HV:=ac hval
  have HB:=ac hblk
  have HF:=ac hfr0
  have HO:=ac hout
  have hl:=hout.len
  clear hval
  by_cases hkl:k<P.length
  ·rcases L1.fr (hao (by omega)) hfr0 hB hblk (hout.wider (Nat.le_refl _) (by omega)) with h0|⟨b,off,rfl,hcell⟩
   ·rw [h0] at hkl;simp at hkl
   ·have hck:=hcell k hkl
    have hfr:=hblk.free (zo+k)
    have hco:=hblk.cell (zo+k) (by omega)
    have z1:=limb_lt M1 k
    have z2:=limb_lt hlz (zo+k)
    have hsame:=hout.same (zo+k) (by omega)
    have ha:=dN (Z'.getD (zo+k) 0) (P.getD k 0) cy hcy
    obtain⟨q1,q2,q3⟩:=dV (Z'.getD (zo+k) 0) (P.getD k 0) cy z2 z1 hcy
    have HS:=ac (dv Z Z' zo k cy _ _ (P.getD k 0) _ (by omega) hl HV.out (by rw [←hsame];exact q1))
    rw [←val_take_next P k] at HS
    generalize Z'.getD (zo+k) 0=z at *
    generalize P.getD k 0=x at *
    clear hsame q1
    generalize (z+x+cy) % 18446744073709551616=s at *
    generalize (z+x+cy) / 18446744073709551616=c2 at *
    clear hcell hblk hfr0 hout HV M1 L1 hB hLZ
    go_wp2
    go_roundw
    case rel=>exact⟨k+1,c2,Z'.set (zo+k) s,by omega,by go_num,rfl,q2,(HO.out.wider (Nat.le_refl _) (by omega)).set _ _ (by omega) (by omega),limbs_set hlz _ _ q3,HB.out.set _ s,HF.out.setCell _ _,HS.out⟩
    case measure=>simp [intOf];omega
  ·have ek:k=P.length:=by omega
   subst ek
   rw [List.take_length] at HV
   clear hblk hfr0 hout L1 hB M1 hLZ hl
   go_wp2
   go_loopw [4,7] (fun c i wr2=>∃(k cy:Nat) (Z2:List Nat),k≤n∧i=.int .i64 k∧c=.int .u64 cy∧cy≤1∧Out Z Z2 zo (zo+k)∧Limbs Z2∧Blk wr2 bz Z2∧Fr bz w wr2 ∧
     sv Z2 zo k+cy*18446744073709551616 ^ k=sv Z zo k+val P) (fun _ i _=>n - (intOf i).toNat)
   case atStart=>exact⟨P.length,cy,Z',hln,rfl,rfl,hcy,HO.out,hlz,HB.out,HF.out,HV.out⟩
   case round=>
    obtain⟨k,cy2,Z2,hk2,rfl,rfl,hcy2,hout2,hlz2,hblk2,hfr2,hval2⟩:=hrel
    clear HV HB HF HO
    have HV:=ac hval2
    have HB:=ac hblk2
    have HF:=ac hfr2
    have HO:=ac hout2
    have hl:=hout2.len
    clear hval2
    by_cases hc0:cy2=0
    ·subst hc0
     have HR:=ac (fq Z Z2 zo k n _ hk2 hzo hout2 (by have h:=HV.out;rw [Nat.zero_mul,Nat.add_zero] at h;exact h))
     clear hblk2 hfr2 hout2 HV
     go_wp2
     go_end0
     exact⟨rfl,Z2,HO.out.wider (Nat.le_refl _) (by omega),hlz2,HB.out,HF.out,HR.out⟩
    ·have hpos:(0:Int)<(cy2:Int):=by omega
     have hkn:k<n:=by
      rcases Nat.lt_or_ge k n with h|h
      ·exact h
      ·have ek:k=n:=by omega
       subst ek
       exact absurd (ix Z Z2 zo k cy2 (val P) HFIT.out HV.out) hc0
     have hfr:=hblk2.free (zo+k)
     have hco:=hblk2.cell (zo+k) (by omega)
     have z2:=limb_lt hlz2 (zo+k)
     have hsame:=hout2.same (zo+k) (by omega)
     have ha:=bO (Z2.getD (zo+k) 0) cy2
     obtain⟨q1,q2,q3⟩:=dV (Z2.getD (zo+k) 0) 0 cy2 z2 (by omega) hcy2
     have HS:=ac (dv Z Z2 zo k cy2 _ _ 0 _ (by omega) hl HV.out (by rw [←hsame];exact q1))
     rw [Nat.mul_zero,Nat.add_zero] at HS
     rw [Nat.add_zero] at HS q2 q3
     generalize Z2.getD (zo+k) 0=z at *
     clear hsame q1
     generalize (z+cy2) % 18446744073709551616=s at *
     generalize (z+cy2) / 18446744073709551616=c2 at *
     clear hblk2 hfr2 hout2 HV hc0
     go_wp2
     go_roundw
     case rel=>exact⟨k+1,c2,Z2.set (zo+k) s,by omega,by go_num,rfl,q2,(HO.out.wider (Nat.le_refl _) (by omega)).set _ _ (by omega) (by omega),limbs_set hlz2 _ _ q3,HB.out.set _ s,HF.out.setCell _ _,HS.out⟩
     case measure=>simp [intOf];omega
end Go.Proofs.YtdbjbbdhlpfhjaaGreatDoor

