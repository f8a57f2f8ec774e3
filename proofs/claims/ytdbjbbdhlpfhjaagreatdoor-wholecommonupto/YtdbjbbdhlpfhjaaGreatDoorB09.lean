/- Package div: Lehmer's steps: less, none, next. -/
import Derived.Test.YtdbjbbdhlpfhjaaGreatDoorB08
import Derived.Test.YtdbjbbdhlpfhjaaGreatDoorB04
import Derived.Handy
import Derived.Test.YtdbjbbdhlpfhjaaGreatDoorB06
import Derived.Deep.RegionWith
import Derived.Deep.CutBlock
import Derived.Deep.DeepCutAuto
import Derived.Deep.RegionHeld3
import Derived.BigQuiet
import Derived.Test.YtdbjbbdhlpfhjaaGreatDoorB05
import Derived.Test.YtdbjbbdhlpfhjaaGreatDoorB03
import Derived.Deep.QuietTactic
import Derived.Test.YtdbjbbdhlpfhjaaGreatDoorB02
set_option maxRecDepth 20000
set_option maxHeartbeats 1000000
namespace Go.Proofs.YtdbjbbdhlpfhjaaGreatDoor
open Go.RowKit
open Lm
attribute [local go_sem ↓] Go.wp_at_zero Go.wp_at_succ

def m9 (p q:Nat)(c:Int)(w:World)(e:Ending)(w':World):Prop:=
 ∃(l:Nat) (t:Int),e=.returned (.tuple #[.int .u64 (l:Int),.int .i64 t])∧l<18446744073709551616∧(l:Int)+18446744073709551616*t=(p:Int) - q+c∧-4294967296≤t∧t≤4294967296∧w'=w

theorem kV (p q l1 h1 l2 h2 l3 br b2 h3 cu cs l4 m h4 b3:Nat)(c:Int)(hp:p≤79228162495817593515539431425)(hq:q≤79228162495817593515539431425)(hc1:-4294967296≤c)(hc2:c≤4294967296)
  (e1:p=h1*18446744073709551616+l1) (e2:q=h2*18446744073709551616+l2) (_:l1<18446744073709551616) (_:l2<18446744073709551616)
  (e3:l3+l2=l1+br*18446744073709551616) (e4:h3+h2+br=h1+b2*18446744073709551616) (e5:l4+m*18446744073709551616=l3+cu) (e6:h4+b3*18446744073709551616=h3+cs+m)
  (hl4:l4<18446744073709551616) (hh4:h4<18446744073709551616) (hc:(cu=c∧cs=0)∨((cu:Int)=c+18446744073709551616∧cs=18446744073709551615∧c<0)) :
  (l4:Int)+18446744073709551616*wrap64 (h4:Int)=(p:Int) - q+c∧-4294967296≤wrap64 (h4:Int)∧wrap64 (h4:Int)≤4294967296:=by
 have key:∃t:Int,(l4:Int)+18446744073709551616*t=(p:Int) - q+c∧((h4:Int)=t∨(h4:Int)=t+18446744073709551616):=by
  have h0:∃s:Int,(l4:Int)+18446744073709551616*((h4:Int)+18446744073709551616*s)=(p:Int) - q+c:=by
   rcases hc with ⟨k1,k2⟩|⟨k1,k2,_⟩
   ·exact⟨(b3:Int) - b2,by omega⟩
   ·exact⟨(b3:Int) - b2 - 1,by omega⟩
  obtain⟨s,hs⟩:=h0
  refine⟨(h4:Int)+18446744073709551616*s,hs,?_⟩
  have:s=0∨s=-1:=by omega
  rcases this with rfl|rfl <;> omega
 obtain⟨t,h1,h2⟩:=key
 have ht1:-4294967296≤t:=by omega
 have ht2:t≤4294967296:=by omega
 have ew:wrap64 (h4:Int)=t:=by
  unfold wrap64
  omega
 rw [ew]
 exact⟨h1,ht1,ht2⟩

theorem kN (c:Int)(hc1:-4294967296≤c)(hc2:c≤4294967296) :
  ∃cu cs:Nat,IntKind.u64.wrap c=(cu:Int)∧IntKind.u64.wrap (c / 9223372036854775808)=(cs:Int)∧((cu=c∧cs=0)∨((cu:Int)=c+18446744073709551616∧cs=18446744073709551615∧c<0)):=by
 rw [IntKind.wrap_u64,IntKind.wrap_u64]
 by_cases h0:0≤c
 ·exact⟨c.toNat,0,by omega,by omega,.inl (by omega)⟩
 ·exact⟨(c+18446744073709551616).toNat,18446744073709551615,by omega,by omega,.inr (by omega)⟩

theorem aH {w:World}{h:Nat}{a b c d f:Value}{t:TypeId}(e:w.heap[h]?=some (.cells #[a,b,c,d,f] t)):w.cell? ⟨h,0,none⟩=some a∧w.cell? ⟨h,1,none⟩=some b∧w.cell? ⟨h,2,none⟩=some c∧w.cell? ⟨h,3,none⟩=some d∧w.cell? ⟨h,4,none⟩=some f:=
 ⟨by simp [World.cell?,e],by simp [World.cell?,e],by simp [World.cell?,e],by simp [World.cell?,e],by simp [World.cell?,e]⟩

structure fN (x y a b c d:Nat):Prop where
 ab:a≤b
 cd:c≤d
 c1:1≤c
 b1:1≤b
 bd:b≤d
 dy:d≤y
 xy:y+(b+d)≤x

def dH (xh yh x y a b c d:Nat)(o:Bool):Prop:=
 LSteps xh yh x y a b c d o∧((a=1∧b=0∧c=0∧d=1∧y≤x)∨fN x y a b c d)

theorem dH.next {xh yh x y a b c d:Nat}{o:Bool}(h:dH xh yh x y a b c d o)(hy:0<y) :
  LSteps xh yh y (x % y) c d (a+x / y*c) (b+x / y*d) (!o)∧c≤d∧a+x / y*c≤b+x / y*d∧1≤a+x / y*c∧1≤d∧d≤b+x / y*d∧y≤x:=by
 have hs:=h.1.next hy
 have hyx:y≤x:=by
  rcases h.2 with ⟨_,_,_,_,h5⟩|h2
  ·exact h5
  ·have:=h2.xy;omega
 have hq:1≤x / y:=(Nat.le_div_iff_mul_le hy).2 (by omega)
 refine⟨hs,?_⟩
 rcases h.2 with ⟨rfl,rfl,rfl,rfl,_⟩|h2
 ·generalize x / y=q at *
  refine⟨by omega,by omega,by omega,by omega,by omega,hyx⟩
 ·have p1:x / y*c≤x / y*d:=Nat.mul_le_mul_left _ h2.cd
  have p2:c≤x / y*c:=Nat.le_mul_of_pos_left _ hq
  have p3:d≤x / y*d:=Nat.le_mul_of_pos_left _ hq
  have:=h2.ab
  have:=h2.cd
  have:=h2.c1
  generalize x / y*c=u at *
  generalize x / y*d=v at *
  exact⟨h2.cd,by omega,by omega,by omega,by omega,hyx⟩

theorem cf {w:World}{h:Nat}{a b c d f:Value}{t:TypeId}(e:w.heap[h]?=some (.cells #[a,b,c,d,f] t)):∀k,w.frozen? ⟨h,k,none⟩=false:=fun k=>by simp [World.frozen?,e]

theorem cD {w:World}{h:Nat}{a b c d f a' b' c' d' f':Value}{t:TypeId}(e:w.heap[h]?=some (.cells #[a,b,c,d,f] t)) :
  (((((w.setCell ⟨h,0,none⟩ a').setCell ⟨h,1,none⟩ b').setCell ⟨h,2,none⟩ c').setCell ⟨h,3,none⟩ d').setCell ⟨h,4,none⟩ f').heap[h]?=some (.cells #[a',b',c',d',f'] t):=
 aT (aT (aT (aT (aT e a') b') c') d') f'

theorem aN {w:World}{h g o:Nat}{x:Obj}{v:Value}(e:w.heap[h]?=some x)(hne:h≠g):(w.setCell ⟨g,o,none⟩ v).heap[h]?=some x:=by
 rw [Below.heap_setCell _ _ _ _ hne];exact e

theorem mg {w w':World}{g o:Nat}{v:Value}(hb:Below w.heap.size w w')(h:w.cell? ⟨g,o,none⟩=some v):w'.cell? ⟨g,o,none⟩=some v:=by
 rw [hb.cell (p:=⟨g,o,none⟩) ?_]
 ·exact h
 ·show g<w.heap.size
  rcases Nat.lt_or_ge g w.heap.size with h' | h'
  ·exact h'
  ·simp [World.cell?,Array.getElem?_eq_none h'] at h

theorem bC {w:World}{g:Nat}{x:Obj}(h:w.heap[g]?=some x):g<w.heap.size:=by
 rcases Nat.lt_or_ge g w.heap.size with h' | h'
 ·exact h'
 ·simp [Array.getElem?_eq_none h'] at h

theorem hC {w:World}{g:Nat}{x o:Obj}(h:w.heap[g]?=some x):(w.alloc o).heap[g]?=some x:=by
 have hb:Below w.heap.size w (w.alloc o):=(Below.refl _ _).alloc (Nat.le_refl _) _
 rw [hb.block g (bC h)];exact h

theorem dH.small {xh yh x y a b c d:Nat}{o:Bool}(h:dH xh yh x y a b c d o)(hx:xh<18446744073709551616):a<18446744073709551616∧b<18446744073709551616∧c<18446744073709551616∧d<18446744073709551616:=by
 rcases h.2 with ⟨rfl,rfl,rfl,rfl,_⟩|h2
 ·omega
 ·have:=h.1.d_le (by have:=h2.xy;have:=h2.b1;omega)
  have:=h2.ab
  have:=h2.cd
  have:=h2.bd
  omega

theorem Ans.stored' {w:World}{base g cap:Nat}{zs:List Nat}(h:Ans w base (.slice (some ⟨g,0,none⟩) zs.length cap) zs)(j z:Nat)(hz:z<18446744073709551616):Ans (w.setCell ⟨g,j,none⟩ (.int .u64 (z:Int))) base (.slice (some ⟨g,0,none⟩) (zs.set j z).length cap) (zs.set j z):=by
 refine⟨?_,limbs_set h.limbs _ _ hz⟩
 have:=(h.own.stored j (.int .u64 (z:Int))).1
 rw [List.length_set,List.map_set]
 exact this

theorem Ans.apart {w:World}{base:Nat}{v:Value}{zs:List Nat}(h:Ans w base v zs)(g o:Nat)(u:Value)(hne:v.ownBlock≠some g):Ans (w.setCell ⟨g,o,none⟩ u) base v zs:=
 ⟨ownsRow_setCell_other h.own hne _,h.limbs⟩

theorem iL {A B P:Int}{vo va vb x a b cy cy2 l:Int}(h:vo+P*cy=A*va - B*vb)(hl:l+18446744073709551616*cy2=A*a - B*b+cy)(_:x=0) :
  vo+P*l+P*18446744073709551616*cy2=A*(va+P*a) - B*(vb+P*b):=by
 have h1:P*(l+18446744073709551616*cy2)=P*(A*a - B*b+cy):=by rw [hl]
 grind

theorem dC (a k z:Nat):((a+18446744073709551616 ^ k*z:Nat):Int)=(a:Int)+(18446744073709551616:Int) ^ k*(z:Int):=by
 rw [Int.natCast_add,Int.natCast_mul,Int.natCast_pow];rfl

structure cn (w w':World)(base gx cx gy cy:Nat)(X Y X' Y':List Nat)(k:Nat)(p q r s:Int)(over under:Int):Prop where
 lx:X'.length=X.length
 ly:Y'.length=Y.length
 ax:Ans w' base (.slice (some ⟨gx,0,none⟩) X'.length cx) X'
 ay:Ans w' base (.slice (some ⟨gy,0,none⟩) Y'.length cy) Y'
 sx:∀i,k≤i→X'.getD i 0=X.getD i 0
 sy:∀i,k≤i→Y'.getD i 0=Y.getD i 0
 o1:-4294967296≤over
 o2:over≤4294967296
 u1:-4294967296≤under
 u2:under≤4294967296
 vx:(val (X'.take k):Int)+18446744073709551616 ^ k*over=p*val (X.take k) - q*val (Y.take k)
 vy:(val (Y'.take k):Int)+18446744073709551616 ^ k*under=r*val (Y.take k) - s*val (X.take k)
 bel:Below base w w'

def gB (base gx cx gy cy:Nat)(X Y:List Nat)(p q r s:Int)(w:World)(e:Ending)(w':World):Prop:=
 e=.returned (.tuple #[])∧∃X' Y' over under,cn w w' base gx cx gy cy X Y X' Y' Y.length p q r s over under

theorem cn.next {w w':World}{base gx cx gy cy:Nat}{X Y X' Y':List Nat}{k:Nat}{p q r s over under:Int}(h:cn w w' base gx cx gy cy X Y X' Y' k p q r s over under)(hne:gx≠gy)(hk:k<Y.length)(hxy:Y.length≤X.length)(hbx:base≤gx)(hby:base≤gy)
  {l m:Nat} {o' u':Int} (hl:l<18446744073709551616) (hm:m<18446744073709551616) (e1:(l:Int)+18446744073709551616*o'=p*X.getD k 0 - q*Y.getD k 0+over) (e2:(m:Int)+18446744073709551616*u'=r*Y.getD k 0 - s*X.getD k 0+under)
  (b1:-4294967296≤o') (b2:o'≤4294967296) (b3:-4294967296≤u') (b4:u'≤4294967296) :
  cn w ((w'.setCell ⟨gx,k,none⟩ (.int .u64 (l:Int))).setCell ⟨gy,k,none⟩ (.int .u64 (m:Int))) base gx cx gy cy X Y (X'.set k l) (Y'.set k m) (k+1) p q r s o' u':=by
 have lx:=h.lx
 have ly:=h.ly
 have n1:∀(z:List Nat) (i v:Nat),k+1≤i→(z.set k v).getD i 0=z.getD i 0:=by
  intro z i v hi
  simp only [List.getD,List.getElem?_set]
  rw [if_neg (by omega)]
 refine⟨by rw [List.length_set,lx],by rw [List.length_set,ly],?_,?_,fun i hi=>by rw [n1 _ _ _ hi];exact h.sx i (by omega),fun i hi=>by rw [n1 _ _ _ hi];exact h.sy i (by omega),b1,b2,b3,b4,?_,?_,(h.bel.setCell (p:=⟨gx,k,none⟩) hbx _).setCell (p:=⟨gy,k,none⟩) hby _⟩
 ·exact (h.ax.stored' k l hl).apart gy k _ (by simp [Value.ownBlock,hne])
 ·exact (h.ay.apart gx k _ (by simp [Value.ownBlock,Ne.symm hne])).stored' k m hm
 ·rw [take_set_succ _ _ _ (by omega),val_take_next X,val_take_next Y,Int.pow_succ]
  rw [dC,dC,dC]
  exact iL (x:=0) h.vx e1 rfl
 ·rw [take_set_succ _ _ _ (by omega),val_take_next X,val_take_next Y,Int.pow_succ]
  rw [dC,dC,dC]
  exact iL (x:=0) h.vy e2 rfl

theorem Ans.cellAt {w:World}{base g cap:Nat}{zs:List Nat}(h:Ans w base (.slice (some ⟨g,0,none⟩) zs.length cap) zs):(zs.length≤cap∧cap≤9223372036854775807)∧(∀k,w.frozen? ⟨g,k,none⟩=false)∧∀k,k<zs.length→w.cell? ⟨g,k,none⟩=some (.int .u64 ((zs.getD k 0:Nat):Int)):=by
 rcases h.form with ⟨e,_⟩|⟨g',cap',e,_,_,h1,h2,h3,h4⟩
 ·cases e
 ·cases e
  exact⟨⟨h1,h2⟩,h3,h4⟩

theorem bh {w:World}{g k g' k':Nat}{u:Value}(h:g≠g'):(w.setCell ⟨g,k,none⟩ u).cell? ⟨g',k',none⟩=w.cell? ⟨g',k',none⟩:=by
 simp only [World.cell?]
 rw [Below.heap_setCell _ _ _ _ (by exact Ne.symm h)]

def sgL:Bool→Nat→Int
 | false,a=>(a:Int)
 | true,a=>-(a:Int)

theorem js (X:List Nat)(j s:Nat)(hL:Limbs X)(hlen:X.length≤j+2)(hs:s<64) :
  ∃xl,val X=(X.getD (j+1) 0*2 ^ s+X.getD j 0 / 2 ^ (64 - s))*(18446744073709551616 ^ j*2 ^ (64 - s))+xl∧xl<18446744073709551616 ^ j*2 ^ (64 - s):=by
 have e1:val X=val (X.take j)+18446744073709551616 ^ j*X.getD j 0+18446744073709551616 ^ (j+1)*X.getD (j+1) 0:=by
  rw [←val_take_next,←val_take_next,List.take_of_length_le hlen]
 have e2:(18446744073709551616:Nat)=2 ^ s*2 ^ (64 - s):=by rw [←Nat.pow_add,show s+(64 - s)=64 by omega]
 have h3:val (X.take j)<18446744073709551616 ^ j:=by
  have h1:Limbs (X.take j):=fun z hz=>hL z (List.mem_of_mem_take hz)
  exact Nat.lt_of_lt_of_le (val_lt h1) (Nat.pow_le_pow_right (by omega) (by simp;omega))
 have h4:=Nat.div_add_mod (X.getD j 0) (2 ^ (64 - s))
 have h5:=Nat.mod_lt (X.getD j 0) (Nat.two_pow_pos (64 - s))
 refine⟨val (X.take j)+18446744073709551616 ^ j*(X.getD j 0 % 2 ^ (64 - s)),?_,?_⟩
 ·rw [e1,Nat.pow_succ]
  generalize (18446744073709551616:Nat) ^ j=B at *
  generalize X.getD (j+1) 0=h at *
  generalize X.getD j 0=l at *
  have e3:B*18446744073709551616*h=B*(2 ^ s*2 ^ (64 - s))*h:=by rw [←e2]
  rw [e3]
  generalize 2 ^ (64 - s)=Q at *
  generalize 2 ^ s=S at *
  generalize l / Q=q at *
  generalize l % Q=r at *
  subst h4
  grind
 ·generalize (18446744073709551616:Nat) ^ j=B at *
  generalize X.getD j 0 % 2 ^ (64 - s)=r at *
  generalize 2 ^ (64 - s)=Q at *
  have h6:B*(r+1)≤B*Q:=Nat.mul_le_mul_left _ h5
  rw [Nat.mul_add,Nat.mul_one] at h6
  omega

theorem iH {h s:Nat}(hs:s<64)(hh:h*2 ^ s<18446744073709551616)(l:Nat)(hl:l<18446744073709551616):h*2 ^ s+l / 2 ^ (64 - s)<18446744073709551616:=by
 have e2:(18446744073709551616:Nat)=2 ^ s*2 ^ (64 - s):=by rw [←Nat.pow_add,show s+(64 - s)=64 by omega]
 have h1:=shr_lt l s (by omega) hl
 have h2:h<2 ^ (64 - s):=by
  rw [e2,Nat.mul_comm (2 ^ s)] at hh
  exact Nat.lt_of_mul_lt_mul_right hh
 have h3:(h+1)*2 ^ s≤2 ^ (64 - s)*2 ^ s:=Nat.mul_le_mul_right _ h2
 rw [Nat.mul_comm (2 ^ (64 - s)),←e2,Nat.add_mul,Nat.one_mul] at h3
 omega
end Go.Proofs.YtdbjbbdhlpfhjaaGreatDoor
namespace Go.Proofs.YtdbjbbdhlpfhjaaGreatDoor
namespace Lm

def fsg (o:Bool):Int:=if o then -1 else 1

structure Fac (m a x y fx fy:Nat)(o:Bool):Prop where
 sum:x*fy+y*fx=m
 hx:∃k:Int,(x:Int)=-(fsg o)*(fx:Int)*(a:Int)+k*(m:Int)
 hy:∃k:Int,(y:Int)=fsg o*(fy:Int)*(a:Int)+k*(m:Int)
 le:fx≤fy
 yle:y≤a
 a0:a=0→fx=0
 gcd:Nat.gcd x y=Nat.gcd m a

theorem Fac.start (m a:Nat):Fac m a m a 0 1 false:=
 ⟨by omega,⟨1,by simp⟩,⟨0,by simp [fsg]⟩,by omega,by omega,fun _=>rfl,rfl⟩

theorem fsg_not (o:Bool):fsg (!o)=-(fsg o):=by cases o <;> rfl

theorem Fac.one {m a x y fx fy:Nat}{o:Bool}(h:Fac m a x y fx fy o)(hy:0<y)(hq:0<x / y):Fac m a y (x % y) fy (fx+x / y*fy) (!o):=by
 have e:=Nat.div_add_mod x y
 have hr:=Nat.mod_lt x hy
 obtain⟨k,hk⟩:=h.hx
 obtain⟨l,hl⟩:=h.hy
 have hs:=h.sum
 have hg:=h.gcd
 have hya:=h.yle
 refine⟨?_,⟨l,?_⟩,⟨k - (x / y:Nat)*l,?_⟩,?_,by omega,fun ha=>by omega,?_⟩
 ·rw [←hs]
  conv=>rhs;rw [←e]
  generalize x / y=q
  generalize x % y=r
  grind
 ·rw [fsg_not,Int.neg_neg];exact hl
 ·rw [fsg_not]
  have e2:(x:Int)=(y:Int)*((x / y:Nat):Int)+((x % y:Nat):Int):=by
   rw [←Int.natCast_mul,←Int.natCast_add,e]
  rw [Int.natCast_add,Int.natCast_mul]
  generalize ((x / y:Nat):Int)=q at *
  generalize ((x % y:Nat):Int)=r at *
  generalize (x:Int)=X at *
  generalize (y:Int)=Y at *
  generalize (fx:Int)=F at *
  generalize (fy:Int)=G at *
  generalize fsg o=s at *
  grind
 ·have:=Nat.le_mul_of_pos_left fy hq
  omega
 ·rw [←hg,Nat.gcd_comm y,←Nat.gcd_rec,Nat.gcd_comm]

structure Many (A B C D:Nat)(o:Bool)(x y x' y':Nat):Prop where
 hx:x=D*x'+B*y'
 hy:y=C*x'+A*y'
 fx:(x':Int)=fsg o*((A:Int)*x - (B:Int)*y)
 fy:(y':Int)=fsg o*((D:Int)*y - (C:Int)*x)
 gcd:Nat.gcd x' y'=Nat.gcd x y
 le:A≤C∧B≤D
 yle:y'≤y

theorem fsg_xor (o p:Bool):fsg (o != p)=fsg o*fsg p:=by cases o <;> cases p <;> rfl

theorem Fac.many {m a x y fx fy x' y' A B C D:Nat}{o p:Bool}(h:Fac m a x y fx fy o)(t:Many A B C D p x y x' y')(hy:0<y):Fac m a x' y' (A*fx+B*fy) (C*fx+D*fy) (o != p):=by
 obtain⟨k,hk⟩:=h.hx
 obtain⟨l,hl⟩:=h.hy
 have hs:=h.sum
 have hya:=h.yle
 have hpp:fsg p*fsg p=1:=by cases p <;> rfl
 refine⟨?_,⟨fsg p*((A:Int)*k - (B:Int)*l),?_⟩,⟨fsg p*((D:Int)*l - (C:Int)*k),?_⟩,?_,by have:=t.yle;omega,fun ha=>by omega,t.gcd.trans h.gcd⟩
 ·rw [←hs,t.hx,t.hy]
  grind
 ·rw [t.fx,hk,hl,fsg_xor,Int.natCast_add,Int.natCast_mul,Int.natCast_mul]
  generalize fsg o=s
  generalize fsg p=u
  grind
 ·rw [t.fy,hk,hl,fsg_xor,Int.natCast_add,Int.natCast_mul,Int.natCast_mul]
  generalize fsg o=s
  generalize fsg p=u
  grind
 ·exact Nat.add_le_add (Nat.mul_le_mul_right _ t.le.1) (Nat.mul_le_mul_right _ t.le.2)

structure IsInv (m a g x:Nat):Prop where
 lt:x*g<m∨(x=0∧m=g)
 eq:∃k:Int,(a:Int)*(x:Int)=(g:Int)+k*(m:Int)

theorem Fac.ended {m a g fx fy:Nat}{o:Bool}(h:Fac m a g 0 fx fy o)(hm:0<m)(ham:a<m):g=Nat.gcd m a∧fy*g=m∧(if o=true∨fx=0 then IsInv m a g fx else fx<fy∧IsInv m a g (fy - fx)):=by
 have hg:g=Nat.gcd m a:=by have:=h.gcd;rw [Nat.gcd_zero_right] at this;exact this
 have hs:=h.sum
 rw [Nat.zero_mul,Nat.add_zero,Nat.mul_comm] at hs
 have hg0:0<g:=Nat.pos_of_ne_zero fun e=>by rw [e,Nat.mul_zero] at hs;omega
 have hfy:0<fy:=Nat.pos_of_ne_zero fun e=>by rw [e,Nat.zero_mul] at hs;omega
 obtain⟨k,hk⟩:=h.hx
 have hle:=h.le
 refine⟨hg,hs,?_⟩
 have hlt:fx<fy:=by
  rcases Nat.lt_or_ge fx fy with h1|h1
  ·exact h1
  ·exfalso
   have e1:fx=fy:=by omega
   obtain⟨b,hb⟩:g ∣ a:=by rw [hg];exact Nat.gcd_dvd_right m a
   have e2:(g:Int)*((fx:Int)*(-(fsg o)*(b:Int)+k))=(g:Int)*1:=by
    rw [Int.mul_one]
    conv=>rhs;rw [hk]
    rw [←hs,hb,←e1,Int.natCast_mul,Int.natCast_mul]
    generalize fsg o=s
    grind
   have e3:=Int.eq_of_mul_eq_mul_left (by omega:(g:Int)≠0) e2
   have e4:fx=1:=by
    have h2:(fx:Int) ∣ 1:=⟨_,e3.symm⟩
    have h3:=Int.le_of_dvd (by omega) h2
    omega
   have e5:m=g:=by rw [←hs,←e1,e4,Nat.one_mul]
   have e6:b=0:=by
    rcases Nat.eq_zero_or_pos b with h7|h7
    ·exact h7
    ·exfalso
     have:=Nat.le_mul_of_pos_right g h7
     omega
   have e7:=h.a0 (by rw [hb,e6,Nat.mul_zero])
   omega
 have hlt2:fx*g<m:=by
  rw [←hs]
  exact Nat.mul_lt_mul_of_pos_right hlt hg0
 by_cases ho:o=true
 ·rw [if_pos (.inl ho)]
  refine⟨.inl hlt2,⟨-k,?_⟩⟩
  rw [ho] at hk
  have e:fsg true=-1:=rfl
  rw [e] at hk
  rw [hk]
  grind
 ·by_cases h0:fx=0
  ·rw [if_pos (.inr h0)]
   subst h0
   rw [show ((0:Nat):Int)=0 from rfl,Int.mul_zero,Int.zero_mul,Int.zero_add] at hk
   have e1:(g:Int)=k*(m:Int):=hk
   have hgm:g≤m:=by rw [hg];exact Nat.gcd_le_left a hm
   have e2:m=g:=by
    have h2:(m:Int) ∣ (g:Int):=⟨k,by rw [e1,Int.mul_comm]⟩
    have:=Int.le_of_dvd (by omega) h2
    omega
   exact⟨.inr ⟨rfl,e2⟩,⟨-1,by rw [show ((0:Nat):Int)=0 from rfl,Int.mul_zero];omega⟩⟩
  ·rw [if_neg (by rintro (h1|h1) <;> contradiction)]
   refine⟨hlt,.inl ?_,?_⟩
   ·rw [←hs]
    exact Nat.mul_lt_mul_of_pos_right (by omega) hg0
   ·obtain⟨b,hb⟩:g ∣ a:=by rw [hg];exact Nat.gcd_dvd_right m a
    have e:fsg o=1:=by
     cases o
     ·rfl
     ·exact absurd rfl ho
    rw [e] at hk
    refine⟨(b:Int) - k,?_⟩
    rw [Int.natCast_sub (by omega)]
    have hs2:(fy:Int)*(g:Int)=(m:Int):=by rw [←Int.natCast_mul,hs]
    have hb2:(a:Int)=(g:Int)*(b:Int):=by rw [hb,Int.natCast_mul]
    have e9:(a:Int)*(fy:Int)=(b:Int)*(m:Int):=by rw [hb2,←hs2];grind
    grind

end Lm
end Go.Proofs.YtdbjbbdhlpfhjaaGreatDoor
namespace Go.Proofs.YtdbjbbdhlpfhjaaGreatDoor
open Go.RowKit
open Lm
attribute [local go_sem ↓] Go.wp_at_zero Go.wp_at_succ

theorem fe (a v b u:Nat)(c:Int)(w:World)(ha:a<4294967296)(hv:v<18446744073709551616)(hb:b<4294967296)(hu:u<18446744073709551616)(hc1:-4294967296≤c)(hc2:c≤4294967296) :
  Calls Tryz.prog 164 #[.int .u64 a,.int .u64 v,.int .u64 b,.int .u64 u,.int .i64 c] w (m9 (a*v) (b*u) c w):=by
 have hM1:=Tryz.bits_Mul64 a v (by omega) hv w
 have hM2:=Tryz.bits_Mul64 b u (by omega) hu w
 have hPl:a*v≤79228162495817593515539431425:=Nat.mul_le_mul (Nat.le_sub_one_of_lt ha) (Nat.le_sub_one_of_lt hv)
 have hQl:b*u≤79228162495817593515539431425:=Nat.mul_le_mul (Nat.le_sub_one_of_lt hb) (Nat.le_sub_one_of_lt hu)
 obtain⟨P,hP⟩:∃P,a*v=P:=⟨_,rfl⟩
 obtain⟨Q,hQ⟩:∃Q,b*u=Q:=⟨_,rfl⟩
 rw [hP] at hM1 hPl ⊢
 rw [hQ] at hM2 hQl ⊢
 clear hP hQ
 obtain⟨h1,eh1⟩:∃h1,P / 18446744073709551616=h1:=⟨_,rfl⟩
 obtain⟨l1,el1⟩:∃l1,P % 18446744073709551616=l1:=⟨_,rfl⟩
 obtain⟨h2,eh2⟩:∃h2,Q / 18446744073709551616=h2:=⟨_,rfl⟩
 obtain⟨l2,el2⟩:∃l2,Q % 18446744073709551616=l2:=⟨_,rfl⟩
 rw [eh1,el1] at hM1
 rw [eh2,el2] at hM2
 have p1:P=h1*18446744073709551616+l1∧l1<18446744073709551616∧h1<18446744073709551616:=by omega
 have p2:Q=h2*18446744073709551616+l2∧l2<18446744073709551616∧h2<18446744073709551616:=by omega
 clear eh1 el1 eh2 el2
 obtain⟨cu,cs,ecu,ecs,hcc⟩:=kN c hc1 hc2
 have s1:=dE l1 l2
 obtain⟨q1,q2,q3⟩:=cZ l1 l2 0 p1.2.1 p2.2.1 (by omega)
 rw [Nat.sub_zero] at q1 q3
 generalize (l1+18446744073709551616 - l2) % 18446744073709551616=l3 at *
 generalize bor l1 l2 0=br at *
 have s2:=dk h1 h2 br q2
 obtain⟨r1,r2,r3⟩:=cZ h1 h2 br p1.2.2 p2.2.2 q2
 generalize (h1+18446744073709551616 - h2 - br) % 18446744073709551616=h3 at *
 generalize bor h1 h2 br=b2 at *
 have a1:=bG l3 cu
 have t1:(l3+cu) % 18446744073709551616+(l3+cu) / 18446744073709551616*18446744073709551616=l3+cu∧(l3+cu) % 18446744073709551616<18446744073709551616∧(l3+cu) / 18446744073709551616≤1:=by omega
 generalize (l3+cu) % 18446744073709551616=l4 at *
 generalize (l3+cu) / 18446744073709551616=m at *
 have a2:=dq h3 cs m t1.2.2
 have t2:(h3+cs+m) % 18446744073709551616+(h3+cs+m) / 18446744073709551616*18446744073709551616=h3+cs+m∧(h3+cs+m) % 18446744073709551616<18446744073709551616:=by omega
 generalize (h3+cs+m) % 18446744073709551616=h4 at *
 generalize (h3+cs+m) / 18446744073709551616=b3 at *
 have HF:=aa (kV P Q l1 h1 l2 h2 l3 br b2 h3 cu cs l4 m h4 b3 c hPl hQl hc1 hc2 p1.1 p2.1 p1.2.1 p2.2.1 (by omega) (by omega) t1.1 t2.1 t1.2.1 t2.2 hcc)
 have HL:=aa t1.2.1
 clear p1 p2 hcc q1 q2 q3 r1 r2 r3 t1 t2 hPl hQl
 go_enter Tryz.func164,Tryz.ntmps164
 go_wp2_with fail
 refine hM1.mono ?_
 rintro e w2 ⟨rfl,rfl⟩
 go_wp2_with fail
 refine hM2.mono ?_
 rintro e w2 ⟨rfl,rfl⟩
 clear hM1 hM2
 go_wp2
 go_ret2
 exact⟨l4,_,rfl,HL.out,HF.out.1,HF.out.2.1,HF.out.2.2,rfl⟩

def oF (p q c r:Nat)(w:World)(e:Ending)(w':World):Prop:=
 ∃(l t:Nat),e=.returned (.tuple #[.int .u64 (l:Int),.int .u64 (t:Int)])∧l<18446744073709551616∧l+18446744073709551616*t=p+q+c∧t<r∧w'=w

theorem gM (a v b u c:Nat)(w:World)(ha:a<18446744073709551616)(hb:b<18446744073709551616)(hab:a+b≤18446744073709551616)(hab0:0<a+b)(hv:v<18446744073709551616)(hu:u<18446744073709551616)(hc:c<a+b) :
  Calls Tryz.prog 247 #[.int .u64 a,.int .u64 v,.int .u64 b,.int .u64 u,.int .u64 c] w (oF (a*v) (b*u) c (a+b) w):=by
 have hM1:=Tryz.bits_Mul64 a v (by omega) hv w
 have hM2:=Tryz.bits_Mul64 b u (by omega) hu w
 have hP0:a*v≤a*18446744073709551615:=Nat.mul_le_mul_left _ (by omega)
 have hQ0:b*u≤b*18446744073709551615:=Nat.mul_le_mul_left _ (by omega)
 obtain⟨P,hP⟩:∃P,a*v=P:=⟨_,rfl⟩
 obtain⟨Q,hQ⟩:∃Q,b*u=Q:=⟨_,rfl⟩
 rw [hP] at hM1 hP0 ⊢
 rw [hQ] at hM2 hQ0 ⊢
 clear hP hQ
 obtain⟨h1,eh1⟩:∃h1,P / 18446744073709551616=h1:=⟨_,rfl⟩
 obtain⟨l1,el1⟩:∃l1,P % 18446744073709551616=l1:=⟨_,rfl⟩
 obtain⟨h2,eh2⟩:∃h2,Q / 18446744073709551616=h2:=⟨_,rfl⟩
 obtain⟨l2,el2⟩:∃l2,Q % 18446744073709551616=l2:=⟨_,rfl⟩
 rw [eh1,el1] at hM1
 rw [eh2,el2] at hM2
 have p1:P=h1*18446744073709551616+l1∧l1<18446744073709551616∧h1<18446744073709551616:=by omega
 have p2:Q=h2*18446744073709551616+l2∧l2<18446744073709551616∧h2<18446744073709551616:=by omega
 clear eh1 el1 eh2 el2
 have a1:=bG l1 l2
 have t1:(l1+l2) % 18446744073709551616+(l1+l2) / 18446744073709551616*18446744073709551616=l1+l2∧(l1+l2) % 18446744073709551616<18446744073709551616∧(l1+l2) / 18446744073709551616≤1:=by omega
 generalize (l1+l2) % 18446744073709551616=l3 at *
 generalize (l1+l2) / 18446744073709551616=o1 at *
 have a2:=dq h1 h2 o1 t1.2.2
 have hh:h1+h2+o1<18446744073709551616:=by omega
 have t2:(h1+h2+o1) % 18446744073709551616=h1+h2+o1:=Nat.mod_eq_of_lt hh
 rw [t2] at a2
 generalize (h1+h2+o1) / 18446744073709551616=z2 at *
 have a3:=bG l3 c
 have t3:(l3+c) % 18446744073709551616+(l3+c) / 18446744073709551616*18446744073709551616=l3+c∧(l3+c) % 18446744073709551616<18446744073709551616∧(l3+c) / 18446744073709551616≤1:=by omega
 generalize (l3+c) % 18446744073709551616=l4 at *
 generalize (l3+c) / 18446744073709551616=o2 at *
 obtain⟨hs,ehs⟩:∃hs,h1+h2+o1=hs:=⟨_,rfl⟩
 rw [ehs] at a2 hh
 obtain⟨tt,ett⟩:∃tt,hs+o2=tt:=⟨_,rfl⟩
 have es:(hs:Int)+(o2:Int)=(tt:Int):=by omega
 have ews:IntKind.u64.wrap (tt:Int)=(tt:Int):=by rw [IntKind.wrap_u64];omega
 have HF:=aa (show l4+18446744073709551616*tt=P+Q+c∧tt<a+b∧l4<18446744073709551616 from ⟨by omega,by omega,t3.2.1⟩)
 clear p1 p2 t1 t2 t3 hP0 hQ0 ehs ett hh
 go_enter Tryz.func247,Tryz.ntmps247
 go_wp2_with fail
 refine hM1.mono ?_
 rintro e w2 ⟨rfl,rfl⟩
 go_wp2_with fail
 refine hM2.mono ?_
 rintro e w2 ⟨rfl,rfl⟩
 clear hM1 hM2
 go_wp2
 go_ret2
 exact⟨l4,tt,rfl,HF.out.2.2,HF.out.1,HF.out.2.1,rfl⟩

theorem oR (v u:Nat)(w:World)(hv:v<18446744073709551616)(hu:u<18446744073709551616)(hu0:0<u) :
  Calls Tryz.prog 165 #[.int .u64 v,.int .u64 u] w fun e w'=>e=.returned (.bool (decide (v+u≤18446744073709551616)))∧w'=w:=by
 have a1:=bG v (u - 1)
 have e1:((u - 1:Nat):Int)=(u:Int) - 1:=by omega
 have t1:((v+(u - 1)) / 18446744073709551616=0)=(v+u≤18446744073709551616):=propext (by omega)
 obtain⟨o,ho⟩:∃o,(v+(u - 1)) / 18446744073709551616=o:=⟨_,rfl⟩
 rw [ho] at a1 t1
 rw [e1] at a1
 have hd:((o:Int) == 0)=decide (v+u≤18446744073709551616):=by
  rw [←decide_eq_decide.2 (Iff.of_eq t1)]
  by_cases h:o=0
  ·subst h;rfl
  ·rw [decide_eq_false h];simpa using h
 have ew:IntKind.u64.wrap ((u:Int) - 1)=(u:Int) - 1:=by rw [IntKind.wrap_u64];omega
 have HD:=aa hd
 clear t1 ho hd e1
 generalize (v+(u - 1)) % 18446744073709551616=l at *
 go_enter Tryz.func165,Tryz.ntmps165
 go_wp2
 go_ret
 exact⟨by rw [←HD.out];rfl,rfl⟩

theorem gL (ao:Option Addr)(cap:Nat)(X:List Nat)(n:Nat)(w:World)(hl:aD w ao X) :
  Calls Tryz.prog 160 #[.slice ao X.length cap,.int .i64 (n:Int)] w fun e w'=>e=.returned (.int .u64 ((X.getD n 0:Nat):Int))∧w'=w:=by
 by_cases hn:n<X.length
 ·rcases hl with rfl|⟨b,off,rfl,hc⟩
  ·simp at hn
  ·have hci:=hc n hn
   clear hc
   have i1:(n:Int)<(X.length:Int):=by omega
   generalize X.getD n 0=z at hci ⊢
   go_enter Tryz.func160,Tryz.ntmps160
   go_wp2
   go_ret
   exact⟨rfl,rfl⟩
 ·have e2:X.getD n 0=0:=by simp [List.getD,Nat.le_of_not_lt hn]
  rw [e2]
  have i1:¬(n:Int)<(X.length:Int):=by omega
  clear hl e2
  go_enter Tryz.func160,Tryz.ntmps160
  go_wp2
  go_ret
  exact⟨rfl,rfl⟩

theorem jG (ao:Option Addr)(cap:Nat)(X:List Nat)(n s i j gn gs:Nat)(w:World)(hl:aD w ao X)(hL:Limbs X)(hi:n=i+1)(hj:i=j+1)(hn:n≤1125899906842624)(hs:s<64)
  (hcn:w.cell? ⟨gn,0,none⟩=some (.int .i64 (n:Int))) (hcs:w.cell? ⟨gs,0,none⟩=some (.int .i64 (s:Int))) (htop:X.getD i 0*2 ^ s<18446744073709551616) (_:X.getD i 0*2 ^ s+X.getD j 0 / 2 ^ (64 - s)<18446744073709551616) :
  Calls Tryz.prog 159 #[.slice ao X.length cap,.pointer (some ⟨gn,0,none⟩),.pointer (some ⟨gs,0,none⟩)] w fun e w'=>e=.returned (.int .u64 ((X.getD i 0*2 ^ s+X.getD j 0 / 2 ^ (64 - s):Nat):Int))∧aA w w':=by
 have D1:=fun (w':World) (h:aD w' ao X)=>gL ao cap X i w' h
 have D2:=fun (w':World) (h:aD w' ao X)=>gL ao cap X j w' h
 have e1:(n:Int) - 1=(i:Int):=by omega
 have e2:(n:Int) - 2=(j:Int):=by omega
 have wi:IntKind.i64.wrap (i:Int)=(i:Int):=by rw [IntKind.wrap_i64];omega
 have wj:IntKind.i64.wrap (j:Int)=(j:Int):=by rw [IntKind.wrap_i64];omega
 have hlo:=limb_lt hL j
 have hhi:=limb_lt hL i
 generalize X.getD i 0=hi' at *
 generalize X.getD j 0=lo at *
 have hl1:=shr_lt lo s (by omega) hlo
 have r4:=d5 hi' s (hi'*2 ^ s) (Nat.mod_eq_of_lt htop)
 have r7:=jk hi' s (lo / 2 ^ (64 - s)) (hi'*2 ^ s+lo / 2 ^ (64 - s)) (by omega) hl1 htop rfl
 have r6:=walk_shr lo (64 - s)
 have r5:(64:Int) - (s:Int)=((64 - s:Nat):Int):=by omega
 have ht:64 - s≤64:=by omega
 generalize hU:hi'*2 ^ s+lo / 2 ^ (64 - s)=U at *
 generalize lo / 2 ^ (64 - s)=l1 at *
 generalize 64 - s=t at *
 have wt:IntKind.i64.wrap (t:Int)=(t:Int):=by rw [IntKind.wrap_i64];omega
 generalize hi'*2 ^ s=h1 at *
 have HLL:Hid (∀w',aA w w'→aD w' ao X):=fun w' h=>hl.below (h.below _)
 have Q1:∀k,Calls Tryz.prog 160 #[.slice ao X.length cap,.int .i64 (i:Int)] (w.drewN k) fun e w'=>e=.returned (.int .u64 (hi':Int))∧w'=w.drewN k:=fun k=>D1 _ (HLL.out _ ((aA.refl _).drewN k))
 have Q2:∀k,Calls Tryz.prog 160 #[.slice ao X.length cap,.int .i64 (j:Int)] (w.drewN k) fun e w'=>e=.returned (.int .u64 (lo:Int))∧w'=w.drewN k:=fun k=>D2 _ (HLL.out _ ((aA.refl _).drewN k))
 clear D1 D2 hl hi hj hU hL
 go_enter Tryz.func159,Tryz.ntmps159
 go_wp2
 go_quiet (first | (go_at_call_of 160 i;exact (Q1 _).mono (fun _ _ h=>⟨h.1,_,h.2⟩)) | (go_at_call 160;exact (Q2 _).mono (fun _ _ h=>⟨h.1,_,h.2⟩)))
 go_wp2
 go_ret
 exact⟨rfl,(aA.refl _).drewN _⟩

def lO (x y:Nat)(w:World)(e:Ending)(w':World):Prop:=
 (∃xh yh xl yl P:Nat,e=.returned (.tuple #[.int .u64 (xh:Int),.int .u64 (yh:Int)])∧x=xh*P+xl∧y=yh*P+yl∧xl<P∧yl<P∧xh<18446744073709551616∧yh≤xh∧0<xh)∧Below w.heap.size w w'

theorem mB (bx ox capx:Nat)(ay:Option Addr)(capy:Nat)(X Y:List Nat)(w:World)(hlx:aD w (some ⟨bx,ox,none⟩) X)(hly:aD w ay Y)(hLX:Limbs X)(hLY:Limbs Y)(hX:X.length≤1125899906842624)(htx:tr X=X)(h2:2≤X.length)(hle:val Y≤val X)(hYl:Y.length≤X.length) :
  Calls Tryz.prog 118 #[.slice (some ⟨bx,ox,none⟩) X.length capx,.slice ay Y.length capy] w (lO (val X) (val Y) w):=by
 obtain⟨n,hn⟩:∃n,X.length=n:=⟨_,rfl⟩
 obtain⟨i,hi⟩:∃i,n=i+1:=⟨n - 1,by omega⟩
 obtain⟨j,hj⟩:∃j,i=j+1:=⟨i - 1,by omega⟩
 have htop:=tr_last' X i htx (by omega)
 have hyt:=limb_lt hLX i
 obtain⟨n1,n2,n3,n4⟩:=norm_y (X.getD i 0) (by omega) hyt
 obtain⟨s,hs⟩:∃s,s=64 - Lib.bitLen (X.getD i 0):=⟨_,rfl⟩
 have hsI:(64:Int) - (Lib.bitLen (X.getD i 0):Int)=(s:Int):=by omega
 rw [←hs] at n3 n4
 have hs63:s<64:=by omega
 have HLZ:=fun W=>Tryz.bits_LeadingZeros64 ((X.getD i 0:Nat):Int) W (by omega) (by omega)
 rw [Int.toNat_natCast,hsI] at HLZ
 obtain⟨xl,ex1,ex2⟩:=js X j s hLX (by omega) hs63
 obtain⟨yl,ey1,ey2⟩:=js Y j s hLY (by omega) hs63
 have hylt:Y.getD i 0≤X.getD i 0:=by
  have k1:val X<(X.getD i 0+1)*18446744073709551616 ^ i:=by
   have e:val X=val (X.take i)+18446744073709551616 ^ i*X.getD i 0:=by rw [←val_take_next,List.take_of_length_le (by omega)]
   have h3:val (X.take i)<18446744073709551616 ^ i:=Nat.lt_of_lt_of_le (val_lt (fun z hz=>hLX z (List.mem_of_mem_take hz))) (Nat.pow_le_pow_right (by omega) (by simp;omega))
   rw [e,Nat.add_mul,Nat.one_mul,Nat.mul_comm (X.getD i 0)];omega
  have k2:18446744073709551616 ^ i*Y.getD i 0≤val Y:=by
   have e:val Y=val (Y.take i)+18446744073709551616 ^ i*Y.getD i 0:=by rw [←val_take_next,List.take_of_length_le (by omega)]
   omega
  refine Nat.le_of_not_lt fun hlt=>?_
  have k3:(X.getD i 0+1)*18446744073709551616 ^ i≤Y.getD i 0*18446744073709551616 ^ i:=Nat.mul_le_mul_right _ hlt
  rw [Nat.mul_comm (Y.getD i 0)] at k3
  omega
 have hyn:Y.getD i 0*2 ^ s<18446744073709551616:=Nat.lt_of_le_of_lt (Nat.mul_le_mul_right _ hylt) n4
 have fx:=iH hs63 n4 (X.getD j 0) (limb_lt hLX j)
 have fy:=iH hs63 hyn (Y.getD j 0) (limb_lt hLY j)
 rw [←hj] at ex1 ey1
 have hyx:Y.getD i 0*2 ^ s+Y.getD j 0 / 2 ^ (64 - s)≤X.getD i 0*2 ^ s+X.getD j 0 / 2 ^ (64 - s):=by
  generalize Y.getD i 0*2 ^ s+Y.getD j 0 / 2 ^ (64 - s)=yh at *
  generalize X.getD i 0*2 ^ s+X.getD j 0 / 2 ^ (64 - s)=xh at *
  generalize 18446744073709551616 ^ j*2 ^ (64 - s)=Q at *
  refine Nat.le_of_not_lt fun hlt=>?_
  have:=Nat.mul_le_mul_right Q hlt
  rw [Nat.succ_mul] at this
  omega
 have hx0:0<X.getD i 0*2 ^ s+X.getD j 0 / 2 ^ (64 - s):=Nat.lt_of_lt_of_le (Nat.mul_pos (by omega) (Nat.two_pow_pos s)) (Nat.le_add_right _ _)
 have HF:=aa (And.intro ex1 (And.intro ey1 (And.intro ex2 (And.intro ey2 (And.intro fx (And.intro hyx hx0))))))
 clear hx0
 have C1:=fun gn gs W hl=>jG (some ⟨bx,ox,none⟩) capx X n s i j gn gs W hl hLX hi hj (by omega) hs63
 have C2:=fun gn gs W hl=>jG ay capy Y n s i j gn gs W hl hLY hi hj (by omega) hs63
 have HC1:=aa C1
 have HC2:=aa C2
 have hcell:w.cell? ⟨bx,ox+i,none⟩=some (.int .u64 ((X.getD i 0:Nat):Int)):=by
  rcases hlx with h0|⟨b,off,e,hc⟩
  ·rw [h0] at hn;simp at hn;omega
  ·cases e;exact hc i (by omega)
 obtain⟨w0,hw0⟩:∃w0,w0=w.alloc (.cells #[.int .i64 (n:Int)] 3):=⟨_,rfl⟩
 obtain⟨w2,hw2⟩:∃w2,w2=w0.alloc (.cells #[.int .i64 (s:Int)] 3):=⟨_,rfl⟩
 have hs0:w0.heap.size=w.heap.size+1:=by rw [hw0];exact World.size_alloc _ _
 have hb0:Below w.heap.size w w0:=by rw [hw0];exact (Below.refl _ _).alloc (Nat.le_refl _) _
 have hb2:Below w.heap.size w w2:=by rw [hw2];exact hb0.alloc hb0.size _
 have h0:w0.heap[w.heap.size]?=some (.cells #[.int .i64 (n:Int)] 3):=by rw [hw0];exact heap_alloc_new ..
 have q1:w2.heap[w.heap.size+1]?=some (.cells #[.int .i64 (s:Int)] 3):=by
  rw [hw2]
  have h:=heap_alloc_new w0 (.cells #[.int .i64 (s:Int)] 3)
  rw [hs0] at h
  exact h
 have q0:w2.heap[w.heap.size]?=some (.cells #[.int .i64 (n:Int)] 3):=by
  have hb:Below w0.heap.size w0 w2:=by rw [hw2];exact (Below.refl _ _).alloc (Nat.le_refl _) _
  rw [hb.block w.heap.size (by omega)];exact h0
 have M1:=HC1.out w.heap.size (w.heap.size+1) w2 (hlx.below hb2) (by simp [World.cell?,q0]) (by simp [World.cell?,q1]) n4 fx
 have M2:=aa (fun (w3:World) (h:aA w2 w3)=>HC2.out w.heap.size (w.heap.size+1) w3 ((hly.below hb2).below (h.below _)) (by simp [World.cell?,h.heap,q0]) (by simp [World.cell?,h.heap,q1]) hyn fy)
 have hc0:=mg hb0 hcell
 have hn0:w0.cell? ⟨w.heap.size,0,none⟩=some (.int .i64 (n:Int)):=by simp [World.cell?,h0]
 rw [hw0] at hc0 hn0
 have HW:=aa (show (w.alloc (.cells #[.int .i64 (n:Int)] 3)).alloc (.cells #[.int .i64 (s:Int)] 3)=w2 by rw [hw2,hw0])
 have HB2:=aa hb2
 have e1:(n:Int) - 1=(i:Int):=by omega
 have k0:(0:Int)≤(i:Int):=by omega
 have k1:(i:Int)<(n:Int):=by omega
 have wi:IntKind.i64.wrap (i:Int)=(i:Int):=by rw [IntKind.wrap_i64];omega
 have hnl:n≤1125899906842624:=by omega
 rw [hn]
 rw [hn] at M1
 generalize X.getD i 0=y at *
 generalize y*2 ^ s+X.getD j 0 / 2 ^ (64 - s)=xh at *
 generalize Y.getD i 0*2 ^ s+Y.getD j 0 / 2 ^ (64 - s)=yh at *
 clear C1 C2 HC1 HC2 ex1 ex2 ey1 ey2 fx fy hyx hylt htop n1 n2 n3 n4 hs hsI hi hj hlx hly hyn hle hn hw0 hw2 hs0 hb0 hb2 h0 q0 q1 hcell
 go_enter Tryz.func118,Tryz.ntmps118
 go_wp2_with fail
 refine (HLZ _).mono ?_
 rintro e wn ⟨rfl,hw⟩;rw [hw];clear hw wn HLZ
 go_wp2_with fail
 rw [HW.out]
 refine M1.mono ?_
 rintro e w3 ⟨rfl,hs3⟩
 have M3:=M2.out w3 hs3
 have HS3:=aa hs3
 clear M1 M2 hs3
 go_wp2_with fail
 refine M3.mono ?_
 rintro e w4 ⟨rfl,hs4⟩
 have HB4:=aa ((HB2.out.trans (HS3.out.below _)).trans (hs4.below _))
 clear M3 hs4
 go_wp2
 go_ret2
 obtain⟨f1,f2,f3,f4,f5,f6,f7⟩:=HF.out
 exact⟨⟨xh,yh,xl,yl,_,rfl,f1,f2,f3,f4,f5,f6,f7⟩,HB4.out⟩

def stw (a b c d:Nat)(aq:Option Addr)(lq kq:Nat):Value:=.agg #[.int .u64 a,.int .u64 b,.int .u64 c,.int .u64 d,.slice aq lq kq]

theorem pP (a b c d:Nat)(aq:Option Addr)(lq kq:Nat)(w:World):Calls Tryz.prog 120 #[stw a b c d aq lq kq] w fun e w'=>e=.returned (.bool (decide (lq=0)))∧Below w.heap.size w w':=by
 unfold stw
 have hb:Below w.heap.size w (w.alloc (.cells #[.int .u64 a,.int .u64 b,.int .u64 c,.int .u64 d,.slice aq lq kq] 139)):=(Below.refl _ _).alloc (Nat.le_refl _) _
 obtain⟨_,_,_,_,hc⟩:=aH (show (w.alloc (.cells #[.int .u64 a,.int .u64 b,.int .u64 c,.int .u64 d,.slice aq lq kq] 139)).heap[w.heap.size]?=_ from heap_alloc_new ..)
 have hdec:((lq:Int) == 0)=decide (lq=0):=by by_cases h:lq=0 <;> simp [h]
 have HB:=aa hb
 clear hb
 go_enter Tryz.func120,Tryz.ntmps120
 go_wp2
 go_ret
 exact⟨rfl,HB.out⟩

theorem gE (a b c d:Nat)(aq:Option Addr)(lq kq:Nat)(o:Bool)(w:World)(ho:(0<lq % 2)=(o=true)):Calls Tryz.prog 163 #[stw a b c d aq lq kq] w fun e w'=>e=.returned (.bool o)∧Below w.heap.size w w':=by
 unfold stw
 have hb:Below w.heap.size w (w.alloc (.cells #[.int .u64 a,.int .u64 b,.int .u64 c,.int .u64 d,.slice aq lq kq] 139)):=(Below.refl _ _).alloc (Nat.le_refl _) _
 obtain⟨_,_,_,_,hc⟩:=aH (show (w.alloc (.cells #[.int .u64 a,.int .u64 b,.int .u64 c,.int .u64 d,.slice aq lq kq] 139)).heap[w.heap.size]?=_ from heap_alloc_new ..)
 have et:Int.tmod (lq:Int) 2=((lq % 2:Nat):Int):=by rw [Int.tmod_eq_emod_of_nonneg (by omega)];omega
 have hdec:decide (0<lq % 2)=o:=by
  cases o
  ·exact decide_eq_false fun h=>by rw [ho] at h;cases h
  ·exact decide_eq_true (by rw [ho])
 obtain⟨m,hm⟩:∃m,lq % 2=m:=⟨_,rfl⟩
 rw [hm] at et hdec
 have HB:=aa hb
 have HD:=aa hdec
 clear hb hdec ho hm
 go_enter Tryz.func163,Tryz.ntmps163
 go_wp2
 go_ret
 exact⟨by rw [←HD.out];rfl,HB.out⟩

theorem kH (b off cap:Nat)(zs:List Nat)(w:World)(hcap:zs.length≤cap)(hmax:cap≤9223372036854775807)
  (hc:∀k,k<zs.length→w.cell? ⟨b,off+k,none⟩=some (.int .u64 ((zs.getD k 0:Nat):Int))) :
  Calls Tryz.prog 122 #[.slice (some ⟨b,off,none⟩) zs.length cap] w fun e w'=>e=.returned (.slice (some ⟨b,off,none⟩) (tr zs).length cap)∧w'=w:=by
 go_enter Tryz.func122,Tryz.ntmps122
 go_wp2
 go_loop [3] (fun n=>∃k:Nat,k≤zs.length∧n=.int .i64 k∧tr (zs.take k)=tr zs) (fun n=>(intOf n).toNat)
 case atStart=>exact⟨zs.length,Nat.le_refl _,rfl,by rw [List.take_length]⟩
 case round=>
  obtain⟨k,hk,rfl,ht⟩:=hrel
  have HT:Hid (tr (zs.take k)=tr zs):=ht
  clear ht
  by_cases h0:k=0
  ·subst h0
   go_wp2
   go_ret
   have e:=HT.out
   simp only [List.take_zero,tr] at e
   rw [←e]
   exact⟨rfl,rfl⟩
  ·obtain⟨j,rfl⟩:∃j,k=j+1:=⟨k - 1,by omega⟩
   have hcj:=hc j (by omega)
   clear hc
   by_cases hz:zs.getD j 0=0
   ·have HZ:Hid (tr (zs.take j)=tr zs):=by rw [←tr_step zs j (by omega) hz];exact HT.out
    rw [hz] at hcj
    clear hz HT
    go_wp2
    go_round
    case rel=>exact⟨j,by omega,by go_num,HZ.out⟩
    case measure=>simp [intOf]
   ·have HZ:Hid (tr zs=zs.take (j+1)):=by rw [←HT.out];exact tr_stop zs j (by omega) hz
    clear HT
    generalize zs.getD j 0=z at hcj hz
    have hne:((z:Int) == 0)=false:=by rw [beq_eq_false_iff_ne];omega
    clear hz
    go_wp2
    go_ret
    rw [HZ.out]
    have e:(zs.take (j+1)).length=j+1:=by simp;omega
    rw [e]
    exact⟨rfl,rfl⟩

theorem lp (ao:Option Addr)(cap:Nat)(w:World)(_hmax:cap≤9223372036854775807) :
  Calls Tryz.prog 122 #[.slice ao 0 cap] w fun e w'=>e=.returned (.slice ao 0 cap)∧w'=w:=by
 go_enter Tryz.func122,Tryz.ntmps122
 go_wp2
 refine wp_loop_rounds 1 ?_
 rw [rounds_succ]
 go_wp2
 go_ret
 exact⟨rfl,rfl⟩

theorem cL (ao:Option Addr)(cap:Nat)(zs:List Nat)(w:World)(hcap:zs.length≤cap)(hmax:cap≤9223372036854775807)(hl:aD w ao zs) :
  Calls Tryz.prog 122 #[.slice ao zs.length cap] w fun e w'=>e=.returned (.slice ao (tr zs).length cap)∧w'=w:=by
 rcases hl with rfl|⟨b,off,rfl,hc⟩
 ·exact lp ao cap w hmax
 ·exact kH b off cap zs w hcap hmax hc

theorem fk (bz zo n cap:Nat)(Z:List Nat)(va:Value)(X:List Nat)(w:World)(hB:Blk w bz Z)(hLZ:Limbs Z)(hA:Arg w va X)(ho:0<X.length→Off va bz zo (zo+n))
  (hzo:zo+n≤Z.length) (hc1:n≤cap) (hc2:cap≤9223372036854775807) (hXn:X.length≤n) (hfit:sv Z zo n+val X<18446744073709551616 ^ n) :
  Calls Tryz.prog 128 #[.slice (some ⟨bz,zo,none⟩) n cap,va] w (aG bz zo n Z w (sv Z zo n+val X)):=by
 obtain⟨a1,c1,rfl,hcc1,hcm1,hl1⟩:=hA.form
 have hX:=hA.few
 have M1:=hA.limbs
 have hao:0<X.length→∀b off,a1=some ⟨b,off,none⟩→b≠bz∨off+X.length≤zo∨zo+n≤off:=fun h b off e=>by
  subst e
  exact ho h b off _ _ rfl
 have L1:=hl1
 have hln:=hXn
 clear ho hA hl1 hXn
 generalize X=P at *
 have HFIT:=aa hfit
 have HB0:=aa hB
 have HLZ:=aa hLZ
 clear hfit
 go_enter Tryz.func128,Tryz.ntmps128
 go_wp2
 go_loopw [4,10] (fun c i wr=>∃(k cy:Nat) (Z':List Nat),k≤P.length∧i=.int .i64 k∧c=.int .u64 cy∧cy≤1∧Out Z Z' zo (zo+k)∧Limbs Z'∧Blk wr bz Z'∧Fr bz w wr ∧
   sv Z' zo k+cy*18446744073709551616 ^ k=sv Z zo k+val (P.take k)) (fun _ i _=>P.length - (intOf i).toNat)
 case atStart=>exact⟨0,0,Z,Nat.zero_le _,rfl,rfl,by omega,Out.refl _ _ _,HLZ.out,HB0.out,Fr.refl _ _,by simp [aR,val]⟩
 case round=>
  obtain⟨k,cy,Z',hk,rfl,rfl,hcy,hout,hlz,hblk,hfr0,hval⟩:=hrel
  have HV:=aa hval
  have HB:=aa hblk
  have HF:=aa hfr0
  have HO:=aa hout
  have hl:=hout.len
  clear hval
  by_cases hkl:k<P.length
  ·rcases L1.fr (hao (by omega)) hfr0 hB hblk (hout.wider (Nat.le_refl _) (by omega)) with h0|⟨b,off,rfl,hcell⟩
   ·rw [h0] at hkl;simp at hkl
   ·have hck:=hcell k hkl
    have hfr:=hblk.free (zo+k)
    have hco:=hblk.cell (zo+k) (by omega)
    have z1:=limb_lt M1 k
    have z2:=limb_lt hlz (zo+k)
    have hsame:=hout.same (zo+k) (by omega)
    have ha:=dq (Z'.getD (zo+k) 0) (P.getD k 0) cy hcy
    obtain⟨q1,q2,q3⟩:=dB (Z'.getD (zo+k) 0) (P.getD k 0) cy z2 z1 hcy
    have HS:=aa (df Z Z' zo k cy _ _ (P.getD k 0) _ (by omega) hl HV.out (by rw [←hsame];exact q1))
    rw [←val_take_next P k] at HS
    generalize Z'.getD (zo+k) 0=z at *
    generalize P.getD k 0=x at *
    clear hsame q1
    generalize (z+x+cy) % 18446744073709551616=s at *
    generalize (z+x+cy) / 18446744073709551616=c2 at *
    clear hcell hblk hfr0 hout HV M1 L1 hB hLZ
    go_wp2
    go_roundw
    case rel=>exact⟨k+1,c2,Z'.set (zo+k) s,by omega,by go_num,rfl,q2,(HO.out.wider (Nat.le_refl _) (by omega)).set _ _ (by omega) (by omega),limbs_set hlz _ _ q3,HB.out.set _ s,HF.out.setCell _ _,HS.out⟩
    case measure=>simp [intOf];omega
  ·have ek:k=P.length:=by omega
   subst ek
   rw [List.take_length] at HV
   clear hblk hfr0 hout L1 hB M1 hLZ hl
   go_wp2
   go_loopw [4,7] (fun c i wr2=>∃(k cy:Nat) (Z2:List Nat),k≤n∧i=.int .i64 k∧c=.int .u64 cy∧cy≤1∧Out Z Z2 zo (zo+k)∧Limbs Z2∧Blk wr2 bz Z2∧Fr bz w wr2 ∧
     sv Z2 zo k+cy*18446744073709551616 ^ k=sv Z zo k+val P) (fun _ i _=>n - (intOf i).toNat)
   case atStart=>exact⟨P.length,cy,Z',hln,rfl,rfl,hcy,HO.out,hlz,HB.out,HF.out,HV.out⟩
   case round=>
    obtain⟨k,cy2,Z2,hk2,rfl,rfl,hcy2,hout2,hlz2,hblk2,hfr2,hval2⟩:=hrel
    clear HV HB HF HO
    have HV:=aa hval2
    have HB:=aa hblk2
    have HF:=aa hfr2
    have HO:=aa hout2
    have hl:=hout2.len
    clear hval2
    by_cases hc0:cy2=0
    ·subst hc0
     have HR:=aa (eZ Z Z2 zo k n _ hk2 hzo hout2 (by have h:=HV.out;rw [Nat.zero_mul,Nat.add_zero] at h;exact h))
     clear hblk2 hfr2 hout2 HV
     go_wp2
     go_end0
     exact⟨rfl,Z2,HO.out.wider (Nat.le_refl _) (by omega),hlz2,HB.out,HF.out,HR.out⟩
    ·have hpos:(0:Int)<(cy2:Int):=by omega
     have hkn:k<n:=by
      rcases Nat.lt_or_ge k n with h|h
      ·exact h
      ·have ek:k=n:=by omega
       subst ek
       exact absurd (gh Z Z2 zo k cy2 (val P) HFIT.out HV.out) hc0
     have hfr:=hblk2.free (zo+k)
     have hco:=hblk2.cell (zo+k) (by omega)
     have z2:=limb_lt hlz2 (zo+k)
     have hsame:=hout2.same (zo+k) (by omega)
     have ha:=bG (Z2.getD (zo+k) 0) cy2
     obtain⟨q1,q2,q3⟩:=dB (Z2.getD (zo+k) 0) 0 cy2 z2 (by omega) hcy2
     have HS:=aa (df Z Z2 zo k cy2 _ _ 0 _ (by omega) hl HV.out (by rw [←hsame];exact q1))
     rw [Nat.mul_zero,Nat.add_zero] at HS
     rw [Nat.add_zero] at HS q2 q3
     generalize Z2.getD (zo+k) 0=z at *
     clear hsame q1
     generalize (z+cy2) % 18446744073709551616=s at *
     generalize (z+cy2) / 18446744073709551616=c2 at *
     clear hblk2 hfr2 hout2 HV hc0
     go_wp2
     go_roundw
     case rel=>exact⟨k+1,c2,Z2.set (zo+k) s,by omega,by go_num,rfl,q2,(HO.out.wider (Nat.le_refl _) (by omega)).set _ _ (by omega) (by omega),limbs_set hlz2 _ _ q3,HB.out.set _ s,HF.out.setCell _ _,HS.out⟩
     case measure=>simp [intOf];omega

def bE (w:World)(x:Nat)(e:Ending)(w':World):Prop:=
 (∃v rs,e=.returned v∧Ans w' w.heap.size v rs∧val rs=x∧tr rs=rs)∧Below w.heap.size w w'

theorem Arg.wtrim {w:World}{v:Value}{X:List Nat}(h:Arg w v X):∃ao cap,v=.slice ao X.length cap∧(∀w',Below w.heap.size w w'→Calls Tryz.prog 122 #[v] w' fun e w''=>e=.returned (.slice ao (tr X).length cap)∧w''=w')∧Arg w (.slice ao (tr X).length cap) (tr X):=by
 obtain⟨ao,cap,rfl,h1,h2,h3⟩:=h.form
 exact⟨ao,cap,rfl,fun w' hb=>cL ao cap X w' h1 h2 (h3.below hb),h.trim⟩

theorem Arg.wlies {w:World}{a:Option Addr}{n c:Nat}{X:List Nat}(h:Arg w (.slice a n c) X):aD w a X:=by
 obtain⟨_,_,e,_,_,hl⟩:=h.form
 cases e
 exact hl

theorem bE.trimmed {w w':World}{g:Nat}{Z:List Nat}{x:Nat}(hg:w.heap.size≤g)(hb:Blk w' g Z)(hl:Limbs Z)(hz:Z.length≤1125899906842624)(hx:val Z=x)(hbel:Below w.heap.size w w') :
  Calls Tryz.prog 122 #[.slice (some ⟨g,0,none⟩) Z.length Z.length] w' fun e w''=>e=.returned (.slice (some ⟨g,0,none⟩) (tr Z).length Z.length)∧w''=w'∧bE w x e w'':=by
 have A1:=Ans.of_blk (base:=w.heap.size) (zs:=Z) hg hb List.take_length.symm (Nat.le_refl _) (by omega) hl
 have hA:=A1.arg hz
 obtain⟨ao,cap,e0,hT,_⟩:=hA.wtrim
 cases e0
 refine (hT w' (Below.refl _ _)).mono ?_
 rintro e w2 ⟨rfl,rfl⟩
 exact⟨rfl,rfl,⟨_,tr Z,rfl,A1.trim,by rw [val_tr];exact hx,tr_tr Z⟩,hbel⟩

theorem fW (va vb:Value)(X Y:List Nat)(w:World)(hA:Arg w va X)(hB:Arg w vb Y)(hx:X.length≤17592186044416)(hy:Y.length≤17592186044416) :
  Calls Tryz.prog 87 #[va,vb] w (bE w (val X+val Y)):=by
 obtain⟨a1,c1,rfl,T1,A1⟩:=hA.wtrim
 obtain⟨a2,c2,rfl,T2,A2⟩:=hB.wtrim
 have f1:=A1.few
 have f2:=A2.few
 have g1:=tr_length_le X
 have g2:=tr_length_le Y
 rw [←val_tr X,←val_tr Y]
 have HT1:=T1 w (Below.refl _ _)
 have HT2:=T2 w (Below.refl _ _)
 clear T1 T2
 generalize tr X=P at *
 generalize tr Y=Q at *
 clear hA hB
 obtain⟨i0,hi,hz0,hz1,hz2⟩:=info_parts Tryz.infoU
 go_enter Tryz.func87,Tryz.ntmps87
 go_wp2_with fail
 refine HT1.mono ?_
 rintro e wn ⟨rfl,hw⟩;rw [hw];clear hw wn HT1
 go_wp2_with fail
 refine HT2.mono ?_
 rintro e wn ⟨rfl,hw⟩;rw [hw];clear hw wn HT2
 by_cases hlt:P.length<Q.length
 ·have i1:(P.length:Int)<(Q.length:Int):=by omega
  obtain⟨H',eH,hH1,hH2⟩:∃H':Nat,(Q.length:Int)+1=(H':Int)∧H'≤Q.length+1∧Q.length+1≤H':=⟨Q.length+1,by omega,by omega,by omega⟩
  go_wp2_with (at_make;refine wpList_make_full _ rfl _ _ 25 rfl w.heap.size 61 i0 (.int .u64 0) 1 Tryz.underlying25 hi hz0 hz1 .i64 .i64 _ _ H' rfl rfl (by omega) (by omega) (by rw [hz2];omega) (by unfold maxLen;omega) (Nat.le_refl _) ?_;intro w1 hown hgrow;obtain⟨w2,M2,hcp,B2,L2,F2,O2,S2⟩:=bU w.heap.size 0 H' H' (List.replicate H' 0) a2 c2 Q w1 (Blk.made hown) (limbs_replicate _) A2.limbs (bT H' 0 H') (by simp) (by omega) (A2.below ((Below.refl w.heap.size w).grown hgrow (Nat.le_refl _) (fun k hk=>by cases hk))).wlies)
  have hb1:Below w.heap.size w w1:=(Below.refl w.heap.size w).grown hgrow (Nat.le_refl _) (fun k hk=>by cases hk)
  have hb2:Below w.heap.size w w2:=hb1.trans (F2.below (Nat.le_refl _) hb1.size)
  have l2:M2.length=H':=by rw [O2.len,List.length_replicate]
  have s2:sv M2 0 H'=val Q:=S2
  have hfit:sv M2 0 H'+val P<18446744073709551616 ^ H':=by
   rw [s2]
   have h1:=val_lt A2.limbs
   have h2:=val_lt A1.limbs
   have h3:18446744073709551616 ^ P.length≤18446744073709551616 ^ Q.length:=Nat.pow_le_pow_right (by omega) (by omega)
   have h4:18446744073709551616 ^ H'=18446744073709551616 ^ Q.length*18446744073709551616:=by rw [show H'=Q.length+1 by omega,Nat.pow_succ]
   omega
  have HP:=fk w.heap.size 0 H' H' M2 _ P w2 B2 L2 (A1.below hb2) (fun h0 b off n c e=>.inl (by cases e;have:=A1.block h0;omega)) (by omega) (Nat.le_refl _) (by omega) (by omega) hfit
  clear B2 L2 F2 O2 S2 hown hgrow hb1
  refine HP.mono ?_
  rintro e w3 ⟨rfl,M3,O3,L3,B3,F3,S3⟩
  have HR:=bE.trimmed (w:=w) (x:=val Q+val P) (Nat.le_refl _) B3 L3 (by rw [O3.len];omega) (by rw [←s2,←S3,←l2,←O3.len,bH]) (hb2.trans (F3.below (Nat.le_refl _) hb2.size))
  have l3:M3.length=H':=by rw [O3.len];exact l2
  rw [l3] at HR
  clear HP O3 L3 B3 F3 S3 hb2 s2 hfit
  go_wp2_with fail
  refine HR.mono ?_
  rintro e w4 ⟨rfl,rfl,hd⟩
  have HD:=aa hd
  go_wp2
  go_returns
  rw [Nat.add_comm];exact HD.out
 ·have i1:¬(P.length:Int)<(Q.length:Int):=by omega
  obtain⟨H',eH,hH1,hH2⟩:∃H':Nat,(P.length:Int)+1=(H':Int)∧H'≤P.length+1∧P.length+1≤H':=⟨P.length+1,by omega,by omega,by omega⟩
  go_wp2_with (at_make;refine wpList_make_full _ rfl _ _ 25 rfl w.heap.size 61 i0 (.int .u64 0) 1 Tryz.underlying25 hi hz0 hz1 .i64 .i64 _ _ H' rfl rfl (by omega) (by omega) (by rw [hz2];omega) (by unfold maxLen;omega) (Nat.le_refl _) ?_;intro w1 hown hgrow;obtain⟨w2,M2,hcp,B2,L2,F2,O2,S2⟩:=bU w.heap.size 0 H' H' (List.replicate H' 0) a1 c1 P w1 (Blk.made hown) (limbs_replicate _) A1.limbs (bT H' 0 H') (by simp) (by omega) (A1.below ((Below.refl w.heap.size w).grown hgrow (Nat.le_refl _) (fun k hk=>by cases hk))).wlies)
  have hb1:Below w.heap.size w w1:=(Below.refl w.heap.size w).grown hgrow (Nat.le_refl _) (fun k hk=>by cases hk)
  have hb2:Below w.heap.size w w2:=hb1.trans (F2.below (Nat.le_refl _) hb1.size)
  have l2:M2.length=H':=by rw [O2.len,List.length_replicate]
  have s2:sv M2 0 H'=val P:=S2
  have hfit:sv M2 0 H'+val Q<18446744073709551616 ^ H':=by
   rw [s2]
   have h1:=val_lt A1.limbs
   have h2:=val_lt A2.limbs
   have h3:18446744073709551616 ^ Q.length≤18446744073709551616 ^ P.length:=Nat.pow_le_pow_right (by omega) (by omega)
   have h4:18446744073709551616 ^ H'=18446744073709551616 ^ P.length*18446744073709551616:=by rw [show H'=P.length+1 by omega,Nat.pow_succ]
   omega
  have HP:=fk w.heap.size 0 H' H' M2 _ Q w2 B2 L2 (A2.below hb2) (fun h0 b off n c e=>.inl (by cases e;have:=A2.block h0;omega)) (by omega) (Nat.le_refl _) (by omega) (by omega) hfit
  clear B2 L2 F2 O2 S2 hown hgrow hb1
  refine HP.mono ?_
  rintro e w3 ⟨rfl,M3,O3,L3,B3,F3,S3⟩
  have HR:=bE.trimmed (w:=w) (x:=val P+val Q) (Nat.le_refl _) B3 L3 (by rw [O3.len];omega) (by rw [←s2,←S3,←l2,←O3.len,bH]) (hb2.trans (F3.below (Nat.le_refl _) hb2.size))
  have l3:M3.length=H':=by rw [O3.len];exact l2
  rw [l3] at HR
  clear HP O3 L3 B3 F3 S3 hb2 s2 hfit
  go_wp2_with fail
  refine HR.mono ?_
  rintro e w4 ⟨rfl,rfl,hd⟩
  have HD:=aa hd
  go_wp2
  go_returns
  exact HD.out

theorem dp (va vb:Value)(X Y:List Nat)(w:World)(hA:Arg w va X)(hB:Arg w vb Y)(hx:X.length≤17592186044416)(hle:val Y≤val X) :
  Calls Tryz.prog 85 #[va,vb] w (bE w (val X - val Y)):=by
 obtain⟨a1,c1,rfl,T1,A1⟩:=hA.wtrim
 obtain⟨a2,c2,rfl,T2,A2⟩:=hB.wtrim
 have f1:=A1.few
 have f2:=A2.few
 have g1:=tr_length_le X
 have hln:(tr Y).length≤(tr X).length:=aQ Y _ (by have:=val_lt A1.limbs;rw [val_tr] at this;omega)
 rw [←val_tr X,←val_tr Y] at hle ⊢
 have HT1:=T1 w (Below.refl _ _)
 have HT2:=T2 w (Below.refl _ _)
 clear T1 T2
 generalize tr X=P at *
 generalize tr Y=Q at *
 clear hA hB
 obtain⟨i0,hi,hz0,hz1,hz2⟩:=info_parts Tryz.infoU
 go_enter Tryz.func85,Tryz.ntmps85
 go_wp2_with fail
 refine HT1.mono ?_
 rintro e wn ⟨rfl,hw⟩;rw [hw];clear hw wn HT1
 go_wp2_with fail
 refine HT2.mono ?_
 rintro e wn ⟨rfl,hw⟩;rw [hw];clear hw wn HT2
 obtain⟨n,hn⟩:∃n,P.length=n:=⟨_,rfl⟩
 have hPn:P.length≤n:=by omega
 rw [hn] at A1 f1 g1 hln ⊢
 go_wp2_with (at_make;refine wpList_make_full _ rfl _ _ 25 rfl w.heap.size 61 i0 (.int .u64 0) 1 Tryz.underlying25 hi hz0 hz1 .i64 .i64 _ _ n rfl rfl (by omega) (by omega) (by rw [hz2];omega) (by unfold maxLen;omega) (Nat.le_refl _) ?_;intro w1 hown hgrow;obtain⟨w2,M2,hcp,B2,L2,F2,O2,S2⟩:=bU w.heap.size 0 n n (List.replicate n 0) a1 c1 P w1 (Blk.made hown) (limbs_replicate _) A1.limbs (bT n 0 n) (by simp) (by omega) (A1.below ((Below.refl w.heap.size w).grown hgrow (Nat.le_refl _) (fun k hk=>by cases hk))).wlies;rw [hn] at hcp)
 have hb1:Below w.heap.size w w1:=(Below.refl w.heap.size w).grown hgrow (Nat.le_refl _) (fun k hk=>by cases hk)
 have hb2:Below w.heap.size w w2:=hb1.trans (F2.below (Nat.le_refl _) hb1.size)
 have l2:M2.length=n:=by rw [O2.len,List.length_replicate]
 have s2:sv M2 0 n=val P:=S2
 have hao:0<Q.length→∀b off,a2=some ⟨b,off,none⟩→b≠w.heap.size∨off+Q.length≤0∨0+n≤off:=fun h b off e=>by
  subst e
  have:=A2.block h
  exact .inl (by omega)
 have L1:=(A2.below hb2).wlies
 have M1:=A2.limbs
 have HB2:=aa hb2
 have HS2:=aa s2
 have HB0:=aa B2
 have HL0:=aa L2
 have HLE:=aa hle
 clear A1 A2 S2 O2 F2 hown hgrow hb1 hb2 s2 hle hcp hi hz0 hz1 hz2
 go_loopw [6,22] (fun c i wr=>∃(k cy:Nat) (Z':List Nat),k≤Q.length∧i=.int .i64 k∧c=.int .u64 cy∧cy≤1∧Out M2 Z' 0 (0+k)∧Limbs Z'∧Blk wr w.heap.size Z'∧Fr w.heap.size w2 wr ∧
   sv Z' 0 k+val (Q.take k)=sv M2 0 k+cy*18446744073709551616 ^ k) (fun _ i _=>Q.length - (intOf i).toNat)
 case atStart=>exact⟨0,0,M2,Nat.zero_le _,rfl,rfl,by omega,Out.refl _ _ _,HL0.out,HB0.out,Fr.refl _ _,by simp [aR,val]⟩
 case round=>
  obtain⟨k,cy,Z',hk,rfl,rfl,hcy,hout,hlz,hblk,hfr0,hval⟩:=hrel
  have HV:=aa hval
  have HB:=aa hblk
  have HF:=aa hfr0
  have HO:=aa hout
  have hl:=hout.len
  clear hval
  by_cases hkl:k<Q.length
  ·rcases L1.fr (hao (by omega)) hfr0 B2 hblk (hout.wider (Nat.le_refl _) (by omega)) with h0|⟨b,off,rfl,hcell⟩
   ·rw [h0] at hkl;simp at hkl
   ·have hck:=hcell k hkl
    have hfr:=hblk.free k
    have hco:=hblk.cell k (by omega)
    have z1:=limb_lt M1 k
    have z2:=limb_lt hlz k
    have hsame:=hout.same k (by omega)
    have ha:=dk (Z'.getD k 0) (Q.getD k 0) cy hcy
    obtain⟨q1,q2,q3⟩:=cZ (Z'.getD k 0) (Q.getD k 0) cy z2 z1 hcy
    have HS:=cS M2 Z' 0 k cy _ _ (Q.getD k 0) _ (by omega) hl HV.out (by rw [Nat.zero_add k,←hsame];exact q1)
    rw [←val_take_next Q k,Nat.zero_add k] at HS
    replace HS:=aa HS
    generalize Z'.getD k 0=z at *
    generalize Q.getD k 0=x at *
    clear hsame q1
    generalize (z+18446744073709551616 - x - cy) % 18446744073709551616=s at *
    generalize bor z x cy=c2 at *
    have i1:(k:Int)<(n:Int):=by omega
    clear hcell hblk hfr0 hout HV M1 L1 B2 L2
    go_wp2
    go_roundw
    case rel=>exact⟨k+1,c2,Z'.set k s,by omega,by go_num,rfl,q2,(HO.out.wider (Nat.le_refl _) (by omega)).set _ _ (by omega) (by omega),limbs_set hlz _ _ q3,HB.out.set _ s,HF.out.setCell _ _,HS.out⟩
    case measure=>simp [intOf];omega
  ·have ek:k=Q.length:=by omega
   subst ek
   rw [List.take_length] at HV
   clear hblk hfr0 hout L1 B2 M1 L2 hl
   go_wp2
   go_loopw [6,9] (fun c i wr2=>∃(k cy:Nat) (Z2:List Nat),k≤n∧i=.int .i64 k∧c=.int .u64 cy∧cy≤1∧Out M2 Z2 0 (0+k)∧Limbs Z2∧Blk wr2 w.heap.size Z2∧Fr w.heap.size w2 wr2 ∧
     sv Z2 0 k+val Q=sv M2 0 k+cy*18446744073709551616 ^ k) (fun _ i _=>n - (intOf i).toNat)
   case atStart=>exact⟨Q.length,cy,Z',hln,rfl,rfl,hcy,HO.out,hlz,HB.out,HF.out,HV.out⟩
   case round=>
    obtain⟨k,cy2,Z2,hk2,rfl,rfl,hcy2,hout2,hlz2,hblk2,hfr2,hval2⟩:=hrel
    clear HV HB HF HO
    have HV:=aa hval2
    have HB:=aa hblk2
    have HF:=aa hfr2
    have HO:=aa hout2
    have hl:=hout2.len
    clear hval2
    by_cases hc0:cy2=0
    ·subst hc0
     have hr:=gg M2 Z2 0 k n _ hk2 (by omega) hout2 (by have h:=HV.out;rw [Nat.zero_mul,Nat.add_zero] at h;exact h)
     have hlZ:Z2.length=n:=by rw [hl];exact l2
     have HR:=bE.trimmed (w:=w) (x:=val P - val Q) (Nat.le_refl _) hblk2 hlz2 (by omega) (by rw [←HS2.out,←hr,←hlZ,bH]) (HB2.out.trans (hfr2.below (Nat.le_refl _) HB2.out.size))
     rw [hlZ] at HR
     clear hblk2 hfr2 hout2 HV hr
     go_wp2_with fail
     refine HR.mono ?_
     rintro e w4 ⟨rfl,rfl,hd⟩
     have HD:=aa hd
     go_wp2
     go_returns
     exact HD.out
    ·have hpos:(0:Int)<(cy2:Int):=by omega
     have hkn:k<n:=by
      rcases Nat.lt_or_ge k n with h|h
      ·exact h
      ·have ek:k=n:=by omega
       subst ek
       exact absurd (fF M2 Z2 0 k cy2 (val Q) hlz2 (by rw [HS2.out];exact HLE.out) HV.out) hc0
     have hfr:=hblk2.free k
     have hco:=hblk2.cell k (by omega)
     have z2:=limb_lt hlz2 k
     have hsame:=hout2.same k (by omega)
     have ha:=fR (Z2.getD k 0) cy2 hcy2
     obtain⟨q1,q2,q3⟩:=cZ (Z2.getD k 0) 0 cy2 z2 (by omega) hcy2
     have HS:=cS M2 Z2 0 k cy2 _ _ 0 _ (by omega) hl HV.out (by rw [Nat.zero_add k,←hsame];exact q1)
     rw [Nat.mul_zero,Nat.add_zero,Nat.zero_add k] at HS
     replace HS:=aa HS
     generalize Z2.getD k 0=z at *
     clear hsame q1
     generalize (z+18446744073709551616 - 0 - cy2) % 18446744073709551616=s at *
     generalize bor z 0 cy2=c2 at *
     have i1:(k:Int)<(n:Int):=by omega
     clear hblk2 hfr2 hout2 HV hc0
     go_wp2
     go_roundw
     case rel=>exact⟨k+1,c2,Z2.set k s,by omega,by go_num,rfl,q2,(HO.out.wider (Nat.le_refl _) (by omega)).set _ _ (by omega) (by omega),limbs_set hlz2 _ _ q3,HB.out.set _ s,HF.out.setCell _ _,HS.out⟩
     case measure=>simp [intOf];omega

theorem fH:∀(N:Nat) (X Y:List Nat) (va vb:Value) (w:World),X.length+Y.length<N→X.length+Y.length≤35184372088830→Arg w va X→Arg w vb Y→Tab w →
  Calls Tryz.prog 86 #[va,vb] w (bE w (val X*val Y)):=by
 intro N
 induction N with
 | zero=>intro X Y va vb w h;omega
 | succ N ih=>
  intro X Y va vb w hN hfew hA hA2 hT
  obtain⟨a1,c1,rfl,hc1,hm1,hl1⟩:=hA.form
  obtain⟨a2,c2,rfl,hc2,hm2,hl2⟩:=hA2.form
  have T1:=cL a1 c1 X w hc1 hm1 hl1
  have T2:=cL a2 c2 Y w hc2 hm2 hl2
  have A1:=hA.trim
  have A2:=hA2.trim
  have m1:=limbs_tr hA.limbs
  have m2:=limbs_tr hA2.limbs
  have l1:=tr_length_le X
  have l2:=tr_length_le Y
  rw [←val_tr X,←val_tr Y]
  clear hA hA2 hl1 hl2
  generalize tr X=P at *
  generalize tr Y=R at *
  by_cases hsw:P.length<R.length
  ·have hsw2:(P.length:Int)<(R.length:Int):=by omega
   rw [Nat.mul_comm]
   have AL:=A2
   have AS:=A1
   have mL:=m2
   have mS:=m1
   have hfit:=bZ R P mL mS
   by_cases hsm:R.length+P.length≤1048576
   ·have HM:=e8 _ _ R P w AL AS hT (by omega)
    have hbl:blen (val R*val P)≤67108864:=by
     have:blen (val R*val P)≤64*(R.length+P.length):=(blen_le_iff _ _).2 (by rw [Nat.pow_mul];exact hfit)
     omega
    have hsm2:(R.length:Int)+(P.length:Int)≤1048576:=by omega
    clear AL AS hT hfit
    go_enter Tryz.func86,Tryz.ntmps86
    go_wp2_with fail
    refine T1.mono ?_
    rintro e wn ⟨rfl,hw⟩;rw [hw];clear hw wn
    go_wp2_with fail
    refine T2.mono ?_
    rintro e wn ⟨rfl,hw⟩;rw [hw];clear hw wn
    clear T1 T2
    go_wp2_with fail
    refine HM.mono ?_
    rintro e w2 ⟨hb,v,c,rs,rfl,hans,hres⟩
    have HX:Hid (bE w (val R*val P) (.returned v) w2):=by
     rcases hres with ⟨_,hv,ht,_⟩|⟨_,_,hbig⟩
     ·exact⟨⟨v,rs,rfl,hans,hv,ht⟩,hb⟩
     ·omega
    clear hb hans hres HM
    go_wp2
    go_ret
    exact HX.out
   ·obtain⟨half,eh,hh1,hh2⟩:∃half:Nat,(R.length:Int) / 2=(half:Int)∧2*half≤R.length∧R.length≤2*half+1:=⟨R.length / 2,by omega,by omega,by omega⟩
    have hord:P.length≤R.length:=by omega
    obtain⟨K0,eK,hK01,hK02⟩:∃K:Nat,(R.length:Int)+(P.length:Int)=(K:Int)∧K≤R.length+P.length∧R.length+P.length≤K:=⟨_,rfl,Nat.le_refl _,Nat.le_refl _⟩
    have hsm2:¬((K0:Int)≤1048576):=by omega
    obtain⟨K,eK1,hK1,hK2⟩:∃K:Nat,(K0:Int)+1=(K:Int)∧K≤R.length+P.length+1∧R.length+P.length+1≤K:=⟨K0+1,by omega,by omega,by omega⟩
    have hKb:K≤35184372088831:=by omega
    have HFIT:=aa hfit
    have HT:=aa hT
    have HAL:=aa AL
    have HAS:=aa AS
    have HMS:=aa (And.intro mL mS)
    obtain⟨bL,oL,rfl⟩:∃b off,a2=some ⟨b,off,none⟩:=by
     obtain⟨_,_,e,_,_,hl⟩:=AL.form
     cases e
     rcases hl with h0|⟨b,off,e,_⟩
     ·have hz:R.length=0:=by rw [h0];rfl
      omega
     ·exact⟨b,off,e⟩
    obtain⟨i0,hi,hz0,hz1,hz2⟩:=info_parts Tryz.infoU
    clear AL AS hT hfit A1 A2 mL mS m1 m2
    go_enter Tryz.func86,Tryz.ntmps86
    go_wp2_with fail
    refine T1.mono ?_
    rintro e wn ⟨rfl,hw⟩;rw [hw];clear hw wn
    go_wp2_with fail
    refine T2.mono ?_
    rintro e wn ⟨rfl,hw⟩;rw [hw];clear hw wn
    clear T1 T2
    go_wp2_with (at_make;refine wpList_make_full _ rfl _ _ 25 rfl w.heap.size 61 i0 (.int .u64 0) 1 Tryz.underlying25 hi hz0 hz1 .i64 .i64 _ _ K rfl rfl (by omega) (by omega) (by rw [hz2];omega) (by unfold maxLen;omega) (Nat.le_refl _) ?_;intro w1 hown hgrow)
    have hb1:=Blk.made hown
    have hbel:Below w.heap.size w w1:=(Below.refl _ _).grown hgrow (Nat.le_refl _) (fun k hk=>by cases hk)
    have HB1:=aa hb1
    have HBE:=aa hbel
    clear hown hgrow hi hz0 hz1 hz2 hb1 hbel
    have lt1:(R.take half).length=half:=by simp;omega
    have ld1:(R.drop half).length=R.length - half:=by simp
    have IH1:=ih (R.take half) P _ _ w1 (by omega) (by omega) ((HAL.out.below HBE.out).front half (by omega)) (HAS.out.below HBE.out) (HT.out.below HBE.out)
    go_wp2_with fail
    refine IH1.mono ?_
    rintro e w2 ⟨⟨v1,rs1,rfl,An1,e1,t1⟩,hb2⟩
    have mT:=(HAL.out.front half (by omega)).limbs
    have mD:=(HAL.out.drop half (by omega)).limbs
    have f1:=bZ (R.take half) P mT HMS.out.2
    have f2:=bZ (R.drop half) P mD HMS.out.2
    have r1:=aQ rs1 (half+P.length) (by rw [e1];rw [lt1] at f1;exact f1)
    rw [t1] at r1
    have A1':=An1.arg (by omega)
    obtain⟨ao,co,rfl,_,_,hlo⟩:=A1'.form
    have B2:=HB1.out.below hb2 HB1.out.lt
    obtain⟨w3,M1,hcp,B3,L3,F3,O3,S3⟩:=bU w.heap.size 0 K K (List.replicate K 0) ao co rs1 w2 B2 (limbs_replicate _) An1.limbs (bT K 0 K) (by simp) (by omega) hlo
    have HB3:Hid (Below w.heap.size w w3):=(HBE.out.trans (hb2.mono HBE.out.size)).trans (F3.below (Nat.le_refl _) (by have:=HBE.out.size;have:=hb2.size;omega))
    have IH2:=ih (R.drop half) P _ _ w3.drew (by omega) (by omega) ((HAL.out.below HB3.out).drop half (by omega)).drew (HAS.out.below HB3.out).drew (HT.out.below HB3.out.drew)
    have hch:¬K=half:=by omega
    have hcl:¬c2=half:=by omega
    have lM:M1.length=K:=by rw [O3.len];simp
    have HM1:=aa (And.intro L3 (And.intro S3 lM))
    have HE1:=aa e1
    have HBK:=aa B3
    have k1:(0:Int)≤(half:Int):=by omega
    have k2:(half:Int)≤(K:Int):=by omega
    have k3:(half:Int)≤(R.length:Int):=by omega
    have k4:(half:Int)≤(c2:Int):=by omega
    clear IH1 An1 hb2 A1' hlo B2 B3 L3 F3 O3 S3 lM e1 t1 mT mD f1 hN hfew
    go_wp2
    have HF2:Hid (sv M1 half (K - half)+val (R.drop half)*val P<18446744073709551616 ^ (K - half)):=by
     refine aa ?_
     obtain⟨d,hd⟩:∃d,K=half+(d+1):=⟨K - half - 1,by omega⟩
     have s0:=aB M1 0 half (d+1) (by rw [HM1.out.2.2];omega)
     have s3:=HM1.out.2.1
     have s4:=bJ R half (by omega)
     have s6:K - half=d+1:=by omega
     have s7:=HFIT.out
     have s8:R.length+P.length=half+d:=by omega
     rw [hd] at s3
     rw [s8,Nat.pow_add] at s7
     rw [Nat.zero_add] at s0
     rw [HE1.out] at s3
     rw [s4,Nat.add_mul,Nat.mul_assoc] at s7
     rw [s0] at s3
     rw [s6,Nat.pow_succ]
     generalize val (R.take half)*val P=a at *
     generalize val (R.drop half)*val P=b at *
     generalize sv M1 0 half=x at *
     generalize sv M1 half (d+1)=y at *
     have hWp:=W_pos half
     generalize (18446744073709551616:Nat) ^ half=W at *
     generalize (18446744073709551616:Nat) ^ d=V at *
     have t1:W*(y+b)<W*V:=by rw [Nat.mul_add];omega
     have t2:=Nat.lt_of_mul_lt_mul_left t1
     omega
    have HPP:=aa (fun (w4:World) (v2:Value) (rs2:List Nat) (An2:Ans w4 w3.drew.heap.size v2 rs2) (t2:tr rs2=rs2) (e2:val rs2=val (R.drop half)*val P) (hb4:Below w3.drew.heap.size w3.drew w4)=>
     show Calls Tryz.prog 128 #[.slice (some ⟨w.heap.size,half,none⟩) (K - half) (K - half),v2] w4 (aG w.heap.size half (K - half) M1 w4 (sv M1 half (K - half)+val rs2)) by
      have r2:=aQ rs2 (R.length - half+P.length) (by rw [e2];rw [ld1] at f2;exact f2)
      rw [t2] at r2
      have hlt4:w.heap.size<w3.drew.heap.size:=HBK.out.lt
      exact fk w.heap.size half (K - half) (K - half) M1 v2 rs2 w4 (HBK.out.below (cW hb4) HBK.out.lt) HM1.out.1 (An2.arg (by omega)) (fun _ b off n c e=>by subst e;exact .inl (fun h=>by have:=(An2.own.lt b rfl).1;omega)) (by rw [HM1.out.2.2];omega) (Nat.le_refl _) (by omega) (by omega) (by rw [e2];exact HF2.out))
    go_region_held3 (fun _=>True) (trivial) (first
     | (go_at_call 86;refine IH2.mono ?_;rintro e w4 ⟨⟨v2,rs2,rfl,An2,e2,t2⟩,hb4⟩)
     | (go_at_call 128;refine (HPP.out _ _ _ An2 t2 e2 hb4).mono ?_;rintro e w5 ⟨rfl,M2,O5,L5,B5,F5,S5⟩))
    have l5:M2.length=K:=by rw [O5.len,HM1.out.2.2]
    have HTR:=cL (some ⟨w.heap.size,0,none⟩) K M2 w5 (by omega) (by omega) (.inr ⟨_,0,rfl,fun j hj=>by rw [Nat.zero_add];exact B5.cell j hj⟩)
    rw [l5] at HTR
    have HVAL:Hid (val M2=val R*val P):=by
     refine aa ?_
     obtain⟨d,hd⟩:∃d,K=half+d:=⟨K - half,by omega⟩
     have s0:=aB M1 0 half d (by rw [HM1.out.2.2];omega)
     have s1:=aB M2 0 half d (by omega)
     have s2:=O5.sv 0 half (by omega)
     have s3:=HM1.out.2.1
     have s4:=bJ R half (by omega)
     have s5:sv M2 0 (half+d)=val M2:=by rw [←hd,←l5,bH]
     have s6:K - half=d:=by omega
     rw [s6] at S5
     rw [hd] at s3
     rw [Nat.zero_add] at s0 s1
     rw [HE1.out] at s3
     rw [e2] at S5
     rw [s4,Nat.add_mul,Nat.mul_assoc]
     rw [←s5,s1,s2,S5,Nat.mul_add]
     rw [s0] at s3
     omega
    have HEND:Hid (bE w (val R*val P) (.returned (.slice (some ⟨w.heap.size,0,none⟩) (tr M2).length K)) w5):=by
     have hb5:Below w.heap.size w w4:=HB3.out.trans ((cW hb4).mono HB3.out.size)
     have AM:=(Ans.of_blk (base:=w.heap.size) (zs:=M2) (Nat.le_refl _) B5 List.take_length.symm (Nat.le_refl _) (by omega) L5).trim
     rw [l5] at AM
     exact⟨⟨_,tr M2,rfl,AM,by rw [val_tr];exact HVAL.out,tr_tr _⟩,hb5.trans (F5.below (Nat.le_refl _) hb5.size)⟩
    clear An2 t2 e2 hb4 O5 L5 B5 F5 S5 HVAL HPP IH2 hcp
    go_wp2_with fail
    refine HTR.mono ?_
    rintro e w6 ⟨rfl,hw⟩;subst hw
    clear HTR
    go_wp2
    go_ret
    exact HEND.out
  ·have hsw2:¬((P.length:Int)<(R.length:Int)):=by omega
   have AL:=A1
   have AS:=A2
   have mL:=m1
   have mS:=m2
   have hfit:=bZ P R mL mS
   by_cases hsm:P.length+R.length≤1048576
   ·have HM:=e8 _ _ P R w AL AS hT (by omega)
    have hbl:blen (val P*val R)≤67108864:=by
     have:blen (val P*val R)≤64*(P.length+R.length):=(blen_le_iff _ _).2 (by rw [Nat.pow_mul];exact hfit)
     omega
    have hsm2:(P.length:Int)+(R.length:Int)≤1048576:=by omega
    clear AL AS hT hfit
    go_enter Tryz.func86,Tryz.ntmps86
    go_wp2_with fail
    refine T1.mono ?_
    rintro e wn ⟨rfl,hw⟩;rw [hw];clear hw wn
    go_wp2_with fail
    refine T2.mono ?_
    rintro e wn ⟨rfl,hw⟩;rw [hw];clear hw wn
    clear T1 T2
    go_wp2_with fail
    refine HM.mono ?_
    rintro e w2 ⟨hb,v,c,rs,rfl,hans,hres⟩
    have HX:Hid (bE w (val P*val R) (.returned v) w2):=by
     rcases hres with ⟨_,hv,ht,_⟩|⟨_,_,hbig⟩
     ·exact⟨⟨v,rs,rfl,hans,hv,ht⟩,hb⟩
     ·omega
    clear hb hans hres HM
    go_wp2
    go_ret
    exact HX.out
   ·obtain⟨half,eh,hh1,hh2⟩:∃half:Nat,(P.length:Int) / 2=(half:Int)∧2*half≤P.length∧P.length≤2*half+1:=⟨P.length / 2,by omega,by omega,by omega⟩
    have hord:R.length≤P.length:=by omega
    obtain⟨K0,eK,hK01,hK02⟩:∃K:Nat,(P.length:Int)+(R.length:Int)=(K:Int)∧K≤P.length+R.length∧P.length+R.length≤K:=⟨_,rfl,Nat.le_refl _,Nat.le_refl _⟩
    have hsm2:¬((K0:Int)≤1048576):=by omega
    obtain⟨K,eK1,hK1,hK2⟩:∃K:Nat,(K0:Int)+1=(K:Int)∧K≤P.length+R.length+1∧P.length+R.length+1≤K:=⟨K0+1,by omega,by omega,by omega⟩
    have hKb:K≤35184372088831:=by omega
    have HFIT:=aa hfit
    have HT:=aa hT
    have HAL:=aa AL
    have HAS:=aa AS
    have HMS:=aa (And.intro mL mS)
    obtain⟨bL,oL,rfl⟩:∃b off,a1=some ⟨b,off,none⟩:=by
     obtain⟨_,_,e,_,_,hl⟩:=AL.form
     cases e
     rcases hl with h0|⟨b,off,e,_⟩
     ·have hz:P.length=0:=by rw [h0];rfl
      omega
     ·exact⟨b,off,e⟩
    obtain⟨i0,hi,hz0,hz1,hz2⟩:=info_parts Tryz.infoU
    clear AL AS hT hfit A1 A2 mL mS m1 m2
    go_enter Tryz.func86,Tryz.ntmps86
    go_wp2_with fail
    refine T1.mono ?_
    rintro e wn ⟨rfl,hw⟩;rw [hw];clear hw wn
    go_wp2_with fail
    refine T2.mono ?_
    rintro e wn ⟨rfl,hw⟩;rw [hw];clear hw wn
    clear T1 T2
    go_wp2_with (at_make;refine wpList_make_full _ rfl _ _ 25 rfl w.heap.size 61 i0 (.int .u64 0) 1 Tryz.underlying25 hi hz0 hz1 .i64 .i64 _ _ K rfl rfl (by omega) (by omega) (by rw [hz2];omega) (by unfold maxLen;omega) (Nat.le_refl _) ?_;intro w1 hown hgrow)
    have hb1:=Blk.made hown
    have hbel:Below w.heap.size w w1:=(Below.refl _ _).grown hgrow (Nat.le_refl _) (fun k hk=>by cases hk)
    have HB1:=aa hb1
    have HBE:=aa hbel
    clear hown hgrow hi hz0 hz1 hz2 hb1 hbel
    have lt1:(P.take half).length=half:=by simp;omega
    have ld1:(P.drop half).length=P.length - half:=by simp
    have IH1:=ih (P.take half) R _ _ w1 (by omega) (by omega) ((HAL.out.below HBE.out).front half (by omega)) (HAS.out.below HBE.out) (HT.out.below HBE.out)
    go_wp2_with fail
    refine IH1.mono ?_
    rintro e w2 ⟨⟨v1,rs1,rfl,An1,e1,t1⟩,hb2⟩
    have mT:=(HAL.out.front half (by omega)).limbs
    have mD:=(HAL.out.drop half (by omega)).limbs
    have f1:=bZ (P.take half) R mT HMS.out.2
    have f2:=bZ (P.drop half) R mD HMS.out.2
    have r1:=aQ rs1 (half+R.length) (by rw [e1];rw [lt1] at f1;exact f1)
    rw [t1] at r1
    have A1':=An1.arg (by omega)
    obtain⟨ao,co,rfl,_,_,hlo⟩:=A1'.form
    have B2:=HB1.out.below hb2 HB1.out.lt
    obtain⟨w3,M1,hcp,B3,L3,F3,O3,S3⟩:=bU w.heap.size 0 K K (List.replicate K 0) ao co rs1 w2 B2 (limbs_replicate _) An1.limbs (bT K 0 K) (by simp) (by omega) hlo
    have HB3:Hid (Below w.heap.size w w3):=(HBE.out.trans (hb2.mono HBE.out.size)).trans (F3.below (Nat.le_refl _) (by have:=HBE.out.size;have:=hb2.size;omega))
    have IH2:=ih (P.drop half) R _ _ w3.drew (by omega) (by omega) ((HAL.out.below HB3.out).drop half (by omega)).drew (HAS.out.below HB3.out).drew (HT.out.below HB3.out.drew)
    have hch:¬K=half:=by omega
    have hcl:¬c1=half:=by omega
    have lM:M1.length=K:=by rw [O3.len];simp
    have HM1:=aa (And.intro L3 (And.intro S3 lM))
    have HE1:=aa e1
    have HBK:=aa B3
    have k1:(0:Int)≤(half:Int):=by omega
    have k2:(half:Int)≤(K:Int):=by omega
    have k3:(half:Int)≤(P.length:Int):=by omega
    have k4:(half:Int)≤(c1:Int):=by omega
    clear IH1 An1 hb2 A1' hlo B2 B3 L3 F3 O3 S3 lM e1 t1 mT mD f1 hN hfew
    go_wp2
    have HF2:Hid (sv M1 half (K - half)+val (P.drop half)*val R<18446744073709551616 ^ (K - half)):=by
     refine aa ?_
     obtain⟨d,hd⟩:∃d,K=half+(d+1):=⟨K - half - 1,by omega⟩
     have s0:=aB M1 0 half (d+1) (by rw [HM1.out.2.2];omega)
     have s3:=HM1.out.2.1
     have s4:=bJ P half (by omega)
     have s6:K - half=d+1:=by omega
     have s7:=HFIT.out
     have s8:P.length+R.length=half+d:=by omega
     rw [hd] at s3
     rw [s8,Nat.pow_add] at s7
     rw [Nat.zero_add] at s0
     rw [HE1.out] at s3
     rw [s4,Nat.add_mul,Nat.mul_assoc] at s7
     rw [s0] at s3
     rw [s6,Nat.pow_succ]
     generalize val (P.take half)*val R=a at *
     generalize val (P.drop half)*val R=b at *
     generalize sv M1 0 half=x at *
     generalize sv M1 half (d+1)=y at *
     have hWp:=W_pos half
     generalize (18446744073709551616:Nat) ^ half=W at *
     generalize (18446744073709551616:Nat) ^ d=V at *
     have t1:W*(y+b)<W*V:=by rw [Nat.mul_add];omega
     have t2:=Nat.lt_of_mul_lt_mul_left t1
     omega
    have HPP:=aa (fun (w4:World) (v2:Value) (rs2:List Nat) (An2:Ans w4 w3.drew.heap.size v2 rs2) (t2:tr rs2=rs2) (e2:val rs2=val (P.drop half)*val R) (hb4:Below w3.drew.heap.size w3.drew w4)=>
     show Calls Tryz.prog 128 #[.slice (some ⟨w.heap.size,half,none⟩) (K - half) (K - half),v2] w4 (aG w.heap.size half (K - half) M1 w4 (sv M1 half (K - half)+val rs2)) by
      have r2:=aQ rs2 (P.length - half+R.length) (by rw [e2];rw [ld1] at f2;exact f2)
      rw [t2] at r2
      have hlt4:w.heap.size<w3.drew.heap.size:=HBK.out.lt
      exact fk w.heap.size half (K - half) (K - half) M1 v2 rs2 w4 (HBK.out.below (cW hb4) HBK.out.lt) HM1.out.1 (An2.arg (by omega)) (fun _ b off n c e=>by subst e;exact .inl (fun h=>by have:=(An2.own.lt b rfl).1;omega)) (by rw [HM1.out.2.2];omega) (Nat.le_refl _) (by omega) (by omega) (by rw [e2];exact HF2.out))
    go_region_held3 (fun _=>True) (trivial) (first
     | (go_at_call 86;refine IH2.mono ?_;rintro e w4 ⟨⟨v2,rs2,rfl,An2,e2,t2⟩,hb4⟩)
     | (go_at_call 128;refine (HPP.out _ _ _ An2 t2 e2 hb4).mono ?_;rintro e w5 ⟨rfl,M2,O5,L5,B5,F5,S5⟩))
    have l5:M2.length=K:=by rw [O5.len,HM1.out.2.2]
    have HTR:=cL (some ⟨w.heap.size,0,none⟩) K M2 w5 (by omega) (by omega) (.inr ⟨_,0,rfl,fun j hj=>by rw [Nat.zero_add];exact B5.cell j hj⟩)
    rw [l5] at HTR
    have HVAL:Hid (val M2=val P*val R):=by
     refine aa ?_
     obtain⟨d,hd⟩:∃d,K=half+d:=⟨K - half,by omega⟩
     have s0:=aB M1 0 half d (by rw [HM1.out.2.2];omega)
     have s1:=aB M2 0 half d (by omega)
     have s2:=O5.sv 0 half (by omega)
     have s3:=HM1.out.2.1
     have s4:=bJ P half (by omega)
     have s5:sv M2 0 (half+d)=val M2:=by rw [←hd,←l5,bH]
     have s6:K - half=d:=by omega
     rw [s6] at S5
     rw [hd] at s3
     rw [Nat.zero_add] at s0 s1
     rw [HE1.out] at s3
     rw [e2] at S5
     rw [s4,Nat.add_mul,Nat.mul_assoc]
     rw [←s5,s1,s2,S5,Nat.mul_add]
     rw [s0] at s3
     omega
    have HEND:Hid (bE w (val P*val R) (.returned (.slice (some ⟨w.heap.size,0,none⟩) (tr M2).length K)) w5):=by
     have hb5:Below w.heap.size w w4:=HB3.out.trans ((cW hb4).mono HB3.out.size)
     have AM:=(Ans.of_blk (base:=w.heap.size) (zs:=M2) (Nat.le_refl _) B5 List.take_length.symm (Nat.le_refl _) (by omega) L5).trim
     rw [l5] at AM
     exact⟨⟨_,tr M2,rfl,AM,by rw [val_tr];exact HVAL.out,tr_tr _⟩,hb5.trans (F5.below (Nat.le_refl _) hb5.size)⟩
    clear An2 t2 e2 hb4 O5 L5 B5 F5 S5 HVAL HPP IH2 hcp
    go_wp2_with fail
    refine HTR.mono ?_
    rintro e w6 ⟨rfl,hw⟩;subst hw
    clear HTR
    go_wp2
    go_ret
    exact HEND.out
end Go.Proofs.YtdbjbbdhlpfhjaaGreatDoor

