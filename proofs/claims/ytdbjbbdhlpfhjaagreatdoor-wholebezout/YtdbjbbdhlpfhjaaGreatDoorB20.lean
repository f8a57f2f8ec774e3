/- Package whole: Make, Neg, Abs, Add, Sub, Mul. -/
import Derived.Test.YtdbjbbdhlpfhjaaGreatDoorB11
import Derived.Test.YtdbjbbdhlpfhjaaGreatDoorB19
import Derived.Test.YtdbjbbdhlpfhjaaGreatDoorB02
import Derived.Deep.RegionHeld3
import Derived.Test.YtdbjbbdhlpfhjaaGreatDoorB07
import Derived.Test.YtdbjbbdhlpfhjaaGreatDoorB05
import Derived.Test.YtdbjbbdhlpfhjaaGreatDoorB08
import Derived.Test.YtdbjbbdhlpfhjaaGreatDoorB04
import Derived.Test.YtdbjbbdhlpfhjaaGreatDoorB01
import Derived.Test.YtdbjbbdhlpfhjaaGreatDoorB18
import Derived.Handy
set_option maxRecDepth 20000
set_option maxHeartbeats 4000000
namespace Go.Proofs.YtdbjbbdhlpfhjaaGreatDoor
open Go.RowKit
open Lm
attribute [local go_sem ↓] Go.wp_at_zero Go.wp_at_succ

theorem oQ (b:Bool)(v:Value)(X:List Nat)(w:World)(hA:Arg w v X)(hf:X.length≤17592186044416) :
  Calls Tryz.prog 81 #[.bool b,v] w fun e w'=>di w' w.heap.size e (zz b (val X))∧Below w.heap.size w w':=by
 obtain⟨w0,hw0,hb0,h0⟩:=aI w (.cells #[.bool false,.slice none 0 0] 27)
 have hf0:=aB h0
 obtain⟨k0,k1⟩:=duo h0
 have L:=aP v X w0 (hA.below hb0)
 have HB0:=aa hb0
 have HX0:=aa h0
 have HA:=aa hA
 obtain⟨a,n,rfl,_,_,_⟩:=hA.form
 clear hA hb0 h0
 by_cases hbl:blen (val X)≤67108864
 ·have i1:¬(67108864:Int)<((blen (val X):Nat):Int):=by omega
  have HN:=cT _ X w0 (HA.out.below HB0.out) hf
  have HL:=aa hbl
  generalize hl:blen (val X)=l at *
  clear hbl
  go_enter Tryz.func81,Tryz.ntmps81
  go_wp2_with fail
  refine L.mono ?_
  rintro e wn ⟨rfl,hw⟩;rw [hw];clear hw wn L
  go_wp2_with fail
  refine HN.mono ?_
  rintro e w1 ⟨⟨v1,rfl,A1⟩,hb1⟩
  have HS:=dW b v1 (tr X) _ w1 A1
  have hsg:=dT b (tr_tr X) (val_tr X)
  rw [hsg] at HS
  have hsh:=A1.shape
  obtain⟨a1,n1,rfl⟩:=hsh
  have HA1:=aa A1
  have HB1:=aa hb1
  clear A1 hb1 HN k0 k1 hf0 hsg
  go_wp2_with fail
  refine HS.mono ?_
  rintro e w2 ⟨rfl,hb2⟩
  have HW:Hid (Below w0.heap.size w0 w2):=aa (HB1.out.trans (hb2.mono HB1.out.size))
  have HAN:=aa (HA1.out.below hb2)
  have hbx:=ac HW.out HX0.out
  have hf1:=aB hbx
  obtain⟨l0,l1⟩:=duo hbx
  have HBX:=aa hbx
  have HBE:=aa (HB0.out.trans (HW.out.mono HB0.out.size))
  clear hbx
  clear hb2 HS HA1
  go_wp2
  have R5:=aF HBX.out (a':=.bool (decide (zz b (val X)<0))) (b':=.slice a1 (tr X).length n1)
  have HD:=aa (And.intro (HAN.out.duo (u0:=.bool (decide (zz b (val X)<0))) (u1:=.slice a1 (tr X).length n1) HBX.out) (aE HBE.out (g:=w.heap.size) (u0:=.bool (decide (zz b (val X)<0))) (u1:=.slice a1 (tr X).length n1) (Nat.le_refl _)))
  generalize (w2.setCell ⟨w.heap.size,0,none⟩ (.bool (decide (zz b (val X)<0)))).setCell ⟨w.heap.size,1,none⟩ (.slice a1 (tr X).length n1)=w5 at *
  obtain⟨q0,q1⟩:=duo R5
  refine bodyPost_ret (v:=.tuple #[.agg #[.bool (decide (zz b (val X)<0)),.slice a1 (tr X).length n1],.int .i64 0]) (by simp [results,Tryz.results81,go_sem,q0,q1]) rfl ?_
  exact⟨⟨_,_,_,_,0,rfl,tr X,HD.out.1.base HB0.out.size,.inl ⟨rfl,rfl,by rw [aJ,val_tr],tr_tr X,by rw [aJ,hl];exact HL.out⟩⟩,HD.out.2⟩
 ·have i1:(67108864:Int)<((blen (val X):Nat):Int):=by omega
  have HL:=aa hbl
  generalize hl:blen (val X)=l at *
  clear hbl
  go_enter Tryz.func81,Tryz.ntmps81
  go_wp2_with fail
  refine L.mono ?_
  rintro e wn ⟨rfl,hw⟩;rw [hw];clear hw wn L
  go_wp2
  have R5:=aF HX0.out (a':=.bool false) (b':=.slice none 0 0)
  have HD:=aa (aE HB0.out (g:=w.heap.size) (u0:=.bool false) (u1:=.slice none 0 0) (Nat.le_refl _))
  generalize (w0.setCell ⟨w.heap.size,0,none⟩ (.bool false)).setCell ⟨w.heap.size,1,none⟩ (.slice none 0 0)=w5 at *
  obtain⟨q0,q1⟩:=duo R5
  refine bodyPost_ret (v:=.tuple #[.agg #[.bool false,.slice none 0 0],.int .i64 3]) (by simp [results,Tryz.results81,go_sem,q0,q1]) rfl ?_
  exact⟨⟨_,_,_,_,3,rfl,[],Ans.nil _ _,.inr ⟨rfl,rfl,rfl,rfl,by rw [aJ,hl];have:=HL.out;omega⟩⟩,HD.out⟩

theorem m5 (b:Bool)(v:Value)(X:List Nat)(w:World)(hA:Arg w v X)(hf:X.length≤17592186044416) :
  Calls Tryz.prog 40 #[.agg #[.bool b,v]] w fun e w'=>di w' w.heap.size e (zz false (val X))∧Below w.heap.size w w':=by
 obtain⟨a,n,rfl,_,_,_⟩:=hA.form
 obtain⟨w0,hw0,hb0,h0,hx0⟩:=ct w (.cells #[.bool b,.slice a X.length n] 27) (.cells #[.bool false,.slice none 0 0] 27)
 obtain⟨k0,k1⟩:=duo h0
 have HM:=oQ false _ X w0 (hA.below hb0) hf
 have HB0:=aa hb0
 have HX0:=aa hx0
 generalize zz false (val X)=z at *
 clear hA hb0 h0 hx0
 go_enter Tryz.func40,Tryz.ntmps40
 go_wp2_with fail
 refine HM.mono ?_
 rintro e w1 ⟨⟨b1,a1,n1,k1,c1,rfl,hzr⟩,hb1⟩
 have HZR:=aa (hzr.base HB0.out.size)
 have HW:=aa hb1
 clear hzr hb1 HM hw0 k0
 have hbx:=ac HW.out HX0.out
 have hf1:=aB hbx
 obtain⟨l0,l1⟩:=duo hbx
 have HBX:=aa hbx
 have HBE:=aa (HB0.out.trans (HW.out.mono HB0.out.size))
 clear hbx
 go_wp2
 have R5:=aF HBX.out (a':=.bool b1) (b':=.slice a1 n1 k1)
 have HD:=aa (And.intro (HZR.out.duo (u0:=.bool b1) (u1:=.slice a1 n1 k1) HBX.out) (aE HBE.out (g:=w.heap.size+1) (u0:=.bool b1) (u1:=.slice a1 n1 k1) (by omega)))
 generalize (w1.setCell ⟨w.heap.size+1,0,none⟩ (.bool b1)).setCell ⟨w.heap.size+1,1,none⟩ (.slice a1 n1 k1)=w5 at *
 obtain⟨q0,q1⟩:=duo R5
 refine bodyPost_ret (v:=.tuple #[.agg #[.bool b1,.slice a1 n1 k1],.int .i64 c1]) (by simp [results,Tryz.results40,go_sem,q0,q1]) rfl ?_
 exact⟨⟨_,_,_,_,_,rfl,HD.out.1⟩,HD.out.2⟩

theorem jl (w:World)(o1 o2 o3 o4 o5:Obj):∃w0,((((w.alloc o1).alloc o2).alloc o3).alloc o4).alloc o5=w0∧Below w.heap.size w w0∧w0.heap[w.heap.size]?=some o1∧w0.heap[w.heap.size+1]?=some o2∧w0.heap[w.heap.size+1+1]?=some o3∧w0.heap[w.heap.size+1+1+1]?=some o4∧w0.heap[w.heap.size+1+1+1+1]?=some o5:=by
 obtain⟨w1,h1,b1,c1,c2,c3,c4⟩:=nU w o1 o2 o3 o4
 obtain⟨w2,h2,b2,c5⟩:=aI w1 o5
 have hs:w1.heap.size=w.heap.size+4:=by rw [←h1,World.size_alloc,World.size_alloc,World.size_alloc,World.size_alloc]
 refine⟨w2,by rw [h1];exact h2,b1.trans (b2.mono b1.size),ac b2 c1,ac b2 c2,ac b2 c3,ac b2 c4,?_⟩
 have e:w.heap.size+1+1+1+1=w1.heap.size:=by omega
 rw [e];exact c5

theorem gT {w:World}{g:Nat}{a b a' b' a2 b2 u0 u1 u2 u3 u4 u5:Value}(h2:w.heap[g]?=some (.cells #[a,b] 27))(h3:w.heap[g+1]?=some (.cells #[a',b'] 27))(h4:w.heap[g+1+1]?=some (.cells #[a2,b2] 27)) :
  ((((((w.setCell ⟨g,0,none⟩ u0).setCell ⟨g,1,none⟩ u1).setCell ⟨g+1,0,none⟩ u2).setCell ⟨g+1,1,none⟩ u3).setCell ⟨g+1+1,0,none⟩ u4).setCell ⟨g+1+1,1,none⟩ u5).heap[g]?=some (.cells #[u0,u1] 27) ∧
  ((((((w.setCell ⟨g,0,none⟩ u0).setCell ⟨g,1,none⟩ u1).setCell ⟨g+1,0,none⟩ u2).setCell ⟨g+1,1,none⟩ u3).setCell ⟨g+1+1,0,none⟩ u4).setCell ⟨g+1+1,1,none⟩ u5).heap[g+1]?=some (.cells #[u2,u3] 27) ∧
  ((((((w.setCell ⟨g,0,none⟩ u0).setCell ⟨g,1,none⟩ u1).setCell ⟨g+1,0,none⟩ u2).setCell ⟨g+1,1,none⟩ u3).setCell ⟨g+1+1,0,none⟩ u4).setCell ⟨g+1+1,1,none⟩ u5).heap[g+1+1]?=some (.cells #[u4,u5] 27) ∧
  (∀base v zs,Ans w base v zs→Ans ((((((w.setCell ⟨g,0,none⟩ u0).setCell ⟨g,1,none⟩ u1).setCell ⟨g+1,0,none⟩ u2).setCell ⟨g+1,1,none⟩ u3).setCell ⟨g+1+1,0,none⟩ u4).setCell ⟨g+1+1,1,none⟩ u5) base v zs) ∧
  (∀B w0,B≤g→Below B w0 w→Below B w0 ((((((w.setCell ⟨g,0,none⟩ u0).setCell ⟨g,1,none⟩ u1).setCell ⟨g+1,0,none⟩ u2).setCell ⟨g+1,1,none⟩ u3).setCell ⟨g+1+1,0,none⟩ u4).setCell ⟨g+1+1,1,none⟩ u5)):=by
 have q:=fun base=>nj (base:=base) (u0:=u0) (u1:=u1) (u2:=u2) (u3:=u3) h2 h3
 have h5:=dD (u0:=u2) (u1:=u3) (dD (u0:=u0) (u1:=u1) h4 (show g+1+1≠g by omega)) (show g+1+1≠g+1 by omega)
 refine⟨dD (q 0).1 (by omega),dD (q 0).2.1 (by omega),aF h5,fun base v zs hA=>((q base).2.2 v zs hA).duo h5,fun B w0 hB hb=>?_⟩
 exact aE (aE (aE hb hB) (by omega)) (by omega)

theorem ip (L:Nat)(v1:Value)(X:List Nat)(w:World)(hL:w.heap[L]?=some (.cells #[v1] 25))(hA:Arg w v1 X) :
  Calls Tryz.prog 45 #[.slice (some ⟨L,0,none⟩) 1 1] w fun e w'=>e=.returned (.bool (decide (67108864<blen (val X))))∧w'=w:=by
 have c0:w.cell? ⟨L,0,none⟩=some v1:=by simp [World.cell?,hL]
 have L1:=aP v1 X w hA
 obtain⟨a1,n1,rfl,_,_,_⟩:=hA.form
 clear hA hL
 generalize blen (val X)=lx at *
 by_cases h1:67108864<lx
 ·have i1:(67108864:Int)<(lx:Int):=by omega
  rw [decide_eq_true h1]
  go_enter Tryz.func45,Tryz.ntmps45
  go_wp2
  refine wp_loop_rounds 1 ?_
  rw [rounds_succ]
  go_wp2_with fail
  refine L1.mono ?_
  rintro e wn ⟨rfl,hw⟩;rw [hw];clear hw wn L1
  go_wp2
  go_ret
  exact⟨rfl,rfl⟩
 ·have i1:¬(67108864:Int)<(lx:Int):=by omega
  rw [decide_eq_false h1]
  go_enter Tryz.func45,Tryz.ntmps45
  go_wp2
  refine wp_loop_rounds 2 ?_
  rw [rounds_succ]
  go_wp2_with fail
  refine L1.mono ?_
  rintro e wn ⟨rfl,hw⟩;rw [hw];clear hw wn L1
  go_wp2
  rw [rounds_succ]
  go_wp2
  go_ret
  exact⟨rfl,rfl⟩

theorem pY {X:List Nat}(ht:tr X=X):val X=1 ↔ X=[1]:=by
 constructor
 ·intro h
  have hl:X.length≤1:=bW ht (n:=1) (by rw [h];decide)
  have h1:1≤X.length:=fJ (by omega)
  obtain⟨z,hz⟩:=List.length_eq_one_iff.1 (show X.length=1 by omega)
  subst hz
  simp [val] at h
  rw [h]
 ·intro h
  rw [h];simp [val]

theorem nZ (v:Value)(X:List Nat)(w:World)(hA:Arg w v X)(ht:tr X=X) :
  Calls Tryz.prog 51 #[v] w fun e w'=>e=.returned (.bool (decide (val X=1)))∧Below w.heap.size w w':=by
 obtain⟨a,c,rfl,_,_,hl⟩:=hA.form
 have h1:=pY ht
 by_cases hx:X.length=1
 ·obtain⟨z,hz⟩:=List.length_eq_one_iff.1 hx
  subst hz
  obtain⟨g,o,rfl,hc⟩:∃g o,a=some ⟨g,o,none⟩∧∀k,k<[z].length→w.cell? ⟨g,o+k,none⟩=some (lv ([z].getD k 0)):=by
   rcases hl with h|⟨g,o,h,hc⟩
   ·simp at h
   ·exact⟨g,o,h,hc⟩
  have c0:w.cell? ⟨g,o,none⟩=some (.int .u64 (z:Int)):=by
   have h9:w.cell? ⟨g,o,none⟩=some (lv z):=by simpa using hc 0 (by simp)
   exact h9
  have HB:Hid (Below w.heap.size w w):=aa (Below.refl _ _)
  have hz1:([z]=[1]) ↔ z=1:=by simp
  rw [hz1] at h1
  clear hA hl hc
  by_cases h:z=1
  ·rw [decide_eq_true (h1.2 h)]
   subst h
   clear h1 hz1
   go_enter Tryz.func51,Tryz.ntmps51
   go_wp2
   go_ret
   exact⟨rfl,Below.refl _ _⟩
  ·rw [decide_eq_false (fun e=>h (h1.1 e))]
   have hb:((z:Int) == 1)=false:=by rw [beq_eq_false_iff_ne];omega
   have hb2:¬(z:Int)=1:=by omega
   clear h1 hz1
   go_enter Tryz.func51,Tryz.ntmps51
   go_wp2
   go_ret
   exact⟨rfl,Below.refl _ _⟩
 ·rw [decide_eq_false (fun e=>hx (by rw [h1.1 e];rfl))]
  have i1:¬(X.length:Int)=1:=by omega
  have i2:((X.length:Int) == 1)=false:=by rw [beq_eq_false_iff_ne];omega
  clear h1 hA hl hx
  go_enter Tryz.func51,Tryz.ntmps51
  go_wp2
  go_ret
  exact⟨rfl,Below.refl _ _⟩

structure d6 (az bz:Int)(g:Nat)(x y:Int):Prop where
 eq:az*x+bz*y=(g:Int)
 gcd:g=Nat.gcd az.natAbs bz.natAbs
 none:bz=0→x=az.sign∧y=0
 some:bz≠0→0≤x∧x.natAbs*g<bz.natAbs
 ly:y.natAbs≤az.natAbs∨y.natAbs≤1

theorem ra (ba bb:Bool)(A B x:Nat)(hB:0<B)(hi:IsInv B (er ba A B) (Nat.gcd B (er ba A B)) x) :
  d6 (zz ba A) (zz bb B) (Nat.gcd B (er ba A B)) (x:Int) (oth ba bb A B (Nat.gcd B (er ba A B)) x):=by
 have hg:=jo ba A B hB
 obtain⟨h1,h2⟩:=oh ba bb A B (Nat.gcd B (er ba A B)) x hB hg hi
 have hz:zz bb B≠0:=fun e=>by have:=aJ bb B;rw [e] at this;simp at this;omega
 have hg0:0<Nat.gcd B (er ba A B):=Nat.gcd_pos_of_pos_left _ hB
 refine⟨h1,by rw [aJ,aJ];exact hg,fun e=>absurd e hz,fun _=>⟨Int.natCast_nonneg _,?_⟩,by rw [aJ];exact h2⟩
 rw [aJ,Int.natAbs_natCast]
 rcases hi.lt with h|⟨h,_⟩
 ·exact h
 ·rw [h,Nat.zero_mul];exact hB

theorem oN (ba bb:Bool)(A:Nat):d6 (zz ba A) (zz bb 0) A (zz ba A).sign 0:=by
 refine⟨?_,by rw [aJ,gC];simp,fun _=>⟨rfl,rfl⟩,fun h=>absurd (gC bb) h,.inr (by simp)⟩
 rw [Int.mul_zero,Int.add_zero,Int.mul_sign_self,aJ]

def Ap (u v:Value):Prop:=∀k,u.ownBlock=some k→v.ownBlock≠some k

def gI (az bz:Int)(w:World)(e:Ending)(w':World):Prop:=
 (∃(g:Nat) (x y:Int) (b1:Bool) (a1:Option Addr) (n1 k1:Nat) (b2:Bool) (a2:Option Addr) (n2 k2:Nat) (b3:Bool) (a3:Option Addr) (n3 k3:Nat),e=.returned (.tuple #[.agg #[.bool b1,.slice a1 n1 k1],.agg #[.bool b2,.slice a2 n2 k2],.agg #[.bool b3,.slice a3 n3 k3],.int .i64 0]) ∧
  ZA w' w.heap.size b1 (.slice a1 n1 k1) (g:Int)∧ZA w' w.heap.size b2 (.slice a2 n2 k2) x∧ZA w' w.heap.size b3 (.slice a3 n3 k3) y∧Ap (.slice a1 n1 k1) (.slice a2 n2 k2)∧Ap (.slice a1 n1 k1) (.slice a3 n3 k3)∧Ap (.slice a2 n2 k2) (.slice a3 n3 k3)∧d6 az bz g x y)∧Below w.heap.size w w'

theorem gR {w w':World}{b1:Nat}{u v:Value}{r s:List Nat}(h1:Ans w b1 u r)(h2:Ans w' w.heap.size v s):Ap u v:=by
 intro k e e2
 have:=(h1.own.lt k e).2
 have:=(h2.own.lt k e2).1
 omega

theorem cG {x y:Nat}(h:x≤y):blen x≤blen y:=(blen_le_iff x _).2 (Nat.lt_of_le_of_lt h ((blen_le_iff y _).1 (Nat.le_refl _)))

theorem jI (x y:Nat):blen (x*y)≤blen x+blen y:=by
 refine (blen_le_iff _ _).2 ?_
 have h1:=(blen_le_iff x _).1 (Nat.le_refl _)
 have h2:=(blen_le_iff y _).1 (Nat.le_refl _)
 rw [Nat.pow_add]
 exact Nat.mul_lt_mul_of_lt_of_lt h1 h2

theorem cz {r:List Nat}(ht:tr r=r)(hb:blen (val r)≤67108864):r.length≤1048576:=by
 have h:=few_limbs r 1048576 (by omega)
 rw [ht] at h
 exact h

theorem kQ {r x:Nat}(hb:blen x≤67108864)(hv:r≤x∨r≤1):blen r≤67108864:=by
 rcases hv with h|h
 ·exact Nat.le_trans (cG h) hb
 ·have h1:blen r≤1:=(blen_le_iff _ _).2 (by omega)
  omega

theorem qg (ba bb:Bool)(va vb:Value)(X Y:List Nat)(w:World)(hA:Arg w va X)(hB:Arg w vb Y)(hT:Tab w)(lX:X.length≤17592186043904)(lY:Y.length≤17592186043904)(bX:blen (val X)≤67108864)(bY:blen (val Y)≤67108864)(hy0:0<val Y) :
  Calls Tryz.prog 9 #[.agg #[.bool ba,va],.agg #[.bool bb,vb]] w (gI (zz ba (val X)) (zz bb (val Y)) w):=by
 obtain⟨a1,c1,rfl,_,_,_⟩:=hA.form
 obtain⟨a2,c2,rfl,_,_,_⟩:=hB.form
 obtain⟨w0,hw0,hb0,h0,h1,h2,h3,h4⟩:=jl w (.cells #[.bool ba,.slice a1 X.length c1] 27) (.cells #[.bool bb,.slice a2 Y.length c2] 27) (.cells #[.bool false,.slice none 0 0] 27) (.cells #[.bool false,.slice none 0 0] 27) (.cells #[.bool false,.slice none 0 0] 27)
 obtain⟨k0,k1⟩:=duo h0
 obtain⟨k2,k3⟩:=duo h1
 have C:=e8 _ Y w0 (hB.below hb0)
 rw [decide_eq_false (by omega)] at C
 have H0:=aa h0
 have H1:=aa h1
 have HR:=aa (And.intro h2 (And.intro h3 h4))
 have HB0:=aa hb0
 have HA:=aa (hA.below hb0)
 have HB:=aa (hB.below hb0)
 have HT:=aa (hT.below hb0)
 have HY0:=aa hy0
 have HL:=aa (And.intro lX lY)
 have HBL:=aa (And.intro bX bY)
 clear hA hB hT hb0 h0 h1 h2 h3 h4 hy0 lX lY bX bY
 go_enter Tryz.func9,Tryz.ntmps9
 go_wp2_with fail
 refine C.mono ?_
 rintro e wn ⟨rfl,hw⟩;rw [hw];clear hw wn C
 have g0:Below w0.drew.heap.size w0.drew w0.drew:=Below.refl _ _
 have P2:=aa (fun (W:World) (v1:Value) (r1:List Nat) (hg:Below w0.drew.heap.size w0.drew W) (h1:Ans W w0.drew.heap.size v1 r1) (hv:val r1=er ba (val X) (val Y)) (ht:tr r1=r1)=>
  show Calls Tryz.prog 43 #[v1,.slice a2 Y.length c2] W (cZ (val Y) (er ba (val X) (val Y)) W) by
   have hlt:=jF ba (val X) (val Y) HY0.out
   have hl:r1.length≤Y.length:=bW ht (by rw [hv];exact Nat.lt_trans hlt (val_lt HB.out.limbs))
   have hl2:=HL.out.2
   have h:=jw v1 _ r1 Y W (h1.arg (by omega)) ((HB.out.below (Below.refl _ _).drew).below hg) ((HT.out.below (Below.refl _ _).drew).below hg) (by rw [hv];exact hlt) (by omega) (by omega)
   rw [hv] at h
   exact h)
 have P1:=iO ba _ X _ Y w0.drew (HA.out.below (Below.refl _ _).drew) (HB.out.below (Below.refl _ _).drew) (HT.out.below (Below.refl _ _).drew) (by have:=HL.out;omega) (by have:=HL.out;omega) HY0.out
 have KS:=aa (fun (W:World) (hg:Below w0.drew.heap.size w0.drew W)=>show W.cell? ⟨w.heap.size,0,none⟩=some (.bool ba)∧W.cell? ⟨w.heap.size,1,none⟩=some (.slice a1 X.length c1)∧W.cell? ⟨w.heap.size+1,1,none⟩=some (.slice a2 Y.length c2) from
  ⟨(duo (ac hg (show w0.drew.heap[w.heap.size]?=some (.cells #[.bool ba,.slice a1 X.length c1] 27) from H0.out))).1,(duo (ac hg (show w0.drew.heap[w.heap.size]?=some (.cells #[.bool ba,.slice a1 X.length c1] 27) from H0.out))).2,(duo (ac hg (show w0.drew.heap[w.heap.size+1]?=some (.cells #[.bool bb,.slice a2 Y.length c2] 27) from H1.out))).2⟩)
 go_wp2
 go_region_held3 (fun w'=>w'.cell? ⟨w.heap.size,0,none⟩=some (.bool ba)∧w'.cell? ⟨w.heap.size,1,none⟩=some (.slice a1 X.length c1)∧w'.cell? ⟨w.heap.size+1,1,none⟩=some (.slice a2 Y.length c2)) (first|with_reducible exact KS.out _ g2|with_reducible exact KS.out _ g1|with_reducible exact KS.out _ g0) (first
  | (go_at_call 44;refine P1.mono ?_;rintro e' t1 ⟨⟨v1,r1,rfl,x1,x2,x3⟩,hb1⟩;have g1:=bt6 g0 hb1;obtain⟨a8,k8,rfl⟩:=x1.shape)
  | (go_at_call 43;refine (P2.out t1 _ r1 g1 x1 x2 x3).mono ?_;rintro e' t2 ⟨⟨v3,v4,r3,r4,rfl,y1,y2,y3,y4,y5,y6,y7⟩,hb2⟩;have g2:=bt6 g1 hb2;obtain⟨a3,c3,rfl⟩:=y1.shape;obtain⟨a4,c4,rfl⟩:=y2.shape))
 all_goals
  have hb02:Below w0.heap.size w0 t2:=dg g2
  have b3:blen (val r3)≤67108864:=Nat.le_trans (cG (by rw [y3];exact Nat.gcd_le_left _ HY0.out)) HBL.out.2
  have b4:blen (val r4)≤67108864:=Nat.le_trans (cG (Nat.le_of_lt (fG y5 HY0.out (Nat.gcd_pos_of_pos_left _ HY0.out)))) HBL.out.2
  have l3:=cz y4 b3
  have l4:=cz y6 b4
  have n3:¬67108864<blen (val r3):=by omega
  have n4:¬67108864<blen (val r4):=by omega
  obtain⟨wv,hwv,hbv,hxv⟩:=aI t2 (.cells #[.slice a3 r3.length c3,.slice a4 r4.length c4] 25)
  have AB:=kF t2.heap.size _ _ r3 r4 wv hxv ((y1.arg (by omega)).below hbv) ((y2.arg (by omega)).below hbv)
  rw [decide_eq_false (by rintro (h|h);exact n3 h;exact n4 h)] at AB
  have hb0v:Below w0.heap.size w0 wv:=ae hb02 hbv
  obtain⟨m0,m1⟩:=duo (ac hb0v H0.out)
  obtain⟨m2,m3⟩:=duo (ac hb0v H1.out)
  have OT:=o9 ba bb _ _ _ _ X Y r3 r4 wv (HA.out.below hb0v) (HB.out.below hb0v) ((y1.arg (by omega)).below hbv) ((y2.arg (by omega)).below hbv) (HT.out.below hb0v) HY0.out HL.out.1 (by omega) (fun r hr ht=>by
   have h1:=jI (val X) (val r4)
   rw [←hr] at h1
   have h2:=HBL.out.1
   have h3:=few_limbs r 2097152 (by omega)
   rw [ht] at h3
   omega) (by omega) HL.out.2
  have HN:=aa (ra ba bb (val X) (val Y) (val r4) HY0.out y5)
  rw [y3] at OT
  obtain⟨G,hG⟩:∃G,Nat.gcd (val Y) (er ba (val X) (val Y))=G:=⟨_,rfl⟩
  rw [hG] at OT HN y3
  obtain⟨zy,hzy⟩:∃zy,oth ba bb (val X) (val Y) G (val r4)=zy:=⟨_,rfl⟩
  rw [hzy] at OT HN
  have hs1:w.heap.size≤t1.heap.size:=by have:=g1.size;have:=HB0.out.size;exact Nat.le_trans HB0.out.size g1.size
  have HA3:=aa ((y1.below hbv).base hs1)
  have HA4:=aa ((y2.below hbv).base hs1)
  have HV:=aa (And.intro y3 (And.intro y4 (And.intro y6 y7)))
  have HBV:=aa hb0v
  clear P1 P2 KS g0 g1 g2 hb1 hb2 x1 x2 x3 y1 y2 y3 y4 y5 y6 y7 n3 n4 hbv hxv hb0v hb02 hG hzy hs1 l3 l4 b3 b4 HA HB HT k0 k1 k2 k3
  go_wp2_with fail
  refine AB.mono ?_
  rintro e wn ⟨rfl,hw⟩;rw [hw];clear hw wn AB
  go_wp2_with fail
  clear hwv m0 m1 m2 m3
  refine OT.mono ?_
  rintro e t5 ⟨⟨b5,a5,n5,k5,r5,rfl,hb5z,hA5,hv5,ht5⟩,hb5⟩
  obtain⟨t6,ht6,hb6,hx6⟩:=aI t5 (.cells #[.bool false,.slice none 0 0] 27)
  obtain⟨z0,z1⟩:=duo hx6
  have zf:=aB hx6
  have R7:=aF (a':=.bool b5) (b':=.slice a5 n5 k5) hx6
  have hb7:Below t5.heap.size t5 ((t6.setCell ⟨t5.heap.size,0,none⟩ (.bool b5)).setCell ⟨t5.heap.size,1,none⟩ (.slice a5 n5 k5)):=aE hb6 (Nat.le_refl _)
  obtain⟨t8,ht8,hb8,hx8⟩:=aI ((t6.setCell ⟨t5.heap.size,0,none⟩ (.bool b5)).setCell ⟨t5.heap.size,1,none⟩ (.slice a5 n5 k5)) (.cells #[.slice a5 n5 k5] 25)
  have hb58:Below t5.heap.size t5 t8:=ae hb7 hb8
  have R8:=ac hb8 R7
  have hx8':t8.heap[t6.heap.size]?=some (.cells #[.slice a5 n5 k5] 25):=by simpa using hx8
  have b5':blen (val r5)≤67108864:=kQ HBL.out.1 (by have h1:=HN.out.ly;rw [aJ] at h1;rw [hv5];exact h1)
  have l5:=cz ht5 b5'
  have n5':¬67108864<blen (val r5):=by omega
  have AB:=ip t6.heap.size _ r5 t8 hx8' ((hA5.below hb58).arg (by omega))
  rw [decide_eq_false n5'] at AB
  have HA5:=aa ((hA5.below hb58).base (Nat.le_trans HB0.out.size HBV.out.size))
  have HP5:=aa (show Ap (.slice a3 r3.length c3) (.slice a5 n5 k5)∧Ap (.slice a4 r4.length c4) (.slice a5 n5 k5) from ⟨gR HA3.out hA5,gR HA4.out hA5⟩)
  have HV5:=aa (And.intro hb5z (And.intro hv5 ht5))
  have HBX:=aa (ae (ae HBV.out hb5) hb58)
  have HB5:=aa (ae hb5 hb58)
  have HR8:=aa R8
  have HNE:=aa (show w.heap.size+1+1≠t5.heap.size∧w.heap.size+1+1+1≠t5.heap.size by
   have h1:=aY HR.out.2.2
   have h2:=HBV.out.size
   have h3:=hb5.size
   omega)
  clear hb5z hA5 hv5 ht5 hb5 hb6 hx6 hb7 hb8 hx8 hx8' hb58 R8 n5' l5 b5' OT
  go_wp2_with fail
  refine AB.mono ?_
  rintro e wn ⟨rfl,hw⟩;rw [hw];clear hw wn AB
  clear ht6 ht8 z0 z1 zf R7
  have g0:Below t8.drew.heap.size t8.drew t8.drew:=Below.refl _ _
  have gw:∀W,Below t8.drew.heap.size t8.drew W→Below t8.heap.size t8 W:=fun W h=>dg h
  obtain⟨u1,hu1⟩:∃u1,decide ((G:Int)<0)=u1:=⟨_,rfl⟩
  obtain⟨u2,hu2⟩:∃u2,decide (((val r4:Nat):Int)<0)=u2:=⟨_,rfl⟩
  have S1:=aa (fun (W:World) (hg:Below t8.drew.heap.size t8.drew W)=>show Calls Tryz.prog 47 #[.bool false,.slice a3 r3.length c3] W fun e w'=>e=.returned (.agg #[.bool u1,.slice a3 r3.length c3])∧Below W.heap.size W w' by
   have h:=dA false _ r3 w.heap.size W G (G:Int) rfl ((HA3.out.below HB5.out).below (gw W hg)) HV.out.1 HV.out.2.1
   rw [hu1] at h
   exact h)
  have S2:=aa (fun (W:World) (hg:Below t8.drew.heap.size t8.drew W)=>show Calls Tryz.prog 47 #[.bool false,.slice a4 r4.length c4] W fun e w'=>e=.returned (.agg #[.bool u2,.slice a4 r4.length c4])∧Below W.heap.size W w' by
   have h:=dA false _ r4 w.heap.size W (val r4) ((val r4:Nat):Int) rfl ((HA4.out.below HB5.out).below (gw W hg)) rfl HV.out.2.2.1
   rw [hu2] at h
   exact h)
  have KY:=aa (fun (W:World) (hg:Below t8.drew.heap.size t8.drew W)=>show W.heap[t5.heap.size]?=some (.cells #[.bool b5,.slice a5 n5 k5] 27) from ac (gw W hg) HR8.out)
  have KR:=aa (fun (W:World) (hg:Below t8.drew.heap.size t8.drew W)=>show W.heap[w.heap.size+1+1]?=some (.cells #[.bool false,.slice none 0 0] 27)∧W.heap[w.heap.size+1+1+1]?=some (.cells #[.bool false,.slice none 0 0] 27)∧W.heap[w.heap.size+1+1+1+1]?=some (.cells #[.bool false,.slice none 0 0] 27) from
   ⟨ac (gw W hg) (ac HBX.out HR.out.1),ac (gw W hg) (ac HBX.out HR.out.2.1),ac (gw W hg) (ac HBX.out HR.out.2.2)⟩)
  obtain⟨q0,q1⟩:=duo (KY.out _ g0)
  have HU:=aa (And.intro hu1 hu2)
  clear hu1 hu2 gw
  go_wp2
  go_region_with (first
   | (go_at_call 47;refine (S2.out t10 g1).mono ?_;rintro e' t11 ⟨rfl,hb11⟩;have g2:=bt6 g1 hb11;obtain⟨q4,q5⟩:=duo (KY.out _ g2);have y2:((t11.setCell ⟨w.heap.size+1+1,0,none⟩ (.bool u1)).setCell ⟨w.heap.size+1+1,1,none⟩ (.slice a3 r3.length c3)).cell? ⟨t5.heap.size,0,none⟩=some (.bool b5):=(by rw [aT HNE.out.1,aT HNE.out.1];exact q4);have y3:((t11.setCell ⟨w.heap.size+1+1,0,none⟩ (.bool u1)).setCell ⟨w.heap.size+1+1,1,none⟩ (.slice a3 r3.length c3)).cell? ⟨t5.heap.size,1,none⟩=some (.slice a5 n5 k5):=(by rw [aT HNE.out.1,aT HNE.out.1];exact q5);have y4:((((t11.setCell ⟨w.heap.size+1+1,0,none⟩ (.bool u1)).setCell ⟨w.heap.size+1+1,1,none⟩ (.slice a3 r3.length c3)).setCell ⟨w.heap.size+1+1+1,0,none⟩ (.bool u2)).setCell ⟨w.heap.size+1+1+1,1,none⟩ (.slice a4 r4.length c4)).cell? ⟨t5.heap.size,0,none⟩=some (.bool b5):=(by rw [aT HNE.out.2,aT HNE.out.2,aT HNE.out.1,aT HNE.out.1];exact q4);have y5:((((t11.setCell ⟨w.heap.size+1+1,0,none⟩ (.bool u1)).setCell ⟨w.heap.size+1+1,1,none⟩ (.slice a3 r3.length c3)).setCell ⟨w.heap.size+1+1+1,0,none⟩ (.bool u2)).setCell ⟨w.heap.size+1+1+1,1,none⟩ (.slice a4 r4.length c4)).cell? ⟨t5.heap.size,1,none⟩=some (.slice a5 n5 k5):=(by rw [aT HNE.out.2,aT HNE.out.2,aT HNE.out.1,aT HNE.out.1];exact q5);obtain⟨x1,x2,x3⟩:=KR.out _ g2;have f1:=aB x1;have f2:=aB x2;have f3:=aB x3;obtain⟨e0,e1⟩:=duo x1;obtain⟨e2,e3⟩:=duo x2;obtain⟨e4,e5⟩:=duo x3)
   | (go_at_call 47;refine (S1.out _ g0).mono ?_;rintro e' t10 ⟨rfl,hb10⟩;have g1:=bt6 g0 hb10;obtain⟨q2,q3⟩:=duo (KY.out _ g1)))
  all_goals
   have hbt:Below t8.heap.size t8 t11:=dg g2
   have HX:=aa (And.intro x1 (And.intro x2 (And.intro x3 hbt)))
   clear g0 g1 g2 hb10 hb11 hbt q0 q1 q2 q3 q4 q5 y2 y3 y4 y5 KY KR S1 S2 x1 x2 x3
   go_wp2
   have hq:=gT (u0:=.bool u1) (u1:=.slice a3 r3.length c3) (u2:=.bool u2) (u3:=.slice a4 r4.length c4) (u4:=.bool b5) (u5:=.slice a5 n5 k5) HX.out.1 HX.out.2.1 HX.out.2.2.1
   have HE:=aa (And.intro (hq.2.2.2.1 _ _ _ ((HA3.out.below HB5.out).below HX.out.2.2.2)) (And.intro (hq.2.2.2.1 _ _ _ ((HA4.out.below HB5.out).below HX.out.2.2.2)) (And.intro (hq.2.2.2.1 _ _ _ (HA5.out.below HX.out.2.2.2)) (hq.2.2.2.2 w.heap.size w (by omega) (ae (ae HB0.out HBX.out) HX.out.2.2.2)))))
   obtain⟨R5,R6,R7,_,_⟩:=hq
   generalize (((((t11.setCell ⟨w.heap.size+1+1,0,none⟩ (.bool u1)).setCell ⟨w.heap.size+1+1,1,none⟩ (.slice a3 r3.length c3)).setCell ⟨w.heap.size+1+1+1,0,none⟩ (.bool u2)).setCell ⟨w.heap.size+1+1+1,1,none⟩ (.slice a4 r4.length c4)).setCell ⟨w.heap.size+1+1+1+1,0,none⟩ (.bool b5)).setCell ⟨w.heap.size+1+1+1+1,1,none⟩ (.slice a5 n5 k5)=w12 at *
   obtain⟨p0,p1⟩:=duo R5
   obtain⟨p2,p3⟩:=duo R6
   obtain⟨p4,p5⟩:=duo R7
   refine bodyPost_ret (v:=.tuple #[.agg #[.bool u1,.slice a3 r3.length c3],.agg #[.bool u2,.slice a4 r4.length c4],.agg #[.bool b5,.slice a5 n5 k5],.int .i64 0]) (by simp [results,Tryz.results9,go_sem,p0,p1,p2,p3,p4,p5]) rfl ?_
   exact⟨⟨G,((val r4:Nat):Int),zy,_,_,_,_,_,_,_,_,_,_,_,_,rfl,⟨r3,HE.out.1,HU.out.1.symm,by rw [Int.natAbs_natCast];exact HV.out.1,HV.out.2.1⟩,⟨r4,HE.out.2.1,HU.out.2.symm,(Int.natAbs_natCast _).symm,HV.out.2.2.1⟩,⟨r5,HE.out.2.2.1,HV5.out⟩,HV.out.2.2.2,HP5.out.1,HP5.out.2,HN.out⟩,HE.out.2.2.2⟩

theorem nu (ba bb:Bool)(va vb:Value)(X Y:List Nat)(w:World)(hA:Arg w va X)(hB:Arg w vb Y)(lX:X.length≤17592186043904)(bX:blen (val X)≤67108864)(hy0:val Y=0) :
  Calls Tryz.prog 9 #[.agg #[.bool ba,va],.agg #[.bool bb,vb]] w (gI (zz ba (val X)) (zz bb (val Y)) w):=by
 obtain⟨a1,c1,rfl,_,_,_⟩:=hA.form
 obtain⟨a2,c2,rfl,_,_,_⟩:=hB.form
 obtain⟨w0,hw0,hb0,h0,h1,h2,h3,h4⟩:=jl w (.cells #[.bool ba,.slice a1 X.length c1] 27) (.cells #[.bool bb,.slice a2 Y.length c2] 27) (.cells #[.bool false,.slice none 0 0] 27) (.cells #[.bool false,.slice none 0 0] 27) (.cells #[.bool false,.slice none 0 0] 27)
 obtain⟨k0,k1⟩:=duo h0
 obtain⟨k2,k3⟩:=duo h1
 have C:=e8 _ Y w0 (hB.below hb0)
 rw [decide_eq_true hy0] at C
 have CA:=m5 ba _ X w0 (hA.below hb0) (by omega)
 have HN:Hid (d6 (zz ba (val X)) (zz bb (val Y)) (val X) (zz ba (val X)).sign 0):=by rw [hy0];exact aa (oN ba bb (val X))
 have hfit:¬67108864<blen (val X):=by omega
 have H0:=aa h0
 have HR:=aa (And.intro h2 (And.intro h3 h4))
 have HB0:=aa hb0
 have HA:=aa (hA.below hb0)
 have HF:=aa hfit
 clear hA hB hb0 h0 h1 h2 h3 h4 hy0 lX bX hfit
 go_enter Tryz.func9,Tryz.ntmps9
 go_wp2_with fail
 refine C.mono ?_
 rintro e wn ⟨rfl,hw⟩;rw [hw];clear hw wn C
 go_wp2_with fail
 refine CA.mono ?_
 rintro e t5 ⟨⟨b5,a5,n5,k5,c5,rfl,r5,hA5,hcase⟩,hb5⟩
 obtain⟨rfl,hb5z,hv5,ht5⟩:c5=0∧b5=decide (zz false (val X)<0)∧val r5=(zz false (val X)).natAbs∧tr r5=r5:=by
  rcases hcase with ⟨h1,h2,h3,h4,_⟩|⟨_,_,_,_,h⟩
  ·exact⟨h1,h2,h3,h4⟩
  ·rw [aJ] at h
   exact absurd h HF.out
 obtain⟨t6,ht6,hb6,hx6⟩:=aI t5 (.cells #[.bool false,.slice none 0 0] 27)
 obtain⟨z0,z1⟩:=duo hx6
 have zf:=aB hx6
 have R7:=aF (a':=.bool b5) (b':=.slice a5 n5 k5) hx6
 have hb7:Below t5.heap.size t5 ((t6.setCell ⟨t5.heap.size,0,none⟩ (.bool b5)).setCell ⟨t5.heap.size,1,none⟩ (.slice a5 n5 k5)):=aE hb6 (Nat.le_refl _)
 have HA5:=aa ((hA5.below hb7).base HB0.out.size)
 have HV5:=aa (And.intro hb5z (And.intro hv5 ht5))
 have HBX:=aa (ae hb5 hb7)
 have HR7:=aa R7
 clear hA5 hb5z hv5 ht5 hb5 hb6 hx6 hb7 hcase CA k2 k3
 obtain⟨t7,ht7⟩:∃t7,(t6.setCell ⟨t5.heap.size,0,none⟩ (.bool b5)).setCell ⟨t5.heap.size,1,none⟩ (.slice a5 n5 k5)=t7:=⟨_,rfl⟩
 rw [ht7] at R7 HA5 HBX HR7
 go_wp2_with fail
 clear ht6 ht7 z0 z1 zf R7 k0 k1
 have g0:Below t7.drew.heap.size t7.drew t7.drew:=Below.refl _ _
 have gw:∀W,Below t7.drew.heap.size t7.drew W→Below t7.heap.size t7 W:=fun W h=>dg h
 obtain⟨s0,hs0⟩:∃s0,sg ba (val X)=s0:=⟨_,rfl⟩
 have hs1:-1≤s0∧s0≤1:=by rw [←hs0];unfold sg;split <;> (try split) <;> omega
 have HSG:=aa hs0
 have CS:=aa (fun (W:World) (hg:Below t7.drew.heap.size t7.drew W)=>show Calls Tryz.prog 42 #[.agg #[.bool ba,.slice a1 X.length c1]] W fun e w'=>e=.returned (.int .i64 s0)∧Below W.heap.size W w' by
  have h:=dJ ba _ X W ((HA.out.below HBX.out).below (gw W hg))
  rw [hs0] at h
  exact h)
 have CO:=aa (fun (W:World)=>ow s0 W (by omega) (by omega))
 have KG:=aa (fun (W:World) (hg:Below t7.drew.heap.size t7.drew W)=>show W.heap[t5.heap.size]?=some (.cells #[.bool b5,.slice a5 n5 k5] 27) from ac (gw W hg) HR7.out)
 have KR:=aa (fun (W:World) (hg:Below t7.drew.heap.size t7.drew W)=>show W.heap[w.heap.size+1+1]?=some (.cells #[.bool false,.slice none 0 0] 27)∧W.heap[w.heap.size+1+1+1]?=some (.cells #[.bool false,.slice none 0 0] 27)∧W.heap[w.heap.size+1+1+1+1]?=some (.cells #[.bool false,.slice none 0 0] 27) from
   ⟨ac (gw W hg) (ac HBX.out HR.out.1),ac (gw W hg) (ac HBX.out HR.out.2.1),ac (gw W hg) (ac HBX.out HR.out.2.2)⟩)
 obtain⟨k0,k1⟩:=duo (ac (gw _ g0) (ac HBX.out H0.out))
 obtain⟨q0,q1⟩:=duo (KG.out _ g0)
 clear hs0 hs1 gw
 go_wp2
 go_region_with (first
  | (go_at_call 42;refine (CS.out _ g0).mono ?_;rintro e' t9 ⟨rfl,hb9⟩;have g1:=bt6 g0 hb9;obtain⟨q2,q3⟩:=duo (KG.out _ g1))
  | (go_at_call 41;refine (CO.out t9).mono ?_;rintro e' t11 ⟨⟨b6,a6,n6,k6,rfl,hz6⟩,hb11⟩;have g2:=bt6 g1 hb11;obtain⟨q4,q5⟩:=duo (KG.out _ g2);obtain⟨x1,x2,x3⟩:=KR.out _ g2;have f1:=aB x1;have f2:=aB x2;have f3:=aB x3;obtain⟨e0,e1⟩:=duo x1;obtain⟨e2,e3⟩:=duo x2;obtain⟨e4,e5⟩:=duo x3))
 all_goals
  have hbt:Below t7.heap.size t7 t11:=dg g2
  have hbt1:Below t7.heap.size t7 t9:=dg g1
  have HX:=aa (And.intro x1 (And.intro x2 (And.intro x3 hbt)))
  obtain⟨r6,z1,z2⟩:=hz6
  have HAP:=aa (gR (HA5.out.below hbt1) z1)
  have HA6:=aa (And.intro (z1.base (Nat.le_trans (Nat.le_trans HB0.out.size HBX.out.size) hbt1.size)) z2)
  clear g0 g1 g2 hb9 hb11 hbt hbt1 q0 q1 q2 q3 q4 q5 KG KR CS CO x1 x2 x3 z1 z2 k0 k1
  go_wp2
  have hq:=gT (u0:=.bool b5) (u1:=.slice a5 n5 k5) (u2:=.bool b6) (u3:=.slice a6 n6 k6) (u4:=.bool false) (u5:=.slice none 0 0) HX.out.1 HX.out.2.1 HX.out.2.2.1
  have HE:=aa (And.intro (hq.2.2.2.1 _ _ _ (HA5.out.below HX.out.2.2.2)) (And.intro (hq.2.2.2.1 _ _ _ HA6.out.1) (hq.2.2.2.2 w.heap.size w (by omega) (ae (ae HB0.out HBX.out) HX.out.2.2.2))))
  obtain⟨R5,R6,R7,_,_⟩:=hq
  generalize (((((t11.setCell ⟨w.heap.size+1+1,0,none⟩ (.bool b5)).setCell ⟨w.heap.size+1+1,1,none⟩ (.slice a5 n5 k5)).setCell ⟨w.heap.size+1+1+1,0,none⟩ (.bool b6)).setCell ⟨w.heap.size+1+1+1,1,none⟩ (.slice a6 n6 k6)).setCell ⟨w.heap.size+1+1+1+1,0,none⟩ (.bool false)).setCell ⟨w.heap.size+1+1+1+1,1,none⟩ (.slice none 0 0)=w12 at *
  obtain⟨p0,p1⟩:=duo R5
  obtain⟨p2,p3⟩:=duo R6
  obtain⟨p4,p5⟩:=duo R7
  refine bodyPost_ret (v:=.tuple #[.agg #[.bool b5,.slice a5 n5 k5],.agg #[.bool b6,.slice a6 n6 k6],.agg #[.bool false,.slice none 0 0],.int .i64 0]) (by simp [results,Tryz.results9,go_sem,p0,p1,p2,p3,p4,p5]) rfl ?_
  refine⟨⟨val X,(zz ba (val X)).sign,0,_,_,_,_,_,_,_,_,_,_,_,_,rfl,⟨r5,HE.out.1,HV5.out⟩,⟨r6,HE.out.2.1,?_⟩,⟨[],Ans.nil _ _,rfl,rfl,rfl⟩,HAP.out,fun k e=>by simp [Value.ownBlock],fun k e=>by simp [Value.ownBlock],HN.out⟩,HE.out.2.2⟩
  rw [←fC,HSG.out]
  exact HA6.out.2

def fF (az mz:Int)(w':World)(base:Nat)(b:Bool)(a:Option Addr)(n k:Nat)(c:Int):Prop:=
 (mz=0∧c=30∧b=false∧a=none∧n=0∧k=0) ∨
 (mz≠0∧Nat.gcd az.natAbs mz.natAbs≠1∧c=61∧b=false∧a=none∧n=0∧k=0) ∨
 (mz≠0∧Nat.gcd az.natAbs mz.natAbs=1∧c=0∧∃x:Nat,ZA w' base b (.slice a n k) (x:Int)∧x<mz.natAbs∧∃q:Int,az*(x:Int)=1+q*mz)

def pc (az mz:Int)(w:World)(e:Ending)(w':World):Prop:=
 (∃(b:Bool) (a:Option Addr) (n k:Nat) (c:Int),e=.returned (.tuple #[.agg #[.bool b,.slice a n k],.int .i64 c])∧fF az mz w' w.heap.size b a n k c)∧Below w.heap.size w w'

theorem ij {b:Bool}{B:Nat}(h:0<B):zz b B≠0:=fun e=>by
 have:=aJ b B
 rw [e] at this
 simp at this
 omega

theorem pX (ba bm:Bool)(A M x:Nat)(hM:0<M)(hg:Nat.gcd M (er ba A M)=1)(hi:IsInv M (er ba A M) (Nat.gcd M (er ba A M)) x):x<M∧∃q:Int,zz ba A*(x:Int)=1+q*zz bm M:=by
 refine⟨fG hi hM (by rw [hg];exact Nat.one_pos),?_⟩
 obtain⟨k,hk⟩:=hi.eq
 obtain⟨l,hl⟩:=gN ba A M hM
 rw [hg] at hk
 cases bm
 ·refine⟨k+l*x,?_⟩
  have e:zz false M=(M:Int):=rfl
  rw [hl,e]
  grind
 ·refine⟨-(k+l*x),?_⟩
  have e:zz true M=-(M:Int):=rfl
  rw [hl,e]
  grind

theorem qa (ba bm:Bool)(va vm:Value)(X M:List Nat)(w:World)(hA:Arg w va X)(hM:Arg w vm M)(hT:Tab w)(lX:X.length≤17592186043904)(lM:M.length≤17592186043904)(bM:blen (val M)≤67108864) :
  Calls Tryz.prog 15 #[.agg #[.bool ba,va],.agg #[.bool bm,vm]] w (pc (zz ba (val X)) (zz bm (val M)) w):=by
 obtain⟨a1,c1,rfl,_,_,_⟩:=hA.form
 obtain⟨a2,c2,rfl,_,_,_⟩:=hM.form
 obtain⟨w0,hw0,hb0,h0,h1,h2⟩:=dr w (.cells #[.bool ba,.slice a1 X.length c1] 27) (.cells #[.bool bm,.slice a2 M.length c2] 27) (.cells #[.bool false,.slice none 0 0] 27)
 obtain⟨k0,k1⟩:=duo h0
 obtain⟨k2,k3⟩:=duo h1
 have C:=e8 _ M w0 (hM.below hb0)
 have H0:=aa h0
 have H1:=aa h1
 have H2:=aa h2
 have HB0:=aa hb0
 have HA:=aa (hA.below hb0)
 have HM:=aa (hM.below hb0)
 have HT:=aa (hT.below hb0)
 have HL:=aa (And.intro lX (And.intro lM bM))
 clear hA hM hT hb0 h0 h1 h2 lX lM bM
 by_cases hm0:val M=0
 ·rw [decide_eq_true hm0] at C
  have HZA:=aa (fun (t:World) (u0 u1:Value) (_:t.heap[w.heap.size+2]?=some (.cells #[.bool false,.slice none 0 0] 27))=>show fF (zz ba (val X)) (zz bm (val M)) ((t.setCell ⟨w.heap.size+2,0,none⟩ u0).setCell ⟨w.heap.size+2,1,none⟩ u1) w.heap.size false none 0 0 30 from .inl ⟨by rw [hm0];exact gC bm,rfl,rfl,rfl,rfl,rfl⟩)
  clear hm0
  go_enter Tryz.func15,Tryz.ntmps15
  go_wp2_with fail
  refine C.mono ?_
  rintro e wn ⟨rfl,hw⟩;rw [hw];clear hw wn C
  have HBX:=H2
  have HBE:=HB0
  have hbx:=HBX.out
  have hf1:=aB hbx
  obtain⟨l0,l1⟩:=duo hbx
  clear hbx
  go_wp2
  have R5:=aF HBX.out (a':=.bool false) (b':=.slice none 0 0)
  have HD:=aa (And.intro (HZA.out w0 (.bool false) (.slice none 0 0) HBX.out) (aE HBE.out (g:=w.heap.size+2) (u0:=.bool false) (u1:=.slice none 0 0) (by omega)))
  generalize (w0.setCell ⟨w.heap.size+2,0,none⟩ (.bool false)).setCell ⟨w.heap.size+2,1,none⟩ (.slice none 0 0)=w5 at *
  obtain⟨q0,q1⟩:=duo R5
  refine bodyPost_ret (v:=.tuple #[.agg #[.bool false,.slice none 0 0],.int .i64 30]) (by simp [results,Tryz.results15,go_sem,q0,q1]) rfl ?_
  exact⟨⟨_,_,_,_,_,rfl,HD.out.1⟩,HD.out.2⟩
 ·rw [decide_eq_false hm0] at C
  have hm1:0<val M:=by omega
  have HY0:=aa hm1
  clear hm0 hm1
  go_enter Tryz.func15,Tryz.ntmps15
  go_wp2_with fail
  refine C.mono ?_
  rintro e wn ⟨rfl,hw⟩;rw [hw];clear hw wn C
  have g0:Below w0.drew.heap.size w0.drew w0.drew:=Below.refl _ _
  have P2:=aa (fun (W:World) (v1:Value) (r1:List Nat) (hg:Below w0.drew.heap.size w0.drew W) (h1:Ans W w0.drew.heap.size v1 r1) (hv:val r1=er ba (val X) (val M)) (ht:tr r1=r1)=>
   show Calls Tryz.prog 43 #[v1,.slice a2 M.length c2] W (cZ (val M) (er ba (val X) (val M)) W) by
    have hlt:=jF ba (val X) (val M) HY0.out
    have hl:r1.length≤M.length:=bW ht (by rw [hv];exact Nat.lt_trans hlt (val_lt HM.out.limbs))
    have hl2:=HL.out.2.1
    have h:=jw v1 _ r1 M W (h1.arg (by omega)) ((HM.out.below (Below.refl _ _).drew).below hg) ((HT.out.below (Below.refl _ _).drew).below hg) (by rw [hv];exact hlt) (by omega) (by omega)
    rw [hv] at h
    exact h)
  have P1:=iO ba _ X _ M w0.drew (HA.out.below (Below.refl _ _).drew) (HM.out.below (Below.refl _ _).drew) (HT.out.below (Below.refl _ _).drew) (by have:=HL.out;omega) (by have:=HL.out;omega) HY0.out
  have KS:=aa (fun (W:World) (hg:Below w0.drew.heap.size w0.drew W)=>show W.cell? ⟨w.heap.size,0,none⟩=some (.bool ba)∧W.cell? ⟨w.heap.size,1,none⟩=some (.slice a1 X.length c1)∧W.cell? ⟨w.heap.size+1,1,none⟩=some (.slice a2 M.length c2) from
   ⟨(duo (ac hg (show w0.drew.heap[w.heap.size]?=some (.cells #[.bool ba,.slice a1 X.length c1] 27) from H0.out))).1,(duo (ac hg (show w0.drew.heap[w.heap.size]?=some (.cells #[.bool ba,.slice a1 X.length c1] 27) from H0.out))).2,(duo (ac hg (show w0.drew.heap[w.heap.size+1]?=some (.cells #[.bool bm,.slice a2 M.length c2] 27) from H1.out))).2⟩)
  go_wp2
  go_region_held3 (fun w'=>w'.cell? ⟨w.heap.size,0,none⟩=some (.bool ba)∧w'.cell? ⟨w.heap.size,1,none⟩=some (.slice a1 X.length c1)∧w'.cell? ⟨w.heap.size+1,1,none⟩=some (.slice a2 M.length c2)) (first|with_reducible exact KS.out _ g2|with_reducible exact KS.out _ g1|with_reducible exact KS.out _ g0) (first
   | (go_at_call 44;refine P1.mono ?_;rintro e' t1 ⟨⟨v1,r1,rfl,x1,x2,x3⟩,hb1⟩;have g1:=bt6 g0 hb1;obtain⟨a8,k8,rfl⟩:=x1.shape)
   | (go_at_call 43;refine (P2.out t1 _ r1 g1 x1 x2 x3).mono ?_;rintro e' t2 ⟨⟨v3,v4,r3,r4,rfl,y1,y2,y3,y4,y5,y6,y7⟩,hb2⟩;have g2:=bt6 g1 hb2;obtain⟨a3,c3,rfl⟩:=y1.shape;obtain⟨a4,c4,rfl⟩:=y2.shape))
  all_goals
   have hb02:Below w0.heap.size w0 t2:=dg g2
   have b3:blen (val r3)≤67108864:=Nat.le_trans (cG (by rw [y3];exact Nat.gcd_le_left _ HY0.out)) HL.out.2.2
   have b4:blen (val r4)≤67108864:=Nat.le_trans (cG (Nat.le_of_lt (fG y5 HY0.out (Nat.gcd_pos_of_pos_left _ HY0.out)))) HL.out.2.2
   have l3:=cz y4 b3
   have l4:=cz y6 b4
   have n4:¬67108864<blen (val r4):=by omega
   have C:=nZ _ r3 t2 (y1.arg (by omega)) y4
   have hs1:w.heap.size≤t1.heap.size:=Nat.le_trans HB0.out.size g1.size
   have hgc:Nat.gcd (zz ba (val X)).natAbs (zz bm (val M)).natAbs=Nat.gcd (val M) (er ba (val X) (val M)):=by rw [aJ,aJ];exact (jo ba (val X) (val M) HY0.out).symm
   have HA4:=aa (And.intro (y2.base hs1) (And.intro y6 (And.intro l4 n4)))
   have HI:=aa y5
   have HGC:=aa hgc
   have HBV:=aa hb02
   rw [y3] at C
   clear P1 P2 KS g0 g1 g2 hb1 hb2 x1 x2 x3 y1 y2 y3 y4 y5 y6 y7 n4 hb02 hs1 l3 l4 b3 b4 HA HM HT k0 k1 k2 k3
   by_cases hone:Nat.gcd (val M) (er ba (val X) (val M))=1
   ·rw [decide_eq_true hone] at C
    have HQ:=aa (pX ba bm (val X) (val M) (val r4) HY0.out hone HI.out)
    have HG1:=aa (hgc.trans hone)
    clear hone hgc HI
    go_wp2_with fail
    refine C.mono ?_
    rintro e t3 ⟨rfl,hb3⟩
    obtain⟨t4,ht4,hb4,hx4⟩:=aI t3 (.cells #[.slice a4 r4.length c4] 25)
    have hb34:=ae hb3 hb4
    have HA4b:=aa (And.intro (HA4.out.1.below hb34) HA4.out.2)
    have AB:=ip t3.heap.size _ r4 t4 hx4 (HA4b.out.1.arg (by have:=HA4b.out.2.2.1;omega))
    rw [decide_eq_false HA4b.out.2.2.2] at AB
    have HB4:=aa (ae HBV.out hb34)
    clear hb3 hb4 hx4 hb34 C HA4 HBV
    go_wp2_with fail
    refine AB.mono ?_
    rintro e wn ⟨rfl,hw⟩;rw [hw];clear hw wn AB ht4
    have C:=dA false _ r4 w.heap.size t4 (val r4) ((val r4:Nat):Int) rfl HA4b.out.1 rfl HA4b.out.2.1
    obtain⟨u2,hu2⟩:∃u2,decide (((val r4:Nat):Int)<0)=u2:=⟨_,rfl⟩
    rw [hu2] at C
    have HU:=aa hu2
    clear hu2
    go_wp2_with fail
    refine C.mono ?_
    rintro e t5 ⟨rfl,hb5⟩
    have HBX:=aa (ac (ae HB4.out hb5) H2.out)
    have HBE:=aa (ae HB0.out (ae HB4.out hb5))
    have HA5:=aa (HA4b.out.1.below hb5)
    have HZA:=aa (fun (t:World) (u0 u1:Value) (ht:t5.heap[w.heap.size+2]?=some (.cells #[.bool false,.slice none 0 0] 27))=>show fF (zz ba (val X)) (zz bm (val M)) ((t5.setCell ⟨w.heap.size+2,0,none⟩ u0).setCell ⟨w.heap.size+2,1,none⟩ u1) w.heap.size u2 a4 r4.length c4 0 from .inr (.inr ⟨ij HY0.out,HG1.out,rfl,val r4,⟨r4,HA5.out.duo ht,HU.out.symm,(Int.natAbs_natCast _).symm,HA4b.out.2.1⟩,by rw [aJ];exact HQ.out.1,HQ.out.2⟩))
    clear C hb5
    have hbx:=HBX.out
    have hf1:=aB hbx
    obtain⟨l0,l1⟩:=duo hbx
    clear hbx
    go_wp2
    have R5:=aF HBX.out (a':=.bool u2) (b':=.slice a4 r4.length c4)
    have HD:=aa (And.intro (HZA.out t5 (.bool u2) (.slice a4 r4.length c4) HBX.out) (aE HBE.out (g:=w.heap.size+2) (u0:=.bool u2) (u1:=.slice a4 r4.length c4) (by omega)))
    generalize (t5.setCell ⟨w.heap.size+2,0,none⟩ (.bool u2)).setCell ⟨w.heap.size+2,1,none⟩ (.slice a4 r4.length c4)=w5 at *
    obtain⟨q0,q1⟩:=duo R5
    refine bodyPost_ret (v:=.tuple #[.agg #[.bool u2,.slice a4 r4.length c4],.int .i64 0]) (by simp [results,Tryz.results15,go_sem,q0,q1]) rfl ?_
    exact⟨⟨_,_,_,_,_,rfl,HD.out.1⟩,HD.out.2⟩
   ·rw [decide_eq_false hone] at C
    have HG1:=aa (fun e=>hone (hgc.symm.trans e))
    have HZA:=aa (fun (t:World) (u0 u1:Value) (_:t.heap[w.heap.size+2]?=some (.cells #[.bool false,.slice none 0 0] 27))=>show fF (zz ba (val X)) (zz bm (val M)) ((t.setCell ⟨w.heap.size+2,0,none⟩ u0).setCell ⟨w.heap.size+2,1,none⟩ u1) w.heap.size false none 0 0 61 from .inr (.inl ⟨ij HY0.out,HG1.out,rfl,rfl,rfl,rfl,rfl⟩))
    clear hone hgc HI
    go_wp2_with fail
    refine C.mono ?_
    rintro e t3 ⟨rfl,hb3⟩
    have HBX:=aa (ac (ae HBV.out hb3) H2.out)
    have HBE:=aa (ae HB0.out (ae HBV.out hb3))
    clear C hb3 HA4 HBV
    have hbx:=HBX.out
    have hf1:=aB hbx
    obtain⟨l0,l1⟩:=duo hbx
    clear hbx
    go_wp2
    have R5:=aF HBX.out (a':=.bool false) (b':=.slice none 0 0)
    have HD:=aa (And.intro (HZA.out t3 (.bool false) (.slice none 0 0) HBX.out) (aE HBE.out (g:=w.heap.size+2) (u0:=.bool false) (u1:=.slice none 0 0) (by omega)))
    generalize (t3.setCell ⟨w.heap.size+2,0,none⟩ (.bool false)).setCell ⟨w.heap.size+2,1,none⟩ (.slice none 0 0)=w5 at *
    obtain⟨q0,q1⟩:=duo R5
    refine bodyPost_ret (v:=.tuple #[.agg #[.bool false,.slice none 0 0],.int .i64 61]) (by simp [results,Tryz.results15,go_sem,q0,q1]) rfl ?_
    exact⟨⟨_,_,_,_,_,rfl,HD.out.1⟩,HD.out.2⟩

theorem kc (b:Bool)(v:Value)(X:List Nat)(t:Bool)(u:Value)(Y:List Nat)(w:World)(hA:Arg w v X)(hB:Arg w u Y)(hf:X.length≤17592186044416)(hg:Y.length≤17592186044416) :
  Calls Tryz.prog 66 #[.agg #[.bool b,v],.bool t,u] w fun e w'=>di w' w.heap.size e (zz b (val X)+zz t (val Y))∧Below w.heap.size w w':=by
 obtain⟨a,n,rfl,_,_,_⟩:=hA.form
 obtain⟨a9,n9,rfl,_,_,_⟩:=hB.form
 cases b <;> cases t
 ·obtain⟨w0,hw0,hb0,h0,hx0⟩:=ct w (.cells #[.bool false,.slice a X.length n] 27) (.cells #[.bool false,.slice none 0 0] 27)
  obtain⟨k0,k1⟩:=duo h0
  have HB0:=aa hb0
  have HX0:=aa hx0
  have HK0:=aa h0
  have A0:=hA.below hb0
  have B0:=hB.below hb0
  have HWS:Hid (Below w0.heap.size w0 w0):=aa (Below.refl _ _)
  rw [jh]
  have HM:=jr _ _ X Y w0 A0 B0 (by omega) (by omega)
  clear hA hB hb0 h0 hx0 A0 B0
  go_enter Tryz.func66,Tryz.ntmps66
  go_wp2_with fail
  refine HM.mono ?_
  rintro e w1 ⟨hb1,v1,c0,rs,rfl,ha,hres⟩
  clear HM
  have hans:=dt false v1 rs c0 (val X+val Y) _ w1 ha hres
  obtain⟨a1,n1,rfl⟩:=ha.shape
  have HW1:=aa (HWS.out.trans (hb1.mono HWS.out.size))
  clear ha hres hb1
  go_wp2_with fail
  refine hans.mono ?_
  rintro e w2 ⟨⟨b1,a1,n1,k1,c1,rfl,hzr⟩,hb2⟩
  have HZR:=aa (hzr.base (Nat.le_trans HB0.out.size HWS.out.size))
  have HW:=aa (HW1.out.trans (hb2.mono HW1.out.size))
  clear hzr hb2 hans
  have hbx:=ac HW.out HX0.out
  have hf1:=aB hbx
  obtain⟨l0,l1⟩:=duo hbx
  have HBX:=aa hbx
  have HBE:=aa (HB0.out.trans (HW.out.mono HB0.out.size))
  clear hbx
  go_wp2
  have R5:=aF HBX.out (a':=.bool b1) (b':=.slice a1 n1 k1)
  have HD:=aa (And.intro (HZR.out.duo (u0:=.bool b1) (u1:=.slice a1 n1 k1) HBX.out) (aE HBE.out (g:=w.heap.size+1) (u0:=.bool b1) (u1:=.slice a1 n1 k1) (by omega)))
  generalize (w2.setCell ⟨w.heap.size+1,0,none⟩ (.bool b1)).setCell ⟨w.heap.size+1,1,none⟩ (.slice a1 n1 k1)=w5 at *
  obtain⟨q0,q1⟩:=duo R5
  refine bodyPost_ret (v:=.tuple #[.agg #[.bool b1,.slice a1 n1 k1],.int .i64 c1]) (by simp [results,Tryz.results66,go_sem,q0,q1]) rfl ?_
  exact⟨⟨_,_,_,_,_,rfl,HD.out.1⟩,HD.out.2⟩
 ·obtain⟨w0,hw0,hb0,h0,hx0⟩:=ct w (.cells #[.bool false,.slice a X.length n] 27) (.cells #[.bool false,.slice none 0 0] 27)
  obtain⟨k0,k1⟩:=duo h0
  have HB0:=aa hb0
  have HX0:=aa hx0
  have HK0:=aa h0
  have A0:=hA.below hb0
  have B0:=hB.below hb0
  have HWS:Hid (Below w0.heap.size w0 w0):=aa (Below.refl _ _)
  have HC:=b7 _ _ X Y w0 A0 B0
  have HA0:=aa A0
  have HB9:=aa B0
  clear hA hB hb0 h0 hx0 A0 B0
  by_cases hlt:val X<val Y
  ·rw [cmpN_lt hlt] at HC
   have hz:=iP false (Nat.le_of_lt hlt)
   rw [show (!false)=true from rfl] at hz
   rw [hz]
   have HLT:=aa hlt
   clear hlt hz
   go_enter Tryz.func66,Tryz.ntmps66
   go_wp2_with fail
   refine HC.mono ?_
   rintro e ws ⟨rfl,hs⟩
   have hbs:Below w0.heap.size w0 ws:=hs.below _
   have HM:=fs _ _ Y X ws (HB9.out.below hbs) (HA0.out.below hbs) (by omega)
   obtain⟨k0',k1'⟩:=duo (ac hbs HK0.out)
   clear HWS
   have HWS:=aa hbs
   clear k0 k1 hbs hs HC
   go_wp2_with fail
   refine HM.mono ?_
   rintro e w1 ⟨hb1,hcase⟩
   obtain⟨v1,c0,rs,rfl,ha,hres⟩:Res w1 ws.heap.size e (val Y - val X):=by
    rcases hcase with ⟨h,_⟩|⟨_,h⟩
    ·have:=HLT.out;omega
    ·exact h
   clear HM hcase
   have hans:=dt true v1 rs c0 (val Y - val X) _ w1 ha hres
   obtain⟨a1,n1,rfl⟩:=ha.shape
   have HW1:=aa (HWS.out.trans (hb1.mono HWS.out.size))
   clear ha hres hb1
   go_wp2_with fail
   refine hans.mono ?_
   rintro e w2 ⟨⟨b1,a1,n1,k1,c1,rfl,hzr⟩,hb2⟩
   have HZR:=aa (hzr.base (Nat.le_trans HB0.out.size HWS.out.size))
   have HW:=aa (HW1.out.trans (hb2.mono HW1.out.size))
   clear hzr hb2 hans
   have hbx:=ac HW.out HX0.out
   have hf1:=aB hbx
   obtain⟨l0,l1⟩:=duo hbx
   have HBX:=aa hbx
   have HBE:=aa (HB0.out.trans (HW.out.mono HB0.out.size))
   clear hbx
   go_wp2
   have R5:=aF HBX.out (a':=.bool b1) (b':=.slice a1 n1 k1)
   have HD:=aa (And.intro (HZR.out.duo (u0:=.bool b1) (u1:=.slice a1 n1 k1) HBX.out) (aE HBE.out (g:=w.heap.size+1) (u0:=.bool b1) (u1:=.slice a1 n1 k1) (by omega)))
   generalize (w2.setCell ⟨w.heap.size+1,0,none⟩ (.bool b1)).setCell ⟨w.heap.size+1,1,none⟩ (.slice a1 n1 k1)=w5 at *
   obtain⟨q0,q1⟩:=duo R5
   refine bodyPost_ret (v:=.tuple #[.agg #[.bool b1,.slice a1 n1 k1],.int .i64 c1]) (by simp [results,Tryz.results66,go_sem,q0,q1]) rfl ?_
   exact⟨⟨_,_,_,_,_,rfl,HD.out.1⟩,HD.out.2⟩
  ·have hz:=jC false (Nat.le_of_not_lt hlt)
   rw [show (!false)=true from rfl] at hz
   rw [hz]
   obtain⟨cc,hcc,hc0⟩:∃cc:Int,cmpN (val X) (val Y)=cc∧¬cc<0:=⟨_,rfl,by unfold cmpN;rw [if_neg hlt];split <;> omega⟩
   rw [hcc] at HC
   have HLT:=aa hlt
   clear hlt hz hcc
   go_enter Tryz.func66,Tryz.ntmps66
   go_wp2_with fail
   refine HC.mono ?_
   rintro e ws ⟨rfl,hs⟩
   have hbs:Below w0.heap.size w0 ws:=hs.below _
   have HM:=fs _ _ X Y ws (HA0.out.below hbs) (HB9.out.below hbs) (by omega)
   obtain⟨k0',k1'⟩:=duo (ac hbs HK0.out)
   clear HWS
   have HWS:=aa hbs
   have HKS:=aa (ac hbs HK0.out)
   clear k0 k1 hbs hs HC
   go_wp2_with fail
   refine HM.mono ?_
   rintro e w1 ⟨hb1,hcase⟩
   obtain⟨k0'',k1''⟩:=duo (ac hb1 HKS.out)
   obtain⟨v1,c0,rs,rfl,ha,hres⟩:Res w1 ws.heap.size e (val X - val Y):=by
    rcases hcase with ⟨h,_⟩|⟨_,h⟩
    ·have:=HLT.out;omega
    ·exact h
   clear HM hcase k0' k1'
   have hans:=dt false v1 rs c0 (val X - val Y) _ w1 ha hres
   obtain⟨a1,n1,rfl⟩:=ha.shape
   have HW1:=aa (HWS.out.trans (hb1.mono HWS.out.size))
   clear ha hres hb1
   go_wp2_with fail
   refine hans.mono ?_
   rintro e w2 ⟨⟨b1,a1,n1,k1,c1,rfl,hzr⟩,hb2⟩
   have HZR:=aa (hzr.base (Nat.le_trans HB0.out.size HWS.out.size))
   have HW:=aa (HW1.out.trans (hb2.mono HW1.out.size))
   clear hzr hb2 hans
   have hbx:=ac HW.out HX0.out
   have hf1:=aB hbx
   obtain⟨l0,l1⟩:=duo hbx
   have HBX:=aa hbx
   have HBE:=aa (HB0.out.trans (HW.out.mono HB0.out.size))
   clear hbx
   go_wp2
   have R5:=aF HBX.out (a':=.bool b1) (b':=.slice a1 n1 k1)
   have HD:=aa (And.intro (HZR.out.duo (u0:=.bool b1) (u1:=.slice a1 n1 k1) HBX.out) (aE HBE.out (g:=w.heap.size+1) (u0:=.bool b1) (u1:=.slice a1 n1 k1) (by omega)))
   generalize (w2.setCell ⟨w.heap.size+1,0,none⟩ (.bool b1)).setCell ⟨w.heap.size+1,1,none⟩ (.slice a1 n1 k1)=w5 at *
   obtain⟨q0,q1⟩:=duo R5
   refine bodyPost_ret (v:=.tuple #[.agg #[.bool b1,.slice a1 n1 k1],.int .i64 c1]) (by simp [results,Tryz.results66,go_sem,q0,q1]) rfl ?_
   exact⟨⟨_,_,_,_,_,rfl,HD.out.1⟩,HD.out.2⟩
 ·obtain⟨w0,hw0,hb0,h0,hx0⟩:=ct w (.cells #[.bool true,.slice a X.length n] 27) (.cells #[.bool false,.slice none 0 0] 27)
  obtain⟨k0,k1⟩:=duo h0
  have HB0:=aa hb0
  have HX0:=aa hx0
  have HK0:=aa h0
  have A0:=hA.below hb0
  have B0:=hB.below hb0
  have HWS:Hid (Below w0.heap.size w0 w0):=aa (Below.refl _ _)
  have HC:=b7 _ _ X Y w0 A0 B0
  have HA0:=aa A0
  have HB9:=aa B0
  clear hA hB hb0 h0 hx0 A0 B0
  by_cases hlt:val X<val Y
  ·rw [cmpN_lt hlt] at HC
   have hz:=iP true (Nat.le_of_lt hlt)
   rw [show (!true)=false from rfl] at hz
   rw [hz]
   have HLT:=aa hlt
   clear hlt hz
   go_enter Tryz.func66,Tryz.ntmps66
   go_wp2_with fail
   refine HC.mono ?_
   rintro e ws ⟨rfl,hs⟩
   have hbs:Below w0.heap.size w0 ws:=hs.below _
   have HM:=fs _ _ Y X ws (HB9.out.below hbs) (HA0.out.below hbs) (by omega)
   obtain⟨k0',k1'⟩:=duo (ac hbs HK0.out)
   clear HWS
   have HWS:=aa hbs
   clear k0 k1 hbs hs HC
   go_wp2_with fail
   refine HM.mono ?_
   rintro e w1 ⟨hb1,hcase⟩
   obtain⟨v1,c0,rs,rfl,ha,hres⟩:Res w1 ws.heap.size e (val Y - val X):=by
    rcases hcase with ⟨h,_⟩|⟨_,h⟩
    ·have:=HLT.out;omega
    ·exact h
   clear HM hcase
   have hans:=dt false v1 rs c0 (val Y - val X) _ w1 ha hres
   obtain⟨a1,n1,rfl⟩:=ha.shape
   have HW1:=aa (HWS.out.trans (hb1.mono HWS.out.size))
   clear ha hres hb1
   go_wp2_with fail
   refine hans.mono ?_
   rintro e w2 ⟨⟨b1,a1,n1,k1,c1,rfl,hzr⟩,hb2⟩
   have HZR:=aa (hzr.base (Nat.le_trans HB0.out.size HWS.out.size))
   have HW:=aa (HW1.out.trans (hb2.mono HW1.out.size))
   clear hzr hb2 hans
   have hbx:=ac HW.out HX0.out
   have hf1:=aB hbx
   obtain⟨l0,l1⟩:=duo hbx
   have HBX:=aa hbx
   have HBE:=aa (HB0.out.trans (HW.out.mono HB0.out.size))
   clear hbx
   go_wp2
   have R5:=aF HBX.out (a':=.bool b1) (b':=.slice a1 n1 k1)
   have HD:=aa (And.intro (HZR.out.duo (u0:=.bool b1) (u1:=.slice a1 n1 k1) HBX.out) (aE HBE.out (g:=w.heap.size+1) (u0:=.bool b1) (u1:=.slice a1 n1 k1) (by omega)))
   generalize (w2.setCell ⟨w.heap.size+1,0,none⟩ (.bool b1)).setCell ⟨w.heap.size+1,1,none⟩ (.slice a1 n1 k1)=w5 at *
   obtain⟨q0,q1⟩:=duo R5
   refine bodyPost_ret (v:=.tuple #[.agg #[.bool b1,.slice a1 n1 k1],.int .i64 c1]) (by simp [results,Tryz.results66,go_sem,q0,q1]) rfl ?_
   exact⟨⟨_,_,_,_,_,rfl,HD.out.1⟩,HD.out.2⟩
  ·have hz:=jC true (Nat.le_of_not_lt hlt)
   rw [show (!true)=false from rfl] at hz
   rw [hz]
   obtain⟨cc,hcc,hc0⟩:∃cc:Int,cmpN (val X) (val Y)=cc∧¬cc<0:=⟨_,rfl,by unfold cmpN;rw [if_neg hlt];split <;> omega⟩
   rw [hcc] at HC
   have HLT:=aa hlt
   clear hlt hz hcc
   go_enter Tryz.func66,Tryz.ntmps66
   go_wp2_with fail
   refine HC.mono ?_
   rintro e ws ⟨rfl,hs⟩
   have hbs:Below w0.heap.size w0 ws:=hs.below _
   have HM:=fs _ _ X Y ws (HA0.out.below hbs) (HB9.out.below hbs) (by omega)
   obtain⟨k0',k1'⟩:=duo (ac hbs HK0.out)
   clear HWS
   have HWS:=aa hbs
   have HKS:=aa (ac hbs HK0.out)
   clear k0 k1 hbs hs HC
   go_wp2_with fail
   refine HM.mono ?_
   rintro e w1 ⟨hb1,hcase⟩
   obtain⟨k0'',k1''⟩:=duo (ac hb1 HKS.out)
   obtain⟨v1,c0,rs,rfl,ha,hres⟩:Res w1 ws.heap.size e (val X - val Y):=by
    rcases hcase with ⟨h,_⟩|⟨_,h⟩
    ·have:=HLT.out;omega
    ·exact h
   clear HM hcase k0' k1'
   have hans:=dt true v1 rs c0 (val X - val Y) _ w1 ha hres
   obtain⟨a1,n1,rfl⟩:=ha.shape
   have HW1:=aa (HWS.out.trans (hb1.mono HWS.out.size))
   clear ha hres hb1
   go_wp2_with fail
   refine hans.mono ?_
   rintro e w2 ⟨⟨b1,a1,n1,k1,c1,rfl,hzr⟩,hb2⟩
   have HZR:=aa (hzr.base (Nat.le_trans HB0.out.size HWS.out.size))
   have HW:=aa (HW1.out.trans (hb2.mono HW1.out.size))
   clear hzr hb2 hans
   have hbx:=ac HW.out HX0.out
   have hf1:=aB hbx
   obtain⟨l0,l1⟩:=duo hbx
   have HBX:=aa hbx
   have HBE:=aa (HB0.out.trans (HW.out.mono HB0.out.size))
   clear hbx
   go_wp2
   have R5:=aF HBX.out (a':=.bool b1) (b':=.slice a1 n1 k1)
   have HD:=aa (And.intro (HZR.out.duo (u0:=.bool b1) (u1:=.slice a1 n1 k1) HBX.out) (aE HBE.out (g:=w.heap.size+1) (u0:=.bool b1) (u1:=.slice a1 n1 k1) (by omega)))
   generalize (w2.setCell ⟨w.heap.size+1,0,none⟩ (.bool b1)).setCell ⟨w.heap.size+1,1,none⟩ (.slice a1 n1 k1)=w5 at *
   obtain⟨q0,q1⟩:=duo R5
   refine bodyPost_ret (v:=.tuple #[.agg #[.bool b1,.slice a1 n1 k1],.int .i64 c1]) (by simp [results,Tryz.results66,go_sem,q0,q1]) rfl ?_
   exact⟨⟨_,_,_,_,_,rfl,HD.out.1⟩,HD.out.2⟩
 ·obtain⟨w0,hw0,hb0,h0,hx0⟩:=ct w (.cells #[.bool true,.slice a X.length n] 27) (.cells #[.bool false,.slice none 0 0] 27)
  obtain⟨k0,k1⟩:=duo h0
  have HB0:=aa hb0
  have HX0:=aa hx0
  have HK0:=aa h0
  have A0:=hA.below hb0
  have B0:=hB.below hb0
  have HWS:Hid (Below w0.heap.size w0 w0):=aa (Below.refl _ _)
  rw [jh]
  have HM:=jr _ _ X Y w0 A0 B0 (by omega) (by omega)
  clear hA hB hb0 h0 hx0 A0 B0
  go_enter Tryz.func66,Tryz.ntmps66
  go_wp2_with fail
  refine HM.mono ?_
  rintro e w1 ⟨hb1,v1,c0,rs,rfl,ha,hres⟩
  clear HM
  have hans:=dt true v1 rs c0 (val X+val Y) _ w1 ha hres
  obtain⟨a1,n1,rfl⟩:=ha.shape
  have HW1:=aa (HWS.out.trans (hb1.mono HWS.out.size))
  clear ha hres hb1
  go_wp2_with fail
  refine hans.mono ?_
  rintro e w2 ⟨⟨b1,a1,n1,k1,c1,rfl,hzr⟩,hb2⟩
  have HZR:=aa (hzr.base (Nat.le_trans HB0.out.size HWS.out.size))
  have HW:=aa (HW1.out.trans (hb2.mono HW1.out.size))
  clear hzr hb2 hans
  have hbx:=ac HW.out HX0.out
  have hf1:=aB hbx
  obtain⟨l0,l1⟩:=duo hbx
  have HBX:=aa hbx
  have HBE:=aa (HB0.out.trans (HW.out.mono HB0.out.size))
  clear hbx
  go_wp2
  have R5:=aF HBX.out (a':=.bool b1) (b':=.slice a1 n1 k1)
  have HD:=aa (And.intro (HZR.out.duo (u0:=.bool b1) (u1:=.slice a1 n1 k1) HBX.out) (aE HBE.out (g:=w.heap.size+1) (u0:=.bool b1) (u1:=.slice a1 n1 k1) (by omega)))
  generalize (w2.setCell ⟨w.heap.size+1,0,none⟩ (.bool b1)).setCell ⟨w.heap.size+1,1,none⟩ (.slice a1 n1 k1)=w5 at *
  obtain⟨q0,q1⟩:=duo R5
  refine bodyPost_ret (v:=.tuple #[.agg #[.bool b1,.slice a1 n1 k1],.int .i64 c1]) (by simp [results,Tryz.results66,go_sem,q0,q1]) rfl ?_
  exact⟨⟨_,_,_,_,_,rfl,HD.out.1⟩,HD.out.2⟩

theorem kD (b:Bool)(v:Value)(X:List Nat)(t:Bool)(u:Value)(Y:List Nat)(w:World)(hA:Arg w v X)(hB:Arg w u Y)(hf:X.length≤17592186044416)(hg:Y.length≤17592186044416) :
  Calls Tryz.prog 31 #[.agg #[.bool b,v],.agg #[.bool t,u]] w fun e w'=>di w' w.heap.size e (zz b (val X)+zz t (val Y))∧Below w.heap.size w w':=by
 obtain⟨a,n,rfl,_,_,_⟩:=hA.form
 obtain⟨a9,n9,rfl,_,_,_⟩:=hB.form
 obtain⟨w0,hw0,hb0,h0,h1,hx0⟩:=dr w (.cells #[.bool b,.slice a X.length n] 27) (.cells #[.bool t,.slice a9 Y.length n9] 27) (.cells #[.bool false,.slice none 0 0] 27)
 obtain⟨k0,k1⟩:=duo h0
 obtain⟨k2,k3⟩:=duo h1
 have HB0:=aa hb0
 have HX0:=aa hx0
 have HM:=kc b _ X t _ Y w0 (hA.below hb0) (hB.below hb0) hf hg
 clear hA hB hb0 h0 h1 hx0
 go_enter Tryz.func31,Tryz.ntmps31
 go_wp2_with fail
 refine HM.mono ?_
 rintro e w1 ⟨⟨b1,a1,n1,k1,c1,rfl,hzr⟩,hb1⟩
 have HZR:=aa (hzr.base HB0.out.size)
 have HW:=aa hb1
 clear hzr hb1 HM hw0 k0 k2 k3
 have hbx:=ac HW.out HX0.out
 have hf1:=aB hbx
 obtain⟨l0,l1⟩:=duo hbx
 have HBX:=aa hbx
 have HBE:=aa (HB0.out.trans (HW.out.mono HB0.out.size))
 clear hbx
 go_wp2
 have R5:=aF HBX.out (a':=.bool b1) (b':=.slice a1 n1 k1)
 have HD:=aa (And.intro (HZR.out.duo (u0:=.bool b1) (u1:=.slice a1 n1 k1) HBX.out) (aE HBE.out (g:=w.heap.size+2) (u0:=.bool b1) (u1:=.slice a1 n1 k1) (by omega)))
 generalize (w1.setCell ⟨w.heap.size+2,0,none⟩ (.bool b1)).setCell ⟨w.heap.size+2,1,none⟩ (.slice a1 n1 k1)=w5 at *
 obtain⟨q0,q1⟩:=duo R5
 refine bodyPost_ret (v:=.tuple #[.agg #[.bool b1,.slice a1 n1 k1],.int .i64 c1]) (by simp [results,Tryz.results31,go_sem,q0,q1]) rfl ?_
 exact⟨⟨_,_,_,_,_,rfl,HD.out.1⟩,HD.out.2⟩

theorem pa (b:Bool)(v:Value)(X:List Nat)(t:Bool)(u:Value)(Y:List Nat)(w:World)(hA:Arg w v X)(hB:Arg w u Y)(hf:X.length≤17592186044416)(hg:Y.length≤17592186044416) :
  Calls Tryz.prog 35 #[.agg #[.bool b,v],.agg #[.bool t,u]] w fun e w'=>di w' w.heap.size e (zz b (val X) - zz t (val Y))∧Below w.heap.size w w':=by
 obtain⟨a,n,rfl,_,_,_⟩:=hA.form
 obtain⟨a9,n9,rfl,_,_,_⟩:=hB.form
 obtain⟨w0,hw0,hb0,h0,h1,hx0⟩:=dr w (.cells #[.bool b,.slice a X.length n] 27) (.cells #[.bool t,.slice a9 Y.length n9] 27) (.cells #[.bool false,.slice none 0 0] 27)
 obtain⟨k0,k1⟩:=duo h0
 obtain⟨k2,k3⟩:=duo h1
 have HB0:=aa hb0
 have HX0:=aa hx0
 have HM:=kc b _ X (!t) _ Y w0 (hA.below hb0) (hB.below hb0) hf hg
 rw [oF,←Int.sub_eq_add_neg] at HM
 clear hA hB hb0 h0 h1 hx0
 go_enter Tryz.func35,Tryz.ntmps35
 go_wp2_with fail
 refine HM.mono ?_
 rintro e w1 ⟨⟨b1,a1,n1,k1,c1,rfl,hzr⟩,hb1⟩
 have HZR:=aa (hzr.base HB0.out.size)
 have HW:=aa hb1
 clear hzr hb1 HM hw0 k0 k2 k3
 have hbx:=ac HW.out HX0.out
 have hf1:=aB hbx
 obtain⟨l0,l1⟩:=duo hbx
 have HBX:=aa hbx
 have HBE:=aa (HB0.out.trans (HW.out.mono HB0.out.size))
 clear hbx
 go_wp2
 have R5:=aF HBX.out (a':=.bool b1) (b':=.slice a1 n1 k1)
 have HD:=aa (And.intro (HZR.out.duo (u0:=.bool b1) (u1:=.slice a1 n1 k1) HBX.out) (aE HBE.out (g:=w.heap.size+2) (u0:=.bool b1) (u1:=.slice a1 n1 k1) (by omega)))
 generalize (w1.setCell ⟨w.heap.size+2,0,none⟩ (.bool b1)).setCell ⟨w.heap.size+2,1,none⟩ (.slice a1 n1 k1)=w5 at *
 obtain⟨q0,q1⟩:=duo R5
 refine bodyPost_ret (v:=.tuple #[.agg #[.bool b1,.slice a1 n1 k1],.int .i64 c1]) (by simp [results,Tryz.results35,go_sem,q0,q1]) rfl ?_
 exact⟨⟨_,_,_,_,_,rfl,HD.out.1⟩,HD.out.2⟩

theorem fW (b:Bool)(v:Value)(X:List Nat)(t:Bool)(u:Value)(Y:List Nat)(w:World)(hA:Arg w v X)(hB:Arg w u Y)(hT:Tab w)(hf:X.length≤17592186043904)(hg:Y.length≤17592186043904) :
  Calls Tryz.prog 30 #[.agg #[.bool b,v],.agg #[.bool t,u]] w fun e w'=>di w' w.heap.size e (zz b (val X)*zz t (val Y))∧Below w.heap.size w w':=by
 obtain⟨a,n,rfl,_,_,_⟩:=hA.form
 obtain⟨a9,n9,rfl,_,_,_⟩:=hB.form
 obtain⟨w0,hw0,hb0,h0,h1,hx0⟩:=dr w (.cells #[.bool b,.slice a X.length n] 27) (.cells #[.bool t,.slice a9 Y.length n9] 27) (.cells #[.bool false,.slice none 0 0] 27)
 obtain⟨k0,k1⟩:=duo h0
 obtain⟨k2,k3⟩:=duo h1
 have HB0:=aa hb0
 have HX0:=aa hx0
 have HK0:=aa h0
 have HK1:=aa h1
 have HM:=df _ _ X Y w0 (hA.below hb0) (hB.below hb0) (hT.below hb0) (by omega)
 rw [og]
 obtain⟨sg,hsg,hsg2⟩:∃sg,(b != t)=sg∧(!(b == t))=sg:=⟨_,rfl,rfl⟩
 rw [hsg]
 clear hA hB hb0 h0 h1 hx0 hT
 go_enter Tryz.func30,Tryz.ntmps30
 go_wp2_with fail
 refine HM.mono ?_
 rintro e w1 ⟨hb1,v1,c0,rs,rfl,ha,hres⟩
 have hans:=dt sg v1 rs c0 (val X*val Y) _ w1 ha hres
 obtain⟨a1,n1,rfl⟩:=ha.shape
 obtain⟨k0',k1'⟩:=duo (ac hb1 HK0.out)
 obtain⟨k2',k3'⟩:=duo (ac hb1 HK1.out)
 have HW1:=aa hb1
 clear ha hres hb1 HM k0 k1 k2 k3
 go_wp2_with fail
 refine hans.mono ?_
 rintro e w2 ⟨⟨b1,a1,n1,k1,c1,rfl,hzr⟩,hb2⟩
 have HZR:=aa (hzr.base HB0.out.size)
 have HW:=aa (HW1.out.trans (hb2.mono HW1.out.size))
 clear hzr hb2 hans hw0 k0' k1' k2' k3'
 have hbx:=ac HW.out HX0.out
 have hf1:=aB hbx
 obtain⟨l0,l1⟩:=duo hbx
 have HBX:=aa hbx
 have HBE:=aa (HB0.out.trans (HW.out.mono HB0.out.size))
 clear hbx
 go_wp2
 have R5:=aF HBX.out (a':=.bool b1) (b':=.slice a1 n1 k1)
 have HD:=aa (And.intro (HZR.out.duo (u0:=.bool b1) (u1:=.slice a1 n1 k1) HBX.out) (aE HBE.out (g:=w.heap.size+2) (u0:=.bool b1) (u1:=.slice a1 n1 k1) (by omega)))
 generalize (w2.setCell ⟨w.heap.size+2,0,none⟩ (.bool b1)).setCell ⟨w.heap.size+2,1,none⟩ (.slice a1 n1 k1)=w5 at *
 obtain⟨q0,q1⟩:=duo R5
 refine bodyPost_ret (v:=.tuple #[.agg #[.bool b1,.slice a1 n1 k1],.int .i64 c1]) (by simp [results,Tryz.results30,go_sem,q0,q1]) rfl ?_
 exact⟨⟨_,_,_,_,_,rfl,HD.out.1⟩,HD.out.2⟩
end Go.Proofs.YtdbjbbdhlpfhjaaGreatDoor
namespace Go.Proofs.YtdbjbbdhlpfhjaaGreatDoor
open Lm
end Go.Proofs.YtdbjbbdhlpfhjaaGreatDoor
namespace Go.Proofs.YtdbjbbdhlpfhjaaGreatDoor
open Go.RowKit
open Lm
attribute [local go_sem ↓] Go.wp_at_zero Go.wp_at_succ

theorem eA {w w':World}(h:Below w.drew.heap.size w.drew w'):Below w.heap.size w w':=(Below.refl w.heap.size w).drew.trans h

theorem aR {w w':World}{g o:Nat}{v:Value}(hb:Below w.heap.size w w')(h:w.cell? ⟨g,o,none⟩=some v):w'.cell? ⟨g,o,none⟩=some v:=by
 rw [hb.cell (p:=⟨g,o,none⟩) ?_]
 ·exact h
 ·show g<w.heap.size
  rcases Nat.lt_or_ge g w.heap.size with h' | h'
  ·exact h'
  ·simp [World.cell?,Array.getElem?_eq_none h'] at h

def aX (y z:Int):Int:=if y<z then -1 else if z<y then 1 else 0





theorem pu (x y:Int)(w:World):Calls Tryz.prog 67 #[.int .i64 x,.int .i64 y] w fun e w'=>e=.returned (.int .i64 (aX x y))∧w'=w:=by
 unfold aX
 by_cases h1:x<y
 ·rw [if_pos h1]
  go_enter Tryz.func67,Tryz.ntmps67
  go_wp2
  go_ret
  exact⟨rfl,rfl⟩
 ·rw [if_neg h1]
  by_cases h2:y<x
  ·rw [if_pos h2]
   go_enter Tryz.func67,Tryz.ntmps67
   go_wp2
   go_ret
   exact⟨rfl,rfl⟩
  ·rw [if_neg h2]
   go_enter Tryz.func67,Tryz.ntmps67
   go_wp2
   go_ret
   exact⟨rfl,rfl⟩

theorem nH (x:Int):aX x x=0:=by unfold aX;rw [if_neg (by omega),if_neg (by omega)]

theorem nk {x y:Int}:aX x y=0 ↔ x=y:=by
 unfold aX
 constructor
 ·intro h
  split at h
  ·cases h
  ·split at h
   ·cases h
   ·omega
 ·rintro rfl
  rw [if_neg (by omega),if_neg (by omega)]

theorem pn (x y:Int)(h:aX x.sign y.sign≠0):aX x.sign y.sign=aX x y:=by
 rcases Int.lt_trichotomy x 0 with hx|hx|hx <;> rcases Int.lt_trichotomy y 0 with hy|hy|hy
 all_goals (try rw [Int.sign_eq_neg_one_of_neg hx] at h ⊢) <;> (try rw [Int.sign_eq_one_of_pos hx] at h ⊢) <;> (try rw [Int.sign_eq_neg_one_of_neg hy] at h ⊢) <;> (try rw [Int.sign_eq_one_of_pos hy] at h ⊢)
 all_goals (try subst hx) <;> (try subst hy)
 all_goals (try rw [Int.sign_zero] at h ⊢) <;> unfold aX at h ⊢
 all_goals (repeat (first|rw [if_pos (by omega)] | rw [if_neg (by omega)]))
 all_goals (try rfl)
 all_goals (exfalso;revert h;decide)

theorem q9 {x y:Int}(h:aX x.sign y.sign=0):(x<0∧y<0)∨(0≤x∧0≤y):=by
 have e:=nk.1 h
 rcases Int.lt_trichotomy x 0 with hx|hx|hx
 ·rw [Int.sign_eq_neg_one_of_neg hx] at e
  exact .inl ⟨hx,Int.sign_neg_iff.1 (by omega)⟩
 ·subst hx
  rw [Int.sign_zero] at e
  have:=Int.sign_eq_zero_iff_zero.1 e.symm
  exact .inr ⟨by omega,by omega⟩
 ·rw [Int.sign_eq_one_of_pos hx] at e
  have:=Int.sign_pos_iff.1 (show 0<y.sign by omega)
  exact .inr ⟨by omega,by omega⟩

theorem po {b1 b2:Bool}{x y:Nat}(h1:zz b1 x<0)(h2:zz b2 y<0):aX (zz b1 x) (zz b2 y)=cmpN y x:=by
 cases b1 <;> cases b2 <;> simp only [zz,Bool.false_eq_true,if_false,if_true] at h1 h2 ⊢ <;> try omega
 unfold aX cmpN
 split <;> split <;> (try split) <;> (try split) <;> omega

theorem qc {b1 b2:Bool}{x y:Nat}(h1:0≤zz b1 x)(h2:0≤zz b2 y):aX (zz b1 x) (zz b2 y)=cmpN x y:=by
 have e1:zz b1 x=(x:Int):=by cases b1 <;> simp only [zz,Bool.false_eq_true,if_false,if_true] at h1 ⊢ <;> omega
 have e2:zz b2 y=(y:Int):=by cases b2 <;> simp only [zz,Bool.false_eq_true,if_false,if_true] at h2 ⊢ <;> omega
 rw [e1,e2]
 unfold aX cmpN
 split <;> split <;> (try split) <;> (try split) <;> omega

theorem pP (b1:Bool)(v:Value)(X:List Nat)(b2:Bool)(u:Value)(Y:List Nat)(w:World)(hA:Arg w v X)(hB:Arg w u Y) :
  Calls Tryz.prog 32 #[.agg #[.bool b1,v],.agg #[.bool b2,u]] w fun e w'=>e=.returned (.int .i64 (aX (zz b1 (val X)) (zz b2 (val Y))))∧Below w.heap.size w w':=by
 obtain⟨a,n,rfl,_,_,_⟩:=hA.form
 obtain⟨a9,n9,rfl,_,_,_⟩:=hB.form
 obtain⟨w0,hw0,hb0,h0,h1⟩:=ct w (.cells #[.bool b1,.slice a X.length n] 27) (.cells #[.bool b2,.slice a9 Y.length n9] 27)
 obtain⟨d0,d1⟩:=duo (show w0.drew.heap[w.heap.size]?=some (.cells #[.bool b1,.slice a X.length n] 27) from h0)
 obtain⟨d2,d3⟩:=duo (show w0.drew.heap[w.heap.size+1]?=some (.cells #[.bool b2,.slice a9 Y.length n9] 27) from h1)
 have S1:=dJ b1 _ X w0.drew ((hA.below hb0).below (Below.refl _ _).drew)
 have S2:=aa (fun (w1:World) (hb1:Below w0.drew.heap.size w0.drew w1)=>dJ b2 _ Y w1 (((hB.below hb0).below (Below.refl _ _).drew).below hb1))
 have HB0:=aa hb0
 have HA:=aa ((hA.below hb0).below (Below.refl _ _).drew)
 have HB:=aa ((hB.below hb0).below (Below.refl _ _).drew)
 rw [fC] at S1
 have S3:Hid (∀(w1:World),Below w0.drew.heap.size w0.drew w1→Calls Tryz.prog 42 #[.agg #[.bool b2,.slice a9 Y.length n9]] w1 fun e w'=>e=.returned (.int .i64 (zz b2 (val Y)).sign)∧Below w1.heap.size w1 w'):=aa (fun w1 hb1=>by have h:=S2.out w1 hb1;rw [fC] at h;exact h)
 have HK0:=aa (show w0.drew.heap[w.heap.size]?=some (.cells #[.bool b1,.slice a X.length n] 27) from h0)
 have HK1:=aa (show w0.drew.heap[w.heap.size+1]?=some (.cells #[.bool b2,.slice a9 Y.length n9] 27) from h1)
 have hsg:=pn (zz b1 (val X)) (zz b2 (val Y))
 have hse:=q9 (x:=zz b1 (val X)) (y:=zz b2 (val Y))
 have hcn:=po (b1:=b1) (b2:=b2) (x:=val X) (y:=val Y)
 have hcp:=qc (b1:=b1) (b2:=b2) (x:=val X) (y:=val Y)
 have HNG:=aa (fun (w1:World) (hb1:Below w0.drew.heap.size w0.drew w1)=>qR b1 _ X w1 (HA.out.below hb1))
 clear hA hB hb0 h0 h1 S2
 generalize hzx:zz b1 (val X)=zx at *
 generalize hzy:zz b2 (val Y)=zy at *
 obtain⟨cc,hcc⟩:∃cc,aX zx.sign zy.sign=cc:=⟨_,rfl⟩
 have CC:=aa (fun (w1:World)=>pu zx.sign zy.sign w1)
 rw [hcc] at hsg hse
 by_cases hc0:cc=0
 ·subst hc0
  have hcs:=hse rfl
  clear hsg hse
  by_cases hneg:zx<0
  ·rw [hcn hneg (by omega)]
   have HD1:=aa (decide_eq_true hneg)
   clear hcn hcp hcs hneg
   go_enter Tryz.func32,Tryz.ntmps32
   go_wp2
   go_region_held3 (fun w'=>w'.cell? ⟨w.heap.size,0,none⟩=some (.bool b1)∧w'.cell? ⟨w.heap.size,1,none⟩=some (.slice a X.length n)∧w'.cell? ⟨w.heap.size+1,0,none⟩=some (.bool b2)∧w'.cell? ⟨w.heap.size+1,1,none⟩=some (.slice a9 Y.length n9)) (go_keep) (first
    | (go_at_call_of 42 a;refine S1.mono ?_;rintro e' t1 ⟨rfl,hb1⟩;have x0:=aR hb1 d0;have x1:=aR hb1 d1;have x2:=aR hb1 d2;have x3:=aR hb1 d3)
    | (go_at_call_of 42 a9;refine (S3.out t1 hb1).mono ?_;rintro e' t2 ⟨rfl,hb2⟩;have y0:=aR hb2 x0;have y1:=aR hb2 x1;have y2:=aR hb2 x2;have y3:=aR hb2 x3)
    | (go_at_call 67;refine (CC.out t2).mono ?_;rintro e' t3 ⟨rfl,hw3⟩;rw [hw3];clear hw3 t3))
   have gg2:=hb1.trans (hb2.mono hb1.size)
   have HBE:=aa (HB0.out.trans ((eA gg2).mono HB0.out.size))
   have hng:=HNG.out t2 gg2
   rw [HD1.out] at hng
   clear HBE
   go_wp2_with fail
   refine hng.mono ?_
   rintro e t4 ⟨rfl,hb4⟩
   have gg4:=gg2.trans (hb4.mono gg2.size)
   obtain⟨j0,j1⟩:=duo (ac gg4 HK0.out)
   obtain⟨j2,j3⟩:=duo (ac gg4 HK1.out)
   have HG4:=aa gg4
   clear hng hb4 hb1 hb2 x0 x1 x2 x3 y0 y1 y2 y3
   have hcf:=b7 _ _ Y X t4 (HB.out.below gg4) (HA.out.below gg4)
   go_wp2_with fail
   refine hcf.mono ?_
   rintro e t5 ⟨rfl,hs⟩
   have hb5:Below t4.heap.size t4 t5:=hs.below _
   have gg5:=HG4.out.trans (hb5.mono HG4.out.size)
   have HBE:=aa (HB0.out.trans ((eA gg5).mono HB0.out.size))
   clear hs hb5 gg5 gg4 gg2 hcf
   go_wp2
   go_ret
   exact⟨rfl,HBE.out⟩
  ·rw [hcp (by omega) (by omega)]
   have HD1:=aa (decide_eq_false hneg)
   clear hcn hcp hcs hneg
   go_enter Tryz.func32,Tryz.ntmps32
   go_wp2
   go_region_held3 (fun w'=>w'.cell? ⟨w.heap.size,0,none⟩=some (.bool b1)∧w'.cell? ⟨w.heap.size,1,none⟩=some (.slice a X.length n)∧w'.cell? ⟨w.heap.size+1,0,none⟩=some (.bool b2)∧w'.cell? ⟨w.heap.size+1,1,none⟩=some (.slice a9 Y.length n9)) (go_keep) (first
    | (go_at_call_of 42 a;refine S1.mono ?_;rintro e' t1 ⟨rfl,hb1⟩;have x0:=aR hb1 d0;have x1:=aR hb1 d1;have x2:=aR hb1 d2;have x3:=aR hb1 d3)
    | (go_at_call_of 42 a9;refine (S3.out t1 hb1).mono ?_;rintro e' t2 ⟨rfl,hb2⟩;have y0:=aR hb2 x0;have y1:=aR hb2 x1;have y2:=aR hb2 x2;have y3:=aR hb2 x3)
    | (go_at_call 67;refine (CC.out t2).mono ?_;rintro e' t3 ⟨rfl,hw3⟩;rw [hw3];clear hw3 t3))
   have gg2:=hb1.trans (hb2.mono hb1.size)
   have HBE:=aa (HB0.out.trans ((eA gg2).mono HB0.out.size))
   have hng:=HNG.out t2 gg2
   rw [HD1.out] at hng
   clear HBE
   go_wp2_with fail
   refine hng.mono ?_
   rintro e t4 ⟨rfl,hb4⟩
   have gg4:=gg2.trans (hb4.mono gg2.size)
   obtain⟨j0,j1⟩:=duo (ac gg4 HK0.out)
   obtain⟨j2,j3⟩:=duo (ac gg4 HK1.out)
   have HG4:=aa gg4
   clear hng hb4 hb1 hb2 x0 x1 x2 x3 y0 y1 y2 y3
   have hcf:=b7 _ _ X Y t4 (HA.out.below gg4) (HB.out.below gg4)
   go_wp2_with fail
   refine hcf.mono ?_
   rintro e t5 ⟨rfl,hs⟩
   have hb5:Below t4.heap.size t4 t5:=hs.below _
   have gg5:=HG4.out.trans (hb5.mono HG4.out.size)
   have HBE:=aa (HB0.out.trans ((eA gg5).mono HB0.out.size))
   clear hs hb5 gg5 gg4 gg2 hcf
   go_wp2
   go_ret
   exact⟨rfl,HBE.out⟩
 ·rw [←hsg hc0]
  have hne:(cc == 0)=false:=by simpa using hc0
  clear hsg hse hcn hcp
  go_enter Tryz.func32,Tryz.ntmps32
  go_wp2
  go_region_held3 (fun w'=>w'.cell? ⟨w.heap.size,0,none⟩=some (.bool b1)∧w'.cell? ⟨w.heap.size,1,none⟩=some (.slice a X.length n)∧w'.cell? ⟨w.heap.size+1,0,none⟩=some (.bool b2)∧w'.cell? ⟨w.heap.size+1,1,none⟩=some (.slice a9 Y.length n9)) (go_keep) (first
   | (go_at_call_of 42 a;refine S1.mono ?_;rintro e' t1 ⟨rfl,hb1⟩;have x0:=aR hb1 d0;have x1:=aR hb1 d1;have x2:=aR hb1 d2;have x3:=aR hb1 d3)
   | (go_at_call_of 42 a9;refine (S3.out t1 hb1).mono ?_;rintro e' t2 ⟨rfl,hb2⟩;have y0:=aR hb2 x0;have y1:=aR hb2 x1;have y2:=aR hb2 x2;have y3:=aR hb2 x3)
   | (go_at_call 67;refine (CC.out t2).mono ?_;rintro e' t3 ⟨rfl,hw3⟩;rw [hw3];clear hw3 t3))
  have gg2:=hb1.trans (hb2.mono hb1.size)
  have HBE:=aa (HB0.out.trans ((eA gg2).mono HB0.out.size))
  clear hb1 hb2 x0 x1 x2 x3 y0 y1 y2 y3 gg2
  go_wp2
  go_ret
  exact⟨rfl,HBE.out⟩

theorem kE (va vb:Value)(X Y:List Nat)(w:World)(hA:Arg w va X)(hA2:Arg w vb Y)(hT:Tab w)(hf1:X.length≤17592186044000)(hf2:Y.length≤17592186044000) :
  Calls Tryz.prog 34 #[va,vb] w (fA w (Nat.gcd (val X) (val Y))):=by
 by_cases hX:val X=0
 ·have Z1:=cL va X w hA
  rw [decide_eq_true hX] at Z1
  have HN:=cT vb Y w hA2 (by omega)
  have HG:Hid (Nat.gcd (val X) (val Y)=val Y):=by rw [hX,Nat.gcd_zero_left];exact aa rfl
  generalize Nat.gcd (val X) (val Y)=G at *
  clear hA hA2 hT hX
  go_enter Tryz.func34,Tryz.ntmps34
  go_wp2_with fail
  refine Z1.mono ?_
  rintro e wn ⟨rfl,hw⟩;rw [hw];clear hw wn Z1
  go_wp2_with fail
  refine HN.mono ?_
  rintro e w2 ⟨⟨v,rfl,A1⟩,hb⟩
  have H:=aa (And.intro A1 hb)
  clear HN A1 hb
  go_wp2
  go_ret
  exact⟨⟨_,_,rfl,H.out.1,tr_tr _,by rw [val_tr,HG.out]⟩,H.out.2⟩
 ·by_cases hY:val Y=0
  ·have Z1:=cL va X w hA
   rw [decide_eq_false hX] at Z1
   have Z2:=cL vb Y w hA2
   rw [decide_eq_true hY] at Z2
   have HN:=cT va X w hA (by omega)
   have HG:Hid (Nat.gcd (val X) (val Y)=val X):=by rw [hY,Nat.gcd_zero_right];exact aa rfl
   generalize Nat.gcd (val X) (val Y)=G at *
   clear hA hA2 hT hX hY
   go_enter Tryz.func34,Tryz.ntmps34
   go_wp2_with fail
   refine Z1.mono ?_
   rintro e wn ⟨rfl,hw⟩;rw [hw];clear hw wn Z1
   go_wp2_with fail
   refine Z2.mono ?_
   rintro e wn ⟨rfl,hw⟩;rw [hw];clear hw wn Z2
   go_wp2_with fail
   refine HN.mono ?_
   rintro e w2 ⟨⟨v,rfl,A1⟩,hb⟩
   have H:=aa (And.intro A1 hb)
   clear HN A1 hb
   go_wp2
   go_ret
   exact⟨⟨_,_,rfl,H.out.1,tr_tr _,by rw [val_tr,HG.out]⟩,H.out.2⟩
  ·exact ms va vb X Y w hA hA2 hT hf1 hf2 hX hY fun i j h1 h2=>pA _ _ h1 h2
end Go.Proofs.YtdbjbbdhlpfhjaaGreatDoor

