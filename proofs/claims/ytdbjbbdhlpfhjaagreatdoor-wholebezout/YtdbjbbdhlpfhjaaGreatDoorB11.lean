/- Package whole: signs, and answers with a sign. -/
import Derived.Test.YtdbjbbdhlpfhjaaGreatDoorB03
import Derived.Test.YtdbjbbdhlpfhjaaGreatDoorB02
import Derived.Test.YtdbjbbdhlpfhjaaGreatDoorB10
import Derived.Test.YtdbjbbdhlpfhjaaGreatDoorB01
import Derived.Handy
import Derived.Test.YtdbjbbdhlpfhjaaGreatDoorB04
import Derived.Test.YtdbjbbdhlpfhjaaGreatDoorB07
set_option maxRecDepth 20000
set_option maxHeartbeats 4000000
namespace Go.Proofs.YtdbjbbdhlpfhjaaGreatDoor
open Go.RowKit
open Lm
attribute [local go_sem ↓] Go.wp_at_zero Go.wp_at_succ

def zz (b:Bool)(x:Nat):Int:=if b then -(x:Int) else (x:Int)

theorem aJ (b:Bool)(x:Nat):(zz b x).natAbs=x:=by cases b <;> simp [zz]

theorem oF (b:Bool)(x:Nat):zz (!b) x=-(zz b x):=by cases b <;> simp [zz]

theorem gC (b:Bool):zz b 0=0:=by cases b <;> simp [zz]

theorem gt (z:Int):zz (decide (z<0)) z.natAbs=z:=by
 unfold zz
 by_cases h:z<0
 ·rw [if_pos (by simpa using h)];omega
 ·rw [if_neg (by simpa using h)];omega

theorem jD {rs:List Nat}(ht:tr rs=rs):0<rs.length ↔ val rs≠0:=by
 constructor
 ·intro h h0
  have:=aH rs 0 (by rw [h0];simp)
  rw [ht] at this
  omega
 ·intro h
  rcases Nat.eq_zero_or_pos rs.length with h0|h0
  ·rw [List.eq_nil_of_length_eq_zero h0] at h
   exact absurd rfl h
  ·exact h0

theorem dT {rs:List Nat}{x:Nat}(b:Bool)(ht:tr rs=rs)(hv:val rs=x):(b && decide (0<rs.length))=decide (zz b x<0):=by
 have h:=jD ht
 rw [hv] at h
 cases b
 ·simp [zz]
 ·simp only [Bool.true_and,zz,if_true]
  rw [decide_eq_decide]
  omega

def ZR (w:World)(base:Nat)(b:Bool)(va:Value)(c z:Int):Prop:=
 ∃rs,Ans w base va rs∧((c=0∧b=decide (z<0)∧val rs=z.natAbs∧tr rs=rs∧blen z.natAbs≤67108864)∨(c=3∧b=false∧va=.slice none 0 0∧rs=[]∧67108864<blen z.natAbs))

def di (w:World)(base:Nat)(e:Ending)(z:Int):Prop:=∃b a n k c,e=.returned (.tuple #[.agg #[.bool b,.slice a n k],.int .i64 c])∧ZR w base b (.slice a n k) c z

theorem ZR.base {w:World}{base base':Nat}{b:Bool}{va:Value}{c z:Int}(h:ZR w base b va c z)(hb:base'≤base):ZR w base' b va c z:=by
 obtain⟨rs,h1,h2⟩:=h
 exact⟨rs,h1.base hb,h2⟩

theorem aI (w:World)(o1:Obj):∃w0,w.alloc o1=w0∧Below w.heap.size w w0∧w0.heap[w.heap.size]?=some o1:=⟨_,rfl,(Below.refl _ _).alloc (Nat.le_refl _) _,heap_alloc_new ..⟩

theorem ct (w:World)(o1 o2:Obj):∃w0,(w.alloc o1).alloc o2=w0∧Below w.heap.size w w0∧w0.heap[w.heap.size]?=some o1∧w0.heap[w.heap.size+1]?=some o2:=by
 obtain⟨w1,h1,b1,c1⟩:=aI w o1
 obtain⟨w2,h2,b2,c2⟩:=aI w1 o2
 have hs:w1.heap.size=w.heap.size+1:=by rw [←h1];exact World.size_alloc _ _
 refine⟨w2,by rw [h1];exact h2,b1.trans (b2.mono b1.size),?_,by rw [←hs];exact c2⟩
 rw [b2.block w.heap.size (lt_of_block c1)];exact c1

theorem dr (w:World)(o1 o2 o3:Obj):∃w0,((w.alloc o1).alloc o2).alloc o3=w0∧Below w.heap.size w w0∧w0.heap[w.heap.size]?=some o1∧w0.heap[w.heap.size+1]?=some o2∧w0.heap[w.heap.size+2]?=some o3:=by
 obtain⟨w1,h1,b1,c1,c2⟩:=ct w o1 o2
 obtain⟨w2,h2,b2,c3⟩:=aI w1 o3
 have hs:w1.heap.size=w.heap.size+2:=by rw [←h1,World.size_alloc,World.size_alloc]
 refine⟨w2,by rw [h1];exact h2,b1.trans (b2.mono b1.size),?_,?_,by rw [←hs];exact c3⟩
 ·rw [b2.block _ (lt_of_block c1)];exact c1
 ·rw [b2.block _ (lt_of_block c2)];exact c2

theorem ac {w w':World}{g:Nat}{x:Obj}(hb:Below w.heap.size w w')(h:w.heap[g]?=some x):w'.heap[g]?=some x:=by
 rw [hb.block g (lt_of_block h)];exact h

theorem duo {w:World}{h:Nat}{a b:Value}{t:TypeId}(e:w.heap[h]?=some (.cells #[a,b] t)):w.cell? ⟨h,0,none⟩=some a∧w.cell? ⟨h,1,none⟩=some b:=⟨by simp [World.cell?,e],by simp [World.cell?,e]⟩

theorem dl (w:World)(o:Obj):Below w.heap.size w (w.alloc o):=(Below.refl _ _).alloc (Nat.le_refl _) _

theorem mR (x:Nat):blen x=0 ↔ x=0:=by
 have h:=blen_le_iff x 0
 rw [Nat.pow_zero] at h
 omega

theorem e8 (v:Value)(X:List Nat)(w:World)(hA:Arg w v X) :
  Calls Tryz.prog 39 #[v] w fun e w'=>e=.returned (.bool (decide (val X=0)))∧w'=w:=by
 have L:=aP v X w hA
 obtain⟨a,c,rfl,_,_,_⟩:=hA.form
 have hz:=mR (val X)
 clear hA
 generalize blen (val X)=l at *
 by_cases h0:l=0
 ·have h2:((l:Int) == 0)=true:=by rw [beq_iff_eq];omega
  rw [decide_eq_true (hz.1 h0)]
  go_enter Tryz.func39,Tryz.ntmps39
  go_wp2_with fail
  refine L.mono ?_
  rintro e wn ⟨rfl,hw⟩;rw [hw];clear hw wn L
  go_wp2
  go_ret
  exact⟨rfl,rfl⟩
 ·have h1:¬val X=0:=fun h=>h0 (hz.2 h)
  have h2:((l:Int) == 0)=false:=by rw [beq_eq_false_iff_ne];omega
  rw [decide_eq_false h1]
  go_enter Tryz.func39,Tryz.ntmps39
  go_wp2_with fail
  refine L.mono ?_
  rintro e wn ⟨rfl,hw⟩;rw [hw];clear hw wn L
  go_wp2
  go_ret
  exact⟨rfl,rfl⟩

def sg (b:Bool)(x:Nat):Int:=if x=0 then 0 else if b then -1 else 1

theorem fC (b:Bool)(x:Nat):sg b x=(zz b x).sign:=by
 unfold sg zz
 by_cases h:x=0
 ·subst h;cases b <;> rfl
 ·rw [if_neg h]
  cases b
  ·simp only [Bool.false_eq_true,if_false]
   exact (Int.sign_eq_one_of_pos (by omega)).symm
  ·simp only [if_true]
   exact (Int.sign_eq_neg_one_of_neg (by omega)).symm

theorem dJ (b:Bool)(v:Value)(X:List Nat)(w:World)(hA:Arg w v X) :
  Calls Tryz.prog 42 #[.agg #[.bool b,v]] w fun e w'=>e=.returned (.int .i64 (sg b (val X)))∧Below w.heap.size w w':=by
 obtain⟨a,c,rfl,_,_,_⟩:=hA.form
 obtain⟨w0,hw0⟩:∃w0,w.alloc (.cells #[.bool b,.slice a X.length c] 27)=w0:=⟨_,rfl⟩
 have hb0:Below w.heap.size w w0:=by rw [←hw0];exact dl _ _
 have h0:w0.heap[w.heap.size]?=some (.cells #[.bool b,.slice a X.length c] 27):=by rw [←hw0];exact heap_alloc_new ..
 obtain⟨k0,k1⟩:=duo h0
 have HZ:=e8 _ X w0 (hA.below hb0)
 have HB:=aa hb0
 unfold sg
 clear hA h0 hb0
 by_cases hx:val X=0
 ·rw [if_pos hx]
  rw [decide_eq_true hx] at HZ
  go_enter Tryz.func42,Tryz.ntmps42
  go_wp2_with fail
  refine HZ.mono ?_
  rintro e wn ⟨rfl,hw⟩;rw [hw];clear hw wn HZ
  go_wp2
  go_ret
  exact⟨rfl,HB.out⟩
 ·rw [if_neg hx]
  rw [decide_eq_false hx] at HZ
  cases b
  ·go_enter Tryz.func42,Tryz.ntmps42
   go_wp2_with fail
   refine HZ.mono ?_
   rintro e wn ⟨rfl,hw⟩;rw [hw];clear hw wn HZ
   go_wp2
   go_ret
   exact⟨rfl,HB.out⟩
  ·go_enter Tryz.func42,Tryz.ntmps42
   go_wp2_with fail
   refine HZ.mono ?_
   rintro e wn ⟨rfl,hw⟩;rw [hw];clear hw wn HZ
   go_wp2
   go_ret
   exact⟨rfl,HB.out⟩

theorem qR (b:Bool)(v:Value)(X:List Nat)(w:World)(hA:Arg w v X) :
  Calls Tryz.prog 68 #[.agg #[.bool b,v]] w fun e w'=>e=.returned (.bool (decide (zz b (val X)<0)))∧Below w.heap.size w w':=by
 obtain⟨a,c,rfl,_,_,_⟩:=hA.form
 obtain⟨w0,hw0⟩:∃w0,w.alloc (.cells #[.bool b,.slice a X.length c] 27)=w0:=⟨_,rfl⟩
 have hb0:Below w.heap.size w w0:=by rw [←hw0];exact dl _ _
 have h0:w0.heap[w.heap.size]?=some (.cells #[.bool b,.slice a X.length c] 27):=by rw [←hw0];exact heap_alloc_new ..
 obtain⟨k0,k1⟩:=duo h0
 have HZ:=dJ b _ X w0 (hA.below hb0)
 have HB:=aa hb0
 rw [fC] at HZ
 generalize zz b (val X)=z at *
 clear hA h0 hb0
 by_cases hz:z<0
 ·rw [Int.sign_eq_neg_one_of_neg hz] at HZ
  rw [decide_eq_true hz]
  go_enter Tryz.func68,Tryz.ntmps68
  go_wp2_with fail
  refine HZ.mono ?_
  rintro e w1 ⟨rfl,hb1⟩
  have HB1:=aa (HB.out.trans (hb1.mono HB.out.size))
  clear hb1 HZ
  go_wp2
  go_ret
  exact⟨rfl,HB1.out⟩
 ·have h1:¬z.sign<0:=fun h=>hz (Int.sign_neg_iff.1 h)
  rw [decide_eq_false hz]
  generalize z.sign=s at *
  have hds:decide (s<0)=false:=decide_eq_false h1
  go_enter Tryz.func68,Tryz.ntmps68
  go_wp2_with fail
  refine HZ.mono ?_
  rintro e w1 ⟨rfl,hb1⟩
  have HB1:=aa (HB.out.trans (hb1.mono HB.out.size))
  clear hb1 HZ
  go_wp2
  go_ret
  exact⟨rfl,HB1.out⟩

theorem dW (b:Bool)(v:Value)(rs:List Nat)(base:Nat)(w:World)(hA:Ans w base v rs) :
  Calls Tryz.prog 47 #[.bool b,v] w fun e w'=>e=.returned (.agg #[.bool (b && decide (0<rs.length)),v])∧Below w.heap.size w w':=by
 obtain⟨a,c,rfl⟩:∃a c,v=.slice a rs.length c:=by
  rcases hA.form with ⟨rfl,h⟩|⟨g,cap,rfl,_⟩
  ·exact⟨none,0,by rw [h];rfl⟩
  ·exact⟨_,_,rfl⟩
 clear hA
 generalize rs.length=n at *
 cases b
 ·have HB:=aa (dl w (.cells #[.bool false,.slice a n c] 27))
  go_enter Tryz.func47,Tryz.ntmps47
  go_wp2
  go_returns
  exact⟨rfl,HB.out⟩
 ·by_cases hn:0<n
  ·have i1:(0:Int)<(n:Int):=by omega
   have HB:=aa (dl w (.cells #[.bool true,.slice a n c] 27))
   rw [decide_eq_true hn]
   go_enter Tryz.func47,Tryz.ntmps47
   go_wp2
   go_returns
   exact⟨rfl,HB.out⟩
  ·have i1:¬(0:Int)<(n:Int):=by omega
   have HB:=aa (dl w (.cells #[.bool false,.slice a n c] 27))
   rw [decide_eq_false hn]
   go_enter Tryz.func47,Tryz.ntmps47
   go_wp2
   go_returns
   exact⟨rfl,HB.out⟩

theorem jh (b:Bool)(x y:Nat):zz b x+zz b y=zz b (x+y):=by cases b <;> simp [zz] <;> omega

theorem jC (b:Bool){x y:Nat}(h:y≤x):zz b x+zz (!b) y=zz b (x - y):=by cases b <;> simp [zz] <;> omega

theorem iP (b:Bool){x y:Nat}(h:x≤y):zz b x+zz (!b) y=zz (!b) (y - x):=by cases b <;> simp [zz] <;> omega

theorem og (b t:Bool)(x y:Nat):zz b x*zz t y=zz (b != t) (x*y):=by
 cases b <;> cases t <;> simp [zz,Int.mul_neg,Int.neg_mul]

theorem aB {w:World}{h:Nat}{a b:Value}{t:TypeId}(e:w.heap[h]?=some (.cells #[a,b] t)):∀k,w.frozen? ⟨h,k,none⟩=false:=fun k=>by simp [World.frozen?,e]

theorem aF {w:World}{h:Nat}{a b a' b':Value}{t:TypeId}(e:w.heap[h]?=some (.cells #[a,b] t)):((w.setCell ⟨h,0,none⟩ a').setCell ⟨h,1,none⟩ b').heap[h]?=some (.cells #[a',b'] t):=
 aN (aN e a') b'

theorem aE {B:Nat}{w0 w:World}{g:Nat}{u0 u1:Value}(h:Below B w0 w)(hg:B≤g):Below B w0 ((w.setCell ⟨g,0,none⟩ u0).setCell ⟨g,1,none⟩ u1):=
 (h.setCell (p:=⟨g,0,none⟩) hg u0).setCell (p:=⟨g,1,none⟩) hg u1

theorem Ans.off1 {w:World}{base g o:Nat}{v u:Value}{zs:List Nat}{vs:Array Value}(h:Ans w base v zs)(hl:w.heap[g]?=some (.cells vs 27)):Ans (w.setCell ⟨g,o,none⟩ u) base v zs:=by
 have hne:v.ownBlock≠some g:=by
  obtain⟨_,h2⟩:=h.own
  rcases h2 with ⟨rfl,_⟩|⟨g',cap,cur,rfl,_,hh,_⟩
  ·simp [Value.ownBlock]
  ·intro e
   simp [Value.ownBlock] at e
   subst e
   rw [hl] at hh
   simp at hh
 exact⟨ownsRow_setCell_other h.own hne _,h.limbs⟩

theorem Ans.duo {w:World}{base g:Nat}{v u0 u1 a b:Value}{zs:List Nat}(h:Ans w base v zs)(hl:w.heap[g]?=some (.cells #[a,b] 27)):Ans ((w.setCell ⟨g,0,none⟩ u0).setCell ⟨g,1,none⟩ u1) base v zs:=
 (h.off1 hl).off1 (aN hl u0)

theorem ZR.duo {w:World}{base g:Nat}{b:Bool}{va u0 u1 a1 b1:Value}{c z:Int}(h:ZR w base b va c z)(hl:w.heap[g]?=some (.cells #[a1,b1] 27)):ZR ((w.setCell ⟨g,0,none⟩ u0).setCell ⟨g,1,none⟩ u1) base b va c z:=by
 obtain⟨rs,h1,h2⟩:=h
 exact⟨rs,h1.duo hl,h2⟩

theorem Ans.shape {w:World}{base:Nat}{v:Value}{rs:List Nat}(h:Ans w base v rs):∃a c,v=.slice a rs.length c:=by
 rcases h.form with ⟨rfl,h⟩|⟨g,cap,rfl,_⟩
 ·exact⟨none,0,by simp_all⟩
 ·exact⟨_,_,rfl⟩

theorem dt (b:Bool)(v:Value)(rs:List Nat)(c:Int)(s base:Nat)(w:World)(hA:Ans w base v rs)
  (h:(c=0∧val rs=s∧tr rs=rs∧blen s≤67108864)∨(c=3∧rs=[]∧67108864<blen s)) :
  Calls Tryz.prog 65 #[.bool b,v,.int .i64 c] w fun e w'=>di w' base e (zz b s)∧Below w.heap.size w w':=by
 obtain⟨w0,hw0⟩:∃w0,w.alloc (.cells #[.bool false,.slice none 0 0] 27)=w0:=⟨_,rfl⟩
 have hb0:Below w.heap.size w w0:=by rw [←hw0];exact dl _ _
 have h0:w0.heap[w.heap.size]?=some (.cells #[.bool false,.slice none 0 0] 27):=by rw [←hw0];exact heap_alloc_new ..
 have hf0:=aB h0
 obtain⟨k0,k1⟩:=duo h0
 rcases h with ⟨rfl,h1,h2,h3⟩|⟨rfl,h1,h2⟩
 ·have HS:=dW b v rs base w0 (hA.below hb0)
  have hsg:=dT b h2 h1
  rw [hsg] at HS
  have hv:val rs=(zz b s).natAbs:=by rw [aJ];exact h1
  have hbl:blen (zz b s).natAbs≤67108864:=by rw [aJ];exact h3
  obtain⟨a,cc,rfl⟩:=hA.shape
  have HA:=aa (hA.below hb0)
  have HV:=aa (And.intro hv (And.intro h2 hbl))
  have HB0:=aa hb0
  have H0:=aa h0
  generalize zz b s=z at *
  clear hA hb0 h0 h1 h2 h3 hsg hv hbl
  go_enter Tryz.func65,Tryz.ntmps65
  go_wp2_with fail
  refine HS.mono ?_
  rintro e w1 ⟨rfl,hb1⟩
  have h1:w1.heap[w.heap.size]?=some (.cells #[.bool false,.slice none 0 0] 27):=by rw [hb1.block w.heap.size (lt_of_block H0.out)];exact H0.out
  have HBX:=aa h1
  have HAN:=aa (HA.out.below hb1)
  have HBE:=aa (HB0.out.trans (hb1.mono HB0.out.size))
  have hf1:=aB h1
  obtain⟨l0,l1⟩:=duo h1
  clear h1 hb1 HS k0 k1 hf0 hw0 H0 HA
  go_wp2
  have R5:=aF HBX.out (a':=.bool (decide (z<0))) (b':=.slice a rs.length cc)
  have HD:=aa (And.intro (HAN.out.duo (u0:=.bool (decide (z<0))) (u1:=.slice a rs.length cc) HBX.out) (aE HBE.out (g:=w.heap.size) (u0:=.bool (decide (z<0))) (u1:=.slice a rs.length cc) (Nat.le_refl _)))
  generalize (w1.setCell ⟨w.heap.size,0,none⟩ (.bool (decide (z<0)))).setCell ⟨w.heap.size,1,none⟩ (.slice a rs.length cc)=w5 at *
  obtain⟨q0,q1⟩:=duo R5
  refine bodyPost_ret (v:=.tuple #[.agg #[.bool (decide (z<0)),.slice a rs.length cc],.int .i64 0]) (by simp [results,Tryz.results65,go_sem,q0,q1]) rfl ?_
  exact⟨⟨_,_,_,_,0,rfl,rs,HD.out.1,.inl ⟨rfl,rfl,HV.out⟩⟩,HD.out.2⟩
 ·subst h1
  obtain⟨a,cc,rfl⟩:=hA.shape
  have hbl:67108864<blen (zz b s).natAbs:=by rw [aJ];exact h2
  have HB0:=aa hb0
  have HBX:=aa h0
  have HV:=aa hbl
  generalize zz b s=z at *
  clear hA hb0 h0 h2 hbl
  go_enter Tryz.func65,Tryz.ntmps65
  go_wp2
  have R5:=aF HBX.out (a':=.bool false) (b':=.slice none 0 0)
  have HD:=aa (aE HB0.out (g:=w.heap.size) (u0:=.bool false) (u1:=.slice none 0 0) (Nat.le_refl _))
  generalize (w0.setCell ⟨w.heap.size,0,none⟩ (.bool false)).setCell ⟨w.heap.size,1,none⟩ (.slice none 0 0)=w5 at *
  obtain⟨q0,q1⟩:=duo R5
  refine bodyPost_ret (v:=.tuple #[.agg #[.bool false,.slice none 0 0],.int .i64 3]) (by simp [results,Tryz.results65,go_sem,q0,q1]) rfl ?_
  exact⟨⟨_,_,_,_,3,rfl,[],Ans.nil _ _,.inr ⟨rfl,rfl,rfl,rfl,HV.out⟩⟩,HD.out⟩

theorem dD {w:World}{g h:Nat}{u0 u1:Value}{x:Obj}(e:w.heap[h]?=some x)(hne:h≠g):((w.setCell ⟨g,0,none⟩ u0).setCell ⟨g,1,none⟩ u1).heap[h]?=some x:=by
 rw [Below.heap_setCell _ _ _ _ hne,Below.heap_setCell _ _ _ _ hne];exact e

theorem kX:fj ((digs 10 2 42).map fig)=⟨#[52,50]⟩:=by decide +kernel

theorem ix {rs:List Nat}{x n:Nat}(ht:tr rs=rs)(hv:val rs=x)(hb:blen x≤n*64):rs.length≤n:=by
 rw [←ht]
 refine aH rs n ?_
 rw [hv]
 have h:=(blen_le_iff x _).1 hb
 rw [Nat.mul_comm,Nat.pow_mul] at h
 exact h

theorem bt9 {W0 W t:World}(h:Below W0.heap.size W0 W)(h2:Below W.heap.size W t):Below W0.heap.size W0 t:=h.trans (h2.mono h.size)

theorem dB {w:World}{g p:Nat}(h:w.heap[g]?=some (.cells #[.int .u64 (p:Int)] 61))(hp:p<18446744073709551616):Arg w (.slice (some ⟨g,0,none⟩) 1 1) [p]:=by
 have hblk:Blk w g [p]:=h
 exact (Ans.of_blk (base:=0) (zs:=[p]) (Nat.zero_le _) hblk (by simp) (by simp) (by simp) (by intro z hz;simp at hz;omega)).arg (by simp)

theorem dp (p:Nat):val [p]=p:=by simp [val]

theorem fq (w:World)(hT:Tab w):Calls Tryz.prog 29 #[] w fun e w'=>e=.returned (.bool true)∧Below w.heap.size w w':=by
 obtain⟨w0,hw0,hb0,h0,h1⟩:=ct w (.cells #[.int .u64 6] 61) (.cells #[.int .u64 7] 61)
 have hq:∀x,x≤100→blen x≤64:=fun x hx=>by have:blen x≤10:=(blen_le_iff _ _).2 (by omega);omega
 have HQ:=aa hq
 have C:=df _ _ [6] [7] w0 (dB h0 (by omega)) (dB h1 (by omega)) (hT.below hb0) (by simp)
 rw [dp,dp] at C
 have HB:=aa hb0
 have HT:=aa (hT.below hb0)
 clear h0 h1 hb0 hT hq
 go_enter Tryz.func29,Tryz.ntmps29
 go_wp2_with fail
 refine C.mono ?_
 rintro e w1 ⟨hb,v1,c,r1,rfl,hans,hres⟩
 obtain⟨rfl,hv1,ht1⟩:c=0∧val r1=42∧tr r1=r1:=by
  rcases hres with ⟨h1,h2,h3,_⟩|⟨_,_,h⟩
  ·exact⟨h1,h2,h3⟩
  ·have h9:=HQ.out (6*7) (by omega)
   omega
 have hl1:r1.length≤1:=ix ht1 hv1 (HQ.out 42 (by omega))
 obtain⟨a1,k1,rfl⟩:=hans.shape
 replace HB:=aa (bt9 HB.out hb)
 replace HT:=aa (HT.out.below hb)
 have HA:=aa (hans.arg (by omega))
 have HV:=aa (And.intro hv1 hl1)
 clear C hb hans hres hv1 ht1 hl1 hw0
 obtain⟨u1,hu1,hbu,hxu⟩:=aI w1 (.cells #[.int .u64 49] 61)
 have C:=oM _ [49] 7 u1 (dB hxu (by omega)) (by rw [dp];omega) (by decide) ⟨by rw [dp];omega,by rw [dp];omega⟩
 replace HB:=aa (bt9 HB.out hbu)
 replace HT:=aa (HT.out.below hbu)
 replace HA:=aa (HA.out.below hbu)
 clear hbu hxu
 go_wp2_with fail
 refine C.mono ?_
 rintro e w2 ⟨⟨v2,v3,r2,r3,rfl,A2,A3,e2,t2,_,_⟩,hb⟩
 replace HB:=aa (bt9 HB.out hb)
 replace HT:=aa (HT.out.below hb)
 replace HA:=aa (HA.out.below hb)
 have hl2:r2.length≤1:=ix t2 e2 (HQ.out 7 (by omega))
 obtain⟨a2,k2,rfl⟩:=A2.shape
 obtain⟨a3,k3,rfl⟩:=A3.shape
 have HA2:=aa (A2.arg (by omega))
 have HV2:=aa e2
 have C:=qQ _ (val r1) 10 w2 (by omega) (by omega) (nK _ r1 10 w2 HA.out HT.out (by have:=HV.out.2;omega) (by omega) (by omega))
 rw [HV.out.1] at C
 clear hb A2 A3 e2 t2 hl2 hu1
 go_wp2_with fail
 refine C.mono ?_
 rintro e w3 ⟨D,rfl,hd,hdig,hb⟩
 obtain⟨n,hn⟩:∃n,D.length=n:=⟨_,rfl⟩
 have hDe:=qU hn hdig
 rw [hn] at hd
 have hn2:n=2:=hd.unique (by omega) ⟨by omega,by omega,.inr (by omega)⟩
 subst hn2
 subst hDe
 rw [kX]
 replace HB:=aa (bt9 HB.out hb)
 replace HA2:=aa (HA2.out.below hb)
 clear C hd hdig hb hn
 obtain⟨u3,hu3,hbu,hxu⟩:=aI w3 (.cells #[.int .u64 7] 61)
 have C:=b7 _ _ r2 [7] u3 (HA2.out.below hbu) (dB hxu (by omega))
 rw [dp,HV2.out,cmpN_self] at C
 replace HB:=aa (bt9 HB.out hbu)
 clear hbu hxu HA2
 go_wp2_with fail
 refine C.mono ?_
 rintro e w4 ⟨rfl,hs⟩
 have hb:Below u3.heap.size u3 w4:=hs.below _
 replace HB:=aa (bt9 HB.out hb)
 clear hs hb C hu3
 obtain⟨u4,hu4,hbu,hxu⟩:=aI w4 (.cells #[.int .u64 1] 61)
 have C:=dJ true _ [1] u4 (dB hxu (by omega))
 rw [dp] at C
 have e1:sg true 1=-1:=by decide
 rw [e1] at C
 replace HB:=aa (bt9 HB.out hbu)
 clear hbu hxu e1
 go_wp2_with fail
 refine C.mono ?_
 rintro e w5 ⟨rfl,hb⟩
 replace HB:=aa (bt9 HB.out hb)
 clear hb C
 go_wp2
 go_ret
 exact⟨rfl,HB.out⟩

def jW (x y:Nat)(w:World)(e:Ending)(w':World):Prop:=(e=.returned (.bool false)∨(e=.returned (.bool true)∧blen x≤4096∧blen y≤4096))∧Below w.heap.size w w'

theorem qh (L:Nat)(v1 v2:Value)(X Y:List Nat)(t:TypeId)(w:World)(hA:Arg w v1 X)(hB:Arg w v2 Y)(hf1:X.length≤17592186043904)(hf2:Y.length≤17592186043904)(hL:w.heap[L]?=some (.cells #[v1,v2] t)) :
  Calls Tryz.prog 28 #[.int .i64 4096,.slice (some ⟨L,0,none⟩) 2 2] w (jW (val X) (val Y) w):=by
 obtain⟨a1,n1,rfl,_,_,_⟩:=hA.form
 obtain⟨a2,n2,rfl,_,_,_⟩:=hB.form
 obtain⟨c0,c1⟩:=duo hL
 have C:=ir _ X w hA (by omega)
 have HL:=aa hL
 have HB:=aa hB
 obtain⟨lx,hlx⟩:∃lx,blen (val X)=lx:=⟨_,rfl⟩
 obtain⟨ly,hly⟩:∃ly,blen (val Y)=ly:=⟨_,rfl⟩
 unfold jW
 rw [hlx,hly]
 have HLX:=aa hlx
 have HLY:=aa hly
 clear hA hB hL hlx hly
 go_enter Tryz.func28,Tryz.ntmps28
 go_wp2
 refine wp_loop_rounds 3 ?_
 rw [rounds_succ]
 go_wp2_with fail
 refine C.mono ?_
 rintro e w1 ⟨⟨u1,rfl,hn⟩,hb1⟩
 have C:=io u1 _ w1 hn
 rw [HLX.out] at C
 have HB1:=aa hb1
 clear hn hb1
 go_wp2_with fail
 refine C.mono ?_
 rintro e wn ⟨rfl,hw⟩;rw [hw];clear hw wn C
 by_cases h1:4096<lx
 ·have i1:(4096:Int)<(lx:Int):=by omega
  go_wp2
  go_ret
  exact⟨.inl rfl,HB1.out⟩
 ·have i1:¬(4096:Int)<(lx:Int):=by omega
  have C:=ir _ Y w1 (HB.out.below HB1.out) (by omega)
  clear c0 c1
  obtain⟨c0,c1⟩:=duo (ac HB1.out HL.out)
  go_wp2
  rw [rounds_succ]
  go_wp2_with fail
  refine C.mono ?_
  rintro e w2 ⟨⟨u2,rfl,hn⟩,hb2⟩
  have C:=io u2 _ w2 hn
  rw [HLY.out] at C
  have HB2:=aa (bt9 HB1.out hb2)
  clear hn hb2
  go_wp2_with fail
  refine C.mono ?_
  rintro e wn ⟨rfl,hw⟩;rw [hw];clear hw wn C
  by_cases h2:4096<ly
  ·have i2:(4096:Int)<(ly:Int):=by omega
   go_wp2
   go_ret
   exact⟨.inl rfl,HB2.out⟩
  ·have i2:¬(4096:Int)<(ly:Int):=by omega
   go_wp2
   rw [rounds_succ]
   go_wp2
   go_ret
   exact⟨.inr ⟨rfl,by omega,by omega⟩,HB2.out⟩
end Go.Proofs.YtdbjbbdhlpfhjaaGreatDoor
namespace Go.Proofs.YtdbjbbdhlpfhjaaGreatDoor
namespace Lm

theorem lehmer_gcd {X Y X' Y' a b c d:Nat}(h1:X=d*X'+b*Y')(h2:Y=c*X'+a*Y')(h3:∀g,g ∣ X→g ∣ Y→g ∣ X'∧g ∣ Y'):Nat.gcd X' Y'=Nat.gcd X Y:=by
 refine Nat.dvd_antisymm (Nat.dvd_gcd ?_ ?_) ?_
 ·rw [h1];exact Nat.dvd_add (Nat.dvd_trans (Nat.gcd_dvd_left _ _) (Nat.dvd_mul_left _ _)) (Nat.dvd_trans (Nat.gcd_dvd_right _ _) (Nat.dvd_mul_left _ _))
 ·rw [h2];exact Nat.dvd_add (Nat.dvd_trans (Nat.gcd_dvd_left _ _) (Nat.dvd_mul_left _ _)) (Nat.dvd_trans (Nat.gcd_dvd_right _ _) (Nat.dvd_mul_left _ _))
 ·obtain⟨k1,k2⟩:=h3 _ (Nat.gcd_dvd_left X Y) (Nat.gcd_dvd_right X Y)
  exact Nat.dvd_gcd k1 k2

theorem dvd_of_sum {g p q r:Nat}(h:p+q=r)(hq:g ∣ q)(hr:g ∣ r):g ∣ p:=by
 have:p=r - q:=by omega
 rw [this];exact Nat.dvd_sub hr hq

structure LTake (X Y X' Y':Nat):Prop where
 lt:Y'<X'
 le:X'≤Y
 gcd:Nat.gcd X' Y'=Nat.gcd X Y

theorem lehmer_even {X Y P xh yh xl yl x y a b c d:Nat}(det:a*d=b*c+1)(hx:xh=d*x+b*y)(hy:yh=c*x+a*y)(eX:X=xh*P+xl)(eY:Y=yh*P+yl)(lx:xl<P)(ly:yl<P)
  (h1:d≤y) (h2:y+(b+d)≤x) (hcd:c≤d) (hc:1≤c) :
  ∃X' Y',X'+b*Y=a*X∧Y'+c*X=d*Y∧LTake X Y X' Y':=by
 have e1:a*xh=b*yh+x:=by rw [hx,hy];grind
 have e2:d*yh=c*xh+y:=by rw [hx,hy];grind
 have b1:b*yl≤b*P:=Nat.mul_le_mul_left _ (Nat.le_of_lt ly)
 have b2:c*xl≤c*P:=Nat.mul_le_mul_left _ (Nat.le_of_lt lx)
 have b3:(b+d)*yl<(b+d)*P:=Nat.mul_lt_mul_of_pos_left ly (by omega)
 have b4:(y+(b+d))*P≤x*P:=Nat.mul_le_mul_right _ h2
 have b5:c*P≤y*P:=Nat.mul_le_mul_right _ (by omega)
 rw [Nat.add_mul,Nat.add_mul b d P] at b4
 rw [Nat.add_mul,Nat.add_mul b d P] at b3
 obtain⟨X',eX'⟩:∃X',X'+b*yl=x*P+a*xl:=⟨x*P+a*xl - b*yl,by omega⟩
 obtain⟨Y',eY'⟩:∃Y',Y'+c*xl=y*P+d*yl:=⟨y*P+d*yl - c*xl,by omega⟩
 have f1:X'+b*Y=a*X:=by
  rw [eX,eY,Nat.mul_add,Nat.mul_add,←Nat.mul_assoc,←Nat.mul_assoc,e1,Nat.add_mul];omega
 have f2:Y'+c*X=d*Y:=by
  rw [eX,eY,Nat.mul_add,Nat.mul_add,←Nat.mul_assoc,←Nat.mul_assoc,e2,Nat.add_mul];omega
 have g1:X=d*X'+b*Y':=by
  have k1:d*(X'+b*Y)=d*(a*X):=by rw [f1]
  have k2:b*(Y'+c*X)=b*(d*Y):=by rw [f2]
  have k3:a*d*X=(b*c+1)*X:=by rw [det]
  grind
 have g2:Y=c*X'+a*Y':=by
  have k1:c*(X'+b*Y)=c*(a*X):=by rw [f1]
  have k2:a*(Y'+c*X)=a*(d*Y):=by rw [f2]
  have k3:a*d*Y=(b*c+1)*Y:=by rw [det]
  grind
 refine⟨X',Y',f1,f2,?_,?_,lehmer_gcd g1 g2 fun g k1 k2=>⟨dvd_of_sum f1 (Nat.dvd_mul_left_of_dvd k2 _) (Nat.dvd_mul_left_of_dvd k1 _),dvd_of_sum f2 (Nat.dvd_mul_left_of_dvd k1 _) (Nat.dvd_mul_left_of_dvd k2 _)⟩⟩
 ·omega
 ·rw [g2]
  have:=Nat.le_mul_of_pos_left X' (show 0<c by omega)
  omega

theorem lehmer_odd {X Y P xh yh xl yl x y a b c d:Nat}(det:b*c=a*d+1)(hx:xh=d*x+b*y)(hy:yh=c*x+a*y)(eX:X=xh*P+xl)(eY:Y=yh*P+yl)(lx:xl<P)(ly:yl<P)
  (h1:d≤y) (h2:y+(b+d)≤x) (hab:a≤b) (hcd:c≤d) (hc:1≤c) :
  ∃X' Y',X'+a*X=b*Y∧Y'+d*Y=c*X∧LTake X Y X' Y':=by
 have e1:b*yh=a*xh+x:=by rw [hx,hy];grind
 have e2:c*xh=d*yh+y:=by rw [hx,hy];grind
 have b1:a*xl≤a*P:=Nat.mul_le_mul_left _ (Nat.le_of_lt lx)
 have b2:d*yl≤d*P:=Nat.mul_le_mul_left _ (Nat.le_of_lt ly)
 have b3:(a+c)*xl<(a+c)*P:=Nat.mul_lt_mul_of_pos_left lx (by omega)
 have b4:(y+(a+c))*P≤x*P:=Nat.mul_le_mul_right _ (by omega)
 have b5:d*P≤y*P:=Nat.mul_le_mul_right _ (by omega)
 rw [Nat.add_mul,Nat.add_mul a c P] at b4
 rw [Nat.add_mul,Nat.add_mul a c P] at b3
 obtain⟨X',eX'⟩:∃X',X'+a*xl=x*P+b*yl:=⟨x*P+b*yl - a*xl,by omega⟩
 obtain⟨Y',eY'⟩:∃Y',Y'+d*yl=y*P+c*xl:=⟨y*P+c*xl - d*yl,by omega⟩
 have f1:X'+a*X=b*Y:=by
  rw [eX,eY,Nat.mul_add,Nat.mul_add,←Nat.mul_assoc,←Nat.mul_assoc,e1,Nat.add_mul];omega
 have f2:Y'+d*Y=c*X:=by
  rw [eX,eY,Nat.mul_add,Nat.mul_add,←Nat.mul_assoc,←Nat.mul_assoc,e2,Nat.add_mul];omega
 have g1:X=d*X'+b*Y':=by
  have k1:d*(X'+a*X)=d*(b*Y):=by rw [f1]
  have k2:b*(Y'+d*Y)=b*(c*X):=by rw [f2]
  have k3:b*c*X=(a*d+1)*X:=by rw [det]
  grind
 have g2:Y=c*X'+a*Y':=by
  have k1:c*(X'+a*X)=c*(b*Y):=by rw [f1]
  have k2:a*(Y'+d*Y)=a*(c*X):=by rw [f2]
  have k3:b*c*Y=(a*d+1)*Y:=by rw [det]
  grind
 refine⟨X',Y',f1,f2,?_,?_,lehmer_gcd g1 g2 fun g k1 k2=>⟨dvd_of_sum f1 (Nat.dvd_mul_left_of_dvd k1 _) (Nat.dvd_mul_left_of_dvd k2 _),dvd_of_sum f2 (Nat.dvd_mul_left_of_dvd k2 _) (Nat.dvd_mul_left_of_dvd k1 _)⟩⟩
 ·omega
 ·rw [g2]
  have:=Nat.le_mul_of_pos_left X' (show 0<c by omega)
  omega

structure LSteps (xh yh x y a b c d:Nat)(odd:Bool):Prop where
 hx:xh=d*x+b*y
 hy:yh=c*x+a*y
 even:odd=false→a*d=b*c+1
 odd:odd=true→b*c=a*d+1

theorem LSteps.start (x y:Nat):LSteps x y x y 1 0 0 1 false:=⟨by simp,by simp,by simp,by simp⟩

theorem LSteps.next {xh yh x y a b c d:Nat}{o:Bool}(h:LSteps xh yh x y a b c d o)(_hy:0<y):LSteps xh yh y (x % y) c d (a+x / y*c) (b+x / y*d) (!o):=by
 have e:=Nat.div_add_mod x y
 have h1:=h.hx
 have h2:=h.hy
 generalize x / y=q at *
 generalize x % y=r at *
 subst e
 refine⟨by rw [h1];grind,by rw [h2];grind,?_,?_⟩
 ·intro ho
  have:=h.odd (by cases o <;> simp_all)
  grind
 ·intro ho
  have:=h.even (by cases o <;> simp_all)
  grind

theorem LSteps.d_le {xh yh x y a b c d:Nat}{o:Bool}(h:LSteps xh yh x y a b c d o)(hx:0<x):d≤xh:=by
 have h1:=h.hx
 have:=Nat.le_mul_of_pos_right d hx
 omega

theorem LSteps.sum_le {xh yh x y a b c d:Nat}{o:Bool}(h:LSteps xh yh x y a b c d o)(hx:0<x)(hy:0<y):b+d≤xh:=by
 have h1:=h.hx
 have:=Nat.le_mul_of_pos_right d hx
 have:=Nat.le_mul_of_pos_right b hy
 omega

theorem LSteps.half {xh yh x y a b c d:Nat}{o:Bool}(h:LSteps xh yh x y a b c d o)(hx:d≤x)(hl:xh<18446744073709551616):d<4294967296:=by
 have h1:=h.hx
 have h2:=Nat.mul_le_mul_left d hx
 refine Nat.lt_of_not_le fun hle=>?_
 have h3:=Nat.mul_le_mul hle hle
 omega

end Lm
end Go.Proofs.YtdbjbbdhlpfhjaaGreatDoor
namespace Go.Proofs.YtdbjbbdhlpfhjaaGreatDoor
open Go.RowKit
open Lm
attribute [local go_sem ↓] Go.wp_at_zero Go.wp_at_succ

def je (p q:Nat)(c:Int)(w:World)(e:Ending)(w':World):Prop:=
 ∃(l:Nat) (t:Int),e=.returned (.tuple #[.int .u64 (l:Int),.int .i64 t])∧l<18446744073709551616∧(l:Int)+18446744073709551616*t=(p:Int) - q+c∧-4294967296≤t∧t≤4294967296∧w'=w

theorem jc (p q l1 h1 l2 h2 l3 br b2 h3 cu cs l4 m h4 b3:Nat)(c:Int)(hp:p≤79228162495817593515539431425)(hq:q≤79228162495817593515539431425)(hc1:-4294967296≤c)(hc2:c≤4294967296)
  (e1:p=h1*18446744073709551616+l1) (e2:q=h2*18446744073709551616+l2) (_:l1<18446744073709551616) (_:l2<18446744073709551616)
  (e3:l3+l2=l1+br*18446744073709551616) (e4:h3+h2+br=h1+b2*18446744073709551616) (e5:l4+m*18446744073709551616=l3+cu) (e6:h4+b3*18446744073709551616=h3+cs+m)
  (hl4:l4<18446744073709551616) (hh4:h4<18446744073709551616) (hc:(cu=c∧cs=0)∨((cu:Int)=c+18446744073709551616∧cs=18446744073709551615∧c<0)) :
  (l4:Int)+18446744073709551616*wrap64 (h4:Int)=(p:Int) - q+c∧-4294967296≤wrap64 (h4:Int)∧wrap64 (h4:Int)≤4294967296:=by
 have key:∃t:Int,(l4:Int)+18446744073709551616*t=(p:Int) - q+c∧((h4:Int)=t∨(h4:Int)=t+18446744073709551616):=by
  have h0:∃s:Int,(l4:Int)+18446744073709551616*((h4:Int)+18446744073709551616*s)=(p:Int) - q+c:=by
   rcases hc with ⟨k1,k2⟩|⟨k1,k2,_⟩
   ·exact⟨(b3:Int) - b2,by omega⟩
   ·exact⟨(b3:Int) - b2 - 1,by omega⟩
  obtain⟨s,hs⟩:=h0
  refine⟨(h4:Int)+18446744073709551616*s,hs,?_⟩
  have:s=0∨s=-1:=by omega
  rcases this with rfl|rfl <;> omega
 obtain⟨t,h1,h2⟩:=key
 have ht1:-4294967296≤t:=by omega
 have ht2:t≤4294967296:=by omega
 have ew:wrap64 (h4:Int)=t:=by
  unfold wrap64
  omega
 rw [ew]
 exact⟨h1,ht1,ht2⟩

theorem jB (c:Int)(hc1:-4294967296≤c)(hc2:c≤4294967296) :
  ∃cu cs:Nat,IntKind.u64.wrap c=(cu:Int)∧IntKind.u64.wrap (c / 9223372036854775808)=(cs:Int)∧((cu=c∧cs=0)∨((cu:Int)=c+18446744073709551616∧cs=18446744073709551615∧c<0)):=by
 rw [IntKind.wrap_u64,IntKind.wrap_u64]
 by_cases h0:0≤c
 ·exact⟨c.toNat,0,by omega,by omega,.inl (by omega)⟩
 ·exact⟨(c+18446744073709551616).toNat,18446744073709551615,by omega,by omega,.inr (by omega)⟩

theorem eF (a v b u:Nat)(c:Int)(w:World)(ha:a<4294967296)(hv:v<18446744073709551616)(hb:b<4294967296)(hu:u<18446744073709551616)(hc1:-4294967296≤c)(hc2:c≤4294967296) :
  Calls Tryz.prog 157 #[.int .u64 a,.int .u64 v,.int .u64 b,.int .u64 u,.int .i64 c] w (je (a*v) (b*u) c w):=by
 have hM1:=Tryz.bits_Mul64 a v (by omega) hv w
 have hM2:=Tryz.bits_Mul64 b u (by omega) hu w
 have hPl:a*v≤79228162495817593515539431425:=Nat.mul_le_mul (Nat.le_sub_one_of_lt ha) (Nat.le_sub_one_of_lt hv)
 have hQl:b*u≤79228162495817593515539431425:=Nat.mul_le_mul (Nat.le_sub_one_of_lt hb) (Nat.le_sub_one_of_lt hu)
 obtain⟨P,hP⟩:∃P,a*v=P:=⟨_,rfl⟩
 obtain⟨Q,hQ⟩:∃Q,b*u=Q:=⟨_,rfl⟩
 rw [hP] at hM1 hPl ⊢
 rw [hQ] at hM2 hQl ⊢
 clear hP hQ
 obtain⟨h1,eh1⟩:∃h1,P / 18446744073709551616=h1:=⟨_,rfl⟩
 obtain⟨l1,el1⟩:∃l1,P % 18446744073709551616=l1:=⟨_,rfl⟩
 obtain⟨h2,eh2⟩:∃h2,Q / 18446744073709551616=h2:=⟨_,rfl⟩
 obtain⟨l2,el2⟩:∃l2,Q % 18446744073709551616=l2:=⟨_,rfl⟩
 rw [eh1,el1] at hM1
 rw [eh2,el2] at hM2
 have p1:P=h1*18446744073709551616+l1∧l1<18446744073709551616∧h1<18446744073709551616:=by omega
 have p2:Q=h2*18446744073709551616+l2∧l2<18446744073709551616∧h2<18446744073709551616:=by omega
 clear eh1 el1 eh2 el2
 obtain⟨cu,cs,ecu,ecs,hcc⟩:=jB c hc1 hc2
 have s1:=dz l1 l2
 obtain⟨q1,q2,q3⟩:=cC l1 l2 0 p1.2.1 p2.2.1 (by omega)
 rw [Nat.sub_zero] at q1 q3
 generalize (l1+18446744073709551616 - l2) % 18446744073709551616=l3 at *
 generalize bor l1 l2 0=br at *
 have s2:=dm h1 h2 br q2
 obtain⟨r1,r2,r3⟩:=cC h1 h2 br p1.2.2 p2.2.2 q2
 generalize (h1+18446744073709551616 - h2 - br) % 18446744073709551616=h3 at *
 generalize bor h1 h2 br=b2 at *
 have a1:=bk l3 cu
 have t1:(l3+cu) % 18446744073709551616+(l3+cu) / 18446744073709551616*18446744073709551616=l3+cu∧(l3+cu) % 18446744073709551616<18446744073709551616∧(l3+cu) / 18446744073709551616≤1:=by omega
 generalize (l3+cu) % 18446744073709551616=l4 at *
 generalize (l3+cu) / 18446744073709551616=m at *
 have a2:=cQ h3 cs m t1.2.2
 have t2:(h3+cs+m) % 18446744073709551616+(h3+cs+m) / 18446744073709551616*18446744073709551616=h3+cs+m∧(h3+cs+m) % 18446744073709551616<18446744073709551616:=by omega
 generalize (h3+cs+m) % 18446744073709551616=h4 at *
 generalize (h3+cs+m) / 18446744073709551616=b3 at *
 have HF:=aa (jc P Q l1 h1 l2 h2 l3 br b2 h3 cu cs l4 m h4 b3 c hPl hQl hc1 hc2 p1.1 p2.1 p1.2.1 p2.2.1 (by omega) (by omega) t1.1 t2.1 t1.2.1 t2.2 hcc)
 have HL:=aa t1.2.1
 clear p1 p2 hcc q1 q2 q3 r1 r2 r3 t1 t2 hPl hQl
 go_enter Tryz.func157,Tryz.ntmps157
 go_wp2_with fail
 refine hM1.mono ?_
 rintro e w2 ⟨rfl,rfl⟩
 go_wp2_with fail
 refine hM2.mono ?_
 rintro e w2 ⟨rfl,rfl⟩
 clear hM1 hM2
 go_wp2
 go_ret2
 exact⟨l4,_,rfl,HL.out,HF.out.1,HF.out.2.1,HF.out.2.2,rfl⟩

def stv (a b c d:Nat)(o:Bool):Value:=.agg #[.int .u64 a,.int .u64 b,.int .u64 c,.int .u64 d,.bool o]

theorem aw {w:World}{h:Nat}{a b c d f:Value}{t:TypeId}(e:w.heap[h]?=some (.cells #[a,b,c,d,f] t)):w.cell? ⟨h,0,none⟩=some a∧w.cell? ⟨h,1,none⟩=some b∧w.cell? ⟨h,2,none⟩=some c∧w.cell? ⟨h,3,none⟩=some d∧w.cell? ⟨h,4,none⟩=some f:=
 ⟨by simp [World.cell?,e],by simp [World.cell?,e],by simp [World.cell?,e],by simp [World.cell?,e],by simp [World.cell?,e]⟩

theorem iJ (a b c d:Nat)(o:Bool)(w:World):Calls Tryz.prog 111 #[stv a b c d o] w fun e w'=>e=.returned (.bool (decide (b=0)))∧Below w.heap.size w w':=by
 unfold stv
 have hb:Below w.heap.size w (w.alloc (.cells #[.int .u64 a,.int .u64 b,.int .u64 c,.int .u64 d,.bool o] 129)):=(Below.refl _ _).alloc (Nat.le_refl _) _
 obtain⟨_,hc,_,_,_⟩:=aw (show (w.alloc (.cells #[.int .u64 a,.int .u64 b,.int .u64 c,.int .u64 d,.bool o] 129)).heap[w.heap.size]?=_ from heap_alloc_new ..)
 have hdec:((b:Int) == 0)=decide (b=0):=by by_cases h:b=0 <;> simp [h]
 have HB:=aa hb
 clear hb
 go_enter Tryz.func111,Tryz.ntmps111
 go_wp2
 go_ret
 exact⟨rfl,HB.out⟩

theorem nb (a b c d q:Nat)(o:Bool)(w:World)(h1:a+q*c<18446744073709551616)(h2:b+q*d<18446744073709551616) :
  Calls Tryz.prog 154 #[stv a b c d o,.int .u64 q] w fun e w'=>e=.returned (stv c d (a+q*c) (b+q*d) (!o))∧Below w.heap.size w w':=by
 unfold stv
 have hb:Below w.heap.size w (w.alloc (.cells #[.int .u64 a,.int .u64 b,.int .u64 c,.int .u64 d,.bool o] 129)):=(Below.refl _ _).alloc (Nat.le_refl _) _
 obtain⟨c0,c1,c2,c3,c4⟩:=aw (show (w.alloc (.cells #[.int .u64 a,.int .u64 b,.int .u64 c,.int .u64 d,.bool o] 129)).heap[w.heap.size]?=_ from heap_alloc_new ..)
 obtain⟨p,hp,ep⟩:∃p:Nat,q*c=p∧(q:Int)*(c:Int)=(p:Int):=⟨q*c,rfl,by rw [Int.natCast_mul]⟩
 obtain⟨r,hr,er⟩:∃r:Nat,q*d=r∧(q:Int)*(d:Int)=(r:Int):=⟨q*d,rfl,by rw [Int.natCast_mul]⟩
 rw [hp] at h1 ⊢
 rw [hr] at h2 ⊢
 have wp:IntKind.u64.wrap (p:Int)=(p:Int):=by rw [IntKind.wrap_u64];omega
 have wr:IntKind.u64.wrap (r:Int)=(r:Int):=by rw [IntKind.wrap_u64];omega
 have ap:(a:Int)+(p:Int)=((a+p:Nat):Int):=by omega
 have ar:(b:Int)+(r:Int)=((b+r:Nat):Int):=by omega
 clear hp hr
 generalize a+p=ap' at *
 generalize b+r=ar' at *
 have HB:=aa (hb.alloc hb.size (.cells #[.int .u64 c,.int .u64 d,.int .u64 ap',.int .u64 ar',.bool (!o)] 129))
 clear hb
 go_enter Tryz.func154,Tryz.ntmps154
 go_wp2
 go_returns
 exact⟨rfl,HB.out⟩
end Go.Proofs.YtdbjbbdhlpfhjaaGreatDoor

