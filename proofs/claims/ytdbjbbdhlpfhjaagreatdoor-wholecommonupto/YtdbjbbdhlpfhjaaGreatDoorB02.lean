/- Package nat: Norm, Bit; the reference's Bit at any place, Tail, Count. -/
import Derived.Test.YtdbjbbdhlpfhjaaGreatDoorB01
import Derived.Laws.AppendOwnNone
import Derived.Handy
set_option maxRecDepth 20000
set_option maxHeartbeats 1000000
namespace Go.Proofs.YtdbjbbdhlpfhjaaGreatDoor
open Go.RowKit
open Lm
attribute [local go_sem ↓] Go.wp_at_zero Go.wp_at_succ

theorem mh {w:World}{b off:Nat}{X:List Nat}(hc:∀k,k<X.length→w.cell? ⟨b,off+k,none⟩=some (.int .u64 ((X.getD k 0:Nat):Int)))(j:Nat)(u:Value)(hj:(X.map lv)[j]?=some u):w.cell? ((⟨b,off,none⟩:Addr).add j)=some u:=by
 rw [List.getElem?_map] at hj
 have hl:j<X.length:=by
  refine Nat.lt_of_not_le fun h=>?_
  rw [List.getElem?_eq_none h] at hj
  cases hj
 have:=hc j hl
 have e:X.getD j 0=X[j]:=by simp [List.getD,hl]
 rw [List.getElem?_eq_getElem hl] at hj
 cases hj
 have ea:(⟨b,off,none⟩:Addr).add j=⟨b,off+j,none⟩:=by simp [Addr.add]
 rw [ea,this,e];rfl

theorem nf (ao:Option Addr)(cap:Nat)(X:List Nat)(w:World)(hl:aD w ao X)(hX:Limbs X)(hf:X.length≤17592186044416) :
  Calls Tryz.prog 106 #[.slice ao X.length cap] w fun e w'=>(∃v,e=.returned v∧Ans w' w.heap.size v X)∧Below w.heap.size w w':=by
 obtain⟨i0,hi,hz0,hz1,hz2⟩:=info_parts Tryz.infoU
 have ho:w.ownsRow w.heap.size 61 1 (.slice none 0 0) 0 []:=World.ownsRow_nil _ _ _ _
 have key:∀ad:Addr,(∀j u,(X.map lv)[j]?=some u→w.cell? (ad.add j)=some u)→Calls Tryz.prog 106 #[.slice (some ad) X.length cap] w fun e w'=>(∃v,e=.returned v∧Ans w' w.heap.size v X)∧Below w.heap.size w w':=by
  intro ad hn
  have HX:=aa hX
  clear hX hl
  go_enter Tryz.func106,Tryz.ntmps106
  go_wp2_with (at_builtin;refine wpList_append_own _ rfl _ _ 25 rfl w.heap.size 61 i0 (.int .u64 0) 1 8 Tryz.underlying25 hi hz0 hz1 hz2 rfl (by decide) _ _ _ rfl ho ad X.length cap (X.map lv) rfl (by simp) hn (eW _) (by unfold maxLen;omega) (by omega) (Nat.le_refl _) ?_;intro v' w2 hown2 hgrow2 _)
  have HA:Hid (Ans w2 w.heap.size v' X):=by
   rw [Nat.zero_add,List.nil_append] at hown2
   exact⟨hown2,HX.out⟩
  have HB:Hid (Below w.heap.size w w2):=(Below.refl _ _).grown hgrow2 (Nat.le_refl _) (fun k hk=>by cases hk)
  clear hown2 hgrow2 ho hn
  go_wp2
  go_ret
  exact⟨⟨_,rfl,HA.out⟩,HB.out⟩
 rcases hl with h0|⟨b,off,rfl,hc⟩
 ·subst h0
  cases ao with
  | some ad=>exact key ad (fun j u h=>by simp at h)
  | none=>
   clear key ho hi hz0 hz1 hz2 hX
   go_enter Tryz.func106,Tryz.ntmps106
   go_wp2
   go_ret
   exact⟨⟨_,rfl,Ans.nil _ _⟩,Below.refl _ _⟩
 ·exact key _ (mh hc)

theorem ff (v:Value)(X:List Nat)(w:World)(hA:Arg w v X)(hf:X.length≤17592186044416) :
  Calls Tryz.prog 72 #[v] w fun e w'=>(∃v,e=.returned v∧Ans w' w.heap.size v (tr X))∧Below w.heap.size w w':=by
 obtain⟨a1,c1,rfl,hc1,hm1,hl1⟩:=hA.form
 have T1:=dR a1 c1 X w hc1 hm1 hl1
 have l1:=tr_length_le X
 have F:=nf a1 c1 (tr X) w hl1.tr (limbs_tr hA.limbs) (by omega)
 clear hl1 hA
 go_enter Tryz.func72,Tryz.ntmps72
 go_wp2_with fail
 refine T1.mono ?_
 rintro e w2 ⟨rfl,rfl⟩
 clear T1
 go_wp2_with fail
 refine F.mono ?_
 rintro e w3 ⟨⟨v,rfl,ha⟩,hb⟩
 have HA:=aa (And.intro ha hb)
 clear ha hb F
 go_wp2
 go_ret
 exact⟨⟨v,rfl,HA.out.1⟩,HA.out.2⟩
end Go.Proofs.YtdbjbbdhlpfhjaaGreatDoor
namespace Go.Proofs.YtdbjbbdhlpfhjaaGreatDoor
namespace Lm

end Lm
end Go.Proofs.YtdbjbbdhlpfhjaaGreatDoor
namespace Go.Proofs.YtdbjbbdhlpfhjaaGreatDoor
open Go.RowKit
open Lm

theorem jx (x:Nat)(w:World)(hx:x<18446744073709551616) :
  Calls Tryz.prog 82 #[.int .u64 x] w fun e w'=>(∃v,e=.returned v∧Ans w' w.heap.size v (tr [x]))∧Below w.heap.size w w':=by
 by_cases h:x=0
 ·subst h
  have hz:(((0:Nat):Int) == 0)=true:=rfl
  go_enter Tryz.func82,Tryz.ntmps82
  go_wp2
  go_ret
  exact⟨⟨_,rfl,Ans.nil _ _⟩,Below.refl _ _⟩
 ·have hz:((x:Int) == 0)=false:=by rw [beq_eq_false_iff_ne];omega
  have e:tr [x]=[x]:=by simp [tr,h]
  rw [e]
  clear e h
  have hb:Blk (w.alloc (.cells #[.int .u64 (x:Int)] 61)) w.heap.size [x]:=by
   unfold Blk;rw [heap_alloc_new];rfl
  have HA:=aa (Ans.of_blk (base:=w.heap.size) (zs:=[x]) (Nat.le_refl _) hb rfl (Nat.le_refl _) (by simp) (by intro y hy;simp at hy;omega))
  clear hb
  go_enter Tryz.func82,Tryz.ntmps82
  go_wp2
  go_ret
  exact⟨⟨_,rfl,HA.out⟩,(Below.refl _ _).alloc (Nat.le_refl _) _⟩
end Go.Proofs.YtdbjbbdhlpfhjaaGreatDoor
namespace Go.Proofs.YtdbjbbdhlpfhjaaGreatDoor
open Go.RowKit
open Lm
attribute [local go_sem ↓] Go.wp_at_zero Go.wp_at_succ

def zz (b:Bool)(x:Nat):Int:=if b then -(x:Int) else (x:Int)

theorem aF (b:Bool)(x:Nat):(zz b x).natAbs=x:=by cases b <;> simp [zz]

theorem jL (b:Bool)(x:Nat):zz (!b) x=-(zz b x):=by cases b <;> simp [zz]

theorem fD (b:Bool):zz b 0=0:=by cases b <;> simp [zz]

theorem fh (z:Int):zz (decide (z<0)) z.natAbs=z:=by
 unfold zz
 by_cases h:z<0
 ·rw [if_pos (by simpa using h)];omega
 ·rw [if_neg (by simpa using h)];omega

theorem gc {rs:List Nat}(ht:tr rs=rs):0<rs.length ↔ val rs≠0:=by
 constructor
 ·intro h h0
  have:=aQ rs 0 (by rw [h0];simp)
  rw [ht] at this
  omega
 ·intro h
  rcases Nat.eq_zero_or_pos rs.length with h0|h0
  ·rw [List.eq_nil_of_length_eq_zero h0] at h
   exact absurd rfl h
  ·exact h0

theorem cA {rs:List Nat}{x:Nat}(b:Bool)(ht:tr rs=rs)(hv:val rs=x):(b && decide (0<rs.length))=decide (zz b x<0):=by
 have h:=gc ht
 rw [hv] at h
 cases b
 ·simp [zz]
 ·simp only [Bool.true_and,zz,if_true]
  rw [decide_eq_decide]
  omega

def ZR (w:World)(base:Nat)(b:Bool)(va:Value)(c z:Int):Prop:=
 ∃rs,Ans w base va rs∧((c=0∧b=decide (z<0)∧val rs=z.natAbs∧tr rs=rs∧blen z.natAbs≤67108864)∨(c=3∧b=false∧va=.slice none 0 0∧rs=[]∧67108864<blen z.natAbs))

def jr (w:World)(base:Nat)(e:Ending)(z:Int):Prop:=∃b a n k c,e=.returned (.tuple #[.agg #[.bool b,.slice a n k],.int .i64 c])∧ZR w base b (.slice a n k) c z

theorem ZR.base {w:World}{base base':Nat}{b:Bool}{va:Value}{c z:Int}(h:ZR w base b va c z)(hb:base'≤base):ZR w base' b va c z:=by
 obtain⟨rs,h1,h2⟩:=h
 exact⟨rs,h1.base hb,h2⟩

theorem aO (w:World)(o1:Obj):∃w0,w.alloc o1=w0∧Below w.heap.size w w0∧w0.heap[w.heap.size]?=some o1:=⟨_,rfl,(Below.refl _ _).alloc (Nat.le_refl _) _,heap_alloc_new ..⟩

theorem bR (w:World)(o1 o2:Obj):∃w0,(w.alloc o1).alloc o2=w0∧Below w.heap.size w w0∧w0.heap[w.heap.size]?=some o1∧w0.heap[w.heap.size+1]?=some o2:=by
 obtain⟨w1,h1,b1,c1⟩:=aO w o1
 obtain⟨w2,h2,b2,c2⟩:=aO w1 o2
 have hs:w1.heap.size=w.heap.size+1:=by rw [←h1];exact World.size_alloc _ _
 refine⟨w2,by rw [h1];exact h2,b1.trans (b2.mono b1.size),?_,by rw [←hs];exact c2⟩
 rw [b2.block w.heap.size (lt_of_block c1)];exact c1

theorem dh (w:World)(o1 o2 o3:Obj):∃w0,((w.alloc o1).alloc o2).alloc o3=w0∧Below w.heap.size w w0∧w0.heap[w.heap.size]?=some o1∧w0.heap[w.heap.size+1]?=some o2∧w0.heap[w.heap.size+2]?=some o3:=by
 obtain⟨w1,h1,b1,c1,c2⟩:=bR w o1 o2
 obtain⟨w2,h2,b2,c3⟩:=aO w1 o3
 have hs:w1.heap.size=w.heap.size+2:=by rw [←h1,World.size_alloc,World.size_alloc]
 refine⟨w2,by rw [h1];exact h2,b1.trans (b2.mono b1.size),?_,?_,by rw [←hs];exact c3⟩
 ·rw [b2.block _ (lt_of_block c1)];exact c1
 ·rw [b2.block _ (lt_of_block c2)];exact c2

theorem ac {w w':World}{g:Nat}{x:Obj}(hb:Below w.heap.size w w')(h:w.heap[g]?=some x):w'.heap[g]?=some x:=by
 rw [hb.block g (lt_of_block h)];exact h

theorem duo {w:World}{h:Nat}{a b:Value}{t:TypeId}(e:w.heap[h]?=some (.cells #[a,b] t)):w.cell? ⟨h,0,none⟩=some a∧w.cell? ⟨h,1,none⟩=some b:=⟨by simp [World.cell?,e],by simp [World.cell?,e]⟩

theorem bo (w:World)(o:Obj):Below w.heap.size w (w.alloc o):=(Below.refl _ _).alloc (Nat.le_refl _) _

theorem oz (x:Nat):blen x=0 ↔ x=0:=by
 have h:=blen_le_iff x 0
 rw [Nat.pow_zero] at h
 omega

theorem dW (v:Value)(X:List Nat)(w:World)(hA:Arg w v X) :
  Calls Tryz.prog 39 #[v] w fun e w'=>e=.returned (.bool (decide (val X=0)))∧w'=w:=by
 have L:=bf v X w hA
 obtain⟨a,c,rfl,_,_,_⟩:=hA.form
 have hz:=oz (val X)
 clear hA
 generalize blen (val X)=l at *
 by_cases h0:l=0
 ·have h2:((l:Int) == 0)=true:=by rw [beq_iff_eq];omega
  rw [decide_eq_true (hz.1 h0)]
  go_enter Tryz.func39,Tryz.ntmps39
  go_wp2_with fail
  refine L.mono ?_
  rintro e wn ⟨rfl,hw⟩;rw [hw];clear hw wn L
  go_wp2
  go_ret
  exact⟨rfl,rfl⟩
 ·have h1:¬val X=0:=fun h=>h0 (hz.2 h)
  have h2:((l:Int) == 0)=false:=by rw [beq_eq_false_iff_ne];omega
  rw [decide_eq_false h1]
  go_enter Tryz.func39,Tryz.ntmps39
  go_wp2_with fail
  refine L.mono ?_
  rintro e wn ⟨rfl,hw⟩;rw [hw];clear hw wn L
  go_wp2
  go_ret
  exact⟨rfl,rfl⟩

def sg (b:Bool)(x:Nat):Int:=if x=0 then 0 else if b then -1 else 1

theorem pH (b:Bool)(x:Nat):sg b x=(zz b x).sign:=by
 unfold sg zz
 by_cases h:x=0
 ·subst h;cases b <;> rfl
 ·rw [if_neg h]
  cases b
  ·simp only [Bool.false_eq_true,if_false]
   exact (Int.sign_eq_one_of_pos (by omega)).symm
  ·simp only [if_true]
   exact (Int.sign_eq_neg_one_of_neg (by omega)).symm

theorem lI (b:Bool)(v:Value)(X:List Nat)(w:World)(hA:Arg w v X) :
  Calls Tryz.prog 42 #[.agg #[.bool b,v]] w fun e w'=>e=.returned (.int .i64 (sg b (val X)))∧Below w.heap.size w w':=by
 obtain⟨a,c,rfl,_,_,_⟩:=hA.form
 obtain⟨w0,hw0⟩:∃w0,w.alloc (.cells #[.bool b,.slice a X.length c] 27)=w0:=⟨_,rfl⟩
 have hb0:Below w.heap.size w w0:=by rw [←hw0];exact bo _ _
 have h0:w0.heap[w.heap.size]?=some (.cells #[.bool b,.slice a X.length c] 27):=by rw [←hw0];exact heap_alloc_new ..
 obtain⟨k0,k1⟩:=duo h0
 have HZ:=dW _ X w0 (hA.below hb0)
 have HB:=aa hb0
 unfold sg
 clear hA h0 hb0
 by_cases hx:val X=0
 ·rw [if_pos hx]
  rw [decide_eq_true hx] at HZ
  go_enter Tryz.func42,Tryz.ntmps42
  go_wp2_with fail
  refine HZ.mono ?_
  rintro e wn ⟨rfl,hw⟩;rw [hw];clear hw wn HZ
  go_wp2
  go_ret
  exact⟨rfl,HB.out⟩
 ·rw [if_neg hx]
  rw [decide_eq_false hx] at HZ
  cases b
  ·go_enter Tryz.func42,Tryz.ntmps42
   go_wp2_with fail
   refine HZ.mono ?_
   rintro e wn ⟨rfl,hw⟩;rw [hw];clear hw wn HZ
   go_wp2
   go_ret
   exact⟨rfl,HB.out⟩
  ·go_enter Tryz.func42,Tryz.ntmps42
   go_wp2_with fail
   refine HZ.mono ?_
   rintro e wn ⟨rfl,hw⟩;rw [hw];clear hw wn HZ
   go_wp2
   go_ret
   exact⟨rfl,HB.out⟩

theorem ct (b:Bool)(v:Value)(rs:List Nat)(base:Nat)(w:World)(hA:Ans w base v rs) :
  Calls Tryz.prog 47 #[.bool b,v] w fun e w'=>e=.returned (.agg #[.bool (b && decide (0<rs.length)),v])∧Below w.heap.size w w':=by
 obtain⟨a,c,rfl⟩:∃a c,v=.slice a rs.length c:=by
  rcases hA.form with ⟨rfl,h⟩|⟨g,cap,rfl,_⟩
  ·exact⟨none,0,by rw [h];rfl⟩
  ·exact⟨_,_,rfl⟩
 clear hA
 generalize rs.length=n at *
 cases b
 ·have HB:=aa (bo w (.cells #[.bool false,.slice a n c] 27))
  go_enter Tryz.func47,Tryz.ntmps47
  go_wp2
  go_returns
  exact⟨rfl,HB.out⟩
 ·by_cases hn:0<n
  ·have i1:(0:Int)<(n:Int):=by omega
   have HB:=aa (bo w (.cells #[.bool true,.slice a n c] 27))
   rw [decide_eq_true hn]
   go_enter Tryz.func47,Tryz.ntmps47
   go_wp2
   go_returns
   exact⟨rfl,HB.out⟩
  ·have i1:¬(0:Int)<(n:Int):=by omega
   have HB:=aa (bo w (.cells #[.bool false,.slice a n c] 27))
   rw [decide_eq_false hn]
   go_enter Tryz.func47,Tryz.ntmps47
   go_wp2
   go_returns
   exact⟨rfl,HB.out⟩

theorem gJ (b:Bool)(x y:Nat):zz b x+zz b y=zz b (x+y):=by cases b <;> simp [zz] <;> omega

theorem iR (b:Bool){x y:Nat}(h:y≤x):zz b x+zz (!b) y=zz b (x - y):=by cases b <;> simp [zz] <;> omega

theorem iK (b:Bool){x y:Nat}(h:x≤y):zz b x+zz (!b) y=zz (!b) (y - x):=by cases b <;> simp [zz] <;> omega

theorem nK (b t:Bool)(x y:Nat):zz b x*zz t y=zz (b != t) (x*y):=by
 cases b <;> cases t <;> simp [zz,Int.mul_neg,Int.neg_mul]

theorem av {w:World}{h:Nat}{a b:Value}{t:TypeId}(e:w.heap[h]?=some (.cells #[a,b] t)):∀k,w.frozen? ⟨h,k,none⟩=false:=fun k=>by simp [World.frozen?,e]

theorem aI {w:World}{h:Nat}{a b a' b':Value}{t:TypeId}(e:w.heap[h]?=some (.cells #[a,b] t)):((w.setCell ⟨h,0,none⟩ a').setCell ⟨h,1,none⟩ b').heap[h]?=some (.cells #[a',b'] t):=
 aT (aT e a') b'

theorem aC {B:Nat}{w0 w:World}{g:Nat}{u0 u1:Value}(h:Below B w0 w)(hg:B≤g):Below B w0 ((w.setCell ⟨g,0,none⟩ u0).setCell ⟨g,1,none⟩ u1):=
 (h.setCell (p:=⟨g,0,none⟩) hg u0).setCell (p:=⟨g,1,none⟩) hg u1

theorem Ans.off1 {w:World}{base g o:Nat}{v u:Value}{zs:List Nat}{vs:Array Value}(h:Ans w base v zs)(hl:w.heap[g]?=some (.cells vs 27)):Ans (w.setCell ⟨g,o,none⟩ u) base v zs:=by
 have hne:v.ownBlock≠some g:=by
  obtain⟨_,h2⟩:=h.own
  rcases h2 with ⟨rfl,_⟩|⟨g',cap,cur,rfl,_,hh,_⟩
  ·simp [Value.ownBlock]
  ·intro e
   simp [Value.ownBlock] at e
   subst e
   rw [hl] at hh
   simp at hh
 exact⟨ownsRow_setCell_other h.own hne _,h.limbs⟩

theorem Ans.duo {w:World}{base g:Nat}{v u0 u1 a b:Value}{zs:List Nat}(h:Ans w base v zs)(hl:w.heap[g]?=some (.cells #[a,b] 27)):Ans ((w.setCell ⟨g,0,none⟩ u0).setCell ⟨g,1,none⟩ u1) base v zs:=
 (h.off1 hl).off1 (aT hl u0)

theorem ZR.duo {w:World}{base g:Nat}{b:Bool}{va u0 u1 a1 b1:Value}{c z:Int}(h:ZR w base b va c z)(hl:w.heap[g]?=some (.cells #[a1,b1] 27)):ZR ((w.setCell ⟨g,0,none⟩ u0).setCell ⟨g,1,none⟩ u1) base b va c z:=by
 obtain⟨rs,h1,h2⟩:=h
 exact⟨rs,h1.duo hl,h2⟩

theorem Ans.shape {w:World}{base:Nat}{v:Value}{rs:List Nat}(h:Ans w base v rs):∃a c,v=.slice a rs.length c:=by
 rcases h.form with ⟨rfl,h⟩|⟨g,cap,rfl,_⟩
 ·exact⟨none,0,by simp_all⟩
 ·exact⟨_,_,rfl⟩

theorem bA {w:World}{g h:Nat}{u0 u1:Value}{x:Obj}(e:w.heap[h]?=some x)(hne:h≠g):((w.setCell ⟨g,0,none⟩ u0).setCell ⟨g,1,none⟩ u1).heap[h]?=some x:=by
 rw [Below.heap_setCell _ _ _ _ hne,Below.heap_setCell _ _ _ _ hne];exact e

theorem dJ (v1 v2:Value)(x y:Nat)(w:World)(h1:Num w v1 x)(h2:Num w v2 y) :
  Calls Tryz.prog 56 #[v1,v2] w fun e w'=>e=.returned (.int .i64 (cmpN x y))∧aA w w':=by
 obtain⟨Z,hA1,hZ,hZt,rfl,hZl⟩:=h1
 obtain⟨Y,hA2,hY,hYt,rfl,hYl⟩:=h2
 obtain⟨a1,c1,rfl,hc1,hm1,L1⟩:=hA1.form
 obtain⟨a2,c2,rfl,hc2,hm2,L2⟩:=hA2.form
 clear hA1 hA2
 by_cases hl:Z.length=Y.length
 ·have HL:=aa hl.symm
  rw [←hl] at hc2 hYl ⊢
  clear hl
  have hne:((Z.length:Int) != (Z.length:Int))=false:=by simp
  go_enter Tryz.func56,Tryz.ntmps56
  go_wp2
  go_loopw [5] (fun i wr=>∃k:Nat,k≤Z.length∧i=.int .i64 ((k:Int) - 1)∧aA w wr∧cmpN (vb 4294967296 (Z.take k)) (vb 4294967296 (Y.take k))=cmpN (vb 4294967296 Z) (vb 4294967296 Y)) (fun i _=>(intOf i+1).toNat)
  case atStart=>exact⟨Z.length,Nat.le_refl _,by go_num,aA.refl _,by rw [List.take_length,←HL.out,List.take_length]⟩
  case round=>
   obtain⟨k,hk,rfl,hs,hv⟩:=hrel
   have HV:=aa hv
   have HS:=aa hs
   clear hv
   by_cases hk0:k=0
   ·subst hk0
    have HN:Hid (cmpN (vb 4294967296 Z) (vb 4294967296 Y)=0):=aa (by rw [←HV.out];rfl)
    clear HV L1 L2 hs
    go_wp2
    go_ret
    rw [HN.out]
    exact⟨rfl,HS.out⟩
   ·obtain⟨j,rfl⟩:∃j,k=j+1:=⟨k - 1,by omega⟩
    rcases L1.below (hs.below _) with h0|⟨b,off,rfl,hcell⟩
    ·simp [h0] at hk
    ·rcases L2.below (hs.below _) with h0|⟨b',off',rfl,hcell'⟩
     ·have:=HL.out;simp [h0] at this;omega
     ·have hck:=hcell j (by omega)
      have hck':=hcell' j (by have:=HL.out;omega)
      have ej:((j+1:Nat):Int) - 1=(j:Int):=by omega
      have ej2:(j:Int)+1 - 1=(j:Int):=by omega
      rw [ej]
      have hi1:(0:Int)≤(j:Int):=by omega
      have hi2:(j:Int)<(Z.length:Int):=by omega
      rcases Nat.lt_trichotomy (Z.getD j 0) (Y.getD j 0) with hxy|hxy|hxy
      ·have HN:Hid (cmpN (vb 4294967296 Z) (vb 4294967296 Y)=-1):=aa (by rw [←HV.out,vcmp_top hZ hY _ (by omega),cmpN_lt hxy])
       generalize Z.getD j 0=a at *
       generalize Y.getD j 0=c at *
       have i1:(a:Int)<(c:Int):=by omega
       clear hcell hcell' HV L1 L2 hs
       go_wp2
       go_quiet (fail)
       go_wp2
       go_ret
       rw [HN.out]
       exact⟨rfl,HS.out.drewN _⟩
      ·have HN:Hid (cmpN (vb 4294967296 (Z.take j)) (vb 4294967296 (Y.take j))=cmpN (vb 4294967296 Z) (vb 4294967296 Y)):=aa (by rw [←HV.out,vcmp_same _ hxy])
       rw [hxy] at hck
       generalize Y.getD j 0=c at *
       have hd1:decide ((c:Int)<(c:Int))=false:=decide_eq_false (by omega)
       clear hcell hcell' HV L1 L2 hs hxy
       go_wp2
       go_quiet (fail)
       go_wp2
       go_quiet (fail)
       go_wp2
       go_roundw
       case rel=>exact⟨j,by omega,by go_num,by first|exact (HS.out.drewN _).drewN _|exact HS.out.drewN _,HN.out⟩
       case measure=>simp [intOf]
      ·have HN:Hid (cmpN (vb 4294967296 Z) (vb 4294967296 Y)=1):=aa (by rw [←HV.out,vcmp_top hZ hY _ (by omega),cmpN_gt hxy])
       generalize Z.getD j 0=a at *
       generalize Y.getD j 0=c at *
       have i1:(c:Int)<(a:Int):=by omega
       have hd1:decide ((a:Int)<(c:Int))=false:=decide_eq_false (by omega)
       clear hcell hcell' HV L1 L2 hs
       go_wp2
       go_quiet (fail)
       go_wp2
       go_quiet (fail)
       go_wp2
       go_ret
       rw [HN.out]
       exact⟨rfl,by first|exact (HS.out.drewN _).drewN _|exact HS.out.drewN _⟩
 ·have hne:((Z.length:Int) != (Y.length:Int))=true:=by rw [bne_iff_ne];omega
  rcases Nat.lt_or_gt_of_ne hl with hlt|hlt
  ·rw [cmpN_lt (vb_shorter hZ hYt hlt)]
   have i1:(Z.length:Int)<(Y.length:Int):=by omega
   clear L1 L2
   go_enter Tryz.func56,Tryz.ntmps56
   go_wp2
   go_ret
   exact⟨rfl,aA.refl _⟩
  ·rw [cmpN_gt (vb_shorter hY hZt hlt)]
   have hd1:decide ((Z.length:Int)<(Y.length:Int))=false:=decide_eq_false (by omega)
   have i1:(Y.length:Int)<(Z.length:Int):=by omega
   clear L1 L2
   go_enter Tryz.func56,Tryz.ntmps56
   go_wp2
   go_ret
   exact⟨rfl,aA.refl _⟩

theorem eT {ds:List Nat}(hd:Digs 4294967296 ds)(ht:tr ds=ds)(L:Nat)(hb:blen (vb 4294967296 ds)≤32*L):ds.length≤L:=by
 refine Nat.le_of_not_lt fun hlt=>?_
 obtain⟨n,hn⟩:∃n,ds.length=n+1:=⟨ds.length - 1,by omega⟩
 have h1:=blen_vb hd ht n hn
 have h2:=blen_half _ (tr_last' ds n ht hn)
 omega

theorem cP {ds:List Nat}(n:Nat)(h:ds.length≤n):vb 4294967296 (ds.take n)=vb 4294967296 ds:=by rw [List.take_of_length_le h]

theorem ip {X Y out:List Nat}(hX:Digs 4294967296 X)(hY:Digs 4294967296 Y)(n cy:Nat)(h1:X.length≤n)(h2:Y.length≤n)(ho:out.length=n+1)
  (h:vb 4294967296 (out.take (n+1))+cy*4294967296 ^ (n+1)=vb 4294967296 (X.take (n+1))+vb 4294967296 (Y.take (n+1))):vb 4294967296 out=vb 4294967296 X+vb 4294967296 Y:=by
 rw [cP _ (by omega),cP _ (by omega),cP _ (by omega)] at h
 have a:=vb_take_lt hX n
 have b:=vb_take_lt hY n
 rw [cP _ h1] at a
 rw [cP _ h2] at b
 rcases Nat.eq_zero_or_pos cy with h0|h0
 ·subst h0;omega
 ·exfalso
  have:=Nat.mul_le_mul_right (4294967296 ^ (n+1)) h0
  rw [Nat.pow_succ,B_pow] at this h
  omega

theorem jI (v1 v2:Value)(x y:Nat)(w:World)(h1:Num w v1 x)(h2:Num w v2 y)(f1:blen x≤1125899906840000)(f2:blen y≤1125899906840000) :
  Calls Tryz.prog 55 #[v1,v2] w fun e w'=>(∃v',e=.returned v'∧Num w' v' (x+y)∧New w.heap.size v')∧Below w.heap.size w w':=by
 obtain⟨X,A1,hX,hXt,rfl,_⟩:=h1
 obtain⟨Y,A2,hY,hYt,rfl,_⟩:=h2
 have lX:=eT hX hXt 35184372088750 (by omega)
 have lY:=eT hY hYt 35184372088750 (by omega)
 obtain⟨a1,c1,rfl,hc1,hm1,_⟩:=A1.form
 obtain⟨a2,c2,rfl,hc2,hm2,_⟩:=A2.form
 obtain⟨i0,hi,hz0,hz1,hz2⟩:=info_parts Tryz.infoU
 clear f1 f2 hXt hYt
 by_cases hl:X.length<Y.length
 ·have i1:(X.length:Int)<(Y.length:Int):=by omega
  go_enter Tryz.func55,Tryz.ntmps55
  go_wp2_with (at_make;refine wpList_make_full _ rfl _ _ 30 rfl w.heap.size 61 i0 (.int .u64 0) 1 Tryz.underlying30 hi hz0 hz1 .i64 .i64 _ _ (Y.length+1) rfl rfl (by omega) (by omega) (by rw [hz2];omega) (by unfold maxLen;omega) (Nat.le_refl _) ?_;intro w1 hown hgrow)
  have hb1:=Blk.made hown
  have hbel:Below w.heap.size w w1:=(Below.refl _ _).grown hgrow (Nat.le_refl _) (fun k hk=>by cases hk)
  clear hown hgrow hi hz0 hz1 hz2
  go_loopw [7,8] (fun c i wr=>∃(k cy:Nat) (out:List Nat),k≤Y.length+1∧i=.int .i64 k∧c=.int .u64 cy∧cy≤1∧out.length=Y.length+1∧Digs 4294967296 out∧Blk wr w.heap.size out∧Below w.heap.size w wr ∧
    vb 4294967296 (out.take k)+cy*4294967296 ^ k=vb 4294967296 (X.take k)+vb 4294967296 (Y.take k)) (fun _ i _=>Y.length+1 - (intOf i).toNat)
  case atStart=>exact⟨0,0,_,Nat.zero_le _,rfl,rfl,by omega,by simp,digs_replicate (by omega) _,hb1,hbel,by simp [vb]⟩
  case round=>
   obtain⟨k,cy,out,hk,rfl,rfl,hcy,hlen,hdo,hblk,hbl,hval⟩:=hrel
   clear hb1 hbel
   have HB:=aa hblk
   have HL:=aa hbl
   by_cases hkl:k≤Y.length
   ·have H1:=dV _ X k wr (A1.below hbl)
    have H2:=dV _ Y k wr (A2.below hbl)
    have hfr:=hblk.free k
    have hco:=hblk.cell k (by omega)
    generalize out.getD k 0=o at *
    have z1:=dig_lt (by omega) hX k
    have z2:=dig_lt (by omega) hY k
    have HV:=aa (vb_add_step X Y out k cy (by omega) hval)
    generalize X.getD k 0=x at *
    generalize Y.getD k 0=y at *
    have e0:(x:Int)+(y:Int)+(cy:Int)=((x+y+cy:Nat):Int):=by omega
    have b0:x+y+cy<18446744073709551616:=by omega
    have e1:((x+y+cy:Nat):Int) % 4294967296=(((x+y+cy) % 4294967296:Nat):Int):=by omega
    have e2:((x+y+cy:Nat):Int) / 4294967296=(((x+y+cy) / 4294967296:Nat):Int):=by omega
    have b1:(x+y+cy) % 4294967296<4294967296:=by omega
    have b2:(x+y+cy) / 4294967296≤1:=by omega
    generalize (x+y+cy) % 4294967296=m at *
    generalize (x+y+cy) / 4294967296=d at *
    generalize x+y+cy=s at *
    clear hval hblk hbl A1 A2 hX hY
    go_wp2_with fail
    refine H1.mono ?_
    rintro e w2 ⟨rfl,rfl⟩
    go_wp2_with fail
    refine H2.mono ?_
    rintro e w2 ⟨rfl,rfl⟩
    clear H1 H2
    go_wp2
    go_roundw
    case rel=>exact⟨k+1,d,out.set k m,by omega,by go_num,rfl,b2,by simp;omega,digs_set hdo _ _ b1,HB.out.set k m,HL.out.setCell (Nat.le_refl _) _,HV.out⟩
    case measure=>simp [intOf];omega
   ·have ek:k=Y.length+1:=by omega
    subst ek
    have hve:=ip hX hY Y.length cy (by omega) (by omega) hlen hval
    have hA:=Ans.of_blk (base:=w.heap.size) (zs:=out) (Nat.le_refl _) hblk List.take_length.symm (Nat.le_refl _) (by omega) (digs_limbs hdo)
    have H:=dL w.heap.size _ _ _ (hA.arg (by omega)) hdo (by omega) (New.at _ _ _ _ _ (Nat.le_refl _))
    rw [hlen,hve] at H
    clear hval hblk hbl A1 A2 hX hY hA hve HB
    have hd1:decide ((Y.length:Int)+1≤(Y.length:Int))=false:=decide_eq_false (by omega)
    go_wp2_with fail
    refine H.mono ?_
    rintro e w2 ⟨⟨v',rfl,hnum,hnw⟩,rfl⟩
    have HN:=aa (And.intro hnum hnw)
    clear hnum hnw H
    go_wp2
    go_ret
    exact⟨⟨v',rfl,HN.out.1,HN.out.2⟩,HL.out⟩
 ·have hd0:decide ((X.length:Int)<(Y.length:Int))=false:=decide_eq_false (by omega)
  go_enter Tryz.func55,Tryz.ntmps55
  go_wp2_with (at_make;refine wpList_make_full _ rfl _ _ 30 rfl w.heap.size 61 i0 (.int .u64 0) 1 Tryz.underlying30 hi hz0 hz1 .i64 .i64 _ _ (X.length+1) rfl rfl (by omega) (by omega) (by rw [hz2];omega) (by unfold maxLen;omega) (Nat.le_refl _) ?_;intro w1 hown hgrow)
  have hb1:=Blk.made hown
  have hbel:Below w.heap.size w w1:=(Below.refl _ _).grown hgrow (Nat.le_refl _) (fun k hk=>by cases hk)
  clear hown hgrow hi hz0 hz1 hz2
  go_loopw [7,8] (fun c i wr=>∃(k cy:Nat) (out:List Nat),k≤X.length+1∧i=.int .i64 k∧c=.int .u64 cy∧cy≤1∧out.length=X.length+1∧Digs 4294967296 out∧Blk wr w.heap.size out∧Below w.heap.size w wr ∧
    vb 4294967296 (out.take k)+cy*4294967296 ^ k=vb 4294967296 (X.take k)+vb 4294967296 (Y.take k)) (fun _ i _=>X.length+1 - (intOf i).toNat)
  case atStart=>exact⟨0,0,_,Nat.zero_le _,rfl,rfl,by omega,by simp,digs_replicate (by omega) _,hb1,hbel,by simp [vb]⟩
  case round=>
   obtain⟨k,cy,out,hk,rfl,rfl,hcy,hlen,hdo,hblk,hbl,hval⟩:=hrel
   clear hb1 hbel
   have HB:=aa hblk
   have HL:=aa hbl
   by_cases hkl:k≤X.length
   ·have H1:=dV _ X k wr (A1.below hbl)
    have H2:=dV _ Y k wr (A2.below hbl)
    have hfr:=hblk.free k
    have hco:=hblk.cell k (by omega)
    generalize out.getD k 0=o at *
    have z1:=dig_lt (by omega) hX k
    have z2:=dig_lt (by omega) hY k
    have HV:=aa (vb_add_step X Y out k cy (by omega) hval)
    generalize X.getD k 0=x at *
    generalize Y.getD k 0=y at *
    have e0:(x:Int)+(y:Int)+(cy:Int)=((x+y+cy:Nat):Int):=by omega
    have b0:x+y+cy<18446744073709551616:=by omega
    have e1:((x+y+cy:Nat):Int) % 4294967296=(((x+y+cy) % 4294967296:Nat):Int):=by omega
    have e2:((x+y+cy:Nat):Int) / 4294967296=(((x+y+cy) / 4294967296:Nat):Int):=by omega
    have b1:(x+y+cy) % 4294967296<4294967296:=by omega
    have b2:(x+y+cy) / 4294967296≤1:=by omega
    generalize (x+y+cy) % 4294967296=m at *
    generalize (x+y+cy) / 4294967296=d at *
    generalize x+y+cy=s at *
    clear hval hblk hbl A1 A2 hX hY
    go_wp2_with fail
    refine H1.mono ?_
    rintro e w2 ⟨rfl,rfl⟩
    go_wp2_with fail
    refine H2.mono ?_
    rintro e w2 ⟨rfl,rfl⟩
    clear H1 H2
    go_wp2
    go_roundw
    case rel=>exact⟨k+1,d,out.set k m,by omega,by go_num,rfl,b2,by simp;omega,digs_set hdo _ _ b1,HB.out.set k m,HL.out.setCell (Nat.le_refl _) _,HV.out⟩
    case measure=>simp [intOf];omega
   ·have ek:k=X.length+1:=by omega
    subst ek
    have hve:=ip hX hY X.length cy (by omega) (by omega) hlen hval
    have hA:=Ans.of_blk (base:=w.heap.size) (zs:=out) (Nat.le_refl _) hblk List.take_length.symm (Nat.le_refl _) (by omega) (digs_limbs hdo)
    have H:=dL w.heap.size _ _ _ (hA.arg (by omega)) hdo (by omega) (New.at _ _ _ _ _ (Nat.le_refl _))
    rw [hlen,hve] at H
    clear hval hblk hbl A1 A2 hX hY hA hve HB
    have hd1:decide ((X.length:Int)+1≤(X.length:Int))=false:=decide_eq_false (by omega)
    go_wp2_with fail
    refine H.mono ?_
    rintro e w2 ⟨⟨v',rfl,hnum,hnw⟩,rfl⟩
    have HN:=aa (And.intro hnum hnw)
    clear hnum hnw H
    go_wp2
    go_ret
    exact⟨⟨v',rfl,HN.out.1,HN.out.2⟩,HL.out⟩

theorem jo (v1 v2:Value)(x y:Nat)(w:World)(h1:Num w v1 x)(h2:Num w v2 y)(f1:blen x≤1125899906840000)(f2:blen y≤1125899906840000) :
  Calls Tryz.prog 55 #[v1,v2] w fun e w'=>(∃v',e=.returned v'∧Num w' v' (x+y))∧Below w.heap.size w w':=
 (jI v1 v2 x y w h1 h2 f1 f2).mono fun _ _ ⟨⟨v',h1,h2,_⟩,h3⟩=>⟨⟨v',h1,h2⟩,h3⟩

theorem nv {X Y out:List Nat}(ho:Digs 4294967296 out)(hl:out.length=X.length)(hyl:Y.length≤X.length)(hle:vb 4294967296 Y≤vb 4294967296 X)(bw:Nat)
  (h:vb 4294967296 (out.take X.length)+vb 4294967296 (Y.take X.length)=vb 4294967296 (X.take X.length)+bw*4294967296 ^ X.length):vb 4294967296 out=vb 4294967296 X - vb 4294967296 Y:=by
 rw [cP _ (by omega),cP _ hyl,List.take_length] at h
 have h1:=vb_take_lt ho X.length
 rw [cP _ (by omega)] at h1
 rcases Nat.eq_zero_or_pos bw with h0|h0
 ·subst h0;omega
 ·exfalso
  have:=Nat.mul_le_mul_right (4294967296 ^ X.length) h0
  rw [B_pow] at this h
  omega

theorem iI (v1 v2:Value)(x y:Nat)(w:World)(h1:Num w v1 x)(h2:Num w v2 y)(hle:y≤x)(f1:blen x≤1125899906840000) :
  Calls Tryz.prog 57 #[v1,v2] w fun e w'=>(∃v',e=.returned v'∧Num w' v' (x - y)∧New w.heap.size v')∧Below w.heap.size w w':=by
 obtain⟨X,A1,hX,hXt,rfl,_⟩:=h1
 obtain⟨Y,A2,hY,hYt,rfl,_⟩:=h2
 have lX:=eT hX hXt 35184372088750 (by omega)
 have hyl:Y.length≤X.length:=by
  refine Nat.le_of_not_lt fun h=>?_
  have:=vb_shorter hX hYt h
  omega
 obtain⟨a1,c1,rfl,hc1,hm1,L1⟩:=A1.form
 obtain⟨i0,hi,hz0,hz1,hz2⟩:=info_parts Tryz.infoU
 have HLE:=aa hle
 clear f1 hXt hYt hle
 go_enter Tryz.func57,Tryz.ntmps57
 go_wp2_with (at_make;refine wpList_make_full _ rfl _ _ 30 rfl w.heap.size 61 i0 (.int .u64 0) 1 Tryz.underlying30 hi hz0 hz1 .i64 .i64 _ _ X.length rfl rfl (by omega) (by omega) (by rw [hz2];omega) (by unfold maxLen;omega) (Nat.le_refl _) ?_;intro w1 hown hgrow)
 have hb1:=Blk.made hown
 have hbel:Below w.heap.size w w1:=(Below.refl _ _).grown hgrow (Nat.le_refl _) (fun k hk=>by cases hk)
 clear hown hgrow hi hz0 hz1 hz2
 go_loopw [6,14] (fun c i wr=>∃(k cy:Nat) (out:List Nat),k≤X.length∧i=.int .i64 k∧c=.int .u64 cy∧cy≤1∧out.length=X.length∧Digs 4294967296 out∧Blk wr w.heap.size out∧Below w.heap.size w wr ∧
   vb 4294967296 (out.take k)+vb 4294967296 (Y.take k)=vb 4294967296 (X.take k)+cy*4294967296 ^ k) (fun _ i _=>X.length - (intOf i).toNat)
 case atStart=>exact⟨0,0,_,Nat.zero_le _,rfl,rfl,by omega,by simp,digs_replicate (by omega) _,hb1,hbel,by simp [vb]⟩
 case round=>
  obtain⟨k,cy,out,hk,rfl,rfl,hcy,hlen,hdo,hblk,hbl,hval⟩:=hrel
  clear hb1 hbel
  have HB:=aa hblk
  have HL:=aa hbl
  by_cases hkl:k<X.length
  ·rcases L1.below hbl with h0|⟨b,off,rfl,hcell⟩
   ·simp [h0] at hkl
   ·have H2:=dV _ Y k wr.drew (A2.below hbl.drew)
    have hck:=hcell k hkl
    have hbw:=aD.block (L1:aD w (some ⟨b,off,none⟩) X) (by omega)
    have hne1:¬b=w.heap.size:=by omega
    have hne2:¬w.heap.size=b:=by omega
    have hfr:=hblk.free k
    have hco:=hblk.cell k (by omega)
    generalize out.getD k 0=o at *
    have z1:=dig_lt (by omega) hX k
    have z2:=dig_lt (by omega) hY k
    have HV:=aa (vb_sub_step X Y out k cy (by omega) z1 z2 hcy hval)
    generalize X.getD k 0=x at *
    generalize Y.getD k 0=y at *
    have w1:IntKind.u64.wrap ((x:Int)+4294967296)=((x+4294967296:Nat):Int):=by rw [IntKind.wrap_u64];omega
    have w2:IntKind.u64.wrap (((x+4294967296:Nat):Int) - (y:Int))=((x+4294967296 - y:Nat):Int):=by rw [IntKind.wrap_u64];omega
    have w3:IntKind.u64.wrap (((x+4294967296 - y:Nat):Int) - (cy:Int))=((x+4294967296 - y - cy:Nat):Int):=by rw [IntKind.wrap_u64];omega
    have e0:(x:Int)+4294967296=((x+4294967296:Nat):Int):=by omega
    have e1:((x+4294967296:Nat):Int) - (y:Int)=((x+4294967296 - y:Nat):Int):=by omega
    have e2:((x+4294967296 - y:Nat):Int) - (cy:Int)=((x+4294967296 - y - cy:Nat):Int):=by omega
    have b0:x+4294967296<18446744073709551616:=by omega
    have b1:x+4294967296 - y<18446744073709551616:=by omega
    have b2:x+4294967296 - y - cy<18446744073709551616:=by omega
    have e3:((x+4294967296 - y - cy:Nat):Int) % 4294967296=(((x+4294967296 - y - cy) % 4294967296:Nat):Int):=by omega
    have e4:((x+4294967296 - y - cy:Nat):Int) / 4294967296=(((x+4294967296 - y - cy) / 4294967296:Nat):Int):=by omega
    have b3:(x+4294967296 - y - cy) % 4294967296<4294967296:=by omega
    have b4:(x+4294967296 - y - cy) / 4294967296≤1:=by omega
    generalize (x+4294967296 - y - cy) % 4294967296=m at *
    generalize (x+4294967296 - y - cy) / 4294967296=d at *
    generalize x+4294967296 - y - cy=t3 at *
    generalize x+4294967296 - y=t2 at *
    generalize x+4294967296=t1 at *
    have e5:(1:Int) - (d:Int)=((1 - d:Nat):Int):=by omega
    have w4:IntKind.u64.wrap (t1:Int)=(t1:Int):=by rw [IntKind.wrap_u64];omega
    have w5:IntKind.u64.wrap (t2:Int)=(t2:Int):=by rw [IntKind.wrap_u64];omega
    have w6:IntKind.u64.wrap (t3:Int)=(t3:Int):=by rw [IntKind.wrap_u64];omega
    have hi1:(0:Int)≤(k:Int):=by omega
    have hi2:(k:Int)<(X.length:Int):=by omega
    clear hval hblk hbl A1 A2 hX hY hcell L1
    go_wp2
    go_region_held3 (fun w'=>w'.cell? ⟨b,off+k,none⟩=some (.int .u64 x)) (go_keep) (first | (go_at_call 92;refine H2.mono ?_;rintro e w2 ⟨rfl,rfl⟩))
    go_wp2
    go_roundw
    case rel=>exact⟨k+1,1 - d,out.set k m,by omega,by go_num,by go_num,by omega,by simp;omega,digs_set hdo _ _ b3,HB.out.set k m,(HL.out.setCell (Nat.le_refl _) _).drew,HV.out⟩
    case measure=>simp [intOf];omega
  ·have ek:k=X.length:=by omega
   subst ek
   have hve:=nv hdo hlen hyl HLE.out cy hval
   have hA:=Ans.of_blk (base:=w.heap.size) (zs:=out) (Nat.le_refl _) hblk List.take_length.symm (Nat.le_refl _) (by omega) (digs_limbs hdo)
   have H:=dL w.heap.size _ _ _ (hA.arg (by omega)) hdo (by omega) (New.at _ _ _ _ _ (Nat.le_refl _))
   rw [hlen,hve] at H
   clear hval hblk hbl A1 A2 hX hY hA hve HB L1
   go_wp2_with fail
   refine H.mono ?_
   rintro e w2 ⟨⟨v',rfl,hnum,hnw⟩,rfl⟩
   have HN:=aa (And.intro hnum hnw)
   clear hnum hnw H
   go_wp2
   go_ret
   exact⟨⟨v',rfl,HN.out.1,HN.out.2⟩,HL.out⟩

theorem ee (v1 v2:Value)(x y:Nat)(w:World)(h1:Num w v1 x)(h2:Num w v2 y)(hle:y≤x)(f1:blen x≤1125899906840000) :
  Calls Tryz.prog 57 #[v1,v2] w fun e w'=>(∃v',e=.returned v'∧Num w' v' (x - y))∧Below w.heap.size w w':=
 (iI v1 v2 x y w h1 h2 hle f1).mono fun _ _ ⟨⟨v',h1,h2,_⟩,h3⟩=>⟨⟨v',h1,h2⟩,h3⟩

theorem Num.zero_iff {w:World}{v:Value}{x:Nat}(h:Num w v x):∃ao n cap,v=.slice ao n cap∧((n:Int) == 0)=(x == 0):=by
 obtain⟨ds,A,hd,ht,rfl,_⟩:=h
 obtain⟨ao,cap,hv,_⟩:=A.form
 refine⟨ao,ds.length,cap,hv,?_⟩
 by_cases h0:ds=[]
 ·subst h0;rfl
 ·have h1:0<ds.length:=List.length_pos_iff.2 h0
  have h2:vb 4294967296 ds≠0:=fun e=>h0 (vb_tail_zero (by omega) ht e)
  have e1:((ds.length:Int) == 0)=false:=by rw [beq_eq_false_iff_ne];omega
  have e2:(vb 4294967296 ds == 0)=false:=by rw [beq_eq_false_iff_ne];exact h2
  rw [e1,e2]

theorem fT (v:Value)(x:Nat)(w:World)(h:Num w v x):Calls Tryz.prog 49 #[v] w fun e w'=>e=.returned (.bool (x == 0))∧w'=w:=by
 obtain⟨ao,n,cap,rfl,he⟩:=h.zero_iff
 clear h
 go_enter Tryz.func49,Tryz.ntmps49
 go_wp2
 go_ret
 exact⟨rfl,rfl⟩

theorem iW (n k:Nat):(List.replicate n 0).getD k 0=0:=by
 by_cases h:k<n
 ·simp [List.getD,h]
 ·simp [List.getD,h]

theorem g8 (B n:Nat):vb B (List.replicate n 0)=0:=by
 induction n with
 | zero=>rfl
 | succ n ih=>rw [List.replicate_succ,vb,ih];simp

theorem mV (out:List Nat)(k d t:Nat)(h:k+1<out.length):((out.set k t).set (k+1) d).getD (k+1) 0=d:=by
 simp [List.getD,h]

theorem lh (x s:Nat)(h:x*2 ^ s<18446744073709551616):IntKind.u64.wrap ((x:Int)*2 ^ s)=((x*2 ^ s:Nat):Int):=by
 rw [IntKind.wrap_u64]
 have e:(x:Int)*2 ^ s=((x*2 ^ s:Nat):Int):=by push_cast;rfl
 rw [e];omega

theorem j6 (out:List Nat)(i j a b:Nat):((out.set i a).set j b).length=out.length:=by simp

theorem iX (v:Value)(x n:Nat)(w:World)(h:Num w v x)(hf:blen x+n≤1125899906840000) :
  Calls Tryz.prog 93 #[v,.int .i64 n] w fun e w'=>(∃v',e=.returned v'∧Num w' v' (x*2 ^ n))∧Below w.heap.size w w':=by
 obtain⟨X,A,hX,hXt,rfl,_⟩:=h
 obtain⟨a1,c1,rfl,hc1,hm1,L1⟩:=A.form
 by_cases h0:X.length=0
 ·have hx:X=[]:=List.length_eq_zero_iff.1 h0
  subst hx
  clear A L1 hX hXt hf
  go_enter Tryz.func93,Tryz.ntmps93
  go_wp2
  go_ret
  refine⟨⟨_,rfl,?_⟩,Below.refl _ _⟩
  rw [vb,Nat.zero_mul]
  exact Num.nil w
 ·obtain⟨i0,hi,hz0,hz1,hz2⟩:=info_parts Tryz.infoU
  obtain⟨q,s,hs,hnq⟩:∃q s,s<32∧n=q*32+s:=⟨n / 32,n % 32,by omega,by omega⟩
  have lX:X.length+q≤35184372088752:=by
   obtain⟨m,hm⟩:∃m,X.length=m+1:=⟨X.length - 1,by omega⟩
   have h1:=blen_vb hX hXt m hm
   omega
  have eq1:(n:Int) / 32=(q:Int):=by omega
  have eq2:(n:Int) % 32=(s:Int):=by omega
  have HN:Hid (n=q*32+s):=hnq
  rcases L1 with h' | ⟨b,off,rfl,hcell⟩
  ·exact absurd (by rw [h'];rfl) h0
  ·have hbw:b<w.heap.size:=aD.block (zs:=X) (.inr ⟨b,off,rfl,hcell⟩) (by omega)
   have hln:((X.length:Int) == 0)=false:=by rw [beq_eq_false_iff_ne];omega
   clear hnq hf A
   go_enter Tryz.func93,Tryz.ntmps93
   go_wp2_with (at_make;refine wpList_make_full _ rfl _ _ 30 rfl w.heap.size 61 i0 (.int .u64 0) 1 Tryz.underlying30 hi hz0 hz1 .i64 .i64 _ _ (X.length+q+1) rfl rfl (by omega) (by omega) (by rw [hz2];omega) (by unfold maxLen;omega) (Nat.le_refl _) ?_;intro w1 hown hgrow)
   have hb1:=Blk.made hown
   have hbel:Below w.heap.size w w1:=(Below.refl _ _).grown hgrow (Nat.le_refl _) (fun k hk=>by cases hk)
   clear hown hgrow hi hz0 hz1 hz2
   go_loopw [23] (fun i wr=>∃(k:Nat) (out:List Nat),k≤X.length∧i=.int .i64 k∧out.length=X.length+q+1∧Digs 4294967296 out∧out.getD (q+k) 0<2 ^ s∧Blk wr w.heap.size out∧Below w.heap.size w wr ∧
     vb 4294967296 (out.take (q+k+1))=vb 4294967296 (X.take k)*2 ^ n) (fun i _=>X.length - (intOf i).toNat)
   case atStart=>exact⟨0,_,Nat.zero_le _,rfl,by simp,digs_replicate (by omega) _,by rw [iW];exact Nat.two_pow_pos _,hb1,hbel,by rw [List.take_replicate,g8];simp [vb]⟩
   case round=>
    obtain⟨k,out,hk,rfl,hlen,hdo,hlow,hblk,hbl,hval⟩:=hrel
    clear hb1 hbel
    have HB:=aa hblk
    have HL:=aa hbl
    by_cases hkl:k<X.length
    ·have hck:wr.cell? ⟨b,off+k,none⟩=some (.int .u64 ((X.getD k 0:Nat):Int)):=by rw [hbl.cell (p:=⟨b,off+k,none⟩) hbw];exact hcell k hkl
     have hne1:¬b=w.heap.size:=by omega
     have hne2:¬w.heap.size=b:=by omega
     have hfr:=hblk.free (k+q)
     have hco:=hblk.cell (k+q) (by omega)
     have hfr1:=hblk.free (k+q+1)
     have hco1:=hblk.cell (k+q+1) (by omega)
     have HV:=aa (nS X out q s k n HN.out (by omega) hval)
     have z1:=dig_lt (by omega) hX k
     have b1:=od (X.getD k 0) s (out.getD (q+k) 0) (by omega) hlow
     have b2:=pA (X.getD k 0) s z1
     have b3:=kR (X.getD k 0) s z1 hs
     have hdd:=aa (digs_set (digs_set hdo (q+k) _ b1) (q+k+1) (X.getD k 0*2 ^ s / 4294967296) (by omega))
     have hge:=aa (show ((out.set (q+k) (out.getD (q+k) 0+X.getD k 0*2 ^ s % 4294967296)).set (q+k+1) (X.getD k 0*2 ^ s / 4294967296)).getD (q+(k+1)) 0<2 ^ s by rw [show q+(k+1)=q+k+1 by omega,mV _ _ _ _ (by omega)];exact b2)
     generalize X.getD k 0=x at *
     rw [Nat.add_comm q k] at *
     generalize out.getD (k+q) 0=o at *
     generalize out.getD (k+q+1) 0=o1 at *
     have w0:IntKind.u64.wrap ((x:Int)*2 ^ s)=((x*2 ^ s:Nat):Int):=lh x s b3
     generalize x*2 ^ s=T at *
     have e1:(T:Int) % 4294967296=((T % 4294967296:Nat):Int):=by omega
     have e2:(T:Int) / 4294967296=((T / 4294967296:Nat):Int):=by omega
     have b4:T / 4294967296<4294967296:=by omega
     generalize T % 4294967296=m at *
     generalize T / 4294967296=d at *
     have e3:(o:Int)+(m:Int)=((o+m:Nat):Int):=by omega
     generalize o+m=t at *
     have e4:IntKind.u64.wrap (t:Int)=(t:Int):=by rw [IntKind.wrap_u64];omega
     clear hval hblk hbl hcell
     go_wp2
     go_region
     go_wp2
     go_roundw
     case rel=>exact⟨k+1,(out.set (k+q) t).set (k+q+1) d,by omega,by go_num,by rw [j6];exact hlen,hdd.out,hge.out,(HB.out.set (k+q) t).set (k+q+1) d,((HL.out.setCell (Nat.le_refl _) _).setCell (Nat.le_refl _) _).drew,by rw [show q+(k+1)+1=k+q+1+1 by omega];exact HV.out⟩
     case measure=>simp [intOf];omega
    ·have ek:k=X.length:=by omega
     subst ek
     have hve:vb 4294967296 out=vb 4294967296 X*2 ^ n:=by
      rw [List.take_of_length_le (by omega),List.take_length] at hval;exact hval
     have hA:=Ans.of_blk (base:=w.heap.size) (zs:=out) (Nat.le_refl _) hblk List.take_length.symm (Nat.le_refl _) (by omega) (digs_limbs hdo)
     have H:=fj _ _ _ (hA.arg (by omega)) hdo (by omega)
     rw [hlen,hve] at H
     clear hval hblk hbl hX hA hve HB hcell
     go_wp2_with fail
     refine H.mono ?_
     rintro e w2 ⟨⟨v',rfl,hnum⟩,rfl⟩
     have HN:=aa hnum
     clear hnum H
     go_wp2
     go_ret
     exact⟨⟨v',rfl,HN.out⟩,HL.out⟩

def Zn (w:World)(v:Value)(z:Int):Prop:=∃u,v=.agg #[.bool (decide (z<0)),u]∧Num w u z.natAbs

theorem Zn.below {w w':World}{v:Value}{z:Int}(h:Zn w v z)(hb:Below w.heap.size w w'):Zn w' v z:=by
 obtain⟨u,h1,h2⟩:=h
 exact⟨u,h1,h2.below hb⟩

theorem Num.sl {w:World}{v:Value}{x:Nat}(h:Num w v x):∃a n c,v=.slice a n c:=by
 obtain⟨ds,hA,_⟩:=h
 obtain⟨a,c,e,_⟩:=hA.form
 exact⟨a,_,c,e⟩

theorem i9 (b:Bool)(x:Nat):(b && !(x == 0))=decide (zz b x<0):=by
 cases b
 ·simp [zz]
 ·simp only [Bool.true_and,zz,if_true]
  by_cases h:x=0
  ·subst h;rfl
  ·have h1:(x == 0)=false:=by simpa using h
   rw [h1]
   exact (decide_eq_true (by omega)).symm

theorem kk (b:Bool)(u:Value)(x:Nat)(w:World)(h:Num w u x) :
  Calls Tryz.prog 53 #[.bool b,u] w fun e w'=>(∃v,e=.returned v∧Zn w' v (zz b x))∧Below w.heap.size w w':=by
 obtain⟨a,n,c,rfl⟩:=h.sl
 cases b
 ·have HB:=aa (bo w (.cells #[.bool false,.slice a n c] 32))
  have HN:=aa (h.below HB.out)
  clear h
  go_enter Tryz.func53,Tryz.ntmps53
  go_wp2
  go_returns
  exact⟨⟨_,rfl,.slice a n c,by simp [zz],by rw [aF];exact HN.out⟩,HB.out⟩
 ·obtain⟨w0,hw0⟩:∃w0,w.alloc (.cells #[.bool false,.slice none 0 0] 32)=w0:=⟨_,rfl⟩
  have hb0:Below w.heap.size w w0:=by rw [←hw0];exact bo _ _
  have h0:w0.heap[w.heap.size]?=some (.cells #[.bool false,.slice none 0 0] 32):=by rw [←hw0];exact heap_alloc_new ..
  have hf0:=av h0
  obtain⟨k0,k1⟩:=duo h0
  have HZ:=fT _ x w0 (h.below hb0)
  obtain⟨t,ht⟩:∃t:Bool,(!(x == 0))=t:=⟨_,rfl⟩
  have hzt:=i9 true x
  rw [Bool.true_and,ht] at hzt
  have ht2:(x == 0)=!t:=by rw [←ht,Bool.not_not]
  rw [ht2] at HZ
  have HN:=aa h
  have HB0:=aa hb0
  have HBX:=aa h0
  have HZT:=aa hzt
  clear h hb0 h0 ht ht2 hzt
  go_enter Tryz.func53,Tryz.ntmps53
  go_wp2_with fail
  refine HZ.mono ?_
  rintro e wn ⟨rfl,hw⟩;rw [hw];clear hw wn HZ
  go_wp2
  have R5:=aI HBX.out (a':=.bool t) (b':=.slice a n c)
  have HD:=aa (aC HB0.out (g:=w.heap.size) (u0:=.bool t) (u1:=.slice a n c) (Nat.le_refl _))
  generalize (w0.setCell ⟨w.heap.size,0,none⟩ (.bool t)).setCell ⟨w.heap.size,1,none⟩ (.slice a n c)=w5 at *
  obtain⟨q0,q1⟩:=duo R5
  refine bodyPost_ret (v:=.agg #[.bool t,.slice a n c]) (by simp [results,Tryz.results53,go_sem,q0,q1]) rfl ?_
  exact⟨⟨_,rfl,_,by rw [HZT.out],by rw [aF];exact HN.out.below HD.out⟩,HD.out⟩

theorem Zn.sl {w:World}{v:Value}{z:Int}(h:Zn w v z):∃b a n k,v=.agg #[.bool b,.slice a n k]:=by
 obtain⟨u,h1,h2⟩:=h
 obtain⟨a,n,k,rfl⟩:=h2.sl
 exact⟨_,_,_,_,h1⟩

theorem aK {w:World}{g k g' k':Nat}{u:Value}(h:g≠g'):(w.setCell ⟨g,k,none⟩ u).cell? ⟨g',k',none⟩=w.cell? ⟨g',k',none⟩:=by
 simp only [World.cell?]
 rw [Below.heap_setCell _ _ _ _ (by exact Ne.symm h)]

theorem aD.box {w:World}{ao:Option Addr}{zs:List Nat}{g o:Nat}{p:Bool}{a:Option Addr}{n c:Nat}{t:TypeId}{u:Value}(h:aD w ao zs)(hl:w.heap[g]?=some (.cells #[.bool p,.slice a n c] t)):aD (w.setCell ⟨g,o,none⟩ u) ao zs:=by
 rcases h with h|⟨b,off,rfl,hc⟩
 ·exact .inl h
 ·rcases Nat.eq_zero_or_pos zs.length with h0|h0
  ·exact .inl (List.eq_nil_of_length_eq_zero h0)
  ·refine .inr ⟨b,off,rfl,fun k hk=>?_⟩
   rw [aK]
   ·exact hc k hk
   ·rintro rfl
    have h1:=hc 0 h0
    rw [Nat.add_zero] at h1
    simp only [World.cell?,hl] at h1
    match off,h1 with
    | 0,h1=>simp at h1
    | 1,h1=>simp at h1
    | k+2,h1=>simp at h1

theorem Arg.box {w:World}{v:Value}{zs:List Nat}{g o:Nat}{p:Bool}{a:Option Addr}{n c:Nat}{t:TypeId}{u:Value}(h:Arg w v zs)(hl:w.heap[g]?=some (.cells #[.bool p,.slice a n c] t)):Arg (w.setCell ⟨g,o,none⟩ u) v zs:=by
 obtain⟨ao,cap,h1,h2,h3,h4⟩:=h.form
 exact⟨⟨ao,cap,h1,h2,h3,h4.box hl⟩,h.limbs,h.few,h.nz⟩

theorem Arg.duo {w:World}{v:Value}{zs:List Nat}{g:Nat}{p:Bool}{a:Option Addr}{n c:Nat}{t:TypeId}{p1:Bool}{r1:Value}(h:Arg w v zs)(hl:w.heap[g]?=some (.cells #[.bool p,.slice a n c] t)):Arg ((w.setCell ⟨g,0,none⟩ (.bool p1)).setCell ⟨g,1,none⟩ r1) v zs:=
 (h.box hl).box (aT hl (.bool p1))

theorem Num.duo {w:World}{v:Value}{x g:Nat}{p:Bool}{a:Option Addr}{n c:Nat}{t:TypeId}{p1:Bool}{r1:Value}(h:Num w v x)(hl:w.heap[g]?=some (.cells #[.bool p,.slice a n c] t)):Num ((w.setCell ⟨g,0,none⟩ (.bool p1)).setCell ⟨g,1,none⟩ r1) v x:=by
 obtain⟨ds,hA,hr⟩:=h
 exact⟨ds,hA.duo hl,hr⟩

theorem Zn.duo {w:World}{v:Value}{z:Int}{g:Nat}{p:Bool}{a:Option Addr}{n c:Nat}{t:TypeId}{p1:Bool}{r1:Value}(h:Zn w v z)(hl:w.heap[g]?=some (.cells #[.bool p,.slice a n c] t)):Zn ((w.setCell ⟨g,0,none⟩ (.bool p1)).setCell ⟨g,1,none⟩ r1) v z:=by
 obtain⟨u,h1,h2⟩:=h
 exact⟨u,h1,h2.duo hl⟩

def bj (w:World)(z:Int)(e:Ending)(w':World):Prop:=(∃b a n k,e=.returned (.agg #[.bool b,.slice a n k])∧Zn w' (.agg #[.bool b,.slice a n k]) z)∧Below w.heap.size w w'

theorem ce (b:Bool)(u:Value)(x:Nat)(w:World)(h:Num w u x):Calls Tryz.prog 53 #[.bool b,u] w (bj w (zz b x)):=by
 refine (kk b u x w h).mono ?_
 rintro e w' ⟨⟨v,rfl,hz⟩,hb⟩
 obtain⟨b,a,n,k,rfl⟩:=hz.sl
 exact⟨⟨b,a,n,k,rfl,hz⟩,hb⟩

theorem dv (b:Bool)(v:Value)(X:List Nat)(w:World)(hA:Arg w v X)(hf:X.length≤17592186044416) :
  Calls Tryz.prog 21 #[.bool b,v] w (bj w (zz b (val X))):=by
 obtain⟨a,n,rfl,_,_,_⟩:=hA.form
 obtain⟨w0,hw0,hb0,hx0⟩:=aO w (.cells #[.bool false,.slice none 0 0] 32)
 have HO:=gi _ X w0 (hA.below hb0) hf
 have HB0:=aa hb0
 have HX0:=aa hx0
 clear hA hb0 hx0
 go_enter Tryz.func21,Tryz.ntmps21
 go_wp2_with fail
 refine HO.mono ?_
 rintro e w1 ⟨⟨v1,rfl,hn⟩,hb1⟩
 have HM:=ce b v1 (val X) w1 hn
 have HW1:=aa hb1
 obtain⟨a2,n2,k2,rfl⟩:=hn.sl
 clear hn hb1 HO
 go_wp2_with fail
 refine HM.mono ?_
 rintro e w2 ⟨⟨b1,a1,n1,k1,rfl,hzn⟩,hb2⟩
 have HZN:=aa hzn
 have HW:=aa (HW1.out.trans (hb2.mono HW1.out.size))
 clear hzn hb2 HM hw0
 have hbx:=ac HW.out HX0.out
 have hf1:=av hbx
 obtain⟨l0,l1⟩:=duo hbx
 have HBX:=aa hbx
 have HBE:=aa (HB0.out.trans (HW.out.mono HB0.out.size))
 clear hbx
 go_wp2
 have R5:=aI HBX.out (a':=.bool b1) (b':=.slice a1 n1 k1)
 have HD:=aa (And.intro (HZN.out.duo (p1:=b1) (r1:=.slice a1 n1 k1) HBX.out) (aC HBE.out (g:=w.heap.size) (u0:=.bool b1) (u1:=.slice a1 n1 k1) (by omega)))
 generalize (w2.setCell ⟨w.heap.size,0,none⟩ (.bool b1)).setCell ⟨w.heap.size,1,none⟩ (.slice a1 n1 k1)=w5 at *
 obtain⟨q0,q1⟩:=duo R5
 refine bodyPost_ret (v:=.agg #[.bool b1,.slice a1 n1 k1]) (by simp [results,Tryz.results21,go_sem,q0,q1]) rfl ?_
 exact⟨⟨_,_,_,_,rfl,HD.out.1⟩,HD.out.2⟩
end Go.Proofs.YtdbjbbdhlpfhjaaGreatDoor
namespace Go.Proofs.YtdbjbbdhlpfhjaaGreatDoor
open Go.RowKit
open Lm

def cz (wx:World)(s:Value)(z:Int)(B:Nat):Prop:=∃(g:Nat) (b:Bool) (a:Option Addr) (n k:Nat),s=.pointer (some ⟨g,0,none⟩)∧B≤g∧wx.heap[g]?=some (.cells #[.bool b,.slice a n k] 32)∧Zn wx (.agg #[.bool b,.slice a n k]) z

theorem dl {W:World}{B g:Nat}{p:Bool}{a:Option Addr}{n k:Nat}{b':Bool}{a':Option Addr}{n' k':Nat}{z:Int}(e:W.heap[g]?=some (.cells #[.bool p,.slice a n k] 32))(hz:Zn W (.agg #[.bool b',.slice a' n' k']) z)(hB:B≤g) :
  cz ((W.setCell ⟨g,0,none⟩ (.bool b')).setCell ⟨g,1,none⟩ (.slice a' n' k')) (.pointer (some ⟨g,0,none⟩)) z B:=
 ⟨g,b',a',n',k',rfl,hB,aI e,hz.duo e⟩

theorem cz.other {W:World}{s:Value}{z:Int}{B g:Nat}{p:Bool}{a:Option Addr}{n k:Nat}{b':Bool}{r':Value}(h:cz W s z B)(e:W.heap[g]?=some (.cells #[.bool p,.slice a n k] 32))(hne:s≠.pointer (some ⟨g,0,none⟩)) :
  cz ((W.setCell ⟨g,0,none⟩ (.bool b')).setCell ⟨g,1,none⟩ r') s z B:=by
 obtain⟨g',b,a9,n9,k9,rfl,h2,h3,h4⟩:=h
 exact⟨g',b,a9,n9,k9,rfl,h2,bA h3 (fun e9=>hne (by rw [e9])),h4.duo e⟩

def aM (z:Int)(W:World)(x:Value):Prop:=∃(b:Bool) (a:Option Addr) (n k:Nat),x=.agg #[.bool b,.slice a n k]∧Zn W (.agg #[.bool b,.slice a n k]) z

theorem aM.up (z:Int):∀(W W':World) (x:Value),Below W.heap.size W W'→aM z W x→aM z W' x:=by
 rintro W W' x hb ⟨b,a,n,k,h1,h2⟩
 exact⟨b,a,n,k,h1,h2.below hb⟩

theorem aM.zn {z:Int}{W:World}{x:Value}(h:aM z W x):Zn W x z:=by
 obtain⟨b,a,n,k,rfl,h2⟩:=h
 exact h2

def dK (y z:Int)(W:World)(x e1 e2 e3:Value):Prop:=e1=x∧x=.tuple #[e2,e3]∧aM y W e2∧aM z W e3

theorem dK.up (y z:Int):∀(W W':World) (x z1 z2 z3:Value),Below W.heap.size W W'→dK y z W x z1 z2 z3→dK y z W' x z1 z2 z3:=by
 rintro W W' x z1 z2 z3 hb ⟨h1,h2,h3,h4⟩
 exact⟨h1,h2,aM.up _ _ _ _ hb h3,aM.up _ _ _ _ hb h4⟩

theorem du {W W':World}{u:Nat}{y:Value}{x:Obj}(hb:Below W.heap.size W W')(h:∃g,y=.pointer (some ⟨g,0,none⟩)∧u≤g∧W.heap[g]?=some x):∃g,y=.pointer (some ⟨g,0,none⟩)∧u≤g∧W'.heap[g]?=some x:=by
 obtain⟨g,h1,h2,h3⟩:=h
 exact⟨g,h1,h2,ac hb h3⟩

theorem cR {W:World}{u:Nat}{y:Value}{x:Obj}(h:∃g,y=.pointer (some ⟨g,0,none⟩)∧u≤g∧W.heap[g]?=some x):y≠.pointer (some ⟨W.heap.size,0,none⟩):=by
 obtain⟨g,rfl,_,h3⟩:=h
 intro e
 simp only [Value.pointer.injEq,Option.some.injEq,Addr.mk.injEq,and_true] at e
 have:=lt_of_block h3
 omega

structure J33 (u:World)(Q1:World→Value→Prop)(Q2:World→Value→Prop)(Q3:World→Value→Prop)(c1 c2 c3 k1 k2 k3:Bool)(x1 x2 x3 y1 y2 y3:Value)(W:World):Prop where
 up:Below u.heap.size u W
 m1:∀(W W':World) (x:Value),Below W.heap.size W W'→Q1 W x→Q1 W' x
 m2:∀(W W':World) (x:Value),Below W.heap.size W W'→Q2 W x→Q2 W' x
 m3:∀(W W':World) (x:Value),Below W.heap.size W W'→Q3 W x→Q3 W' x
 h2:c2=true→c1=true
 h3:c3=true→c2=true
 q1:c1=true→Q1 W x1
 q2:c2=true→Q2 W x2
 q3:c3=true→Q3 W x3
 r1:k1=true→∃g,y1=.pointer (some ⟨g,0,none⟩)∧u.heap.size≤g∧W.heap[g]?=some (.cells #[.bool false,.slice none 0 0] 32)
 r2:k2=true→∃g,y2=.pointer (some ⟨g,0,none⟩)∧u.heap.size≤g∧W.heap[g]?=some (.cells #[.bool false,.slice none 0 0] 32)
 r3:k3=true→∃g,y3=.pointer (some ⟨g,0,none⟩)∧u.heap.size≤g∧W.heap[g]?=some (.cells #[.bool false,.slice none 0 0] 32)
 d12:k1=true→k2=true→y1≠y2
 d13:k1=true→k3=true→y1≠y3
 d23:k2=true→k3=true→y2≠y3

theorem J33.below {u:World}{Q1:World→Value→Prop}{Q2:World→Value→Prop}{Q3:World→Value→Prop}{c1 c2 c3 k1 k2 k3:Bool}{x1 x2 x3 y1 y2 y3:Value}{W W':World}(h:J33 u Q1 Q2 Q3 c1 c2 c3 k1 k2 k3 x1 x2 x3 y1 y2 y3 W)(hb:Below W.heap.size W W'):J33 u Q1 Q2 Q3 c1 c2 c3 k1 k2 k3 x1 x2 x3 y1 y2 y3 W':=
 ⟨h.up.trans (hb.mono h.up.size),h.m1,h.m2,h.m3,h.h2,h.h3,fun e=>h.m1 _ _ _ hb (h.q1 e),fun e=>h.m2 _ _ _ hb (h.q2 e),fun e=>h.m3 _ _ _ hb (h.q3 e),fun e=>du hb (h.r1 e),fun e=>du hb (h.r2 e),fun e=>du hb (h.r3 e),h.d12,h.d13,h.d23⟩

theorem J33.call1 {u:World}{Q1:World→Value→Prop}{Q2:World→Value→Prop}{Q3:World→Value→Prop}{c1 c2 c3 k1 k2 k3:Bool}{x1 x2 x3 y1 y2 y3:Value}{v:Value}{W W':World}(h:J33 u Q1 Q2 Q3 c1 c2 c3 k1 k2 k3 x1 x2 x3 y1 y2 y3 W)(hb:Below W.heap.size W W')(hv:Q1 W' v):J33 u Q1 Q2 Q3 true c2 c3 k1 k2 k3 v x2 x3 y1 y2 y3 W':=
 have j:=h.below hb
 ⟨j.up,j.m1,j.m2,j.m3,fun _=>rfl,j.h3,fun _=>hv,j.q2,j.q3,j.r1,j.r2,j.r3,j.d12,j.d13,j.d23⟩

theorem J33.call2 {u:World}{Q1:World→Value→Prop}{Q2:World→Value→Prop}{Q3:World→Value→Prop}{c2 c3 k1 k2 k3:Bool}{x1 x2 x3 y1 y2 y3:Value}{v:Value}{W W':World}(h:J33 u Q1 Q2 Q3 true c2 c3 k1 k2 k3 x1 x2 x3 y1 y2 y3 W)(hb:Below W.heap.size W W')(hv:Q2 W' v):J33 u Q1 Q2 Q3 true true c3 k1 k2 k3 x1 v x3 y1 y2 y3 W':=
 have j:=h.below hb
 ⟨j.up,j.m1,j.m2,j.m3,fun _=>rfl,fun _=>rfl,j.q1,fun _=>hv,j.q3,j.r1,j.r2,j.r3,j.d12,j.d13,j.d23⟩

theorem J33.call3 {u:World}{Q1:World→Value→Prop}{Q2:World→Value→Prop}{Q3:World→Value→Prop}{c3 k1 k2 k3:Bool}{x1 x2 x3 y1 y2 y3:Value}{v:Value}{W W':World}(h:J33 u Q1 Q2 Q3 true true c3 k1 k2 k3 x1 x2 x3 y1 y2 y3 W)(hb:Below W.heap.size W W')(hv:Q3 W' v):J33 u Q1 Q2 Q3 true true true k1 k2 k3 x1 x2 v y1 y2 y3 W':=
 have j:=h.below hb
 ⟨j.up,j.m1,j.m2,j.m3,fun _=>rfl,fun _=>rfl,j.q1,j.q2,fun _=>hv,j.r1,j.r2,j.r3,j.d12,j.d13,j.d23⟩

theorem J33.make1 {u:World}{Q1:World→Value→Prop}{Q2:World→Value→Prop}{Q3:World→Value→Prop}{c1 c2 c3 k1 k2 k3:Bool}{x1 x2 x3 y1 y2 y3:Value}{W:World}(h:J33 u Q1 Q2 Q3 c1 c2 c3 k1 k2 k3 x1 x2 x3 y1 y2 y3 W) :
  J33 u Q1 Q2 Q3 c1 c2 c3 true k2 k3 x1 x2 x3 (.pointer (some ⟨W.heap.size,0,none⟩)) y2 y3 (W.alloc (.cells #[.bool false,.slice none 0 0] 32)):=
 have j:=h.below (bo W (.cells #[.bool false,.slice none 0 0] 32))
 ⟨j.up,j.m1,j.m2,j.m3,j.h2,j.h3,j.q1,j.q2,j.q3,fun _=>⟨_,rfl,h.up.size,heap_alloc_new _ _⟩,j.r2,j.r3,fun _ e=>(cR (h.r2 e)).symm,fun _ e=>(cR (h.r3 e)).symm,j.d23⟩

theorem J33.make2 {u:World}{Q1:World→Value→Prop}{Q2:World→Value→Prop}{Q3:World→Value→Prop}{c1 c2 c3 k1 k2 k3:Bool}{x1 x2 x3 y1 y2 y3:Value}{W:World}(h:J33 u Q1 Q2 Q3 c1 c2 c3 k1 k2 k3 x1 x2 x3 y1 y2 y3 W) :
  J33 u Q1 Q2 Q3 c1 c2 c3 k1 true k3 x1 x2 x3 y1 (.pointer (some ⟨W.heap.size,0,none⟩)) y3 (W.alloc (.cells #[.bool false,.slice none 0 0] 32)):=
 have j:=h.below (bo W (.cells #[.bool false,.slice none 0 0] 32))
 ⟨j.up,j.m1,j.m2,j.m3,j.h2,j.h3,j.q1,j.q2,j.q3,j.r1,fun _=>⟨_,rfl,h.up.size,heap_alloc_new _ _⟩,j.r3,fun e _=>cR (h.r1 e),j.d13,fun _ e=>(cR (h.r3 e)).symm⟩

theorem J33.make3 {u:World}{Q1:World→Value→Prop}{Q2:World→Value→Prop}{Q3:World→Value→Prop}{c1 c2 c3 k1 k2 k3:Bool}{x1 x2 x3 y1 y2 y3:Value}{W:World}(h:J33 u Q1 Q2 Q3 c1 c2 c3 k1 k2 k3 x1 x2 x3 y1 y2 y3 W) :
  J33 u Q1 Q2 Q3 c1 c2 c3 k1 k2 true x1 x2 x3 y1 y2 (.pointer (some ⟨W.heap.size,0,none⟩)) (W.alloc (.cells #[.bool false,.slice none 0 0] 32)):=
 have j:=h.below (bo W (.cells #[.bool false,.slice none 0 0] 32))
 ⟨j.up,j.m1,j.m2,j.m3,j.h2,j.h3,j.q1,j.q2,j.q3,j.r1,j.r2,fun _=>⟨_,rfl,h.up.size,heap_alloc_new _ _⟩,j.d12,fun e _=>cR (h.r1 e),fun e _=>cR (h.r2 e)⟩

theorem J33.start {u:World}{Q1:World→Value→Prop}{Q2:World→Value→Prop}{Q3:World→Value→Prop}(m1:∀(W W':World) (x:Value),Below W.heap.size W W'→Q1 W x→Q1 W' x)(m2:∀(W W':World) (x:Value),Below W.heap.size W W'→Q2 W x→Q2 W' x)(m3:∀(W W':World) (x:Value),Below W.heap.size W W'→Q3 W x→Q3 W' x)(x1 x2 x3 y1 y2 y3:Value){W:World}(h:Below u.heap.size u W):J33 u Q1 Q2 Q3 false false false false false false x1 x2 x3 y1 y2 y3 W:=
 ⟨h,m1,m2,m3,nofun,nofun,nofun,nofun,nofun,nofun,nofun,nofun,nofun,nofun,nofun⟩

def au (c1 c2 c3 k1 k2 k3:Bool):Nat:=(!c1).toNat+(!c2).toNat+(!c3).toNat+(!k1).toNat+(!k2).toNat+(!k3).toNat

theorem lc (c1 c2 c3 k1 k2 k3:Bool)(h:0=au c1 c2 c3 k1 k2 k3):c1=true∧c2=true∧c3=true∧k1=true∧k2=true∧k3=true:=by
 unfold au at h
 cases c1 <;> cases c2 <;> cases c3 <;> cases k1 <;> cases k2 <;> cases k3 <;> simp at h ⊢

theorem mO {P:Program}{md:Region.Mode}{ops:Array Oper}{Q:Exit→Act→World→Prop}{S:World→Prop}(u:World)(Q1:World→Value→Prop)(Q2:World→Value→Prop)(Q3:World→Value→Prop)(m1:∀(W W':World) (x:Value),Below W.heap.size W W'→Q1 W x→Q1 W' x)(m2:∀(W W':World) (x:Value),Below W.heap.size W W'→Q2 W x→Q2 W' x)(m3:∀(W W':World) (x:Value),Below W.heap.size W W'→Q3 W x→Q3 W' x)(s1 s2 s3 t1 t2 t3 base:Nat)(LST:Bool→Bool→Bool→Bool→Bool→Bool→Array Bool){W:World}{n:Nat}{listed:Array Bool}{a:Act}(hn:n=6+base)(hl:listed=LST false false false false false false)(ha:a=((((((a.put (some s1) undef).put (some s2) undef).put (some s3) undef).put (some t1) undef).put (some t2) undef).put (some t3) undef))(hu:Below u.heap.size u W)
  (h:∀(n:Nat) (c1 c2 c3 k1 k2 k3:Bool) (x1 x2 x3 y1 y2 y3:Value) (W:World),n=au c1 c2 c3 k1 k2 k3→J33 u Q1 Q2 Q3 c1 c2 c3 k1 k2 k3 x1 x2 x3 y1 y2 y3 W→wpAnyH P md ops Q S (n+base) (LST c1 c2 c3 k1 k2 k3) ((((((a.put (some s1) x1).put (some s2) x2).put (some s3) x3).put (some t1) y1).put (some t2) y2).put (some t3) y3) W) :
  wpAnyH P md ops Q S n listed a W:=by
 subst hn hl
 rw [ha]
 exact h 6 _ _ _ _ _ _ _ _ _ _ _ _ W rfl (J33.start m1 m2 m3 _ _ _ _ _ _ hu)

structure J51 (u:World)(Q1:World→Value→Prop)(Q2:World→Value→Prop)(Q3:World→Value→Prop)(Q4:World→Value→Prop)(Q5:World→Value→Prop)(c1 c2 c3 c4 c5 k1:Bool)(x1 x2 x3 x4 x5 y1:Value)(W:World):Prop where
 up:Below u.heap.size u W
 m1:∀(W W':World) (x:Value),Below W.heap.size W W'→Q1 W x→Q1 W' x
 m2:∀(W W':World) (x:Value),Below W.heap.size W W'→Q2 W x→Q2 W' x
 m3:∀(W W':World) (x:Value),Below W.heap.size W W'→Q3 W x→Q3 W' x
 m4:∀(W W':World) (x:Value),Below W.heap.size W W'→Q4 W x→Q4 W' x
 m5:∀(W W':World) (x:Value),Below W.heap.size W W'→Q5 W x→Q5 W' x
 h2:c2=true→c1=true
 h3:c3=true→c2=true
 h4:c4=true→c3=true
 h5:c5=true→c4=true
 q1:c1=true→Q1 W x1
 q2:c2=true→Q2 W x2
 q3:c3=true→Q3 W x3
 q4:c4=true→Q4 W x4
 q5:c5=true→Q5 W x5
 r1:k1=true→∃g,y1=.pointer (some ⟨g,0,none⟩)∧u.heap.size≤g∧W.heap[g]?=some (.cells #[.bool false,.slice none 0 0] 32)

theorem J51.below {u:World}{Q1:World→Value→Prop}{Q2:World→Value→Prop}{Q3:World→Value→Prop}{Q4:World→Value→Prop}{Q5:World→Value→Prop}{c1 c2 c3 c4 c5 k1:Bool}{x1 x2 x3 x4 x5 y1:Value}{W W':World}(h:J51 u Q1 Q2 Q3 Q4 Q5 c1 c2 c3 c4 c5 k1 x1 x2 x3 x4 x5 y1 W)(hb:Below W.heap.size W W'):J51 u Q1 Q2 Q3 Q4 Q5 c1 c2 c3 c4 c5 k1 x1 x2 x3 x4 x5 y1 W':=
 ⟨h.up.trans (hb.mono h.up.size),h.m1,h.m2,h.m3,h.m4,h.m5,h.h2,h.h3,h.h4,h.h5,fun e=>h.m1 _ _ _ hb (h.q1 e),fun e=>h.m2 _ _ _ hb (h.q2 e),fun e=>h.m3 _ _ _ hb (h.q3 e),fun e=>h.m4 _ _ _ hb (h.q4 e),fun e=>h.m5 _ _ _ hb (h.q5 e),fun e=>du hb (h.r1 e)⟩

theorem J51.call1 {u:World}{Q1:World→Value→Prop}{Q2:World→Value→Prop}{Q3:World→Value→Prop}{Q4:World→Value→Prop}{Q5:World→Value→Prop}{c1 c2 c3 c4 c5 k1:Bool}{x1 x2 x3 x4 x5 y1:Value}{v:Value}{W W':World}(h:J51 u Q1 Q2 Q3 Q4 Q5 c1 c2 c3 c4 c5 k1 x1 x2 x3 x4 x5 y1 W)(hb:Below W.heap.size W W')(hv:Q1 W' v):J51 u Q1 Q2 Q3 Q4 Q5 true c2 c3 c4 c5 k1 v x2 x3 x4 x5 y1 W':=
 have j:=h.below hb
 ⟨j.up,j.m1,j.m2,j.m3,j.m4,j.m5,fun _=>rfl,j.h3,j.h4,j.h5,fun _=>hv,j.q2,j.q3,j.q4,j.q5,j.r1⟩

theorem J51.call2 {u:World}{Q1:World→Value→Prop}{Q2:World→Value→Prop}{Q3:World→Value→Prop}{Q4:World→Value→Prop}{Q5:World→Value→Prop}{c2 c3 c4 c5 k1:Bool}{x1 x2 x3 x4 x5 y1:Value}{v:Value}{W W':World}(h:J51 u Q1 Q2 Q3 Q4 Q5 true c2 c3 c4 c5 k1 x1 x2 x3 x4 x5 y1 W)(hb:Below W.heap.size W W')(hv:Q2 W' v):J51 u Q1 Q2 Q3 Q4 Q5 true true c3 c4 c5 k1 x1 v x3 x4 x5 y1 W':=
 have j:=h.below hb
 ⟨j.up,j.m1,j.m2,j.m3,j.m4,j.m5,fun _=>rfl,fun _=>rfl,j.h4,j.h5,j.q1,fun _=>hv,j.q3,j.q4,j.q5,j.r1⟩

theorem J51.call3 {u:World}{Q1:World→Value→Prop}{Q2:World→Value→Prop}{Q3:World→Value→Prop}{Q4:World→Value→Prop}{Q5:World→Value→Prop}{c3 c4 c5 k1:Bool}{x1 x2 x3 x4 x5 y1:Value}{v:Value}{W W':World}(h:J51 u Q1 Q2 Q3 Q4 Q5 true true c3 c4 c5 k1 x1 x2 x3 x4 x5 y1 W)(hb:Below W.heap.size W W')(hv:Q3 W' v):J51 u Q1 Q2 Q3 Q4 Q5 true true true c4 c5 k1 x1 x2 v x4 x5 y1 W':=
 have j:=h.below hb
 ⟨j.up,j.m1,j.m2,j.m3,j.m4,j.m5,fun _=>rfl,fun _=>rfl,fun _=>rfl,j.h5,j.q1,j.q2,fun _=>hv,j.q4,j.q5,j.r1⟩

theorem J51.call4 {u:World}{Q1:World→Value→Prop}{Q2:World→Value→Prop}{Q3:World→Value→Prop}{Q4:World→Value→Prop}{Q5:World→Value→Prop}{c4 c5 k1:Bool}{x1 x2 x3 x4 x5 y1:Value}{v:Value}{W W':World}(h:J51 u Q1 Q2 Q3 Q4 Q5 true true true c4 c5 k1 x1 x2 x3 x4 x5 y1 W)(hb:Below W.heap.size W W')(hv:Q4 W' v):J51 u Q1 Q2 Q3 Q4 Q5 true true true true c5 k1 x1 x2 x3 v x5 y1 W':=
 have j:=h.below hb
 ⟨j.up,j.m1,j.m2,j.m3,j.m4,j.m5,fun _=>rfl,fun _=>rfl,fun _=>rfl,fun _=>rfl,j.q1,j.q2,j.q3,fun _=>hv,j.q5,j.r1⟩

theorem J51.call5 {u:World}{Q1:World→Value→Prop}{Q2:World→Value→Prop}{Q3:World→Value→Prop}{Q4:World→Value→Prop}{Q5:World→Value→Prop}{c5 k1:Bool}{x1 x2 x3 x4 x5 y1:Value}{v:Value}{W W':World}(h:J51 u Q1 Q2 Q3 Q4 Q5 true true true true c5 k1 x1 x2 x3 x4 x5 y1 W)(hb:Below W.heap.size W W')(hv:Q5 W' v):J51 u Q1 Q2 Q3 Q4 Q5 true true true true true k1 x1 x2 x3 x4 v y1 W':=
 have j:=h.below hb
 ⟨j.up,j.m1,j.m2,j.m3,j.m4,j.m5,fun _=>rfl,fun _=>rfl,fun _=>rfl,fun _=>rfl,j.q1,j.q2,j.q3,j.q4,fun _=>hv,j.r1⟩

theorem J51.make1 {u:World}{Q1:World→Value→Prop}{Q2:World→Value→Prop}{Q3:World→Value→Prop}{Q4:World→Value→Prop}{Q5:World→Value→Prop}{c1 c2 c3 c4 c5 k1:Bool}{x1 x2 x3 x4 x5 y1:Value}{W:World}(h:J51 u Q1 Q2 Q3 Q4 Q5 c1 c2 c3 c4 c5 k1 x1 x2 x3 x4 x5 y1 W) :
  J51 u Q1 Q2 Q3 Q4 Q5 c1 c2 c3 c4 c5 true x1 x2 x3 x4 x5 (.pointer (some ⟨W.heap.size,0,none⟩)) (W.alloc (.cells #[.bool false,.slice none 0 0] 32)):=
 have j:=h.below (bo W (.cells #[.bool false,.slice none 0 0] 32))
 ⟨j.up,j.m1,j.m2,j.m3,j.m4,j.m5,j.h2,j.h3,j.h4,j.h5,j.q1,j.q2,j.q3,j.q4,j.q5,fun _=>⟨_,rfl,h.up.size,heap_alloc_new _ _⟩⟩

theorem J51.start {u:World}{Q1:World→Value→Prop}{Q2:World→Value→Prop}{Q3:World→Value→Prop}{Q4:World→Value→Prop}{Q5:World→Value→Prop}(m1:∀(W W':World) (x:Value),Below W.heap.size W W'→Q1 W x→Q1 W' x)(m2:∀(W W':World) (x:Value),Below W.heap.size W W'→Q2 W x→Q2 W' x)(m3:∀(W W':World) (x:Value),Below W.heap.size W W'→Q3 W x→Q3 W' x)(m4:∀(W W':World) (x:Value),Below W.heap.size W W'→Q4 W x→Q4 W' x)(m5:∀(W W':World) (x:Value),Below W.heap.size W W'→Q5 W x→Q5 W' x)(x1 x2 x3 x4 x5 y1:Value){W:World}(h:Below u.heap.size u W):J51 u Q1 Q2 Q3 Q4 Q5 false false false false false false x1 x2 x3 x4 x5 y1 W:=
 ⟨h,m1,m2,m3,m4,m5,nofun,nofun,nofun,nofun,nofun,nofun,nofun,nofun,nofun,nofun⟩

def be (c1 c2 c3 c4 c5 k1:Bool):Nat:=(!c1).toNat+(!c2).toNat+(!c3).toNat+(!c4).toNat+(!c5).toNat+(!k1).toNat

theorem ob (c1 c2 c3 c4 c5 k1:Bool)(h:0=be c1 c2 c3 c4 c5 k1):c1=true∧c2=true∧c3=true∧c4=true∧c5=true∧k1=true:=by
 unfold be at h
 cases c1 <;> cases c2 <;> cases c3 <;> cases c4 <;> cases c5 <;> cases k1 <;> simp at h ⊢

theorem pO {P:Program}{md:Region.Mode}{ops:Array Oper}{Q:Exit→Act→World→Prop}{S:World→Prop}(u:World)(Q1:World→Value→Prop)(Q2:World→Value→Prop)(Q3:World→Value→Prop)(Q4:World→Value→Prop)(Q5:World→Value→Prop)(m1:∀(W W':World) (x:Value),Below W.heap.size W W'→Q1 W x→Q1 W' x)(m2:∀(W W':World) (x:Value),Below W.heap.size W W'→Q2 W x→Q2 W' x)(m3:∀(W W':World) (x:Value),Below W.heap.size W W'→Q3 W x→Q3 W' x)(m4:∀(W W':World) (x:Value),Below W.heap.size W W'→Q4 W x→Q4 W' x)(m5:∀(W W':World) (x:Value),Below W.heap.size W W'→Q5 W x→Q5 W' x)(s1 s2 s3 s4 s5 t1 base:Nat)(LST:Bool→Bool→Bool→Bool→Bool→Bool→Array Bool){W:World}{n:Nat}{listed:Array Bool}{a:Act}(hn:n=6+base)(hl:listed=LST false false false false false false)(ha:a=((((((a.put (some s1) undef).put (some s2) undef).put (some s3) undef).put (some s4) undef).put (some s5) undef).put (some t1) undef))(hu:Below u.heap.size u W)
  (h:∀(n:Nat) (c1 c2 c3 c4 c5 k1:Bool) (x1 x2 x3 x4 x5 y1:Value) (W:World),n=be c1 c2 c3 c4 c5 k1→J51 u Q1 Q2 Q3 Q4 Q5 c1 c2 c3 c4 c5 k1 x1 x2 x3 x4 x5 y1 W→wpAnyH P md ops Q S (n+base) (LST c1 c2 c3 c4 c5 k1) ((((((a.put (some s1) x1).put (some s2) x2).put (some s3) x3).put (some s4) x4).put (some s5) x5).put (some t1) y1) W) :
  wpAnyH P md ops Q S n listed a W:=by
 subst hn hl
 rw [ha]
 exact h 6 _ _ _ _ _ _ _ _ _ _ _ _ W rfl (J51.start m1 m2 m3 m4 m5 _ _ _ _ _ _ hu)

structure J52 (u:World)(Q1:World→Value→Prop)(Q2:World→Value→Prop)(Q3:World→Value→Prop)(Q4:World→Value→Prop)(Q5:World→Value→Value→Value→Value→Prop)(c1 c2 c3 c4 c5 k1 k2:Bool)(x1 x2 x3 x4 x5 e1 e2 e3 y1 y2:Value)(W:World):Prop where
 up:Below u.heap.size u W
 m1:∀(W W':World) (x:Value),Below W.heap.size W W'→Q1 W x→Q1 W' x
 m2:∀(W W':World) (x:Value),Below W.heap.size W W'→Q2 W x→Q2 W' x
 m3:∀(W W':World) (x:Value),Below W.heap.size W W'→Q3 W x→Q3 W' x
 m4:∀(W W':World) (x:Value),Below W.heap.size W W'→Q4 W x→Q4 W' x
 m5:∀(W W':World) (x z1 z2 z3:Value),Below W.heap.size W W'→Q5 W x z1 z2 z3→Q5 W' x z1 z2 z3
 h2:c2=true→c1=true
 h3:c3=true→c2=true
 h4:c4=true→c3=true
 h5:c5=true→c4=true
 q1:c1=true→Q1 W x1
 q2:c2=true→Q2 W x2
 q3:c3=true→Q3 W x3
 q4:c4=true→Q4 W x4
 q5:c5=true→Q5 W x5 e1 e2 e3
 r1:k1=true→∃g,y1=.pointer (some ⟨g,0,none⟩)∧u.heap.size≤g∧W.heap[g]?=some (.cells #[.bool false,.slice none 0 0] 32)
 r2:k2=true→∃g,y2=.pointer (some ⟨g,0,none⟩)∧u.heap.size≤g∧W.heap[g]?=some (.cells #[.bool false,.slice none 0 0] 32)
 d12:k1=true→k2=true→y1≠y2

theorem J52.below {u:World}{Q1:World→Value→Prop}{Q2:World→Value→Prop}{Q3:World→Value→Prop}{Q4:World→Value→Prop}{Q5:World→Value→Value→Value→Value→Prop}{c1 c2 c3 c4 c5 k1 k2:Bool}{x1 x2 x3 x4 x5 e1 e2 e3 y1 y2:Value}{W W':World}(h:J52 u Q1 Q2 Q3 Q4 Q5 c1 c2 c3 c4 c5 k1 k2 x1 x2 x3 x4 x5 e1 e2 e3 y1 y2 W)(hb:Below W.heap.size W W'):J52 u Q1 Q2 Q3 Q4 Q5 c1 c2 c3 c4 c5 k1 k2 x1 x2 x3 x4 x5 e1 e2 e3 y1 y2 W':=
 ⟨h.up.trans (hb.mono h.up.size),h.m1,h.m2,h.m3,h.m4,h.m5,h.h2,h.h3,h.h4,h.h5,fun e=>h.m1 _ _ _ hb (h.q1 e),fun e=>h.m2 _ _ _ hb (h.q2 e),fun e=>h.m3 _ _ _ hb (h.q3 e),fun e=>h.m4 _ _ _ hb (h.q4 e),fun e=>h.m5 _ _ _ _ _ _ hb (h.q5 e),fun e=>du hb (h.r1 e),fun e=>du hb (h.r2 e),h.d12⟩

theorem J52.call1 {u:World}{Q1:World→Value→Prop}{Q2:World→Value→Prop}{Q3:World→Value→Prop}{Q4:World→Value→Prop}{Q5:World→Value→Value→Value→Value→Prop}{c1 c2 c3 c4 c5 k1 k2:Bool}{x1 x2 x3 x4 x5 e1 e2 e3 y1 y2:Value}{v:Value}{W W':World}(h:J52 u Q1 Q2 Q3 Q4 Q5 c1 c2 c3 c4 c5 k1 k2 x1 x2 x3 x4 x5 e1 e2 e3 y1 y2 W)(hb:Below W.heap.size W W')(hv:Q1 W' v):J52 u Q1 Q2 Q3 Q4 Q5 true c2 c3 c4 c5 k1 k2 v x2 x3 x4 x5 e1 e2 e3 y1 y2 W':=
 have j:=h.below hb
 ⟨j.up,j.m1,j.m2,j.m3,j.m4,j.m5,fun _=>rfl,j.h3,j.h4,j.h5,fun _=>hv,j.q2,j.q3,j.q4,j.q5,j.r1,j.r2,j.d12⟩

theorem J52.call2 {u:World}{Q1:World→Value→Prop}{Q2:World→Value→Prop}{Q3:World→Value→Prop}{Q4:World→Value→Prop}{Q5:World→Value→Value→Value→Value→Prop}{c2 c3 c4 c5 k1 k2:Bool}{x1 x2 x3 x4 x5 e1 e2 e3 y1 y2:Value}{v:Value}{W W':World}(h:J52 u Q1 Q2 Q3 Q4 Q5 true c2 c3 c4 c5 k1 k2 x1 x2 x3 x4 x5 e1 e2 e3 y1 y2 W)(hb:Below W.heap.size W W')(hv:Q2 W' v):J52 u Q1 Q2 Q3 Q4 Q5 true true c3 c4 c5 k1 k2 x1 v x3 x4 x5 e1 e2 e3 y1 y2 W':=
 have j:=h.below hb
 ⟨j.up,j.m1,j.m2,j.m3,j.m4,j.m5,fun _=>rfl,fun _=>rfl,j.h4,j.h5,j.q1,fun _=>hv,j.q3,j.q4,j.q5,j.r1,j.r2,j.d12⟩

theorem J52.call3 {u:World}{Q1:World→Value→Prop}{Q2:World→Value→Prop}{Q3:World→Value→Prop}{Q4:World→Value→Prop}{Q5:World→Value→Value→Value→Value→Prop}{c3 c4 c5 k1 k2:Bool}{x1 x2 x3 x4 x5 e1 e2 e3 y1 y2:Value}{v:Value}{W W':World}(h:J52 u Q1 Q2 Q3 Q4 Q5 true true c3 c4 c5 k1 k2 x1 x2 x3 x4 x5 e1 e2 e3 y1 y2 W)(hb:Below W.heap.size W W')(hv:Q3 W' v):J52 u Q1 Q2 Q3 Q4 Q5 true true true c4 c5 k1 k2 x1 x2 v x4 x5 e1 e2 e3 y1 y2 W':=
 have j:=h.below hb
 ⟨j.up,j.m1,j.m2,j.m3,j.m4,j.m5,fun _=>rfl,fun _=>rfl,fun _=>rfl,j.h5,j.q1,j.q2,fun _=>hv,j.q4,j.q5,j.r1,j.r2,j.d12⟩

theorem J52.call4 {u:World}{Q1:World→Value→Prop}{Q2:World→Value→Prop}{Q3:World→Value→Prop}{Q4:World→Value→Prop}{Q5:World→Value→Value→Value→Value→Prop}{c4 c5 k1 k2:Bool}{x1 x2 x3 x4 x5 e1 e2 e3 y1 y2:Value}{v:Value}{W W':World}(h:J52 u Q1 Q2 Q3 Q4 Q5 true true true c4 c5 k1 k2 x1 x2 x3 x4 x5 e1 e2 e3 y1 y2 W)(hb:Below W.heap.size W W')(hv:Q4 W' v):J52 u Q1 Q2 Q3 Q4 Q5 true true true true c5 k1 k2 x1 x2 x3 v x5 e1 e2 e3 y1 y2 W':=
 have j:=h.below hb
 ⟨j.up,j.m1,j.m2,j.m3,j.m4,j.m5,fun _=>rfl,fun _=>rfl,fun _=>rfl,fun _=>rfl,j.q1,j.q2,j.q3,fun _=>hv,j.q5,j.r1,j.r2,j.d12⟩

theorem J52.call5 {u:World}{Q1:World→Value→Prop}{Q2:World→Value→Prop}{Q3:World→Value→Prop}{Q4:World→Value→Prop}{Q5:World→Value→Value→Value→Value→Prop}{c5 k1 k2:Bool}{x1 x2 x3 x4 x5 e1 e2 e3 y1 y2:Value}{v f1 f2 f3:Value}{W W':World}(h:J52 u Q1 Q2 Q3 Q4 Q5 true true true true c5 k1 k2 x1 x2 x3 x4 x5 e1 e2 e3 y1 y2 W)(hb:Below W.heap.size W W')(hv:Q5 W' v f1 f2 f3):J52 u Q1 Q2 Q3 Q4 Q5 true true true true true k1 k2 x1 x2 x3 x4 v f1 f2 f3 y1 y2 W':=
 have j:=h.below hb
 ⟨j.up,j.m1,j.m2,j.m3,j.m4,j.m5,fun _=>rfl,fun _=>rfl,fun _=>rfl,fun _=>rfl,j.q1,j.q2,j.q3,j.q4,fun _=>hv,j.r1,j.r2,j.d12⟩

theorem J52.make1 {u:World}{Q1:World→Value→Prop}{Q2:World→Value→Prop}{Q3:World→Value→Prop}{Q4:World→Value→Prop}{Q5:World→Value→Value→Value→Value→Prop}{c1 c2 c3 c4 c5 k1 k2:Bool}{x1 x2 x3 x4 x5 e1 e2 e3 y1 y2:Value}{W:World}(h:J52 u Q1 Q2 Q3 Q4 Q5 c1 c2 c3 c4 c5 k1 k2 x1 x2 x3 x4 x5 e1 e2 e3 y1 y2 W) :
  J52 u Q1 Q2 Q3 Q4 Q5 c1 c2 c3 c4 c5 true k2 x1 x2 x3 x4 x5 e1 e2 e3 (.pointer (some ⟨W.heap.size,0,none⟩)) y2 (W.alloc (.cells #[.bool false,.slice none 0 0] 32)):=
 have j:=h.below (bo W (.cells #[.bool false,.slice none 0 0] 32))
 ⟨j.up,j.m1,j.m2,j.m3,j.m4,j.m5,j.h2,j.h3,j.h4,j.h5,j.q1,j.q2,j.q3,j.q4,j.q5,fun _=>⟨_,rfl,h.up.size,heap_alloc_new _ _⟩,j.r2,fun _ e=>(cR (h.r2 e)).symm⟩

theorem J52.make2 {u:World}{Q1:World→Value→Prop}{Q2:World→Value→Prop}{Q3:World→Value→Prop}{Q4:World→Value→Prop}{Q5:World→Value→Value→Value→Value→Prop}{c1 c2 c3 c4 c5 k1 k2:Bool}{x1 x2 x3 x4 x5 e1 e2 e3 y1 y2:Value}{W:World}(h:J52 u Q1 Q2 Q3 Q4 Q5 c1 c2 c3 c4 c5 k1 k2 x1 x2 x3 x4 x5 e1 e2 e3 y1 y2 W) :
  J52 u Q1 Q2 Q3 Q4 Q5 c1 c2 c3 c4 c5 k1 true x1 x2 x3 x4 x5 e1 e2 e3 y1 (.pointer (some ⟨W.heap.size,0,none⟩)) (W.alloc (.cells #[.bool false,.slice none 0 0] 32)):=
 have j:=h.below (bo W (.cells #[.bool false,.slice none 0 0] 32))
 ⟨j.up,j.m1,j.m2,j.m3,j.m4,j.m5,j.h2,j.h3,j.h4,j.h5,j.q1,j.q2,j.q3,j.q4,j.q5,j.r1,fun _=>⟨_,rfl,h.up.size,heap_alloc_new _ _⟩,fun e _=>cR (h.r1 e)⟩

theorem J52.start {u:World}{Q1:World→Value→Prop}{Q2:World→Value→Prop}{Q3:World→Value→Prop}{Q4:World→Value→Prop}{Q5:World→Value→Value→Value→Value→Prop}(m1:∀(W W':World) (x:Value),Below W.heap.size W W'→Q1 W x→Q1 W' x)(m2:∀(W W':World) (x:Value),Below W.heap.size W W'→Q2 W x→Q2 W' x)(m3:∀(W W':World) (x:Value),Below W.heap.size W W'→Q3 W x→Q3 W' x)(m4:∀(W W':World) (x:Value),Below W.heap.size W W'→Q4 W x→Q4 W' x)(m5:∀(W W':World) (x z1 z2 z3:Value),Below W.heap.size W W'→Q5 W x z1 z2 z3→Q5 W' x z1 z2 z3)(x1 x2 x3 x4 x5 e1 e2 e3 y1 y2:Value){W:World}(h:Below u.heap.size u W):J52 u Q1 Q2 Q3 Q4 Q5 false false false false false false false x1 x2 x3 x4 x5 e1 e2 e3 y1 y2 W:=
 ⟨h,m1,m2,m3,m4,m5,nofun,nofun,nofun,nofun,nofun,nofun,nofun,nofun,nofun,nofun,nofun,nofun⟩

def aE (c1 c2 c3 c4 c5 k1 k2:Bool):Nat:=(!c1).toNat+(!c2).toNat+(!c3).toNat+(!c4).toNat+(!c5).toNat+(!k1).toNat+(!k2).toNat

theorem nk (c1 c2 c3 c4 c5 k1 k2:Bool)(h:0=aE c1 c2 c3 c4 c5 k1 k2):c1=true∧c2=true∧c3=true∧c4=true∧c5=true∧k1=true∧k2=true:=by
 unfold aE at h
 cases c1 <;> cases c2 <;> cases c3 <;> cases c4 <;> cases c5 <;> cases k1 <;> cases k2 <;> simp at h ⊢

theorem oa {P:Program}{md:Region.Mode}{ops:Array Oper}{Q:Exit→Act→World→Prop}{S:World→Prop}(u:World)(Q1:World→Value→Prop)(Q2:World→Value→Prop)(Q3:World→Value→Prop)(Q4:World→Value→Prop)(Q5:World→Value→Value→Value→Value→Prop)(m1:∀(W W':World) (x:Value),Below W.heap.size W W'→Q1 W x→Q1 W' x)(m2:∀(W W':World) (x:Value),Below W.heap.size W W'→Q2 W x→Q2 W' x)(m3:∀(W W':World) (x:Value),Below W.heap.size W W'→Q3 W x→Q3 W' x)(m4:∀(W W':World) (x:Value),Below W.heap.size W W'→Q4 W x→Q4 W' x)(m5:∀(W W':World) (x z1 z2 z3:Value),Below W.heap.size W W'→Q5 W x z1 z2 z3→Q5 W' x z1 z2 z3)(s1 s2 s3 s4 s5 w1 w2 w3 t1 t2 base:Nat)(LST:Bool→Bool→Bool→Bool→Bool→Bool→Bool→Array Bool){W:World}{n:Nat}{listed:Array Bool}{a:Act}(hn:n=7+base+3)(hl:listed=LST false false false false false false false)(ha:a=((((((((((a.put (some s1) undef).put (some s2) undef).put (some s3) undef).put (some s4) undef).put (some s5) undef).put (some w1) undef).put (some w2) undef).put (some w3) undef).put (some t1) undef).put (some t2) undef))(hu:Below u.heap.size u W)
  (h:∀(n:Nat) (c1 c2 c3 c4 c5 k1 k2:Bool) (x1 x2 x3 x4 x5 e1 e2 e3 y1 y2:Value) (W:World),n=aE c1 c2 c3 c4 c5 k1 k2→J52 u Q1 Q2 Q3 Q4 Q5 c1 c2 c3 c4 c5 k1 k2 x1 x2 x3 x4 x5 e1 e2 e3 y1 y2 W→wpAnyH P md ops Q S (n+base+3*(!c5).toNat) (LST c1 c2 c3 c4 c5 k1 k2) ((((((((((a.put (some s1) x1).put (some s2) x2).put (some s3) x3).put (some s4) x4).put (some s5) x5).put (some w1) e1).put (some w2) e2).put (some w3) e3).put (some t1) y1).put (some t2) y2) W) :
  wpAnyH P md ops Q S n listed a W:=by
 subst hn hl
 rw [ha]
 exact h 7 _ _ _ _ _ _ _ _ _ _ _ _ _ _ _ _ _ W rfl (J52.start m1 m2 m3 m4 m5 _ _ _ _ _ _ _ _ _ _ hu)




end Go.Proofs.YtdbjbbdhlpfhjaaGreatDoor

