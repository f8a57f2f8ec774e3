/- Package nat: Norm, Bit; the reference's Bit at any place, Tail, Count. -/
import Derived.Test.YtgnmgbbokcpppaaGreatDoorB01
import Derived.Laws.AppendOwnNone
import Derived.Handy
import Derived.Tactics2
import Derived.Defers
import Derived.Recover
import Derived.Laws.Pointers
import Derived.Lib.SliceRun
set_option maxRecDepth 20000
set_option maxHeartbeats 1000000
namespace Go.Proofs.YtgnmgbbokcpppaaGreatDoor
open Go.RowKit
open Lm
attribute [local go_sem ↓] Go.wp_at_zero Go.wp_at_succ

theorem ow {w:World}{b off:Nat}{X:List Nat}(hc:∀k,k<X.length→w.cell? ⟨b,off+k,none⟩=some (.int .u64 ((X.getD k 0:Nat):Int)))(j:Nat)(u:Value)(hj:(X.map lv)[j]?=some u):w.cell? ((⟨b,off,none⟩:Addr).add j)=some u:=by
 rw [List.getElem?_map] at hj
 have hl:j<X.length:=by
  refine Nat.lt_of_not_le fun h=>?_
  rw [List.getElem?_eq_none h] at hj
  cases hj
 have:=hc j hl
 have e:X.getD j 0=X[j]:=by simp [List.getD,hl]
 rw [List.getElem?_eq_getElem hl] at hj
 cases hj
 have ea:(⟨b,off,none⟩:Addr).add j=⟨b,off+j,none⟩:=by simp [Addr.add]
 rw [ea,this,e];rfl

theorem oD (ao:Option Addr)(cap:Nat)(X:List Nat)(w:World)(hl:aq w ao X)(hX:Limbs X)(hf:X.length≤17592186044416) :
  Calls Tryz.prog 110 #[.slice ao X.length cap] w fun e w'=>(∃v,e=.returned v∧Ans w' w.heap.size v X)∧Below w.heap.size w w':=by
 obtain⟨i0,hi,hz0,hz1,hz2⟩:=info_parts Tryz.infoU
 have ho:w.ownsRow w.heap.size 62 1 (.slice none 0 0) 0 []:=World.ownsRow_nil _ _ _ _
 have key:∀ad:Addr,(∀j u,(X.map lv)[j]?=some u→w.cell? (ad.add j)=some u)→Calls Tryz.prog 110 #[.slice (some ad) X.length cap] w fun e w'=>(∃v,e=.returned v∧Ans w' w.heap.size v X)∧Below w.heap.size w w':=by
  intro ad hn
  have HX:=ac hX
  clear hX hl
  go_enter Tryz.func110,Tryz.ntmps110
  go_wp2_with (at_builtin;refine wpList_append_own _ rfl _ _ 23 rfl w.heap.size 62 i0 (.int .u64 0) 1 8 Tryz.underlying23 hi hz0 hz1 hz2 rfl (by decide) _ _ _ rfl ho ad X.length cap (X.map lv) rfl (by simp) hn (gE _) (by unfold maxLen;omega) (by omega) (Nat.le_refl _) ?_;intro v' w2 hown2 hgrow2 _)
  have HA:Hid (Ans w2 w.heap.size v' X):=by
   rw [Nat.zero_add,List.nil_append] at hown2
   exact⟨hown2,HX.out⟩
  have HB:Hid (Below w.heap.size w w2):=(Below.refl _ _).grown hgrow2 (Nat.le_refl _) (fun k hk=>by cases hk)
  clear hown2 hgrow2 ho hn
  go_wp2
  go_ret
  exact⟨⟨_,rfl,HA.out⟩,HB.out⟩
 rcases hl with h0|⟨b,off,rfl,hc⟩
 ·subst h0
  cases ao with
  | some ad=>exact key ad (fun j u h=>by simp at h)
  | none=>
   clear key ho hi hz0 hz1 hz2 hX
   go_enter Tryz.func110,Tryz.ntmps110
   go_wp2
   go_ret
   exact⟨⟨_,rfl,Ans.nil _ _⟩,Below.refl _ _⟩
 ·exact key _ (ow hc)

theorem dd (v:Value)(X:List Nat)(w:World)(hA:Arg w v X)(hf:X.length≤17592186044416) :
  Calls Tryz.prog 87 #[v] w fun e w'=>(∃v,e=.returned v∧Ans w' w.heap.size v (tr X))∧Below w.heap.size w w':=by
 obtain⟨a1,c1,rfl,hc1,hm1,hl1⟩:=hA.form
 have T1:=bY a1 c1 X w hc1 hm1 hl1
 have l1:=tr_length_le X
 have F:=oD a1 c1 (tr X) w hl1.tr (limbs_tr hA.limbs) (by omega)
 clear hl1 hA
 go_enter Tryz.func87,Tryz.ntmps87
 go_wp2_with fail
 refine T1.mono ?_
 rintro e w2 ⟨rfl,rfl⟩
 clear T1
 go_wp2_with fail
 refine F.mono ?_
 rintro e w3 ⟨⟨v,rfl,ha⟩,hb⟩
 have HA:=ac (And.intro ha hb)
 clear ha hb F
 go_wp2
 go_ret
 exact⟨⟨v,rfl,HA.out.1⟩,HA.out.2⟩
end Go.Proofs.YtgnmgbbokcpppaaGreatDoor
namespace Go.Proofs.YtgnmgbbokcpppaaGreatDoor
namespace Lm

theorem through_step (X out:List Nat)(d j r:Nat)(hj:j<out.length)
  (h:val (out.drop (j+1))*d+r=val (X.drop (j+1))) (hxl:j<X.length) :
  val ((out.set j ((r*18446744073709551616+X.getD j 0) / d)).drop j)*d+(r*18446744073709551616+X.getD j 0) % d=val (X.drop j):=by
 have e1:(out.set j ((r*18446744073709551616+X.getD j 0) / d)).drop j=((r*18446744073709551616+X.getD j 0) / d) :: out.drop (j+1):=by
  rw [List.drop_eq_getElem_cons (by simpa using hj)]
  simp [List.drop_set]
 have e2:X.drop j=X.getD j 0 :: X.drop (j+1):=by
  rw [List.drop_eq_getElem_cons hxl];simp [List.getD,hxl]
 rw [e1,e2]
 simp only [val]
 rw [←h]
 generalize X.getD j 0=x
 generalize val (out.drop (j+1))=q
 have hdm:=Nat.div_add_mod (r*18446744073709551616+x) d
 generalize (r*18446744073709551616+x) / d=a at *
 generalize (r*18446744073709551616+x) % d=b at *
 have e3:(a+18446744073709551616*q)*d=d*a+18446744073709551616*(q*d):=by
  rw [Nat.add_mul,Nat.mul_comm a d,Nat.mul_assoc]
 rw [e3]
 omega

theorem quo_lt (r x d:Nat)(hr:r<d)(hx:x<18446744073709551616):(r*18446744073709551616+x) / d<18446744073709551616:=by
 rw [Nat.div_lt_iff_lt_mul (by omega)]
 have:=Nat.mul_le_mul_right 18446744073709551616 (Nat.succ_le_of_lt hr)
 rw [Nat.succ_eq_add_one,Nat.add_mul] at this
 rw [Nat.mul_comm]
 omega

end Lm
end Go.Proofs.YtgnmgbbokcpppaaGreatDoor
namespace Go.Proofs.YtgnmgbbokcpppaaGreatDoor
open Go.RowKit
open Lm

theorem cB (x:Nat)(w:World)(hx:x<18446744073709551616) :
  Calls Tryz.prog 79 #[.int .u64 x] w fun e w'=>(∃v,e=.returned v∧Ans w' w.heap.size v (tr [x]))∧Below w.heap.size w w':=by
 by_cases h:x=0
 ·subst h
  have hz:(((0:Nat):Int) == 0)=true:=rfl
  go_enter Tryz.func79,Tryz.ntmps79
  go_wp2
  go_ret
  exact⟨⟨_,rfl,Ans.nil _ _⟩,Below.refl _ _⟩
 ·have hz:((x:Int) == 0)=false:=by rw [beq_eq_false_iff_ne];omega
  have e:tr [x]=[x]:=by simp [tr,h]
  rw [e]
  clear e h
  have hb:Blk (w.alloc (.cells #[.int .u64 (x:Int)] 62)) w.heap.size [x]:=by
   unfold Blk;rw [heap_alloc_new];rfl
  have HA:=ac (Ans.of_blk (base:=w.heap.size) (zs:=[x]) (Nat.le_refl _) hb rfl (Nat.le_refl _) (by simp) (by intro y hy;simp at hy;omega))
  clear hb
  go_enter Tryz.func79,Tryz.ntmps79
  go_wp2
  go_ret
  exact⟨⟨_,rfl,HA.out⟩,(Below.refl _ _).alloc (Nat.le_refl _) _⟩
end Go.Proofs.YtgnmgbbokcpppaaGreatDoor
namespace Go.Proofs.YtgnmgbbokcpppaaGreatDoor
open Go.RowKit
open Lm
attribute [local go_sem ↓] Go.wp_at_zero Go.wp_at_succ

def zz (b:Bool)(x:Nat):Int:=if b then -(x:Int) else (x:Int)

theorem aM (b:Bool)(x:Nat):(zz b x).natAbs=x:=by cases b <;> simp [zz]

theorem cV (z:Int):zz (decide (z<0)) z.natAbs=z:=by
 unfold zz
 by_cases h:z<0
 ·rw [if_pos (by simpa using h)];omega
 ·rw [if_neg (by simpa using h)];omega

theorem ll {rs:List Nat}(ht:tr rs=rs):0<rs.length ↔ val rs≠0:=by
 constructor
 ·intro h h0
  have:=aL rs 0 (by rw [h0];simp)
  rw [ht] at this
  omega
 ·intro h
  rcases Nat.eq_zero_or_pos rs.length with h0|h0
  ·rw [List.eq_nil_of_length_eq_zero h0] at h
   exact absurd rfl h
  ·exact h0

theorem dW {rs:List Nat}{x:Nat}(b:Bool)(ht:tr rs=rs)(hv:val rs=x):(b && decide (0<rs.length))=decide (zz b x<0):=by
 have h:=ll ht
 rw [hv] at h
 cases b
 ·simp [zz]
 ·simp only [Bool.true_and,zz,if_true]
  rw [decide_eq_decide]
  omega

theorem an (w:World)(o1:Obj):∃w0,w.alloc o1=w0∧Below w.heap.size w w0∧w0.heap[w.heap.size]?=some o1:=⟨_,rfl,(Below.refl _ _).alloc (Nat.le_refl _) _,heap_alloc_new ..⟩

theorem aY (w:World)(o1 o2:Obj):∃w0,(w.alloc o1).alloc o2=w0∧Below w.heap.size w w0∧w0.heap[w.heap.size]?=some o1∧w0.heap[w.heap.size+1]?=some o2:=by
 obtain⟨w1,h1,b1,c1⟩:=an w o1
 obtain⟨w2,h2,b2,c2⟩:=an w1 o2
 have hs:w1.heap.size=w.heap.size+1:=by rw [←h1];exact World.size_alloc _ _
 refine⟨w2,by rw [h1];exact h2,b1.trans (b2.mono b1.size),?_,by rw [←hs];exact c2⟩
 rw [b2.block w.heap.size (lt_of_block c1)];exact c1

theorem aZ (w:World)(o1 o2 o3:Obj):∃w0,((w.alloc o1).alloc o2).alloc o3=w0∧Below w.heap.size w w0∧w0.heap[w.heap.size]?=some o1∧w0.heap[w.heap.size+1]?=some o2∧w0.heap[w.heap.size+2]?=some o3:=by
 obtain⟨w1,h1,b1,c1,c2⟩:=aY w o1 o2
 obtain⟨w2,h2,b2,c3⟩:=an w1 o3
 have hs:w1.heap.size=w.heap.size+2:=by rw [←h1,World.size_alloc,World.size_alloc]
 refine⟨w2,by rw [h1];exact h2,b1.trans (b2.mono b1.size),?_,?_,by rw [←hs];exact c3⟩
 ·rw [b2.block _ (lt_of_block c1)];exact c1
 ·rw [b2.block _ (lt_of_block c2)];exact c2

theorem ae {w w':World}{g:Nat}{x:Obj}(hb:Below w.heap.size w w')(h:w.heap[g]?=some x):w'.heap[g]?=some x:=by
 rw [hb.block g (lt_of_block h)];exact h

theorem duo {w:World}{h:Nat}{a b:Value}{t:TypeId}(e:w.heap[h]?=some (.cells #[a,b] t)):w.cell? ⟨h,0,none⟩=some a∧w.cell? ⟨h,1,none⟩=some b:=⟨by simp [World.cell?,e],by simp [World.cell?,e]⟩

theorem aQ (w:World)(o:Obj):Below w.heap.size w (w.alloc o):=(Below.refl _ _).alloc (Nat.le_refl _) _

theorem dh (x:Nat):blen x=0 ↔ x=0:=by
 have h:=blen_le_iff x 0
 rw [Nat.pow_zero] at h
 omega

theorem nM (v:Value)(X:List Nat)(w:World)(hA:Arg w v X) :
  Calls Tryz.prog 85 #[v] w fun e w'=>e=.returned (.bool (decide (val X=0)))∧w'=w:=by
 have L:=aK v X w hA
 obtain⟨a,c,rfl,_,_,_⟩:=hA.form
 have hz:=dh (val X)
 clear hA
 generalize blen (val X)=l at *
 by_cases h0:l=0
 ·have h2:((l:Int) == 0)=true:=by rw [beq_iff_eq];omega
  rw [decide_eq_true (hz.1 h0)]
  go_enter Tryz.func85,Tryz.ntmps85
  go_wp2_with fail
  refine L.mono ?_
  rintro e wn ⟨rfl,hw⟩;rw [hw];clear hw wn L
  go_wp2
  go_ret
  exact⟨rfl,rfl⟩
 ·have h1:¬val X=0:=fun h=>h0 (hz.2 h)
  have h2:((l:Int) == 0)=false:=by rw [beq_eq_false_iff_ne];omega
  rw [decide_eq_false h1]
  go_enter Tryz.func85,Tryz.ntmps85
  go_wp2_with fail
  refine L.mono ?_
  rintro e wn ⟨rfl,hw⟩;rw [hw];clear hw wn L
  go_wp2
  go_ret
  exact⟨rfl,rfl⟩

def sg (b:Bool)(x:Nat):Int:=if x=0 then 0 else if b then -1 else 1

theorem kF (b:Bool)(x:Nat):sg b x=(zz b x).sign:=by
 unfold sg zz
 by_cases h:x=0
 ·subst h;cases b <;> rfl
 ·rw [if_neg h]
  cases b
  ·simp only [Bool.false_eq_true,if_false]
   exact (Int.sign_eq_one_of_pos (by omega)).symm
  ·simp only [if_true]
   exact (Int.sign_eq_neg_one_of_neg (by omega)).symm

theorem gH (b:Bool)(v:Value)(X:List Nat)(w:World)(hA:Arg w v X) :
  Calls Tryz.prog 51 #[.agg #[.bool b,v]] w fun e w'=>e=.returned (.int .i64 (sg b (val X)))∧Below w.heap.size w w':=by
 obtain⟨a,c,rfl,_,_,_⟩:=hA.form
 obtain⟨w0,hw0⟩:∃w0,w.alloc (.cells #[.bool b,.slice a X.length c] 25)=w0:=⟨_,rfl⟩
 have hb0:Below w.heap.size w w0:=by rw [←hw0];exact aQ _ _
 have h0:w0.heap[w.heap.size]?=some (.cells #[.bool b,.slice a X.length c] 25):=by rw [←hw0];exact heap_alloc_new ..
 obtain⟨k0,k1⟩:=duo h0
 have HZ:=nM _ X w0 (hA.below hb0)
 have HB:=ac hb0
 unfold sg
 clear hA h0 hb0
 by_cases hx:val X=0
 ·rw [if_pos hx]
  rw [decide_eq_true hx] at HZ
  go_enter Tryz.func51,Tryz.ntmps51
  go_wp2_with fail
  refine HZ.mono ?_
  rintro e wn ⟨rfl,hw⟩;rw [hw];clear hw wn HZ
  go_wp2
  go_ret
  exact⟨rfl,HB.out⟩
 ·rw [if_neg hx]
  rw [decide_eq_false hx] at HZ
  cases b
  ·go_enter Tryz.func51,Tryz.ntmps51
   go_wp2_with fail
   refine HZ.mono ?_
   rintro e wn ⟨rfl,hw⟩;rw [hw];clear hw wn HZ
   go_wp2
   go_ret
   exact⟨rfl,HB.out⟩
  ·go_enter Tryz.func51,Tryz.ntmps51
   go_wp2_with fail
   refine HZ.mono ?_
   rintro e wn ⟨rfl,hw⟩;rw [hw];clear hw wn HZ
   go_wp2
   go_ret
   exact⟨rfl,HB.out⟩

theorem ou (b:Bool)(v:Value)(X:List Nat)(w:World)(hA:Arg w v X) :
  Calls Tryz.prog 104 #[.agg #[.bool b,v]] w fun e w'=>e=.returned (.bool (decide (zz b (val X)<0)))∧Below w.heap.size w w':=by
 obtain⟨a,c,rfl,_,_,_⟩:=hA.form
 obtain⟨w0,hw0⟩:∃w0,w.alloc (.cells #[.bool b,.slice a X.length c] 25)=w0:=⟨_,rfl⟩
 have hb0:Below w.heap.size w w0:=by rw [←hw0];exact aQ _ _
 have h0:w0.heap[w.heap.size]?=some (.cells #[.bool b,.slice a X.length c] 25):=by rw [←hw0];exact heap_alloc_new ..
 obtain⟨k0,k1⟩:=duo h0
 have HZ:=gH b _ X w0 (hA.below hb0)
 have HB:=ac hb0
 rw [kF] at HZ
 generalize zz b (val X)=z at *
 clear hA h0 hb0
 by_cases hz:z<0
 ·rw [Int.sign_eq_neg_one_of_neg hz] at HZ
  rw [decide_eq_true hz]
  go_enter Tryz.func104,Tryz.ntmps104
  go_wp2_with fail
  refine HZ.mono ?_
  rintro e w1 ⟨rfl,hb1⟩
  have HB1:=ac (HB.out.trans (hb1.mono HB.out.size))
  clear hb1 HZ
  go_wp2
  go_ret
  exact⟨rfl,HB1.out⟩
 ·have h1:¬z.sign<0:=fun h=>hz (Int.sign_neg_iff.1 h)
  rw [decide_eq_false hz]
  generalize z.sign=s at *
  have hds:decide (s<0)=false:=decide_eq_false h1
  go_enter Tryz.func104,Tryz.ntmps104
  go_wp2_with fail
  refine HZ.mono ?_
  rintro e w1 ⟨rfl,hb1⟩
  have HB1:=ac (HB.out.trans (hb1.mono HB.out.size))
  clear hb1 HZ
  go_wp2
  go_ret
  exact⟨rfl,HB1.out⟩

theorem ir (b:Bool)(v:Value)(rs:List Nat)(base:Nat)(w:World)(hA:Ans w base v rs) :
  Calls Tryz.prog 108 #[.bool b,v] w fun e w'=>e=.returned (.agg #[.bool (b && decide (0<rs.length)),v])∧Below w.heap.size w w':=by
 obtain⟨a,c,rfl⟩:∃a c,v=.slice a rs.length c:=by
  rcases hA.form with ⟨rfl,h⟩|⟨g,cap,rfl,_⟩
  ·exact⟨none,0,by rw [h];rfl⟩
  ·exact⟨_,_,rfl⟩
 clear hA
 generalize rs.length=n at *
 cases b
 ·have HB:=ac (aQ w (.cells #[.bool false,.slice a n c] 25))
  go_enter Tryz.func108,Tryz.ntmps108
  go_wp2
  go_returns
  exact⟨rfl,HB.out⟩
 ·by_cases hn:0<n
  ·have i1:(0:Int)<(n:Int):=by omega
   have HB:=ac (aQ w (.cells #[.bool true,.slice a n c] 25))
   rw [decide_eq_true hn]
   go_enter Tryz.func108,Tryz.ntmps108
   go_wp2
   go_returns
   exact⟨rfl,HB.out⟩
  ·have i1:¬(0:Int)<(n:Int):=by omega
   have HB:=ac (aQ w (.cells #[.bool false,.slice a n c] 25))
   rw [decide_eq_false hn]
   go_enter Tryz.func108,Tryz.ntmps108
   go_wp2
   go_returns
   exact⟨rfl,HB.out⟩

theorem mC (b:Bool)(x y:Nat):zz b x+zz b y=zz b (x+y):=by cases b <;> simp [zz] <;> omega

theorem lG (b t:Bool)(x y:Nat):zz b x*zz t y=zz (b != t) (x*y):=by
 cases b <;> cases t <;> simp [zz,Int.mul_neg,Int.neg_mul]
end Go.Proofs.YtgnmgbbokcpppaaGreatDoor
namespace Go.Proofs.YtgnmgbbokcpppaaGreatDoor
open Go.RowKit
open Lm

def cA (c:Int)(e:Ending):Prop:=e=.panicked [{ v:=.iface 33 (.int .i64 c),recovered:=false }]

theorem bR (c:Int)(w:World):Calls Tryz.prog 54 #[.bool false,.int .i64 c] w fun e w'=>e=.returned (.tuple #[])∧w'=w:=by
 go_enter Tryz.func54,Tryz.ntmps54
 go_wp2
 go_end0
 exact⟨rfl,rfl⟩

theorem qt (c:Int)(w:World):(Instr.typeAssert (.iface 33 (.int .i64 c)) 20 33 true).run Tryz.prog w=.ok (.tuple #[.int .i64 c,.bool true]) w:=by kernel_rfl

theorem ql (c:Int)(w:World):Calls Tryz.prog 53 #[.iface 33 (.int .i64 c)] w fun e w'=>e=.returned (.int .i64 c)∧w'=w:=by
 go_enter Tryz.func53,Tryz.ntmps53
 have H:=qt c
 go_wp2
 go_ret
 exact⟨rfl,rfl⟩

theorem kQ (c:Int)(w:World):Calls Tryz.prog 54 #[.bool true,.int .i64 c] w fun e w'=>cA c e∧w'=w:=by
 go_enter Tryz.func54,Tryz.ntmps54
 go_wp2
 simp [bodyPost,cA]

theorem kM (p:Addr)(c x:Int)(older:List PanicEntry)(w:World)(hc:w.cell? p=some (.int .i64 x))(hz:w.frozen? p=false) :
  CallsD Tryz.prog 52 #[.pointer (some p)] (.panicking ({ v:=.iface 33 (.int .i64 c),recovered:=false } :: older)) w fun e u' w'=>
   e=.returned (.tuple #[])∧u'=.panicking ({ v:=.iface 33 (.int .i64 c),recovered:=true } :: older)∧w'=w.setCell p (.int .i64 c):=by
 have HR:=ql c w
 refine callsD_of_wpS Tryz.func52 rfl fun c₀ cs hu=>?_
 apply wpS_seq
 apply wpS_region
 simp [wpOpsS,go_sem,recoverD,hu,Tryz.ntmps52,Exit.thenS]
 refine wpS_of_wp ?_
 go_wp2_with fail
 refine HR.mono ?_
 rintro e wn ⟨rfl,hw⟩;rw [hw];clear hw wn HR
 go_wp2
 simp [bodyPostS,results,Tryz.results52]

theorem fk (p:Addr)(w:World) :
  CallsD Tryz.prog 52 #[.pointer (some p)] .returning w fun e u' w'=>e=.returned (.tuple #[])∧u'=.returning∧w'=w:=by
 refine callsD_of_wpS Tryz.func52 rfl fun c₀ cs hu=>?_
 apply wpS_seq
 apply wpS_region
 simp [wpOpsS,go_sem,recoverD,hu,Tryz.ntmps52,Exit.thenS]
 refine wpS_of_wp ?_
 go_wp2
 cases c₀
 simp_all [bodyPostS,results,Tryz.results52]

theorem aB {w:World}{g k g' k':Nat}{u:Value}(h:g≠g'):(w.setCell ⟨g,k,none⟩ u).cell? ⟨g',k',none⟩=w.cell? ⟨g',k',none⟩:=by
 simp only [World.cell?]
 rw [Below.heap_setCell _ _ _ _ (by exact Ne.symm h)]

def eT (w:World)(G:World→Bool→Value→Value→Prop)(e:Ending)(w':World):Prop:=
 (∃(b:Bool) (a1:Option Addr) (n1 k1:Nat) (a2:Option Addr) (n2 k2:Nat),e=.returned (.tuple #[.agg #[.bool b,.slice a1 n1 k1,.slice a2 n2 k2],.int .i64 0])∧G w' b (.slice a1 n1 k1) (.slice a2 n2 k2))∧Below w.heap.size w w'

theorem mA (p:Addr)(w:World)(G:World→Bool→Value→Value→Prop)(hG:∀(W:World) (g k:Nat) (u:Value) (t:TypeId) (cs:Array Value) (b:Bool) (x y:Value),W.heap[g]?=some (.cells cs t)→(t=27∨t=33)→G W b x y→G (W.setCell ⟨g,k,none⟩ u) b x y)
  (hw:∀W,Below w.heap.size w W→Calls Tryz.prog 102 #[.pointer (some p)] W (fun e w'=>(∃(b:Bool) (a1:Option Addr) (n1 k1:Nat) (a2:Option Addr) (n2 k2:Nat),e=.returned (.agg #[.bool b,.slice a1 n1 k1,.slice a2 n2 k2])∧G w' b (.slice a1 n1 k1) (.slice a2 n2 k2))∧Below W.heap.size W w')) :
  Calls Tryz.prog 23 #[.func (.func 102) #[] #[.pointer (some p)]] w (eT w G):=by
 have hmf:∀(fn:Fn) (first cap:Array Value) (w:World),(Instr.makeFunc fn first cap).run Tryz.prog w=.ok (.func fn first cap) w:=fun _ _ _ _=>rfl
 obtain⟨w0,hw0,hb0,h0,h1⟩:=aY w (.cells #[.bool false,.slice none 0 0,.slice none 0 0] 27) (.cells #[.int .i64 0] 33)
 have HW:=hw w0 hb0
 have HB0:=ac hb0
 have H0:=ac h0
 have H1:=ac h1
 have HG:=ac hG
 clear hw hb0 h0 h1 hG
 go_enter_defers Tryz.func23,Tryz.ntmps23
 go_wp2_with fail
 refine HW.mono ?_
 rintro e w1 ⟨⟨b,a1,n1,k1,a2,n2,k2,rfl,hg⟩,hb1⟩
 have q0:=ae hb1 H0.out
 have q1:=ae hb1 H1.out
 have hne:¬w.heap.size=w.heap.size+1:=by omega
 have hne2:¬w.heap.size+1=w.heap.size:=by omega
 have c0:w1.cell? ⟨w.heap.size,0,none⟩=some (.bool false):=by simp [World.cell?,q0]
 have c1:w1.cell? ⟨w.heap.size,1,none⟩=some (.slice none 0 0):=by simp [World.cell?,q0]
 have c2:w1.cell? ⟨w.heap.size,2,none⟩=some (.slice none 0 0):=by simp [World.cell?,q0]
 have c3:w1.cell? ⟨w.heap.size+1,0,none⟩=some (.int .i64 0):=by simp [World.cell?,q1]
 have f0:∀k,w1.frozen? ⟨w.heap.size,k,none⟩=false:=fun k=>by simp [World.frozen?,q0]
 have f3:w1.frozen? ⟨w.heap.size+1,0,none⟩=false:=by simp [World.frozen?,q1]
 have so:∀(W:World) (k:Nat) (u:Value) (k':Nat),(W.setCell ⟨w.heap.size,k,none⟩ u).cell? ⟨w.heap.size+1,k',none⟩=W.cell? ⟨w.heap.size+1,k',none⟩:=fun W k u k'=>aB hne
 have sp:∀(W:World) (k:Nat) (u:Value) (k':Nat),(W.setCell ⟨w.heap.size+1,k,none⟩ u).cell? ⟨w.heap.size,k',none⟩=W.cell? ⟨w.heap.size,k',none⟩:=fun W k u k'=>aB hne2
 go_wp2
 have e0:=aj (k:=0) q0 (.bool b)
 have e1:=aj (k:=1) e0 (.slice a1 n1 k1)
 have e2:=aj (k:=2) e1 (.slice a2 n2 k2)
 have x1:(((w1.setCell ⟨w.heap.size,0,none⟩ (.bool b)).setCell ⟨w.heap.size,1,none⟩ (.slice a1 n1 k1)).setCell ⟨w.heap.size,2,none⟩ (.slice a2 n2 k2)).heap[w.heap.size+1]?=some (.cells #[.int .i64 0] 33):=by
  rw [Below.heap_setCell _ _ _ _ hne2,Below.heap_setCell _ _ _ _ hne2,Below.heap_setCell _ _ _ _ hne2]
  exact q1
 have x2:=aj (k:=0) x1 (.int .i64 0)
 have y2:((((w1.setCell ⟨w.heap.size,0,none⟩ (.bool b)).setCell ⟨w.heap.size,1,none⟩ (.slice a1 n1 k1)).setCell ⟨w.heap.size,2,none⟩ (.slice a2 n2 k2)).setCell ⟨w.heap.size+1,0,none⟩ (.int .i64 0)).heap[w.heap.size]?=some (.cells #[.bool b,.slice a1 n1 k1,.slice a2 n2 k2] 27):=by
  rw [Below.heap_setCell _ _ _ _ hne]
  exact e2
 have g1:=HG.out _ _ 0 (.bool b) _ _ _ _ _ q0 (.inl rfl) hg
 have g2:=HG.out _ _ 1 (.slice a1 n1 k1) _ _ _ _ _ e0 (.inl rfl) g1
 have g3:=HG.out _ _ 2 (.slice a2 n2 k2) _ _ _ _ _ e1 (.inl rfl) g2
 have g4:=HG.out _ _ 0 (.int .i64 0) _ _ _ _ _ x1 (.inr rfl) g3
 have b1:=((((HB0.out.trans (hb1.mono HB0.out.size)).setCell (p:=⟨w.heap.size,0,none⟩) (Nat.le_refl _) (.bool b)).setCell (p:=⟨w.heap.size,1,none⟩) (Nat.le_refl _) (.slice a1 n1 k1)).setCell (p:=⟨w.heap.size,2,none⟩) (Nat.le_refl _) (.slice a2 n2 k2)).setCell (p:=⟨w.heap.size+1,0,none⟩) (Nat.le_succ _) (.int .i64 0)
 have HE:=ac (And.intro g4 b1)
 clear so sp c0 c1 c2 c3 f0 f3 e0 e1 e2 x1 g1 g2 g3 g4 b1 q0 q1 hg hb1
 generalize (((w1.setCell ⟨w.heap.size,0,none⟩ (.bool b)).setCell ⟨w.heap.size,1,none⟩ (.slice a1 n1 k1)).setCell ⟨w.heap.size,2,none⟩ (.slice a2 n2 k2)).setCell ⟨w.heap.size+1,0,none⟩ (.int .i64 0)=w5 at *
 have m0:w5.cell? ⟨w.heap.size,0,none⟩=some (.bool b):=by simp [World.cell?,y2]
 have m1:w5.cell? ⟨w.heap.size,1,none⟩=some (.slice a1 n1 k1):=by simp [World.cell?,y2]
 have m2:w5.cell? ⟨w.heap.size,2,none⟩=some (.slice a2 n2 k2):=by simp [World.cell?,y2]
 have m3:w5.cell? ⟨w.heap.size+1,0,none⟩=some (.int .i64 0):=by simp [World.cell?,x2]
 refine leaves_cons (f:=52) (args:=#[.pointer (some ⟨w.heap.size+1,0,none⟩)]) (by simp) (by simp [go_sem]) ?_
 refine (fk ⟨w.heap.size+1,0,none⟩ w5).mono ?_
 rintro e u' w'' ⟨rfl,rfl,rfl⟩
 simp [Leaves,settle,results,Tryz.results23,go_sem,m0,m1,m2,m3]
 exact⟨⟨b,a1,n1,k1,a2,n2,k2,rfl,HE.out.1⟩,HE.out.2⟩
end Go.Proofs.YtgnmgbbokcpppaaGreatDoor
namespace Go.Proofs.YtgnmgbbokcpppaaGreatDoor
open Go.RowKit
open Lm
attribute [local go_sem ↓] Go.wp_at_zero Go.wp_at_succ

theorem oF (b off cap:Nat)(zs:List Nat)(w:World)(hcap:zs.length≤cap)(hmax:cap≤9223372036854775807)
  (hc:∀k,k<zs.length→w.cell? ⟨b,off+k,none⟩=some (.int .u64 ((zs.getD k 0:Nat):Int))) :
  Calls Tryz.prog 97 #[.slice (some ⟨b,off,none⟩) zs.length cap] w fun e w'=>e=.returned (.slice (some ⟨b,off,none⟩) (tr zs).length cap)∧w'=w:=by
 go_enter Tryz.func97,Tryz.ntmps97
 go_wp2
 go_loop [3] (fun n=>∃k:Nat,k≤zs.length∧n=.int .i64 k∧tr (zs.take k)=tr zs) (fun n=>(intOf n).toNat)
 case atStart=>exact⟨zs.length,Nat.le_refl _,rfl,by rw [List.take_length]⟩
 case round=>
  obtain⟨k,hk,rfl,ht⟩:=hrel
  have HT:Hid (tr (zs.take k)=tr zs):=ht
  clear ht
  by_cases h0:k=0
  ·subst h0
   go_wp2
   go_ret
   have e:=HT.out
   simp only [List.take_zero,tr] at e
   rw [←e]
   exact⟨rfl,rfl⟩
  ·obtain⟨j,rfl⟩:∃j,k=j+1:=⟨k - 1,by omega⟩
   have hcj:=hc j (by omega)
   clear hc
   by_cases hz:zs.getD j 0=0
   ·have HZ:Hid (tr (zs.take j)=tr zs):=by rw [←tr_step zs j (by omega) hz];exact HT.out
    rw [hz] at hcj
    clear hz HT
    go_wp2
    go_round
    case rel=>exact⟨j,by omega,by go_num,HZ.out⟩
    case measure=>simp [intOf]
   ·have HZ:Hid (tr zs=zs.take (j+1)):=by rw [←HT.out];exact tr_stop zs j (by omega) hz
    clear HT
    generalize zs.getD j 0=z at hcj hz
    have hne:((z:Int) == 0)=false:=by rw [beq_eq_false_iff_ne];omega
    clear hz
    go_wp2
    go_ret
    rw [HZ.out]
    have e:(zs.take (j+1)).length=j+1:=by simp;omega
    rw [e]
    exact⟨rfl,rfl⟩

theorem pe (ao:Option Addr)(cap:Nat)(w:World)(_hmax:cap≤9223372036854775807) :
  Calls Tryz.prog 97 #[.slice ao 0 cap] w fun e w'=>e=.returned (.slice ao 0 cap)∧w'=w:=by
 go_enter Tryz.func97,Tryz.ntmps97
 go_wp2
 refine wp_loop_rounds 1 ?_
 rw [rounds_succ]
 go_wp2
 go_ret
 exact⟨rfl,rfl⟩

theorem iQ (ao:Option Addr)(cap:Nat)(zs:List Nat)(w:World)(hcap:zs.length≤cap)(hmax:cap≤9223372036854775807)(hl:aq w ao zs) :
  Calls Tryz.prog 97 #[.slice ao zs.length cap] w fun e w'=>e=.returned (.slice ao (tr zs).length cap)∧w'=w:=by
 rcases hl with rfl|⟨b,off,rfl,hc⟩
 ·exact pe ao cap w hmax
 ·exact oF b off cap zs w hcap hmax hc

theorem dn (v:Value)(X:List Nat)(w:World)(hA:Arg w v X) :
  Calls Tryz.prog 55 #[v] w fun e w'=>e=.returned (.bool (decide (val X=0)))∧w'=w:=by
 have L:=aK v X w hA
 obtain⟨a,c,rfl,_,_,_⟩:=hA.form
 have hz:=dh (val X)
 clear hA
 generalize blen (val X)=l at *
 by_cases h0:l=0
 ·have h2:((l:Int) == 0)=true:=by rw [beq_iff_eq];omega
  rw [decide_eq_true (hz.1 h0)]
  go_enter Tryz.func55,Tryz.ntmps55
  go_wp2_with fail
  refine L.mono ?_
  rintro e wn ⟨rfl,hw⟩;rw [hw];clear hw wn L
  go_wp2
  go_ret
  exact⟨rfl,rfl⟩
 ·have h1:¬val X=0:=fun h=>h0 (hz.2 h)
  have h2:((l:Int) == 0)=false:=by rw [beq_eq_false_iff_ne];omega
  rw [decide_eq_false h1]
  go_enter Tryz.func55,Tryz.ntmps55
  go_wp2_with fail
  refine L.mono ?_
  rintro e wn ⟨rfl,hw⟩;rw [hw];clear hw wn L
  go_wp2
  go_ret
  exact⟨rfl,rfl⟩

theorem gM (b:Bool)(v:Value)(rs:List Nat)(base:Nat)(w:World)(hA:Ans w base v rs) :
  Calls Tryz.prog 67 #[.bool b,v] w fun e w'=>e=.returned (.agg #[.bool (b && decide (0<rs.length)),v])∧Below w.heap.size w w':=by
 obtain⟨a,c,rfl⟩:∃a c,v=.slice a rs.length c:=by
  rcases hA.form with ⟨rfl,h⟩|⟨g,cap,rfl,_⟩
  ·exact⟨none,0,by rw [h];rfl⟩
  ·exact⟨_,_,rfl⟩
 clear hA
 generalize rs.length=n at *
 cases b
 ·have HB:=ac (aQ w (.cells #[.bool false,.slice a n c] 25))
  go_enter Tryz.func67,Tryz.ntmps67
  go_wp2
  go_returns
  exact⟨rfl,HB.out⟩
 ·by_cases hn:0<n
  ·have i1:(0:Int)<(n:Int):=by omega
   have HB:=ac (aQ w (.cells #[.bool true,.slice a n c] 25))
   rw [decide_eq_true hn]
   go_enter Tryz.func67,Tryz.ntmps67
   go_wp2
   go_returns
   exact⟨rfl,HB.out⟩
  ·have i1:¬(0:Int)<(n:Int):=by omega
   have HB:=ac (aQ w (.cells #[.bool false,.slice a n c] 25))
   rw [decide_eq_false hn]
   go_enter Tryz.func67,Tryz.ntmps67
   go_wp2
   go_returns
   exact⟨rfl,HB.out⟩

theorem j7 (v:Value)(X:List Nat)(w:World)(hA:Arg w v X) :
  Calls Tryz.prog 76 #[v] w fun e w'=>e=.returned (.bool (decide (val X=1)))∧w'=w:=by
 have L1:=aK v X w hA
 obtain⟨a,n,rfl,_,_,_⟩:=hA.form
 have hd:decide (val X=1)=((blen (val X):Nat) == 1):=by
  have h1:=blen_le_iff (val X) 1
  have h2:=blen_le_iff (val X) 0
  have e1:(2:Nat) ^ 1=2:=rfl
  have e2:(2:Nat) ^ 0=1:=rfl
  rw [e1] at h1
  rw [e2] at h2
  rw [Bool.eq_iff_iff,decide_eq_true_iff,beq_iff_eq]
  omega
 rw [hd]
 generalize blen (val X)=l at *
 by_cases h:l=1
 ·subst h
  go_enter Tryz.func76,Tryz.ntmps76
  go_wp2_with fail
  refine L1.mono ?_
  rintro e wn ⟨rfl,hw⟩;rw [hw];clear hw wn L1
  go_wp2
  go_ret
  exact⟨rfl,rfl⟩
 ·have i1:¬(l:Int)=1:=by omega
  have i2:((l:Int) == 1)=false:=by simpa using i1
  have i3:(l == 1)=false:=by simpa using h
  rw [i3]
  go_enter Tryz.func76,Tryz.ntmps76
  go_wp2_with fail
  refine L1.mono ?_
  rintro e wn ⟨rfl,hw⟩;rw [hw];clear hw wn L1
  go_wp2
  go_ret
  exact⟨rfl,rfl⟩
end Go.Proofs.YtgnmgbbokcpppaaGreatDoor
namespace Go.Proofs.YtgnmgbbokcpppaaGreatDoor
open Lm

def seg (Z:List Nat)(o n:Nat):List Nat:=(Z.drop o).take n

def sv (Z:List Nat)(o n:Nat):Nat:=val (seg Z o n)

structure Out (Z Z':List Nat)(lo hi:Nat):Prop where
 len:Z'.length=Z.length
 same:∀k,k<lo∨hi≤k→Z'.getD k 0=Z.getD k 0

theorem Out.refl (Z:List Nat)(lo hi:Nat):Out Z Z lo hi:=⟨rfl,fun _ _=>rfl⟩

theorem Out.trans {Z Z' Z'':List Nat}{lo hi:Nat}(h:Out Z Z' lo hi)(k:Out Z' Z'' lo hi):Out Z Z'' lo hi:=
 ⟨k.len.trans h.len,fun j hj=>(k.same j hj).trans (h.same j hj)⟩

theorem Out.wider {Z Z':List Nat}{lo hi lo' hi':Nat}(h:Out Z Z' lo hi)(h1:lo'≤lo)(h2:hi≤hi'):Out Z Z' lo' hi':=
 ⟨h.len,fun k hk=>h.same k (by omega)⟩

theorem cS (Z:List Nat)(j k z:Nat):(Z.set j z).getD k 0=if j=k∧k<Z.length then z else Z.getD k 0:=by
 by_cases h:j=k
 ·subst h
  by_cases hl:j<Z.length
  ·simp [List.getD,hl]
  ·simp [List.getD,hl]
 ·simp [List.getD,h]

theorem Out.set {Z Z':List Nat}{lo hi:Nat}(h:Out Z Z' lo hi)(j z:Nat)(h1:lo≤j)(h2:j<hi):Out Z (Z'.set j z) lo hi:=
 ⟨by simp [h.len],fun k hk=>by rw [cS,if_neg (by omega)];exact h.same k hk⟩

theorem aV (Z:List Nat)(o n:Nat)(h:o+n≤Z.length):(seg Z o n).length=n:=by
 simp [seg];omega

theorem dj (Z:List Nat)(o n k:Nat)(h:k<n):(seg Z o n).getD k 0=Z.getD (o+k) 0:=by
 simp [seg,List.getD,h]

theorem je {a b:List Nat}(hl:a.length=b.length)(h:∀k,k<a.length→a.getD k 0=b.getD k 0):a=b:=by
 refine List.ext_getElem hl fun k h1 h2=>?_
 have:=h k h1
 simpa [List.getD,h1,h2] using this

theorem Out.seg {Z Z':List Nat}{lo hi:Nat}(h:Out Z Z' lo hi)(o n:Nat)(hd:o+n≤lo∨hi≤o):seg Z' o n=seg Z o n:=by
 have hl:(Go.Proofs.YtgnmgbbokcpppaaGreatDoor.seg Z' o n).length=(Go.Proofs.YtgnmgbbokcpppaaGreatDoor.seg Z o n).length:=by simp [Go.Proofs.YtgnmgbbokcpppaaGreatDoor.seg,h.len]
 refine je hl fun k hk=>?_
 have hk':k<n:=by simp [Go.Proofs.YtgnmgbbokcpppaaGreatDoor.seg] at hk;omega
 rw [dj _ _ _ _ hk',dj _ _ _ _ hk',h.same _ (by omega)]

theorem Out.sv {Z Z':List Nat}{lo hi:Nat}(h:Out Z Z' lo hi)(o n:Nat)(hd:o+n≤lo∨hi≤o):sv Z' o n=sv Z o n:=by
 unfold Go.Proofs.YtgnmgbbokcpppaaGreatDoor.sv;rw [h.seg o n hd]

theorem aC (Z:List Nat)(o:Nat):sv Z o 0=0:=by simp [sv,seg,val]

theorem am (Z:List Nat)(o m n:Nat)(h:o+m≤Z.length):sv Z o (m+n)=sv Z o m+18446744073709551616 ^ m*sv Z (o+m) n:=by
 unfold sv
 have e:seg Z o (m+n)=seg Z o m ++ seg Z (o+m) n:=by
  unfold seg
  rw [List.take_add,List.drop_drop]
 rw [e,val_append,aV Z o m h]

theorem ft (Z:List Nat)(o:Nat)(h:o<Z.length):sv Z o 1=Z.getD o 0:=by
 unfold sv seg
 rw [List.drop_eq_getElem_cons h,List.take_succ_cons,List.take_zero,val,val]
 simp [List.getD,h]

theorem de (Z:List Nat)(o i:Nat)(h:o+i<Z.length):sv Z o (i+1)=sv Z o i+18446744073709551616 ^ i*Z.getD (o+i) 0:=by
 rw [am Z o i 1 (by omega),ft _ _ h]

theorem dw {Z:List Nat}(h:Limbs Z)(o n:Nat):Limbs (seg Z o n):=fun z hz=>h z (List.mem_of_mem_drop (List.mem_of_mem_take hz))

theorem bD {Z:List Nat}(h:Limbs Z)(o n:Nat):sv Z o n<18446744073709551616 ^ n:=by
 have h1:=val_lt (dw h o n)
 refine Nat.lt_of_lt_of_le h1 (Nat.pow_le_pow_right (by omega) ?_)
 simp [seg];omega

theorem ch (Z:List Nat)(o i z:Nat)(h:o+i<Z.length):sv (Z.set (o+i) z) o (i+1)=sv Z o i+18446744073709551616 ^ i*z:=by
 rw [de _ _ _ (by simpa using h),cS,if_pos ⟨rfl,h⟩]
 have e:Out Z (Z.set (o+i) z) (o+i) (o+i+1):=(Out.refl _ _ _).set _ _ (by omega) (by omega)
 rw [e.sv o i (by omega)]

theorem bG (Z:List Nat):sv Z 0 Z.length=val Z:=by simp [sv,seg]

theorem lc (Z Z' X:List Nat)(o i m cy hi lo:Nat)(hz:o+i<Z'.length)(h0:Z'.getD (o+i) 0=Z.getD (o+i) 0)(hZ:Z'.length=Z.length)
  (h:sv Z' o i+cy*18446744073709551616 ^ i=sv Z o i+val (X.take i)*m)
  (hs:lo+hi*18446744073709551616=X.getD i 0*m+Z.getD (o+i) 0+cy) :
  sv (Z'.set (o+i) lo) o (i+1)+hi*18446744073709551616 ^ (i+1)=sv Z o (i+1)+val (X.take (i+1))*m:=by
 have:=h0
 rw [ch _ _ _ _ hz,de Z o i (by omega),val_take_next X i,show (18446744073709551616:Nat) ^ (i+1)=18446744073709551616 ^ i*18446744073709551616 from Nat.pow_succ ..]
 generalize sv Z' o i=V' at *
 generalize sv Z o i=V at *
 generalize val (X.take i)=U at *
 generalize Z.getD (o+i) 0=z at *
 generalize X.getD i 0=x at *
 generalize (18446744073709551616:Nat) ^ i=P at *
 generalize (18446744073709551616:Nat)=W at *
 grind

theorem nB (x m z cy:Nat)(hx:x<18446744073709551616)(hm:m<18446744073709551616)(hz:z<18446744073709551616)(hc:cy<18446744073709551616) :
  x*m+z+cy<18446744073709551616*18446744073709551616:=by
 have h:=Nat.mul_le_mul (Nat.le_sub_one_of_lt hx) (Nat.le_sub_one_of_lt hm)
 omega
end Go.Proofs.YtgnmgbbokcpppaaGreatDoor
namespace Go.Proofs.YtgnmgbbokcpppaaGreatDoor
open Go.RowKit
open Lm

theorem oa (b off cap:Nat)(zs:List Nat)(w:World)(hcap:zs.length≤cap)(hmax:cap≤9223372036854775807)
  (hc:∀k,k<zs.length→w.cell? ⟨b,off+k,none⟩=some (.int .u64 ((zs.getD k 0:Nat):Int))) :
  Calls Tryz.prog 159 #[.slice (some ⟨b,off,none⟩) zs.length cap] w fun e w'=>e=.returned (.slice (some ⟨b,off,none⟩) (tr zs).length cap)∧w'=w:=by
 go_enter Tryz.func159,Tryz.ntmps159
 go_wp2
 go_loop [3] (fun n=>∃k:Nat,k≤zs.length∧n=.int .i64 k∧tr (zs.take k)=tr zs) (fun n=>(intOf n).toNat)
 case atStart=>exact⟨zs.length,Nat.le_refl _,rfl,by rw [List.take_length]⟩
 case round=>
  obtain⟨k,hk,rfl,ht⟩:=hrel
  have HT:Hid (tr (zs.take k)=tr zs):=ht
  clear ht
  by_cases h0:k=0
  ·subst h0
   go_wp2
   go_ret
   have e:=HT.out
   simp only [List.take_zero,tr] at e
   rw [←e]
   exact⟨rfl,rfl⟩
  ·obtain⟨j,rfl⟩:∃j,k=j+1:=⟨k - 1,by omega⟩
   have hcj:=hc j (by omega)
   clear hc
   by_cases hz:zs.getD j 0=0
   ·have HZ:Hid (tr (zs.take j)=tr zs):=by rw [←tr_step zs j (by omega) hz];exact HT.out
    rw [hz] at hcj
    clear hz HT
    go_wp2
    go_round
    case rel=>exact⟨j,by omega,by go_num,HZ.out⟩
    case measure=>simp [intOf]
   ·have HZ:Hid (tr zs=zs.take (j+1)):=by rw [←HT.out];exact tr_stop zs j (by omega) hz
    clear HT
    generalize zs.getD j 0=z at hcj hz
    have hne:((z:Int) == 0)=false:=by rw [beq_eq_false_iff_ne];omega
    clear hz
    go_wp2
    go_ret
    rw [HZ.out]
    have e:(zs.take (j+1)).length=j+1:=by simp;omega
    rw [e]
    exact⟨rfl,rfl⟩

theorem mp (ao:Option Addr)(cap:Nat)(w:World)(_hmax:cap≤9223372036854775807) :
  Calls Tryz.prog 159 #[.slice ao 0 cap] w fun e w'=>e=.returned (.slice ao 0 cap)∧w'=w:=by
 go_enter Tryz.func159,Tryz.ntmps159
 go_wp2
 refine wp_loop_rounds 1 ?_
 rw [rounds_succ]
 go_wp2
 go_ret
 exact⟨rfl,rfl⟩

theorem bN (ao:Option Addr)(cap:Nat)(zs:List Nat)(w:World)(hcap:zs.length≤cap)(hmax:cap≤9223372036854775807)(hl:aq w ao zs) :
  Calls Tryz.prog 159 #[.slice ao zs.length cap] w fun e w'=>e=.returned (.slice ao (tr zs).length cap)∧w'=w:=by
 rcases hl with rfl|⟨b,off,rfl,hc⟩
 ·exact mp ao cap w hmax
 ·exact oa b off cap zs w hcap hmax hc

structure Fr (bz:Nat)(w w':World):Prop where
 os:w'.os=w.os
 tape:w'.tape=w.tape
 output:w'.output=w.output
 size:w.heap.size≤w'.heap.size
 block:∀k,k<w.heap.size→k≠bz→w'.heap[k]?=w.heap[k]?

theorem Fr.refl (bz:Nat)(w:World):Fr bz w w:=⟨rfl,rfl,rfl,Nat.le_refl _,fun _ _ _=>rfl⟩

theorem Fr.trans {bz:Nat}{a b c:World}(h:Fr bz a b)(k:Fr bz b c):Fr bz a c:=
 ⟨k.os.trans h.os,k.tape.trans h.tape,k.output.trans h.output,Nat.le_trans h.size k.size,fun i h1 h2=>(k.block i (Nat.lt_of_lt_of_le h1 h.size) h2).trans (h.block i h1 h2)⟩

theorem Fr.setCell {bz:Nat}{a w:World}(h:Fr bz a w)(off:Nat)(u:Value):Fr bz a (w.setCell ⟨bz,off,none⟩ u):=
 ⟨h.os,h.tape,h.output,by simpa using h.size,fun k h1 h2=>(Below.heap_setCell w _ u k h2).trans (h.block k h1 h2)⟩

theorem Fr.drew {bz:Nat}{a w:World}(h:Fr bz a w):Fr bz a w.drew:=⟨h.os,h.tape,h.output,h.size,h.block⟩

theorem Fr.of_below {bz:Nat}{w w':World}(h:Below w.heap.size w w'):Fr bz w w':=⟨h.os,h.tape,h.output,h.size,fun k h1 _=>h.block k h1⟩

theorem Fr.below {bz base:Nat}{w w':World}(h:Fr bz w w')(h1:base≤bz)(h2:base≤w.heap.size):Below base w w':=
 ⟨h.os,h.tape,h.output,h.size,fun k hk=>h.block k (by omega) (by omega)⟩

def Off (v:Value)(bz lo hi:Nat):Prop:=∀b off n c,v=.slice (some ⟨b,off,none⟩) n c→b≠bz∨off+n≤lo∨hi≤off

theorem aq.fr {w w':World}{ao:Option Addr}{X Z Z':List Nat}{bz lo hi:Nat}(h:aq w ao X)(ho:∀b off,ao=some ⟨b,off,none⟩→b≠bz∨off+X.length≤lo∨hi≤off)
  (hf:Fr bz w w') (hb:Blk w bz Z) (hb':Blk w' bz Z') (hz:Out Z Z' lo hi):aq w' ao X:=by
 rcases h with h|⟨b,off,rfl,hc⟩
 ·exact .inl h
 ·rcases Nat.eq_zero_or_pos X.length with h0|h0
  ·exact .inl (List.length_eq_zero_iff.1 h0)
  refine .inr ⟨b,off,rfl,fun k hk=>?_⟩
  have hlt:b<w.heap.size:=aq.block (zs:=X) (.inr ⟨b,off,rfl,hc⟩) h0
  by_cases hbz:b=bz
  ·subst hbz
   have h1:=hc k hk
   have hin:off+k<Z.length:=by
    refine Nat.lt_of_not_le fun hle=>?_
    have:w.cell? ⟨b,off+k,none⟩=none:=by
     unfold Blk at hb
     simp [World.cell?,hb];omega
    rw [this] at h1;cases h1
   rw [hb.cell _ hin] at h1
   rw [hb'.cell _ (by rw [hz.len];exact hin),hz.same _ (by have:=ho b off rfl;omega)]
   exact h1
  ·have:=hf.block b hlt hbz
   rw [World.cell?_of_block (w:=w) this]
   exact hc k hk

theorem Arg.fr {w w':World}{v:Value}{X Z Z':List Nat}{bz lo hi:Nat}(h:Arg w v X)(ho:Off v bz lo hi)
  (hf:Fr bz w w') (hb:Blk w bz Z) (hb':Blk w' bz Z') (hz:Out Z Z' lo hi):Arg w' v X:=by
 obtain⟨ao,cap,h1,h2,h3,h4⟩:=h.form
 exact⟨⟨ao,cap,h1,h2,h3,h4.fr (fun b off e=>by subst e;exact ho b off _ _ h1) hf hb hb' hz⟩,h.limbs,h.few,h.nz⟩
end Go.Proofs.YtgnmgbbokcpppaaGreatDoor
namespace Go.Proofs.YtgnmgbbokcpppaaGreatDoor
open Go.RowKit
open Lm
attribute [local go_sem ↓] Go.wp_at_zero Go.wp_at_succ

theorem oh (P z cy:Nat)(h:P+z+cy<340282366920938463463374607431768211456)(_hz:z<18446744073709551616)(_hc:cy<18446744073709551616) :
  ((P % 18446744073709551616+z) % 18446744073709551616+cy) % 18446744073709551616+(P / 18446744073709551616+(P % 18446744073709551616+z) / 18446744073709551616+((P % 18446744073709551616+z) % 18446744073709551616+cy) / 18446744073709551616)*18446744073709551616=P+z+cy ∧
  P / 18446744073709551616+(P % 18446744073709551616+z) / 18446744073709551616<18446744073709551616 ∧
  P / 18446744073709551616+(P % 18446744073709551616+z) / 18446744073709551616+((P % 18446744073709551616+z) % 18446744073709551616+cy) / 18446744073709551616<18446744073709551616 ∧
  ((P % 18446744073709551616+z) % 18446744073709551616+cy) % 18446744073709551616<18446744073709551616:=by
 omega

theorem jM (bz zo cap:Nat)(Z:List Nat)(v1:Value)(X:List Nat)(m:Nat)(w:World)(hB:Blk w bz Z)(hLZ:Limbs Z)(hA:Arg w v1 X)(ho:Off v1 bz zo (zo+X.length))
  (hzo:zo+X.length≤Z.length) (hc1:X.length≤cap) (hc2:cap≤9223372036854775807) (hm:m<18446744073709551616) :
  Calls Tryz.prog 191 #[.slice (some ⟨bz,zo,none⟩) X.length cap,v1,.int .u64 m] w fun e w'=>∃(cy:Nat) (Z':List Nat),e=.returned (.int .u64 (cy:Int))∧cy<18446744073709551616 ∧
   Out Z Z' zo (zo+X.length)∧Limbs Z'∧Blk w' bz Z'∧Fr bz w w'∧sv Z' zo X.length+cy*18446744073709551616 ^ X.length=sv Z zo X.length+val X*m:=by
 obtain⟨a1,c1,rfl,hcc1,hcm1,hl1⟩:=hA.form
 have M1:=hA.limbs
 have hX:=hA.few
 have hao:∀b off,a1=some ⟨b,off,none⟩→b≠bz∨off+X.length≤zo∨zo+X.length≤off:=fun b off e=>by subst e;exact ho b off _ _ rfl
 clear ho hA
 go_enter Tryz.func191,Tryz.ntmps191
 go_wp2
 go_loopw [7,16] (fun c i wr=>∃(k cy:Nat) (Z':List Nat),k≤X.length∧i=.int .i64 k∧c=.int .u64 cy∧cy<18446744073709551616∧Out Z Z' zo (zo+k)∧Limbs Z'∧Blk wr bz Z'∧Fr bz w wr ∧
   sv Z' zo k+cy*18446744073709551616 ^ k=sv Z zo k+val (X.take k)*m) (fun _ i _=>X.length - (intOf i).toNat)
 case atStart=>exact⟨0,0,Z,Nat.zero_le _,rfl,rfl,by omega,Out.refl _ _ _,hLZ,hB,Fr.refl _ _,by simp [aC,val]⟩
 case round=>
  obtain⟨k,cy,Z',hk,rfl,rfl,hcy,hout,hlz,hblk,hfr0,hval⟩:=hrel
  have HV:=ac hval
  have HB:=ac hblk
  have HF:=ac hfr0
  have HO:=ac hout
  have hl:=hout.len
  clear hval
  by_cases hkl:k<X.length
  ·rcases hl1.fr hao hfr0 hB hblk (hout.wider (Nat.le_refl _) (by omega)) with h0|⟨b,off,rfl,hcell⟩
   ·rw [h0] at hkl;simp at hkl
   ·have hck:=hcell k hkl
    have hfr:=hblk.free (zo+k)
    have hco:=hblk.cell (zo+k) (by omega)
    have z1:=limb_lt M1 k
    have z2:=limb_lt hlz (zo+k)
    have hsame:=hout.same (zo+k) (by omega)
    have hft:=nB (X.getD k 0) m (Z'.getD (zo+k) 0) cy z1 hm z2 hcy
    have hlm:=oh (X.getD k 0*m) (Z'.getD (zo+k) 0) cy hft z2 hcy
    have HS:=ac (fun hi lo hs=>lc Z Z' X zo k m cy hi lo (by omega) hsame hl HV.out hs)
    rw [←hsame] at HS
    have ha1:=bK (X.getD k 0*m % 18446744073709551616) (Z'.getD (zo+k) 0)
    have ha2:=bK ((X.getD k 0*m % 18446744073709551616+Z'.getD (zo+k) 0) % 18446744073709551616) cy
    have hM:=Tryz.bits_Mul64 (X.getD k 0) m z1 hm wr
    generalize Z'.getD (zo+k) 0=z at *
    generalize X.getD k 0=x at *
    generalize hP:x*m=P at *
    clear hP hft hsame
    obtain⟨q1,q2,q3,q4⟩:=hlm
    have HS2:=ac (HS.out _ _ q1)
    clear HS q1
    generalize ((P % 18446744073709551616+z) % 18446744073709551616+cy) % 18446744073709551616=s at *
    generalize ((P % 18446744073709551616+z) % 18446744073709551616+cy) / 18446744073709551616=o2 at *
    generalize (P % 18446744073709551616+z) % 18446744073709551616=s1 at *
    generalize (P % 18446744073709551616+z) / 18446744073709551616=o1 at *
    generalize P / 18446744073709551616=h1 at *
    generalize P % 18446744073709551616=l1 at *
    have e1:(h1:Int)+(o1:Int)=((h1+o1:Nat):Int):=by omega
    generalize h1+o1=h2 at *
    have e2:(h2:Int)+(o2:Int)=((h2+o2:Nat):Int):=by omega
    generalize h2+o2=h3 at *
    clear hcell hblk hfr0 hout HV M1 hl1 hB hLZ
    go_wp2_with fail
    refine hM.mono ?_
    rintro e w2 ⟨rfl,rfl⟩
    clear hM
    go_wp2
    go_roundw
    case rel=>exact⟨k+1,h3,Z'.set (zo+k) s,by omega,by go_num,rfl,q3,(HO.out.wider (Nat.le_refl _) (by omega)).set _ _ (by omega) (by omega),limbs_set hlz _ _ q4,HB.out.set _ s,HF.out.setCell _ _,HS2.out⟩
    case measure=>simp [intOf];omega
  ·have ek:k=X.length:=by omega
   subst ek
   rw [List.take_length] at HV
   clear hblk hfr0 hout hl1 hB
   go_wp2
   go_ret
   exact⟨cy,Z',rfl,hcy,HO.out,hlz,HB.out,HF.out,HV.out⟩

def lay (Z:List Nat)(o:Nat):List Nat→List Nat
 | []=>Z
 | p :: r=>lay (Z.set o p) (o+1) r

theorem dD (P:List Nat):∀(Z:List Nat) (o:Nat),(lay Z o P).length=Z.length:=by
 induction P with
 | nil=>intro Z o;rfl
 | cons p r ih=>intro Z o;rw [lay,ih];simp

theorem bW (P:List Nat):∀(Z:List Nat) (o:Nat),Out Z (lay Z o P) o (o+P.length):=by
 induction P with
 | nil=>intro Z o;exact Out.refl _ _ _
 | cons p r ih=>
  intro Z o
  have h1:Out Z (Z.set o p) o (o+(p :: r).length):=(Out.refl _ _ _).set _ _ (Nat.le_refl _) (by simp)
  exact h1.trans ((ih (Z.set o p) (o+1)).wider (by omega) (by simp;omega))

theorem cj (P:List Nat):∀(Z:List Nat) (o:Nat),o+P.length≤Z.length→sv (lay Z o P) o P.length=val P:=by
 induction P with
 | nil=>intro Z o _;exact aC _ _
 | cons p r ih=>
  intro Z o h
  have hl:o+r.length+1≤Z.length:=by simpa [Nat.add_assoc] using h
  rw [show (p :: r).length=1+r.length by simp;omega,am _ _ _ _ (by rw [dD];omega),ft _ _ (by rw [dD];omega),lay,ih _ _ (by simp;omega)]
  have h2:=(bW r (Z.set o p) (o+1)).same o (by omega)
  rw [h2,cS,if_pos ⟨rfl,by omega⟩,val,Nat.pow_one]

theorem cq (P:List Nat)(hP:Limbs P):∀(Z:List Nat) (o:Nat),Limbs Z→Limbs (lay Z o P):=by
 induction P with
 | nil=>intro Z o h;exact h
 | cons p r ih=>intro Z o h;exact ih (fun z hz=>hP z (List.mem_cons_of_mem _ hz)) _ _ (limbs_set h _ _ (hP p (List.mem_cons_self ..)))

theorem Blk.setCells {b:Nat}(P:List Nat):∀ {w:World} {Z:List Nat} (o:Nat),Blk w b Z→Blk (w.setCells b o (P.map lv)) b (lay Z o P):=by
 induction P with
 | nil=>intro w Z o h;exact h
 | cons p r ih=>intro w Z o h;exact ih (o+1) (h.set o p)

theorem Fr.setCells {b:Nat}(P:List Value):∀ {a w:World} (o:Nat),Fr b a w→Fr b a (w.setCells b o P):=by
 induction P with
 | nil=>intro a w o h;exact h
 | cons p r ih=>intro a w o h;exact ih (o+1) (h.setCell o p)

theorem kC (w:World):(zeroValue 62).run Tryz.prog w=.ok (.int .u64 0) w:=by kernel_rfl

theorem dB (bz zo n cap:Nat)(Z:List Nat)(w:World)(ty:TypeId)(hB:Blk w bz Z)(hz:zo+n≤Z.length)(hn:0<n) :
  (Builtin.clear_ #[23] ty #[.slice (some ⟨bz,zo,none⟩) n cap]).run Tryz.prog w=.ok (.tuple #[]) (w.setCells bz zo ((List.replicate n 0).map lv)):=by
 rw [Lib.run_clear_slice w 23 62 ty (.int .u64 0) Tryz.underlying23 kC rfl rfl bz zo n cap hn (fun j hj=>by rw [hB.cell (zo+j) (by omega)];rfl) (fun j hj=>hB.free (zo+j)),List.map_replicate]
 rfl

theorem rj (Z Z2 X Y:List Nat)(o k m cy:Nat)(hl:Z2.length=Z.length)(hk:k<Y.length)(hZ:o+(X.length+Y.length)≤Z.length)(hm:m=Y.getD k 0)
  (h:sv Z o (k+X.length)=val X*val (Y.take k)) (ho:Out Z Z2 (o+k) (o+k+X.length))
  (h2:sv Z2 (o+k) X.length+cy*18446744073709551616 ^ X.length=sv Z (o+k) X.length+val X*m) :
  sv (Z2.set (o+(k+X.length)) cy) o (k+1+X.length)=val X*val (Y.take (k+1)):=by
 rw [show k+1+X.length=k+X.length+1 by omega,ch _ _ _ _ (by omega),am _ _ _ _ (by omega),ho.sv o k (by omega),val_take_next Y k,←hm,Nat.pow_add]
 rw [am _ _ _ _ (by omega)] at h
 generalize sv Z o k=A at *
 generalize sv Z2 (o+k) X.length=B2 at *
 generalize sv Z (o+k) X.length=B at *
 generalize val (Y.take k)=V at *
 generalize val X=U at *
 generalize (18446744073709551616:Nat) ^ k=K at *
 generalize (18446744073709551616:Nat) ^ X.length=L at *
 grind

theorem jT (bz zo cap:Nat)(Z:List Nat)(va vb:Value)(X Y:List Nat)(w:World)(hB:Blk w bz Z)(hLZ:Limbs Z)(hA:Arg w va X)(hA2:Arg w vb Y)
  (ho:Off va bz zo (zo+(X.length+Y.length))) (ho2:Off vb bz zo (zo+(X.length+Y.length))) (hzo:zo+(X.length+Y.length)≤Z.length) (hc1:X.length+Y.length≤cap) (hc2:cap≤9223372036854775807) :
  Calls Tryz.prog 176 #[.slice (some ⟨bz,zo,none⟩) (X.length+Y.length) cap,va,vb] w fun e w'=>e=.returned (.tuple #[])∧∃Z':List Nat,
   Out Z Z' zo (zo+(X.length+Y.length))∧Limbs Z'∧Blk w' bz Z'∧Fr bz w w'∧sv Z' zo (X.length+Y.length)=val X*val Y:=by
 obtain⟨a1,c1,rfl,hcc1,hcm1,hl1⟩:=hA.form
 obtain⟨a2,c2,rfl,hcc2,hcm2,hl2⟩:=hA2.form
 have hao2:∀b off,a2=some ⟨b,off,none⟩→b≠bz∨off+Y.length≤zo∨zo+(X.length+Y.length)≤off:=fun b off e=>by subst e;exact ho2 b off _ _ rfl
 have fX:=hA.few
 have fY:=hA2.few
 have mY:=hA2.limbs
 obtain⟨w1,Z1,hrun,hout1,hlz1,hb1,hf1,hs1⟩:∃(w1:World) (Z1:List Nat),(∀ty,(Builtin.clear_ #[23] ty #[.slice (some ⟨bz,zo,none⟩) (X.length+Y.length) cap]).run Tryz.prog w=.ok (.tuple #[]) w1)∧Out Z Z1 zo (zo+(X.length+Y.length))∧Limbs Z1∧Blk w1 bz Z1∧Fr bz w w1∧sv Z1 zo (X.length+Y.length)=0:=by
  rcases Nat.eq_zero_or_pos (X.length+Y.length) with h0|h0
  ·refine⟨w,Z,fun ty=>?_,Out.refl _ _ _,hLZ,hB,Fr.refl _ _,by rw [h0];exact aC _ _⟩
   rw [h0]
   simp [Builtin.clear_,run_underlying Tryz.underlying23]
  ·have hlr:(List.replicate (X.length+Y.length) 0).length=X.length+Y.length:=by simp
   have e1:=bW (List.replicate (X.length+Y.length) 0) Z zo
   have e2:=cj (List.replicate (X.length+Y.length) 0) Z zo (by rw [hlr];exact hzo)
   rw [hlr] at e1 e2
   exact⟨_,lay Z zo (List.replicate (X.length+Y.length) 0),fun ty=>dB bz zo _ cap Z w ty hB hzo h0,e1,cq _ (limbs_replicate _) _ _ hLZ,Blk.setCells _ _ hB,(Fr.refl _ _).setCells _ _,by rw [e2,val_replicate]⟩
 have hs0:sv Z1 zo X.length=0:=by
  rw [am _ _ _ _ (by have:=hout1.len;omega)] at hs1;omega
 have HO1:=ac hout1
 have HF1:=ac hf1
 have HL1:=ac hb1
 clear hs1
 go_enter Tryz.func176,Tryz.ntmps176
 go_wp2
 go_loopw [11] (fun i wr=>∃(k:Nat) (Z':List Nat),k≤Y.length∧i=.int .i64 k∧Out Z Z' zo (zo+(X.length+Y.length))∧Limbs Z'∧Blk wr bz Z'∧Fr bz w wr ∧
   sv Z' zo (k+X.length)=val X*val (Y.take k)) (fun i _=>Y.length - (intOf i).toNat)
 case atStart=>exact⟨0,Z1,Nat.zero_le _,rfl,HO1.out,hlz1,HL1.out,HF1.out,by rw [Nat.zero_add,hs0];simp [val]⟩
 case round=>
  obtain⟨k,Z',hk,rfl,hout,hlz,hblk,hfr0,hval⟩:=hrel
  clear hrun hout1 hlz1 hb1 hf1 hs0 HO1 HF1 HL1
  by_cases hkl:k<Y.length
  ·rcases hl2.fr hao2 hfr0 hB hblk hout with h0|⟨b,off,rfl,hcell⟩
   ·rw [h0] at hkl;simp at hkl
   ·have hck:=hcell k hkl
    have z2:=limb_lt mY k
    have hlen:=hout.len
    have hA':Arg wr (.slice a1 X.length c1) X:=hA.fr ho hfr0 hB hblk hout
    have HM:=jM bz (zo+k) (cap - k) Z' _ X (Y.getD k 0) wr hblk hlz hA' (fun b off n c e=>by rcases ho b off n c e with h|h|h <;> omega) (by omega) (by omega) (by omega) z2
    have HS:=ac (fun Z2 cy hl2 hO2 h2=>rj Z' Z2 X Y zo k (Y.getD k 0) cy hl2 hkl (by omega) rfl hval hO2 h2)
    have HO:=ac hout
    have HF:=ac hfr0
    generalize Y.getD k 0=m at *
    obtain⟨t,ht1,ht2,e1,e2⟩:∃t:Nat,t≤k+X.length∧k+X.length≤t∧(k:Int)+(X.length:Int)=(t:Int)∧t - k=X.length:=⟨k+X.length,by omega,by omega,by omega,by omega⟩
    have hb1:(0:Int)≤(k:Int):=by omega
    have hkn:k≤k+X.length:=by omega
    have hkc:k+X.length≤cap:=by omega
    clear hcell hblk hfr0 hout hval hA hA2 ho ho2 hl1 hl2 hB hLZ mY hao2 hA'
    go_wp2_with fail
    refine HM.mono ?_
    rintro e w2 ⟨cy,Z2,rfl,hcy,hO2,hlz2,hb2,hf2,hv2⟩
    have HS2:=ac (HS.out Z2 cy hO2.len hO2 hv2)
    have hl2:=hO2.len
    have hfr:=hb2.free (zo+t)
    have hco:=hb2.cell (zo+t) (by omega)
    generalize Z2.getD (zo+t) 0=o at *
    have HB2:=ac hb2
    have HF2:=ac (HF.out.trans hf2)
    have HO2:=ac (HO.out.trans (hO2.wider (by omega) (by omega)))
    have ht3:t<X.length+Y.length:=by omega
    clear HM HS hO2 hb2 hf2 hv2 HF HO
    go_wp2
    go_roundw
    case rel=>
     refine⟨k+1,Z2.set (zo+t) cy,by omega,by go_num,HO2.out.set _ _ (by omega) (by omega),limbs_set hlz2 _ _ hcy,HB2.out.set _ cy,HF2.out.setCell _ _,?_⟩
     rw [show t=k+X.length by omega];exact HS2.out
    case measure=>simp [intOf];omega
  ·have ek:k=Y.length:=by omega
   subst ek
   rw [List.take_length,Nat.add_comm] at hval
   have HV:=ac hval
   have HB:=ac hblk
   have HF:=ac hfr0
   have HO:=ac hout
   clear hval hblk hfr0 hout hl1 hl2 hB hA hA2 ho ho2 hLZ
   go_wp2
   go_end0
   exact⟨rfl,Z',HO.out,hlz,HB.out,HF.out,HV.out⟩
end Go.Proofs.YtgnmgbbokcpppaaGreatDoor
namespace Go.Proofs.YtgnmgbbokcpppaaGreatDoor
open Go.RowKit
open Lm

def way (H T:Int):Value:=.agg #[.int .i64 H,.int .i64 T]

def au (bz zo n:Nat)(Z:List Nat)(w:World)(p:Nat)(e:Ending)(w':World):Prop:=
 e=.returned (.tuple #[])∧∃Z':List Nat,Out Z Z' zo (zo+n)∧Limbs Z'∧Blk w' bz Z'∧Fr bz w w'∧sv Z' zo n=p

theorem au.after {bz zo n:Nat}{Z:List Nat}{w w1:World}{p:Nat}{e:Ending}{w':World}(h:au bz zo n Z w1 p e w')(hf:Fr bz w w1):au bz zo n Z w p e w':=by
 obtain⟨he,Z',h1,h2,h3,h4,h5⟩:=h
 exact⟨he,Z',h1,h2,h3,hf.trans h4,h5⟩

theorem Blk.alloc {w:World}{b:Nat}{xs:List Nat}(h:Blk w b xs)(o:Obj):Blk (w.alloc o) b xs:=by
 unfold Blk
 rw [Below.heap_alloc w o b h.lt];exact h

theorem Fr.alloc (bz:Nat)(w:World)(o:Obj):Fr bz w (w.alloc o):=Fr.of_below ((Below.refl _ _).alloc (Nat.le_refl _) o)

theorem Arg.more {w:World}{v:Value}{zs:List Nat}(h:Arg w v zs)(o:Obj):Arg (w.alloc o) v zs:=h.below ((Below.refl _ _).alloc (Nat.le_refl _) _)

theorem pK (bz zo cap:Nat)(Z:List Nat)(va vb:Value)(X Y:List Nat)(w:World)(hB:Blk w bz Z)(hLZ:Limbs Z)(hA:Arg w va X)(hA2:Arg w vb Y)
  (ho:Off va bz zo (zo+(X.length+Y.length))) (ho2:Off vb bz zo (zo+(X.length+Y.length))) (hzo:zo+(X.length+Y.length)≤Z.length) (hc1:X.length+Y.length≤cap) (hc2:cap≤9223372036854775807) :
  Calls Tryz.prog 176 #[.slice (some ⟨bz,zo,none⟩) (X.length+Y.length) cap,vb,va] w (au bz zo (X.length+Y.length) Z w (val X*val Y)):=by
 rw [Nat.add_comm X.length,Nat.mul_comm (val X)]
 rw [Nat.add_comm X.length] at ho ho2 hzo hc1
 exact jT bz zo cap Z vb va Y X w hB hLZ hA2 hA ho2 ho hzo hc1 hc2

theorem pY (H T:Int)(bz zo cap:Nat)(Z:List Nat)(va vb:Value)(X Y:List Nat)(w:World)(hB:Blk w bz Z)(hLZ:Limbs Z)(hA:Arg w va X)(hA2:Arg w vb Y)
  (ho:Off va bz zo (zo+(X.length+Y.length))) (ho2:Off vb bz zo (zo+(X.length+Y.length))) (hzo:zo+(X.length+Y.length)≤Z.length) (hc1:X.length+Y.length≤cap) (hc2:cap≤9223372036854775807)
  (hs:(X.length<Y.length∧(X.length:Int)<H∧(X.length:Int)<T)∨(Y.length≤X.length∧(Y.length:Int)<H∧(Y.length:Int)<T)) :
  Calls Tryz.prog 160 #[way H T,.slice (some ⟨bz,zo,none⟩) (X.length+Y.length) cap,va,vb] w (au bz zo (X.length+Y.length) Z w (val X*val Y)):=by
 unfold way
 obtain⟨a1,c1,rfl,hcc1,hcm1,_⟩:=hA.form
 obtain⟨a2,c2,rfl,hcc2,hcm2,_⟩:=hA2.form
 have fX:=hA.few
 have fY:=hA2.few
 rcases hs with ⟨h1,h2,h3⟩|⟨h1,h2,h3⟩
 ·have i1:(X.length:Int)<(Y.length:Int):=by omega
  go_enter Tryz.func160,Tryz.ntmps160
  go_wp2_with fail
  refine (pK bz zo cap Z _ _ X Y _ (hB.alloc _) hLZ (hA.more _) (hA2.more _) ho ho2 hzo hc1 hc2).mono ?_
  rintro e w2 hd
  have HD:=ac (hd.after (Fr.alloc bz w _))
  obtain⟨he,_⟩:=hd
  subst he
  clear hA hA2 ho ho2 hB
  go_wp2
  go_end0
  exact HD.out
 ·have hd0:decide ((X.length:Int)<(Y.length:Int))=false:=decide_eq_false (by omega)
  go_enter Tryz.func160,Tryz.ntmps160
  go_wp2_with fail
  refine (jT bz zo cap Z _ _ X Y _ (hB.alloc _) hLZ (hA.more _) (hA2.more _) ho ho2 hzo hc1 hc2).mono ?_
  rintro e w2 hd
  have HD:=ac (au.after hd (Fr.alloc bz w _))
  obtain⟨he,_⟩:=hd
  subst he
  clear hA hA2 ho ho2 hB
  go_wp2
  go_end0
  exact HD.out

def bX (x y:Nat):Nat:=if x=0∨y=0 then 0 else blen x+blen y - 1

theorem qS (va vb:Value)(X Y:List Nat)(w:World)(hA:Arg w va X)(hA2:Arg w vb Y)(fX:X.length≤35184372088831)(fY:Y.length≤35184372088831) :
  Calls Tryz.prog 144 #[va,vb] w fun e w'=>e=.returned (.int .i64 ((bX (val X) (val Y):Nat):Int))∧w'=w:=by
 have H1:=aK va X w hA
 have H2:=aK vb Y w hA2
 have b1:blen (val X)≤64*X.length:=by
  rw [blen_le_iff,Nat.mul_comm];have:=val_lt hA.limbs;rwa [W_pow] at this
 have b2:blen (val Y)≤64*Y.length:=by
  rw [blen_le_iff,Nat.mul_comm];have:=val_lt hA2.limbs;rwa [W_pow] at this
 have z1:blen (val X)=0 ↔ val X=0:=by
  unfold blen;split <;> simp [*]
 have z2:blen (val Y)=0 ↔ val Y=0:=by
  unfold blen;split <;> simp [*]
 have hL:bX (val X) (val Y)=if blen (val X)=0∨blen (val Y)=0 then 0 else blen (val X)+blen (val Y) - 1:=by
  unfold bX;simp only [z1,z2]
 rw [hL]
 clear hA hA2 z1 z2 hL
 generalize blen (val X)=x at *
 generalize blen (val Y)=y at *
 by_cases hx:x=0
 ·subst hx
  rw [if_pos (.inl rfl)]
  go_enter Tryz.func144,Tryz.ntmps144
  go_wp2_with fail
  refine H1.mono ?_
  rintro e w2 ⟨rfl,rfl⟩
  go_wp2_with fail
  refine H2.mono ?_
  rintro e w3 ⟨rfl,rfl⟩
  clear H1 H2
  go_wp2
  go_ret
  exact⟨rfl,rfl⟩
 ·have d1:((x:Int) == 0)=false:=by rw [beq_eq_false_iff_ne];omega
  by_cases hy:y=0
  ·subst hy
   rw [if_pos (.inr rfl)]
   go_enter Tryz.func144,Tryz.ntmps144
   go_wp2_with fail
   refine H1.mono ?_
   rintro e w2 ⟨rfl,rfl⟩
   go_wp2_with fail
   refine H2.mono ?_
   rintro e w3 ⟨rfl,rfl⟩
   clear H1 H2
   go_wp2
   go_ret
   exact⟨rfl,rfl⟩
  ·have d2:((y:Int) == 0)=false:=by rw [beq_eq_false_iff_ne];omega
   rw [if_neg (by omega)]
   have e1:(x:Int)+(y:Int) - 1=((x+y - 1:Nat):Int):=by omega
   generalize x+y - 1=t at *
   go_enter Tryz.func144,Tryz.ntmps144
   go_wp2_with fail
   refine H1.mono ?_
   rintro e w2 ⟨rfl,rfl⟩
   go_wp2_with fail
   refine H2.mono ?_
   rintro e w3 ⟨rfl,rfl⟩
   clear H1 H2
   go_wp2
   go_ret
   exact⟨rfl,rfl⟩
end Go.Proofs.YtgnmgbbokcpppaaGreatDoor
namespace Go.Proofs.YtgnmgbbokcpppaaGreatDoor
open Go.RowKit
open Lm
attribute [local go_sem ↓] Go.wp_at_zero Go.wp_at_succ

theorem cO (Z Z':List Nat)(o k cy c2 s v V:Nat)(hz:o+k<Z'.length)(hl:Z'.length=Z.length)
  (h:sv Z' o k+cy*18446744073709551616 ^ k=sv Z o k+V) (hs:s+c2*18446744073709551616=Z.getD (o+k) 0+v+cy) :
  sv (Z'.set (o+k) s) o (k+1)+c2*18446744073709551616 ^ (k+1)=sv Z o (k+1)+(V+18446744073709551616 ^ k*v):=by
 rw [ch _ _ _ _ hz,de Z o k (by omega),show (18446744073709551616:Nat) ^ (k+1)=18446744073709551616 ^ k*18446744073709551616 from Nat.pow_succ ..]
 generalize sv Z' o k=A at *
 generalize sv Z o k=B at *
 generalize Z.getD (o+k) 0=z at *
 generalize (18446744073709551616:Nat) ^ k=P at *
 generalize (18446744073709551616:Nat)=W at *
 grind

theorem eZ (Z Z':List Nat)(o k n V:Nat)(hk:k≤n)(hn:o+n≤Z.length)(ho:Out Z Z' o (o+k))(h:sv Z' o k=sv Z o k+V):sv Z' o n=sv Z o n+V:=by
 obtain⟨d,rfl⟩:∃d,n=k+d:=⟨n - k,by omega⟩
 rw [am Z' o k d (by rw [ho.len];omega),am Z o k d (by omega),h,ho.sv (o+k) d (by omega)]
 omega

theorem f8 (Z Z':List Nat)(o n cy V:Nat)(hZ:sv Z o n+V<18446744073709551616 ^ n)(h:sv Z' o n+cy*18446744073709551616 ^ n=sv Z o n+V):cy=0:=by
 rcases Nat.eq_zero_or_pos cy with h0|h0
 ·exact h0
 ·have:=Nat.mul_le_mul_right (18446744073709551616 ^ n) h0
  omega

theorem df (z v cy:Nat)(hz:z<18446744073709551616)(hv:v<18446744073709551616)(hc:cy≤1) :
  (z+v+cy) % 18446744073709551616+(z+v+cy) / 18446744073709551616*18446744073709551616=z+v+cy∧(z+v+cy) / 18446744073709551616≤1∧(z+v+cy) % 18446744073709551616<18446744073709551616:=by
 omega

theorem cM (bz zo n cap:Nat)(Z:List Nat)(va:Value)(X:List Nat)(w:World)(hB:Blk w bz Z)(hLZ:Limbs Z)(hA:Arg w va X)(ho:Off va bz zo (zo+n))
  (hzo:zo+n≤Z.length) (hc1:n≤cap) (hc2:cap≤9223372036854775807) (hfit:sv Z zo n+val X<18446744073709551616 ^ n) :
  Calls Tryz.prog 194 #[.slice (some ⟨bz,zo,none⟩) n cap,va] w (au bz zo n Z w (sv Z zo n+val X)):=by
 obtain⟨a1,c1,rfl,hcc1,hcm1,hl1⟩:=hA.form
 have hX:=hA.few
 have H1:=bN a1 c1 X w hcc1 hcm1 hl1
 have M1:=limbs_tr hA.limbs
 have hle:=tr_length_le X
 have hln:=aL X n (by omega)
 have hao:∀b off,a1=some ⟨b,off,none⟩→b≠bz∨off+(tr X).length≤zo∨zo+n≤off:=fun b off e=>by
  subst e
  rcases ho b off _ _ rfl with h|h|h
  ·exact .inl h
  ·exact .inr (.inl (by omega))
  ·exact .inr (.inr h)
 have L1:=hl1.tr
 rw [←val_tr X] at hfit ⊢
 clear ho hA hl1
 generalize tr X=P at *
 have HFIT:=ac hfit
 have HB0:=ac hB
 have HLZ:=ac hLZ
 clear hfit
 go_enter Tryz.func194,Tryz.ntmps194
 go_wp2_with fail
 refine H1.mono ?_
 rintro e w' ⟨rfl,hw⟩;subst hw
 clear H1
 go_wp2
 go_loopw [4,12] (fun c i wr=>∃(k cy:Nat) (Z':List Nat),k≤P.length∧i=.int .i64 k∧c=.int .u64 cy∧cy≤1∧Out Z Z' zo (zo+k)∧Limbs Z'∧Blk wr bz Z'∧Fr bz w' wr ∧
   sv Z' zo k+cy*18446744073709551616 ^ k=sv Z zo k+val (P.take k)) (fun _ i _=>P.length - (intOf i).toNat)
 case atStart=>exact⟨0,0,Z,Nat.zero_le _,rfl,rfl,by omega,Out.refl _ _ _,HLZ.out,HB0.out,Fr.refl _ _,by simp [aC,val]⟩
 case round=>
  obtain⟨k,cy,Z',hk,rfl,rfl,hcy,hout,hlz,hblk,hfr0,hval⟩:=hrel
  have HV:=ac hval
  have HB:=ac hblk
  have HF:=ac hfr0
  have HO:=ac hout
  have hl:=hout.len
  clear hval
  by_cases hkl:k<P.length
  ·rcases L1.fr hao hfr0 hB hblk (hout.wider (Nat.le_refl _) (by omega)) with h0|⟨b,off,rfl,hcell⟩
   ·rw [h0] at hkl;simp at hkl
   ·have hck:=hcell k hkl
    have hfr:=hblk.free (zo+k)
    have hco:=hblk.cell (zo+k) (by omega)
    have z1:=limb_lt M1 k
    have z2:=limb_lt hlz (zo+k)
    have hsame:=hout.same (zo+k) (by omega)
    have ha:=cZ (Z'.getD (zo+k) 0) (P.getD k 0) cy hcy
    obtain⟨q1,q2,q3⟩:=df (Z'.getD (zo+k) 0) (P.getD k 0) cy z2 z1 hcy
    have HS:=ac (cO Z Z' zo k cy _ _ (P.getD k 0) _ (by omega) hl HV.out (by rw [←hsame];exact q1))
    rw [←val_take_next P k] at HS
    generalize Z'.getD (zo+k) 0=z at *
    generalize P.getD k 0=x at *
    clear hsame q1
    generalize (z+x+cy) % 18446744073709551616=s at *
    generalize (z+x+cy) / 18446744073709551616=c2 at *
    clear hcell hblk hfr0 hout HV M1 L1 hB hLZ
    go_wp2
    go_roundw
    case rel=>exact⟨k+1,c2,Z'.set (zo+k) s,by omega,by go_num,rfl,q2,(HO.out.wider (Nat.le_refl _) (by omega)).set _ _ (by omega) (by omega),limbs_set hlz _ _ q3,HB.out.set _ s,HF.out.setCell _ _,HS.out⟩
    case measure=>simp [intOf];omega
  ·have ek:k=P.length:=by omega
   subst ek
   rw [List.take_length] at HV
   clear hblk hfr0 hout L1 hB M1 hLZ hl
   go_wp2
   go_loopw [4,7] (fun c i wr2=>∃(k cy:Nat) (Z2:List Nat),k≤n∧i=.int .i64 k∧c=.int .u64 cy∧cy≤1∧Out Z Z2 zo (zo+k)∧Limbs Z2∧Blk wr2 bz Z2∧Fr bz w' wr2 ∧
     sv Z2 zo k+cy*18446744073709551616 ^ k=sv Z zo k+val P) (fun _ i _=>n - (intOf i).toNat)
   case atStart=>exact⟨P.length,cy,Z',hln,rfl,rfl,hcy,HO.out,hlz,HB.out,HF.out,HV.out⟩
   case round=>
    obtain⟨k,cy2,Z2,hk2,rfl,rfl,hcy2,hout2,hlz2,hblk2,hfr2,hval2⟩:=hrel
    clear HV HB HF HO
    have HV:=ac hval2
    have HB:=ac hblk2
    have HF:=ac hfr2
    have HO:=ac hout2
    have hl:=hout2.len
    clear hval2
    by_cases hc0:cy2=0
    ·subst hc0
     have HR:=ac (eZ Z Z2 zo k n _ hk2 hzo hout2 (by have h:=HV.out;rw [Nat.zero_mul,Nat.add_zero] at h;exact h))
     clear hblk2 hfr2 hout2 HV
     go_wp2
     go_end0
     exact⟨rfl,Z2,HO.out.wider (Nat.le_refl _) (by omega),hlz2,HB.out,HF.out,HR.out⟩
    ·have hpos:(0:Int)<(cy2:Int):=by omega
     have hkn:k<n:=by
      rcases Nat.lt_or_ge k n with h|h
      ·exact h
      ·have ek:k=n:=by omega
       subst ek
       exact absurd (f8 Z Z2 zo k cy2 (val P) HFIT.out HV.out) hc0
     have hfr:=hblk2.free (zo+k)
     have hco:=hblk2.cell (zo+k) (by omega)
     have z2:=limb_lt hlz2 (zo+k)
     have hsame:=hout2.same (zo+k) (by omega)
     have ha:=bK (Z2.getD (zo+k) 0) cy2
     obtain⟨q1,q2,q3⟩:=df (Z2.getD (zo+k) 0) 0 cy2 z2 (by omega) hcy2
     have HS:=ac (cO Z Z2 zo k cy2 _ _ 0 _ (by omega) hl HV.out (by rw [←hsame];exact q1))
     rw [Nat.mul_zero,Nat.add_zero] at HS
     rw [Nat.add_zero] at HS q2 q3
     generalize Z2.getD (zo+k) 0=z at *
     clear hsame q1
     generalize (z+cy2) % 18446744073709551616=s at *
     generalize (z+cy2) / 18446744073709551616=c2 at *
     clear hblk2 hfr2 hout2 HV hc0
     go_wp2
     go_roundw
     case rel=>exact⟨k+1,c2,Z2.set (zo+k) s,by omega,by go_num,rfl,q2,(HO.out.wider (Nat.le_refl _) (by omega)).set _ _ (by omega) (by omega),limbs_set hlz2 _ _ q3,HB.out.set _ s,HF.out.setCell _ _,HS.out⟩
     case measure=>simp [intOf];omega

theorem cG (x y b:Nat)(hb:b≤1)(w:World) :
  (callFunc 125 #[.int .u64 x,.int .u64 y,.int .u64 b]).run Tryz.prog w =
   .ok (.value (.tuple #[.int .u64 (((x+18446744073709551616 - y - b) % 18446744073709551616:Nat):Int),.int .u64 ((bor x y b:Nat):Int)])) w:=by
 rw [run_callFunc_extern Tryz.func125 (by kernel_rfl) (by kernel_rfl) (by kernel_rfl) (e:=sub64Entry) (by kernel_rfl),run_sub64 x y b hb]
 rfl

theorem iD (x b:Nat)(hb:b≤1)(w:World) :
  (callFunc 125 #[.int .u64 x,.int .u64 b,.int .u64 0]).run Tryz.prog w =
   .ok (.value (.tuple #[.int .u64 (((x+18446744073709551616 - 0 - b) % 18446744073709551616:Nat):Int),.int .u64 ((bor x 0 b:Nat):Int)])) w:=by
 have h:=cG x b 0 (by omega) w
 rw [show bor x b 0=bor x 0 b by unfold bor;simp,show x+18446744073709551616 - b - 0=x+18446744073709551616 - 0 - b by omega] at h
 exact h

theorem ce (z v cy:Nat)(hz:z<18446744073709551616)(hv:v<18446744073709551616)(hc:cy≤1) :
  (z+18446744073709551616 - v - cy) % 18446744073709551616+v+cy=z+bor z v cy*18446744073709551616∧bor z v cy≤1∧(z+18446744073709551616 - v - cy) % 18446744073709551616<18446744073709551616:=by
 unfold bor
 split <;> omega

theorem cX (Z Z':List Nat)(o k cy c2 s v V:Nat)(hz:o+k<Z'.length)(hl:Z'.length=Z.length)
  (h:sv Z' o k+V=sv Z o k+cy*18446744073709551616 ^ k) (hs:s+v+cy=Z.getD (o+k) 0+c2*18446744073709551616) :
  sv (Z'.set (o+k) s) o (k+1)+(V+18446744073709551616 ^ k*v)=sv Z o (k+1)+c2*18446744073709551616 ^ (k+1):=by
 rw [ch _ _ _ _ hz,de Z o k (by omega),show (18446744073709551616:Nat) ^ (k+1)=18446744073709551616 ^ k*18446744073709551616 from Nat.pow_succ ..]
 generalize sv Z' o k=A at *
 generalize sv Z o k=B at *
 generalize Z.getD (o+k) 0=z at *
 generalize (18446744073709551616:Nat) ^ k=P at *
 generalize (18446744073709551616:Nat)=W at *
 grind

theorem jX (Z Z':List Nat)(o k n V:Nat)(hk:k≤n)(hn:o+n≤Z.length)(ho:Out Z Z' o (o+k))(h:sv Z' o k+V=sv Z o k):sv Z' o n=sv Z o n - V:=by
 obtain⟨d,rfl⟩:∃d,n=k+d:=⟨n - k,by omega⟩
 rw [am Z' o k d (by rw [ho.len];omega),am Z o k d (by omega),←h,ho.sv (o+k) d (by omega)]
 omega

theorem jg (Z Z':List Nat)(o n cy V:Nat)(hl:Limbs Z')(hZ:V≤sv Z o n)(h:sv Z' o n+V=sv Z o n+cy*18446744073709551616 ^ n):cy=0:=by
 rcases Nat.eq_zero_or_pos cy with h0|h0
 ·exact h0
 ·have:=Nat.mul_le_mul_right (18446744073709551616 ^ n) h0
  have:=bD hl o n
  omega

theorem d6 (bz zo n cap:Nat)(Z:List Nat)(va:Value)(X:List Nat)(w:World)(hB:Blk w bz Z)(hLZ:Limbs Z)(hA:Arg w va X)(ho:Off va bz zo (zo+n))
  (hzo:zo+n≤Z.length) (hc1:n≤cap) (hc2:cap≤9223372036854775807) (hfit:val X≤sv Z zo n) :
  Calls Tryz.prog 196 #[.slice (some ⟨bz,zo,none⟩) n cap,va] w (au bz zo n Z w (sv Z zo n - val X)):=by
 obtain⟨a1,c1,rfl,hcc1,hcm1,hl1⟩:=hA.form
 have hX:=hA.few
 have H1:=bN a1 c1 X w hcc1 hcm1 hl1
 have M1:=limbs_tr hA.limbs
 have hle:=tr_length_le X
 have hln:=aL X n (Nat.lt_of_le_of_lt hfit (bD hLZ zo n))
 have hao:∀b off,a1=some ⟨b,off,none⟩→b≠bz∨off+(tr X).length≤zo∨zo+n≤off:=fun b off e=>by
  subst e
  rcases ho b off _ _ rfl with h|h|h
  ·exact .inl h
  ·exact .inr (.inl (by omega))
  ·exact .inr (.inr h)
 have L1:=hl1.tr
 rw [←val_tr X] at hfit ⊢
 clear ho hA hl1
 generalize tr X=P at *
 have HFIT:=ac hfit
 have HB0:=ac hB
 have HLZ:=ac hLZ
 clear hfit
 go_enter Tryz.func196,Tryz.ntmps196
 go_wp2_with fail
 refine H1.mono ?_
 rintro e w' ⟨rfl,hw⟩;subst hw
 clear H1
 go_wp2
 go_loopw [4,12] (fun c i wr=>∃(k cy:Nat) (Z':List Nat),k≤P.length∧i=.int .i64 k∧c=.int .u64 cy∧cy≤1∧Out Z Z' zo (zo+k)∧Limbs Z'∧Blk wr bz Z'∧Fr bz w' wr ∧
   sv Z' zo k+val (P.take k)=sv Z zo k+cy*18446744073709551616 ^ k) (fun _ i _=>P.length - (intOf i).toNat)
 case atStart=>exact⟨0,0,Z,Nat.zero_le _,rfl,rfl,by omega,Out.refl _ _ _,HLZ.out,HB0.out,Fr.refl _ _,by simp [aC,val]⟩
 case round=>
  obtain⟨k,cy,Z',hk,rfl,rfl,hcy,hout,hlz,hblk,hfr0,hval⟩:=hrel
  have HV:=ac hval
  have HB:=ac hblk
  have HF:=ac hfr0
  have HO:=ac hout
  have hl:=hout.len
  clear hval
  by_cases hkl:k<P.length
  ·rcases L1.fr hao hfr0 hB hblk (hout.wider (Nat.le_refl _) (by omega)) with h0|⟨b,off,rfl,hcell⟩
   ·rw [h0] at hkl;simp at hkl
   ·have hck:=hcell k hkl
    have hfr:=hblk.free (zo+k)
    have hco:=hblk.cell (zo+k) (by omega)
    have z1:=limb_lt M1 k
    have z2:=limb_lt hlz (zo+k)
    have hsame:=hout.same (zo+k) (by omega)
    have ha:=cG (Z'.getD (zo+k) 0) (P.getD k 0) cy hcy
    obtain⟨q1,q2,q3⟩:=ce (Z'.getD (zo+k) 0) (P.getD k 0) cy z2 z1 hcy
    have HS:=ac (cX Z Z' zo k cy _ _ (P.getD k 0) _ (by omega) hl HV.out (by rw [←hsame];exact q1))
    rw [←val_take_next P k] at HS
    generalize Z'.getD (zo+k) 0=z at *
    generalize P.getD k 0=x at *
    clear hsame q1
    generalize (z+18446744073709551616 - x - cy) % 18446744073709551616=s at *
    generalize bor z x cy=c2 at *
    clear hcell hblk hfr0 hout HV M1 L1 hB hLZ
    go_wp2
    go_roundw
    case rel=>exact⟨k+1,c2,Z'.set (zo+k) s,by omega,by go_num,rfl,q2,(HO.out.wider (Nat.le_refl _) (by omega)).set _ _ (by omega) (by omega),limbs_set hlz _ _ q3,HB.out.set _ s,HF.out.setCell _ _,HS.out⟩
    case measure=>simp [intOf];omega
  ·have ek:k=P.length:=by omega
   subst ek
   rw [List.take_length] at HV
   clear hblk hfr0 hout L1 hB M1 hLZ hl
   go_wp2
   go_loopw [4,7] (fun c i wr2=>∃(k cy:Nat) (Z2:List Nat),k≤n∧i=.int .i64 k∧c=.int .u64 cy∧cy≤1∧Out Z Z2 zo (zo+k)∧Limbs Z2∧Blk wr2 bz Z2∧Fr bz w' wr2 ∧
     sv Z2 zo k+val P=sv Z zo k+cy*18446744073709551616 ^ k) (fun _ i _=>n - (intOf i).toNat)
   case atStart=>exact⟨P.length,cy,Z',hln,rfl,rfl,hcy,HO.out,hlz,HB.out,HF.out,HV.out⟩
   case round=>
    obtain⟨k,cy2,Z2,hk2,rfl,rfl,hcy2,hout2,hlz2,hblk2,hfr2,hval2⟩:=hrel
    clear HV HB HF HO
    have HV:=ac hval2
    have HB:=ac hblk2
    have HF:=ac hfr2
    have HO:=ac hout2
    have hl:=hout2.len
    clear hval2
    by_cases hc0:cy2=0
    ·subst hc0
     have HR:=ac (jX Z Z2 zo k n _ hk2 hzo hout2 (by have h:=HV.out;rw [Nat.zero_mul,Nat.add_zero] at h;exact h))
     clear hblk2 hfr2 hout2 HV
     go_wp2
     go_end0
     exact⟨rfl,Z2,HO.out.wider (Nat.le_refl _) (by omega),hlz2,HB.out,HF.out,HR.out⟩
    ·have hpos:(0:Int)<(cy2:Int):=by omega
     have hkn:k<n:=by
      rcases Nat.lt_or_ge k n with h|h
      ·exact h
      ·have ek:k=n:=by omega
       subst ek
       exact absurd (jg Z Z2 zo k cy2 (val P) hlz2 HFIT.out HV.out) hc0
     have hfr:=hblk2.free (zo+k)
     have hco:=hblk2.cell (zo+k) (by omega)
     have z2:=limb_lt hlz2 (zo+k)
     have hsame:=hout2.same (zo+k) (by omega)
     have ha:=iD (Z2.getD (zo+k) 0) cy2 hcy2
     obtain⟨q1,q2,q3⟩:=ce (Z2.getD (zo+k) 0) 0 cy2 z2 (by omega) hcy2
     have HS:=ac (cX Z Z2 zo k cy2 _ _ 0 _ (by omega) hl HV.out (by rw [←hsame];exact q1))
     rw [Nat.mul_zero,Nat.add_zero] at HS
     generalize Z2.getD (zo+k) 0=z at *
     clear hsame q1
     generalize (z+18446744073709551616 - 0 - cy2) % 18446744073709551616=s at *
     generalize bor z 0 cy2=c2 at *
     clear hblk2 hfr2 hout2 HV hc0
     go_wp2
     go_roundw
     case rel=>exact⟨k+1,c2,Z2.set (zo+k) s,by omega,by go_num,rfl,q2,(HO.out.wider (Nat.le_refl _) (by omega)).set _ _ (by omega) (by omega),limbs_set hlz2 _ _ q3,HB.out.set _ s,HF.out.setCell _ _,HS.out⟩
     case measure=>simp [intOf];omega
end Go.Proofs.YtgnmgbbokcpppaaGreatDoor
namespace Go.Proofs.YtgnmgbbokcpppaaGreatDoor
open Go.RowKit
open Lm

theorem lW (b off cap:Nat)(zs:List Nat)(w:World)(hcap:zs.length≤cap)(hmax:cap≤9223372036854775807)
  (hc:∀k,k<zs.length→w.cell? ⟨b,off+k,none⟩=some (.int .u64 ((zs.getD k 0:Nat):Int))) :
  Calls Tryz.prog 112 #[.slice (some ⟨b,off,none⟩) zs.length cap] w fun e w'=>e=.returned (.slice (some ⟨b,off,none⟩) (tr zs).length cap)∧w'=w:=by
 go_enter Tryz.func112,Tryz.ntmps112
 go_wp2
 go_loop [3] (fun n=>∃k:Nat,k≤zs.length∧n=.int .i64 k∧tr (zs.take k)=tr zs) (fun n=>(intOf n).toNat)
 case atStart=>exact⟨zs.length,Nat.le_refl _,rfl,by rw [List.take_length]⟩
 case round=>
  obtain⟨k,hk,rfl,ht⟩:=hrel
  have HT:Hid (tr (zs.take k)=tr zs):=ht
  clear ht
  by_cases h0:k=0
  ·subst h0
   go_wp2
   go_ret
   have e:=HT.out
   simp only [List.take_zero,tr] at e
   rw [←e]
   exact⟨rfl,rfl⟩
  ·obtain⟨j,rfl⟩:∃j,k=j+1:=⟨k - 1,by omega⟩
   have hcj:=hc j (by omega)
   clear hc
   by_cases hz:zs.getD j 0=0
   ·have HZ:Hid (tr (zs.take j)=tr zs):=by rw [←tr_step zs j (by omega) hz];exact HT.out
    rw [hz] at hcj
    clear hz HT
    go_wp2
    go_round
    case rel=>exact⟨j,by omega,by go_num,HZ.out⟩
    case measure=>simp [intOf]
   ·have HZ:Hid (tr zs=zs.take (j+1)):=by rw [←HT.out];exact tr_stop zs j (by omega) hz
    clear HT
    generalize zs.getD j 0=z at hcj hz
    have hne:((z:Int) == 0)=false:=by rw [beq_eq_false_iff_ne];omega
    clear hz
    go_wp2
    go_ret
    rw [HZ.out]
    have e:(zs.take (j+1)).length=j+1:=by simp;omega
    rw [e]
    exact⟨rfl,rfl⟩

theorem mw (ao:Option Addr)(cap:Nat)(w:World)(_hmax:cap≤9223372036854775807) :
  Calls Tryz.prog 112 #[.slice ao 0 cap] w fun e w'=>e=.returned (.slice ao 0 cap)∧w'=w:=by
 go_enter Tryz.func112,Tryz.ntmps112
 go_wp2
 refine wp_loop_rounds 1 ?_
 rw [rounds_succ]
 go_wp2
 go_ret
 exact⟨rfl,rfl⟩

theorem aS (ao:Option Addr)(cap:Nat)(zs:List Nat)(w:World)(hcap:zs.length≤cap)(hmax:cap≤9223372036854775807)(hl:aq w ao zs) :
  Calls Tryz.prog 112 #[.slice ao zs.length cap] w fun e w'=>e=.returned (.slice ao (tr zs).length cap)∧w'=w:=by
 rcases hl with rfl|⟨b,off,rfl,hc⟩
 ·exact mw ao cap w hmax
 ·exact lW b off cap zs w hcap hmax hc

def fT (bz zo n:Nat)(Z:List Nat)(w:World)(p:Nat)(e:Ending)(w':World):Prop:=
 ∃(cy:Nat) (Z':List Nat),cy≤1∧e=.returned (.int .u64 (cy:Int))∧Out Z Z' zo (zo+n)∧Limbs Z'∧Blk w' bz Z'∧Fr bz w w'∧sv Z' zo n+cy*18446744073709551616 ^ n=p

theorem dT (bz zo n cap:Nat)(Z:List Nat)(va:Value)(X:List Nat)(w:World)(hB:Blk w bz Z)(hLZ:Limbs Z)(hA:Arg w va X)(ho:Off va bz zo (zo+n))
  (hzo:zo+n≤Z.length) (hc1:n≤cap) (hc2:cap≤9223372036854775807) (hfit:X.length≤n) :
  Calls Tryz.prog 187 #[.slice (some ⟨bz,zo,none⟩) n cap,va] w (fT bz zo n Z w (sv Z zo n+val X)):=by
 obtain⟨a1,c1,rfl,hcc1,hcm1,hl1⟩:=hA.form
 have hX:=hA.few
 have M1:=hA.limbs
 have hao:∀b off,a1=some ⟨b,off,none⟩→b≠bz∨off+X.length≤zo∨zo+n≤off:=fun b off e=>by
  subst e
  exact ho b off _ _ rfl
 have L1:=hl1
 clear ho hA hl1
 generalize X=P at *
 have HB0:=ac hB
 have HLZ:=ac hLZ
 go_enter Tryz.func187,Tryz.ntmps187
 go_wp2
 go_loopw [5,11] (fun c i wr=>∃(k cy:Nat) (Z':List Nat),k≤P.length∧i=.int .i64 k∧c=.int .u64 cy∧cy≤1∧Out Z Z' zo (zo+k)∧Limbs Z'∧Blk wr bz Z'∧Fr bz w wr ∧
   sv Z' zo k+cy*18446744073709551616 ^ k=sv Z zo k+val (P.take k)) (fun _ i _=>P.length - (intOf i).toNat)
 case atStart=>exact⟨0,0,Z,Nat.zero_le _,rfl,rfl,by omega,Out.refl _ _ _,HLZ.out,HB0.out,Fr.refl _ _,by simp [aC,val]⟩
 case round=>
  obtain⟨k,cy,Z',hk,rfl,rfl,hcy,hout,hlz,hblk,hfr0,hval⟩:=hrel
  have HV:=ac hval
  have HB:=ac hblk
  have HF:=ac hfr0
  have HO:=ac hout
  have hl:=hout.len
  clear hval
  by_cases hkl:k<P.length
  ·rcases L1.fr hao hfr0 hB hblk (hout.wider (Nat.le_refl _) (by omega)) with h0|⟨b,off,rfl,hcell⟩
   ·rw [h0] at hkl;simp at hkl
   ·have hck:=hcell k hkl
    have hfr:=hblk.free (zo+k)
    have hco:=hblk.cell (zo+k) (by omega)
    have z1:=limb_lt M1 k
    have z2:=limb_lt hlz (zo+k)
    have hsame:=hout.same (zo+k) (by omega)
    have ha:=cZ (Z'.getD (zo+k) 0) (P.getD k 0) cy hcy
    obtain⟨q1,q2,q3⟩:=df (Z'.getD (zo+k) 0) (P.getD k 0) cy z2 z1 hcy
    have HS:=ac (cO Z Z' zo k cy _ _ (P.getD k 0) _ (by omega) hl HV.out (by rw [←hsame];exact q1))
    rw [←val_take_next P k] at HS
    generalize Z'.getD (zo+k) 0=z at *
    generalize P.getD k 0=x at *
    clear hsame q1
    generalize (z+x+cy) % 18446744073709551616=s at *
    generalize (z+x+cy) / 18446744073709551616=c2 at *
    clear hcell hblk hfr0 hout HV M1 L1 hB hLZ
    go_wp2
    go_roundw
    case rel=>exact⟨k+1,c2,Z'.set (zo+k) s,by omega,by go_num,rfl,q2,(HO.out.wider (Nat.le_refl _) (by omega)).set _ _ (by omega) (by omega),limbs_set hlz _ _ q3,HB.out.set _ s,HF.out.setCell _ _,HS.out⟩
    case measure=>simp [intOf];omega
  ·have ek:k=P.length:=by omega
   subst ek
   rw [List.take_length] at HV
   clear hblk hfr0 hout L1 hB M1 hLZ hl
   go_wp2
   go_loopw [5,8] (fun c i wr2=>∃(k cy:Nat) (Z2:List Nat),k≤n∧i=.int .i64 k∧c=.int .u64 cy∧cy≤1∧Out Z Z2 zo (zo+k)∧Limbs Z2∧Blk wr2 bz Z2∧Fr bz w wr2 ∧
     sv Z2 zo k+cy*18446744073709551616 ^ k=sv Z zo k+val P) (fun _ i _=>n - (intOf i).toNat)
   case atStart=>exact⟨P.length,cy,Z',hfit,rfl,rfl,hcy,HO.out,hlz,HB.out,HF.out,HV.out⟩
   case round=>
    obtain⟨k,cy2,Z2,hk2,rfl,rfl,hcy2,hout2,hlz2,hblk2,hfr2,hval2⟩:=hrel
    clear HV HB HF HO
    have HV:=ac hval2
    have HB:=ac hblk2
    have HF:=ac hfr2
    have HO:=ac hout2
    have hl:=hout2.len
    clear hval2
    by_cases hc0:cy2=0
    ·subst hc0
     have HR:=ac (eZ Z Z2 zo k n _ hk2 hzo hout2 (by have h:=HV.out;rw [Nat.zero_mul,Nat.add_zero] at h;exact h))
     clear hblk2 hfr2 hout2 HV
     go_wp2
     go_ret
     exact⟨0,Z2,by omega,rfl,HO.out.wider (Nat.le_refl _) (by omega),hlz2,HB.out,HF.out,by rw [HR.out];omega⟩
    ·have hpos:(0:Int)<(cy2:Int):=by omega
     by_cases hkn:¬k<n
     ·have ek:k=n:=by omega
      subst ek
      clear hblk2 hfr2 hout2
      have hend:¬((k:Int)<(k:Int)):=by omega
      go_wp2
      go_ret
      exact⟨cy2,Z2,hcy2,rfl,HO.out,hlz2,HB.out,HF.out,HV.out⟩
     replace hkn:k<n:=by omega
     have hkn':(k:Int)<(n:Int):=by omega
     have hfr:=hblk2.free (zo+k)
     have hco:=hblk2.cell (zo+k) (by omega)
     have z2:=limb_lt hlz2 (zo+k)
     have hsame:=hout2.same (zo+k) (by omega)
     have ha:=bK (Z2.getD (zo+k) 0) cy2
     obtain⟨q1,q2,q3⟩:=df (Z2.getD (zo+k) 0) 0 cy2 z2 (by omega) hcy2
     have HS:=ac (cO Z Z2 zo k cy2 _ _ 0 _ (by omega) hl HV.out (by rw [←hsame];exact q1))
     rw [Nat.mul_zero,Nat.add_zero] at HS
     rw [Nat.add_zero] at HS q2 q3
     generalize Z2.getD (zo+k) 0=z at *
     clear hsame q1
     generalize (z+cy2) % 18446744073709551616=s at *
     generalize (z+cy2) / 18446744073709551616=c2 at *
     clear hblk2 hfr2 hout2 HV hc0
     go_wp2
     go_roundw
     case rel=>exact⟨k+1,c2,Z2.set (zo+k) s,by omega,by go_num,rfl,q2,(HO.out.wider (Nat.le_refl _) (by omega)).set _ _ (by omega) (by omega),limbs_set hlz2 _ _ q3,HB.out.set _ s,HF.out.setCell _ _,HS.out⟩
     case measure=>simp [intOf];omega
end Go.Proofs.YtgnmgbbokcpppaaGreatDoor

