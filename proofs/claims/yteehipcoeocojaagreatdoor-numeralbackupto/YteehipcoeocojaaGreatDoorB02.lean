/- Package nat: Tail, as far as which limb it tells; the table of math/bits. -/
import Derived.Test.YteehipcoeocojaaGreatDoorB01
import Derived.Laws.Bits128
import Derived.Laws.AppendOwnNone
import Derived.Deep.CutBlock
import Derived.Deep.DeepCutAuto
import Derived.Maps.AppendAt
import Derived.LoopN
import Derived.Handy
import Derived.Laws.IdiomStrings
import Derived.Lib.AppendZeros
set_option maxRecDepth 100000
set_option maxHeartbeats 2000000
namespace Go.Proofs.YteehipcoeocojaaGreatDoor
open Go.RowKit
open Lm
attribute [local go_sem ↓] Go.wp_at_zero Go.wp_at_succ

def aD:List Nat:=[0,1,56,2,57,49,28,3,61,58,42,50,38,29,17,4,62,47,59,36,45,43,51,22,53,39,33,30,24,18,12,5,63,55,48,27,60,41,37,16,46,35,44,21,52,32,23,11,54,26,40,15,34,20,31,10,25,14,19,9,13,8,7,6]

theorem jI (i:Nat):aD.getD i 0<64:=by
 by_cases h:i<64
 ·have:∀j:Fin 64,aD.getD j.1 0<64:=by decide
  exact this ⟨i,h⟩
 ·have:aD.length≤i:=by show 64≤i;omega
  simp [List.getD,this]

def Tab (w:World):Prop:=1<w.heap.size∧∀i,i<64→w.cell? ⟨1,i,none⟩=some (.int .u8 ((aD.getD i 0:Nat):Int))

theorem Tab.below {w w':World}(h:Tab w)(hb:Below w.heap.size w w'):Tab w':=
 ⟨Nat.lt_of_lt_of_le h.1 hb.size,fun i hi=>by rw [hb.cell (p:=⟨1,i,none⟩) h.1];exact h.2 i hi⟩

theorem mq (x:Nat)(w:World)(h0:x≠0)(hT:Tab w) :
  Calls Tryz.prog 84 #[.int .u64 x] w fun e w'=>(∃t:Nat,t<64∧e=.returned (.int .i64 (t:Int)))∧w'=w:=by
 have hd:((x:Int) == 0)=false:=by rw [beq_eq_false_iff_ne];omega
 obtain⟨j,hj,ej⟩:∃j:Nat,j<64∧IntKind.u64.wrap (bits BinOp.and IntKind.u64 (x:Int) (IntKind.u64.wrap (-(x:Int)))*285870213051353865) / 288230376151711744=(j:Int):=by
  generalize bits BinOp.and IntKind.u64 (x:Int) (IntKind.u64.wrap (-(x:Int)))*285870213051353865=y
  refine⟨(IntKind.u64.wrap y / 288230376151711744).toNat,?_,?_⟩ <;> (rw [IntKind.wrap_u64];omega)
 have hc:=hT.2 j hj
 have ht:=jI j
 generalize aD.getD j 0=t at *
 have hj2:(j:Int)<64:=by omega
 have hj3:(0:Int)≤(j:Int):=by omega
 clear hT
 go_enter Tryz.func84,Tryz.ntmps84
 go_wp2
 go_ret
 exact⟨⟨t,ht,rfl⟩,rfl⟩

def aq:List Nat→Nat
 | []=>0
 | z :: r=>if z=0 then (if val r=0 then 0 else aq r+1) else 0

theorem jw (X:List Nat)(k:Nat)(h:k<X.length)(h1:val (X.take k)=0)(h2:X.getD k 0≠0):aq X=k:=by
 induction X generalizing k with
 | nil=>simp at h
 | cons z r ih=>
  cases k with
  | zero=>
   have:z≠0:=by simpa using h2
   simp [aq,this]
  | succ k=>
   rw [List.take_succ_cons,val] at h1
   have hz:z=0:=by omega
   have hr:val (r.take k)=0:=by omega
   rw [List.getD_cons_succ] at h2
   have hk:k<r.length:=by simpa using h
   have hv:val r≠0:=by
    intro e
    have h3:=val_take_succ r k hk
    have h4:val r=val (r.take (k+1))+18446744073709551616 ^ (k+1)*val (r.drop (k+1)):=by
     conv=>lhs;rw [←List.take_append_drop (k+1) r,val_append]
     rw [List.length_take,Nat.min_eq_left hk]
    rw [h4,h3] at e
    have h5:18446744073709551616 ^ k*r.getD k 0=0:=by omega
    rcases Nat.mul_eq_zero.1 h5 with h6|h6
    ·exact absurd h6 (Nat.pos_iff_ne_zero.1 (Nat.pow_pos (by omega)))
    ·exact h2 h6
   rw [aq,if_pos hz,if_neg hv,ih k hk hr h2]

theorem jL (X:List Nat)(h:val X=0):aq X=0:=by
 cases X with
 | nil=>rfl
 | cons z r=>
  rw [val] at h
  rw [aq,if_pos (by omega),if_pos (by omega)]

theorem cj (v:Value)(X:List Nat)(w:World)(hA:Arg w v X)(hT:Tab w) :
  Calls Tryz.prog 102 #[v] w fun e w'=>(∃t:Nat,t<64∧e=.returned (.int .i64 ((aq X*64+t:Nat):Int)))∧w'=w:=by
 obtain⟨a1,c1,rfl,hcc1,hcm1,hl1⟩:=hA.form
 have M1:=hA.limbs
 have hX:=hA.few
 clear hA
 have HT:=aa hT
 clear hT
 go_enter Tryz.func102,Tryz.ntmps102
 go_wp2
 go_loopw [7] (fun i wr=>∃k:Nat,k≤X.length∧i=.int .i64 k∧wr=w∧val (X.take k)=0) (fun i _=>X.length - (intOf i).toNat)
 case atStart=>exact⟨0,Nat.zero_le _,rfl,rfl,by simp [val]⟩
 case round=>
  obtain⟨k,hk,rfl,rfl,hval⟩:=hrel
  have HV:=aa hval
  clear hval
  by_cases hkl:k<X.length
  ·rcases hl1 with h0|⟨b,off,rfl,hcell⟩
   ·rw [h0] at hkl;simp at hkl
   ·have hck:=hcell k hkl
    have z1:=limb_lt M1 k
    by_cases hz:X.getD k 0=0
    ·rw [hz] at hck
     have HV2:Hid (val (X.take (k+1))=0):=aa (by rw [val_take_succ X k hkl,HV.out,hz];simp)
     clear hcell hz
     go_wp2
     go_roundw
     case rel=>exact⟨k+1,by omega,by go_num,trivial,HV2.out⟩
     case measure=>simp [intOf];omega
    ·have HK:=aa (jw X k hkl HV.out hz)
     have H:=mq (X.getD k 0) wr hz HT.out
     have hne:((X.getD k 0:Int) == 0)=false:=by rw [beq_eq_false_iff_ne];omega
     have hne2:((X.getD k 0:Int) != 0)=true:=by rw [bne,hne];rfl
     generalize X.getD k 0=x at *
     clear hcell
     go_wp2_with fail
     refine H.mono ?_
     rintro e w2 ⟨⟨t,ht,rfl⟩,hw⟩
     subst hw
     clear H
     go_wp2
     go_ret
     refine⟨⟨t,ht,?_⟩,rfl⟩
     rw [HK.out]
     exact congrArg (fun i=>Ending.returned (Value.int IntKind.i64 i)) (by omega)
  ·have ek:k=X.length:=by omega
   subst ek
   rw [List.take_length] at HV
   have HK:=aa (jL X HV.out)
   clear hl1
   go_wp2
   go_ret
   exact⟨⟨0,by omega,by rw [HK.out];rfl⟩,rfl⟩
end Go.Proofs.YteehipcoeocojaaGreatDoor
namespace Go.Proofs.YteehipcoeocojaaGreatDoor
open Go.RowKit
open Lm

def aT (x t:Nat):Prop:=x % 2 ^ t=0∧x / 2 ^ t % 2=1

theorem eT (t m:Nat):aT (2 ^ t*(2*m+1)) t:=by
 refine⟨Nat.mul_mod_right _ _,?_⟩
 rw [Nat.mul_div_cancel_left _ (Nat.two_pow_pos t)]
 omega

theorem du {x t:Nat}(h:aT x t):x=2 ^ t*(2*(x / 2 ^ t / 2)+1):=by
 have h1:=Nat.div_add_mod x (2 ^ t)
 rw [h.1,Nat.add_zero] at h1
 have h2:=Nat.div_add_mod (x / 2 ^ t) 2
 rw [h.2] at h2
 rw [h2];exact h1.symm

theorem lA (x:Nat)(h:x≠0):∃t,aT x t:=by
 induction x using Nat.strongRecOn with
 | ind x ih=>
  by_cases h2:x % 2=1
  ·exact⟨0,by simp [Nat.mod_one],by simpa using h2⟩
  ·obtain⟨t,ht⟩:=ih (x / 2) (by omega) (by omega)
   refine⟨t+1,?_⟩
   have e:=du ht
   generalize x / 2 / 2 ^ t / 2=m at e
   have e2:x=2 ^ (t+1)*(2*m+1):=by
    rw [Nat.pow_succ,Nat.mul_comm (2 ^ t) 2,Nat.mul_assoc,←e];omega
   rw [e2];exact eT _ _

theorem dC {x t n:Nat}(h:aT x t)(hx:x<2 ^ n):t<n:=by
 refine Nat.lt_of_not_le fun hn=>?_
 have:2 ^ n≤2 ^ t:=Nat.pow_le_pow_right (by omega) hn
 have h2:=h.2
 rw [Nat.div_eq_of_lt (by omega)] at h2
 omega

theorem mh (x t:Nat)(h:aT x t)(hx:x<18446744073709551616):x &&& (18446744073709551616 - x)=2 ^ t:=by
 have e:=du h
 generalize x / 2 ^ t / 2=m at e
 have hp:=Nat.two_pow_pos t
 have e1:x=2 ^ t*(2*m+1)+0:=by rw [Nat.add_zero];exact e
 have e2:x - 1=2 ^ t*(2*m)+(2 ^ t - 1):=by rw [e,Nat.mul_add,Nat.mul_one];omega
 have h0:0<x:=by rw [e];exact Nat.mul_pos hp (by omega)
 have e3:18446744073709551616 - x=2 ^ 64 - ((x - 1)+1):=by omega
 have hlt:=dC (n:=64) h hx
 refine Nat.eq_of_testBit_eq fun j=>?_
 rw [Nat.testBit_and,e3,Nat.testBit_two_pow_sub_succ (by omega),Nat.testBit_two_pow,e2]
 conv=>lhs;lhs;rw [e1]
 rw [Nat.testBit_two_pow_mul_add _ hp,Nat.testBit_two_pow_mul_add _ (by omega)]
 by_cases hj:j<t
 ·have:t≠j:=by omega
  simp [hj,this]
 ·rw [if_neg hj,if_neg hj]
  obtain⟨s,rfl⟩:∃s,j=t+s:=⟨j - t,by omega⟩
  rw [Nat.add_sub_cancel_left]
  cases s with
  | zero=>
   have e0:(2*m).testBit 0=false:=by simp [Nat.testBit_zero]
   have e4:(2*m+1).testBit 0=true:=by simp [Nat.testBit_zero]
   rw [e0,e4]
   have h64:t+0<64:=by omega
   simp [hlt]
  | succ s=>
   have e4:(2*m+1).testBit (s+1)=m.testBit s:=by rw [Nat.testBit_succ];congr 1;omega
   have e5:(2*m).testBit (s+1)=m.testBit s:=by rw [Nat.testBit_succ];congr 1;omega
   rw [e4,e5]
   cases m.testBit s <;> simp

theorem gV:∀t:Fin 64,aD.getD (2 ^ t.1*285870213051353865 % 18446744073709551616 / 288230376151711744) 0=t.1:=by decide +kernel

theorem dk (x t:Nat)(w:World)(hx:x<18446744073709551616)(h:aT x t)(hT:Tab w) :
  Calls Tryz.prog 84 #[.int .u64 x] w fun e w'=>e=.returned (.int .i64 (t:Int))∧w'=w:=by
 have hlt:=dC (n:=64) h hx
 have h0:x≠0:=by
  intro e;subst e
  have:=h.2
  simp at this
 have hd:((x:Int) == 0)=false:=by rw [beq_eq_false_iff_ne];omega
 have hand:=mh x t h hx
 have hw:IntKind.u64.wrap (-(x:Int))=((18446744073709551616 - x:Nat):Int):=by rw [IntKind.wrap_u64];omega
 have hb:=bits_and_u64_nat x (18446744073709551616 - x) hx (by omega)
 rw [hand,←hw] at hb
 have ht:=gV ⟨t,hlt⟩
 obtain⟨j,hj,ej⟩:∃j:Nat,Hid (2 ^ t*285870213051353865 % 18446744073709551616 / 288230376151711744=j)∧IntKind.u64.wrap (bits BinOp.and IntKind.u64 (x:Int) (IntKind.u64.wrap (-(x:Int)))*285870213051353865) / 288230376151711744=(j:Int):=by
  refine⟨_,aa rfl,?_⟩
  rw [hb,IntKind.wrap_u64]
  generalize 2 ^ t=p
  omega
 have ht2:aD.getD j 0=t:=by rw [←hj.out];exact ht
 have hj1:j<64:=by rw [←hj.out];omega
 have hc:=hT.2 j hj1
 rw [ht2] at hc
 have hj2:(j:Int)<64:=by omega
 have hj3:(0:Int)≤(j:Int):=by omega
 clear hT ht ht2 hj hb hw hand h
 go_enter Tryz.func84,Tryz.ntmps84
 go_wp2
 go_ret
 exact⟨rfl,rfl⟩
end Go.Proofs.YteehipcoeocojaaGreatDoor
namespace Go.Proofs.YteehipcoeocojaaGreatDoor

def g1 (b:Nat):Nat:=((b / 2) &&& 85)+(b &&& 85)
def g2 (b:Nat):Nat:=((g1 b / 4) &&& 51)+(g1 b &&& 51)
end Go.Proofs.YteehipcoeocojaaGreatDoor
namespace Go.Proofs.YteehipcoeocojaaGreatDoor
open Go.RowKit
open Lm
attribute [local go_sem ↓] Go.wp_at_zero Go.wp_at_succ
end Go.Proofs.YteehipcoeocojaaGreatDoor
namespace Go.Proofs.YteehipcoeocojaaGreatDoor
open Lm
end Go.Proofs.YteehipcoeocojaaGreatDoor
namespace Go.Proofs.YteehipcoeocojaaGreatDoor
open Go.RowKit
open Lm
attribute [local go_sem ↓] Go.wp_at_zero Go.wp_at_succ

theorem mE (X:List Nat)(k t:Nat)(h:k<X.length)(h1:val (X.take k)=0)(h2:aT (X.getD k 0) t)(ht:t<64):aT (val X) (64*k+t):=by
 have e:=du h2
 generalize X.getD k 0 / 2 ^ t / 2=m at e
 have h3:=val_take_succ X k h
 have h4:val X=val (X.take (k+1))+18446744073709551616 ^ (k+1)*val (X.drop (k+1)):=by
  conv=>lhs;rw [←List.take_append_drop (k+1) X,val_append]
  rw [List.length_take,Nat.min_eq_left h]
 rw [h3,h1,e,Nat.zero_add] at h4
 have e1:(18446744073709551616:Nat) ^ k=2 ^ (64*k):=by rw [Nat.pow_mul]
 have e2:(18446744073709551616:Nat) ^ (k+1)=2 ^ (64*k)*(2 ^ t*(2*2 ^ (63 - t))):=by
  rw [Nat.pow_succ,e1]
  congr 1
  rw [←Nat.pow_succ',←Nat.pow_add]
  have:t+(63 - t+1)=64:=by omega
  rw [this]
 rw [e1,e2] at h4
 have h5:val X=2 ^ (64*k+t)*(2*(m+2 ^ (63 - t)*val (X.drop (k+1)))+1):=by
  rw [h4,Nat.pow_add]
  generalize 2 ^ (64*k)=a
  generalize 2 ^ t=b
  generalize 2 ^ (63 - t)=c
  generalize val (X.drop (k+1))=d
  grind
 rw [h5];exact eT _ _

theorem iu (v:Value)(X:List Nat)(w:World)(hA:Arg w v X)(hT:Tab w) :
  Calls Tryz.prog 102 #[v] w fun e w'=>(∃t:Nat,t≤64*X.length∧e=.returned (.int .i64 (t:Int))∧(val X=0→t=0)∧(val X≠0→aT (val X) t))∧w'=w:=by
 obtain⟨a1,c1,rfl,hcc1,hcm1,hl1⟩:=hA.form
 have M1:=hA.limbs
 have hX:=hA.few
 clear hA
 have HT:=aa hT
 clear hT
 go_enter Tryz.func102,Tryz.ntmps102
 go_wp2
 go_loopw [7] (fun i wr=>∃k:Nat,k≤X.length∧i=.int .i64 k∧wr=w∧val (X.take k)=0) (fun i _=>X.length - (intOf i).toNat)
 case atStart=>exact⟨0,Nat.zero_le _,rfl,rfl,by simp [val]⟩
 case round=>
  obtain⟨k,hk,rfl,rfl,hval⟩:=hrel
  have HV:=aa hval
  clear hval
  by_cases hkl:k<X.length
  ·rcases hl1 with h0|⟨b,off,rfl,hcell⟩
   ·rw [h0] at hkl;simp at hkl
   ·have hck:=hcell k hkl
    have z1:=limb_lt M1 k
    by_cases hz:X.getD k 0=0
    ·rw [hz] at hck
     have HV2:Hid (val (X.take (k+1))=0):=aa (by rw [val_take_succ X k hkl,HV.out,hz];simp)
     clear hcell hz
     go_wp2
     go_roundw
     case rel=>exact⟨k+1,by omega,by go_num,trivial,HV2.out⟩
     case measure=>simp [intOf];omega
    ·obtain⟨t,ht⟩:=lA _ hz
     have htl:=dC (n:=64) ht z1
     have HK:=aa (mE X k t hkl HV.out ht htl)
     have H:=dk (X.getD k 0) t wr z1 ht HT.out
     have hne:((X.getD k 0:Int) == 0)=false:=by rw [beq_eq_false_iff_ne];omega
     have hne2:((X.getD k 0:Int) != 0)=true:=by rw [bne,hne];rfl
     clear ht
     generalize X.getD k 0=x at *
     clear hcell
     go_wp2_with fail
     refine H.mono ?_
     rintro e w2 ⟨rfl,hw⟩
     subst hw
     clear H
     go_wp2
     go_ret
     refine⟨⟨64*k+t,by omega,?_,?_,fun _=>HK.out⟩,rfl⟩
     ·exact congrArg (fun i=>Ending.returned (Value.int IntKind.i64 i)) (by omega)
     ·intro e
      have:=HK.out.2
      rw [e] at this
      simp at this
  ·have ek:k=X.length:=by omega
   subst ek
   rw [List.take_length] at HV
   clear hl1
   go_wp2
   go_ret
   exact⟨⟨0,by omega,rfl,fun _=>rfl,fun h=>absurd HV.out h⟩,rfl⟩

theorem fk (v:Value)(X:List Nat)(w:World)(hA:Arg w v X) :
  Calls Tryz.prog 57 #[v] w fun e w'=>e=.returned (.tuple #[.int .u64 ((if (tr X).length≤1 then (tr X).getD 0 0 else 0:Nat):Int),.bool (decide ((tr X).length≤1))])∧w'=w:=by
 obtain⟨a1,c1,rfl,hc1,hm1,hl1⟩:=hA.form
 have T1:=aQ a1 c1 X w hc1 hm1 hl1
 have l1:=tr_length_le X
 have L:=cM a1 c1 (tr X) 0 w (by omega) hm1 hl1.tr
 have hX:=hA.few
 clear hl1 hA
 by_cases h:(tr X).length≤1
 ·rw [if_pos h,decide_eq_true h]
  have h2:¬((1:Int)<((tr X).length:Int)):=by omega
  generalize (tr X).getD 0 0=z at *
  go_enter Tryz.func57,Tryz.ntmps57
  go_wp2_with fail
  refine T1.mono ?_
  rintro e w2 ⟨rfl,rfl⟩
  clear T1
  go_wp2_with fail
  refine L.mono ?_
  rintro e w2 ⟨rfl,rfl⟩
  clear L
  go_wp2
  go_ret2
  exact⟨rfl,rfl⟩
 ·rw [if_neg h,decide_eq_false h]
  have h2:((1:Int)<((tr X).length:Int)):=by omega
  go_enter Tryz.func57,Tryz.ntmps57
  go_wp2_with fail
  refine T1.mono ?_
  rintro e w2 ⟨rfl,rfl⟩
  clear T1 L
  go_wp2
  go_ret2
  exact⟨rfl,rfl⟩
end Go.Proofs.YteehipcoeocojaaGreatDoor
namespace Go.Proofs.YteehipcoeocojaaGreatDoor
namespace Lm

def vb (B:Nat):List Nat→Nat
 | []=>0
 | z :: r=>z+B*vb B r

variable {B:Nat}

end Lm
end Go.Proofs.YteehipcoeocojaaGreatDoor
namespace Go.Proofs.YteehipcoeocojaaGreatDoor
open Go.RowKit
open Lm

theorem eC {w:World}(l:List Nat)(j:Nat)(u:Value)(hj:(l.map lv)[j]?=some u):(w.alloc (.cells (l.map lv).toArray 63)).cell? ((⟨w.heap.size,0,none⟩:Addr).add j)=some u:=by
 have e:(⟨w.heap.size,0,none⟩:Addr).add j=⟨w.heap.size,j,none⟩:=by
  unfold Addr.add;split <;> simp_all
 rw [e]
 simp only [World.cell?,heap_alloc_new]
 simpa using hj
end Go.Proofs.YteehipcoeocojaaGreatDoor
namespace Go.Proofs.YteehipcoeocojaaGreatDoor
namespace Lm

theorem tr_last' (ds:List Nat)(n:Nat)(ht:tr ds=ds)(h:ds.length=n+1):ds.getD n 0≠0:=by
 have:=tr_last ds n (by rw [ht];exact h)
 rwa [ht] at this

end Lm
end Go.Proofs.YteehipcoeocojaaGreatDoor
namespace Go.Proofs.YteehipcoeocojaaGreatDoor
open Go.RowKit
open Lm
end Go.Proofs.YteehipcoeocojaaGreatDoor
namespace Go.Proofs.YteehipcoeocojaaGreatDoor
open Lm
end Go.Proofs.YteehipcoeocojaaGreatDoor
namespace Go.Proofs.YteehipcoeocojaaGreatDoor
open Go.RowKit
open Lm
attribute [local go_sem ↓] Go.wp_at_zero Go.wp_at_succ

theorem iU {w:World}{b off:Nat}{X:List Nat}(hc:∀k,k<X.length→w.cell? ⟨b,off+k,none⟩=some (.int .u64 ((X.getD k 0:Nat):Int)))(j:Nat)(u:Value)(hj:(X.map lv)[j]?=some u):w.cell? ((⟨b,off,none⟩:Addr).add j)=some u:=by
 rw [List.getElem?_map] at hj
 have hl:j<X.length:=by
  refine Nat.lt_of_not_le fun h=>?_
  rw [List.getElem?_eq_none h] at hj
  cases hj
 have:=hc j hl
 have e:X.getD j 0=X[j]:=by simp [List.getD,hl]
 rw [List.getElem?_eq_getElem hl] at hj
 cases hj
 have ea:(⟨b,off,none⟩:Addr).add j=⟨b,off+j,none⟩:=by simp [Addr.add]
 rw [ea,this,e];rfl

theorem lw (ao:Option Addr)(cap:Nat)(X:List Nat)(w:World)(hl:af w ao X)(hX:Limbs X)(hf:X.length≤17592186044416) :
  Calls Tryz.prog 107 #[.slice ao X.length cap] w fun e w'=>(∃v,e=.returned v∧Ans w' w.heap.size v X)∧Below w.heap.size w w':=by
 obtain⟨i0,hi,hz0,hz1,hz2⟩:=info_parts Tryz.infoU
 have ho:w.ownsRow w.heap.size 63 1 (.slice none 0 0) 0 []:=World.ownsRow_nil _ _ _ _
 have key:∀ad:Addr,(∀j u,(X.map lv)[j]?=some u→w.cell? (ad.add j)=some u)→Calls Tryz.prog 107 #[.slice (some ad) X.length cap] w fun e w'=>(∃v,e=.returned v∧Ans w' w.heap.size v X)∧Below w.heap.size w w':=by
  intro ad hn
  have HX:=aa hX
  clear hX hl
  go_enter Tryz.func107,Tryz.ntmps107
  go_wp2_with (at_builtin;refine wpList_append_own _ rfl _ _ 23 rfl w.heap.size 63 i0 (.int .u64 0) 1 8 Tryz.underlying23 hi hz0 hz1 hz2 rfl (by decide) _ _ _ rfl ho ad X.length cap (X.map lv) rfl (by simp) hn (cu _) (by unfold maxLen;omega) (by omega) (Nat.le_refl _) ?_;intro v' w2 hown2 hgrow2 _)
  have HA:Hid (Ans w2 w.heap.size v' X):=by
   rw [Nat.zero_add,List.nil_append] at hown2
   exact⟨hown2,HX.out⟩
  have HB:Hid (Below w.heap.size w w2):=(Below.refl _ _).grown hgrow2 (Nat.le_refl _) (fun k hk=>by cases hk)
  clear hown2 hgrow2 ho hn
  go_wp2
  go_ret
  exact⟨⟨_,rfl,HA.out⟩,HB.out⟩
 rcases hl with h0|⟨b,off,rfl,hc⟩
 ·subst h0
  cases ao with
  | some ad=>exact key ad (fun j u h=>by simp at h)
  | none=>
   clear key ho hi hz0 hz1 hz2 hX
   go_enter Tryz.func107,Tryz.ntmps107
   go_wp2
   go_ret
   exact⟨⟨_,rfl,Ans.nil _ _⟩,Below.refl _ _⟩
 ·exact key _ (iU hc)

theorem cz (v:Value)(X:List Nat)(w:World)(hA:Arg w v X)(hf:X.length≤17592186044416) :
  Calls Tryz.prog 80 #[v] w fun e w'=>(∃v,e=.returned v∧Ans w' w.heap.size v (tr X))∧Below w.heap.size w w':=by
 obtain⟨a1,c1,rfl,hc1,hm1,hl1⟩:=hA.form
 have T1:=aQ a1 c1 X w hc1 hm1 hl1
 have l1:=tr_length_le X
 have F:=lw a1 c1 (tr X) w hl1.tr (limbs_tr hA.limbs) (by omega)
 clear hl1 hA
 go_enter Tryz.func80,Tryz.ntmps80
 go_wp2_with fail
 refine T1.mono ?_
 rintro e w2 ⟨rfl,rfl⟩
 clear T1
 go_wp2_with fail
 refine F.mono ?_
 rintro e w3 ⟨⟨v,rfl,ha⟩,hb⟩
 have HA:=aa (And.intro ha hb)
 clear ha hb F
 go_wp2
 go_ret
 exact⟨⟨v,rfl,HA.out.1⟩,HA.out.2⟩
end Go.Proofs.YteehipcoeocojaaGreatDoor
namespace Go.Proofs.YteehipcoeocojaaGreatDoor
namespace Lm

theorem mul_hi (x m cy:Nat)(hx:x<18446744073709551616)(hm:m<18446744073709551616)(hc:cy<18446744073709551616) :
  x*m / 18446744073709551616+(x*m % 18446744073709551616+cy) / 18446744073709551616=(x*m+cy) / 18446744073709551616∧(x*m+cy) / 18446744073709551616<18446744073709551616 ∧
  (x*m % 18446744073709551616+cy) % 18446744073709551616=(x*m+cy) % 18446744073709551616:=by
 have h1:x*m≤18446744073709551615*18446744073709551615:=Nat.mul_le_mul (by omega) (by omega)
 generalize x*m=p at *
 omega

theorem through_step (X out:List Nat)(d j r:Nat)(hj:j<out.length)
  (h:val (out.drop (j+1))*d+r=val (X.drop (j+1))) (hxl:j<X.length) :
  val ((out.set j ((r*18446744073709551616+X.getD j 0) / d)).drop j)*d+(r*18446744073709551616+X.getD j 0) % d=val (X.drop j):=by
 have e1:(out.set j ((r*18446744073709551616+X.getD j 0) / d)).drop j=((r*18446744073709551616+X.getD j 0) / d) :: out.drop (j+1):=by
  rw [List.drop_eq_getElem_cons (by simpa using hj)]
  simp [List.drop_set]
 have e2:X.drop j=X.getD j 0 :: X.drop (j+1):=by
  rw [List.drop_eq_getElem_cons hxl];simp [List.getD,hxl]
 rw [e1,e2]
 simp only [val]
 rw [←h]
 generalize X.getD j 0=x
 generalize val (out.drop (j+1))=q
 have hdm:=Nat.div_add_mod (r*18446744073709551616+x) d
 generalize (r*18446744073709551616+x) / d=a at *
 generalize (r*18446744073709551616+x) % d=b at *
 have e3:(a+18446744073709551616*q)*d=d*a+18446744073709551616*(q*d):=by
  rw [Nat.add_mul,Nat.mul_comm a d,Nat.mul_assoc]
 rw [e3]
 omega

theorem quo_lt (r x d:Nat)(hr:r<d)(hx:x<18446744073709551616):(r*18446744073709551616+x) / d<18446744073709551616:=by
 rw [Nat.div_lt_iff_lt_mul (by omega)]
 have:=Nat.mul_le_mul_right 18446744073709551616 (Nat.succ_le_of_lt hr)
 rw [Nat.succ_eq_add_one,Nat.add_mul] at this
 rw [Nat.mul_comm]
 omega

end Lm
end Go.Proofs.YteehipcoeocojaaGreatDoor
namespace Go.Proofs.YteehipcoeocojaaGreatDoor
open Go.RowKit
open Lm

theorem ci (x:Nat)(w:World)(hx:x<18446744073709551616) :
  Calls Tryz.prog 77 #[.int .u64 x] w fun e w'=>(∃v,e=.returned v∧Ans w' w.heap.size v (tr [x]))∧Below w.heap.size w w':=by
 by_cases h:x=0
 ·subst h
  have hz:(((0:Nat):Int) == 0)=true:=rfl
  go_enter Tryz.func77,Tryz.ntmps77
  go_wp2
  go_ret
  exact⟨⟨_,rfl,Ans.nil _ _⟩,Below.refl _ _⟩
 ·have hz:((x:Int) == 0)=false:=by rw [beq_eq_false_iff_ne];omega
  have e:tr [x]=[x]:=by simp [tr,h]
  rw [e]
  clear e h
  have hb:Blk (w.alloc (.cells #[.int .u64 (x:Int)] 63)) w.heap.size [x]:=by
   unfold Blk;rw [heap_alloc_new];rfl
  have HA:=aa (Ans.of_blk (base:=w.heap.size) (zs:=[x]) (Nat.le_refl _) hb rfl (Nat.le_refl _) (by simp) (by intro y hy;simp at hy;omega))
  clear hb
  go_enter Tryz.func77,Tryz.ntmps77
  go_wp2
  go_ret
  exact⟨⟨_,rfl,HA.out⟩,(Below.refl _ _).alloc (Nat.le_refl _) _⟩
end Go.Proofs.YteehipcoeocojaaGreatDoor
namespace Go.Proofs.YteehipcoeocojaaGreatDoor
namespace Lm

structure Knuth (U Y y1 u1 q r:Nat):Prop where
 sum:q*y1+r=U
 ge:(U*4294967296+u1) / Y≤q
 few:q≤4294967297
 small:r<4294967296

variable {U Y y1 y0 u1 q r:Nat}

theorem knuth_start (hY:Y=y1*4294967296+y0)(hy1:2147483648≤y1)(hy2:y1<4294967296)(hy0:y0<4294967296)(hu1:u1<4294967296)(hU:U<Y):Knuth U Y y1 u1 (U / y1) (U % y1):=by
 have hd:=Nat.div_add_mod U y1
 have hm:U % y1<y1:=Nat.mod_lt _ (by omega)
 have hs:U / y1*y1+U % y1=U:=by rw [Nat.mul_comm];exact hd
 clear hd
 generalize U / y1=q at *
 generalize U % y1=r at *
 refine⟨hs,?_,?_,by omega⟩
 ·have h1:(U*4294967296+u1) / Y<q+1:=by
   rw [Nat.div_lt_iff_lt_mul (by omega),hY,Nat.add_mul,Nat.mul_add,Nat.one_mul,←Nat.mul_assoc]
   omega
  omega
 ·refine Nat.le_of_not_lt fun h=>?_
  have h2:=Nat.mul_le_mul_right y1 (show 4294967298≤q by omega)
  omega

theorem knuth_mul (hY:Y=y1*4294967296+y0)(h:q*y1+r=U):q*Y+r*4294967296=U*4294967296+q*y0:=by
 rw [hY,Nat.mul_add,←h,Nat.add_mul,←Nat.mul_assoc];omega

theorem knuth_lt (hu1:u1<4294967296)(hU:U<Y):(U*4294967296+u1) / Y<4294967296:=by
 rw [Nat.div_lt_iff_lt_mul (by omega)]
 omega

theorem knuth_down (hY:Y=y1*4294967296+y0)(hu1:u1<4294967296)(hU:U<Y)(k:Knuth U Y y1 u1 q r)
  (hc:4294967296≤q∨r*4294967296+u1<q*y0):1≤q∧(U*4294967296+u1) / Y≤q - 1∧(q - 1)*y1+(r+y1)=U:=by
 have hlt:(U*4294967296+u1) / Y<q:=by
  rcases hc with hc|hc
  ·have h9:=knuth_lt hu1 hU
   revert h9 hc
   generalize (U*4294967296+u1) / Y=z
   clear k hY hU hu1
   intro hc h9
   omega
  ·rw [Nat.div_lt_iff_lt_mul (by omega)]
   have:=knuth_mul hY k.sum
   refine Nat.lt_of_add_lt_add_right (n:=r*4294967296) ?_
   rw [this,Nat.add_assoc,Nat.add_comm u1]
   exact Nat.add_lt_add_left hc _
 have hge:1≤q:=Nat.lt_of_le_of_lt (Nat.zero_le _) hlt
 refine⟨hge,Nat.le_sub_one_of_lt hlt,?_⟩
 have hq:q - 1+1=q:=by omega
 have:=k.sum
 rw [←hq,Nat.add_mul,Nat.one_mul] at this
 omega

theorem knuth_stop (hY:Y=y1*4294967296+y0)(k:Knuth U Y y1 u1 q r)(hy:0<Y)(h:q*y0≤r*4294967296+u1):q=(U*4294967296+u1) / Y:=by
 have:=knuth_mul hY k.sum
 have h2:q≤(U*4294967296+u1) / Y:=by
  rw [Nat.le_div_iff_mul_le hy];omega
 exact Nat.le_antisymm h2 k.ge

theorem knuth_break (hY:Y=y1*4294967296+y0)(hy:0<Y)(hy0:y0<4294967296)(hs:q*y1+r=U)(hge:(U*4294967296+u1) / Y≤q)(hq:q≤4294967296)(hr:4294967296≤r) :
  q=(U*4294967296+u1) / Y:=by
 have:=knuth_mul hY hs
 have h1:q*y0≤4294967296*4294967296:=Nat.mul_le_mul hq (by omega)
 have h2:q≤(U*4294967296+u1) / Y:=by
  rw [Nat.le_div_iff_mul_le hy];omega
 exact Nat.le_antisymm h2 hge

theorem knuth_key (V t Y N u0 q1 q0 r1 r0:Nat)(hV:V*t=N*4294967296+u0)(d1:Y*q1+r1=N)(d0:Y*q0+r0=r1*4294967296+u0) :
  V*t=Y*(q1*4294967296+q0)+r0:=by
 rw [hV,←d1,Nat.mul_add Y,←Nat.mul_assoc]
 omega

theorem knuth_whole (V y s N u0 q1 q0:Nat)(hy:0<y)(hV:V*2 ^ s=N*4294967296+u0)
  (h1:q1=N / (y*2 ^ s)) (h0:q0=(N % (y*2 ^ s)*4294967296+u0) / (y*2 ^ s)) :
  q1*4294967296+q0=V / y∧(N % (y*2 ^ s)*4294967296+u0) % (y*2 ^ s) / 2 ^ s=V % y:=by
 have hp:=Nat.two_pow_pos s
 have hY:0<y*2 ^ s:=Nat.mul_pos hy hp
 have d1:=Nat.div_add_mod N (y*2 ^ s)
 have d0:=Nat.div_add_mod (N % (y*2 ^ s)*4294967296+u0) (y*2 ^ s)
 have l0:=Nat.mod_lt (N % (y*2 ^ s)*4294967296+u0) hY
 rw [←h1] at d1
 rw [←h0] at d0
 have key:=knuth_key V (2 ^ s) (y*2 ^ s) N u0 q1 q0 _ _ hV d1 d0
 have hq:V*2 ^ s / (y*2 ^ s)=q1*4294967296+q0:=by
  rw [key,Nat.mul_add_div hY,Nat.div_eq_of_lt l0,Nat.add_zero]
 have hr:V*2 ^ s % (y*2 ^ s)=(N % (y*2 ^ s)*4294967296+u0) % (y*2 ^ s):=by
  rw [key,Nat.mul_add_mod,Nat.mod_mod]
 rw [Nat.mul_div_mul_right _ _ hp] at hq
 rw [Nat.mul_mod_mul_right] at hr
 exact⟨hq.symm,by rw [←hr,Nat.mul_div_cancel _ hp]⟩

theorem shift_whole (hi lo s:Nat)(hs:s≤64) :
  (hi*18446744073709551616+lo)*2 ^ s=((hi*2 ^ s+lo / 2 ^ (64 - s))*4294967296+lo*2 ^ s % 18446744073709551616 / 4294967296)*4294967296+lo*2 ^ s % 18446744073709551616 % 4294967296:=by
 rw [shr_mul lo s hs,Nat.add_mul,Nat.mul_right_comm]
 generalize hi*2 ^ s=a
 generalize lo*2 ^ s=b
 omega

theorem norm_y (y:Nat)(h0:0<y)(hy:y<18446744073709551616):1≤Lib.bitLen y∧Lib.bitLen y≤64∧9223372036854775808≤y*2 ^ (64 - Lib.bitLen y)∧y*2 ^ (64 - Lib.bitLen y)<18446744073709551616:=by
 obtain⟨h1,h2,h3⟩:=Lib.bitLenAux_bounds 64 y hy (by omega)
 have h4:=Lib.bitLen_le y 64 (by omega) hy
 have h1':1≤Lib.bitLen y:=h1
 have h2':2 ^ (Lib.bitLen y - 1)≤y:=h2
 have h3':y<2 ^ Lib.bitLen y:=h3
 generalize Lib.bitLen y=k at *
 refine⟨h1',h4,?_,?_⟩
 ·have:=Nat.mul_le_mul_right (2 ^ (64 - k)) h2'
  rw [←Nat.pow_add,show k - 1+(64 - k)=63 by omega] at this
  exact this
 ·have:=(Nat.mul_lt_mul_right (Nat.two_pow_pos (64 - k))).2 h3'
  rw [←Nat.pow_add,show k+(64 - k)=64 by omega] at this
  exact this

end Lm
end Go.Proofs.YteehipcoeocojaaGreatDoor
namespace Go.Proofs.YteehipcoeocojaaGreatDoor
open Go.RowKit
open Lm

theorem ev (lo y:Nat)(w:World)(hy:y<18446744073709551616)(h0:0<y)(hlo:lo<18446744073709551616) :
  Calls Tryz.prog 108 #[.int .u64 0,.int .u64 lo,.int .u64 y] w fun e w'=>e=.returned (.tuple #[.int .u64 ((lo / y:Nat):Int),.int .u64 ((lo % y:Nat):Int)])∧ag w w':=by
 have hz:((y:Int) == 0)=false:=by rw [beq_eq_false_iff_ne];omega
 have hz2:decide ((y:Int)≤0)=false:=by simp;omega
 have e1:(lo:Int) / (y:Int)=((lo / y:Nat):Int):=(Int.natCast_ediv _ _).symm
 have e2:(lo:Int) % (y:Int)=((lo % y:Nat):Int):=(Int.natCast_emod _ _).symm
 have e3:(lo:Int).tdiv (y:Int)=((lo / y:Nat):Int):=rfl
 have e4:(lo:Int).tmod (y:Int)=((lo % y:Nat):Int):=rfl
 have b1:lo / y<18446744073709551616:=Nat.lt_of_le_of_lt (Nat.div_le_self _ _) hlo
 have b2:lo % y<18446744073709551616:=Nat.lt_of_le_of_lt (Nat.mod_le _ _) hlo
 generalize lo / y=a at *
 generalize lo % y=b at *
 have h1:(1:Int)≤(y:Int):=by omega
 go_enter Tryz.func108,Tryz.ntmps108
 go_wp2
 go_quiet (fail)
 go_wp2
 go_ret2
 exact⟨rfl,(ag.refl _).drewN _⟩

theorem bT (x s r:Nat)(h:x*2 ^ s % 18446744073709551616=r):IntKind.u64.wrap ((x:Int)*2 ^ s)=(r:Int):=by
 rw [IntKind.wrap_u64]
 have:((x:Int)*2 ^ s)=((x*2 ^ s:Nat):Int):=by rw [Int.natCast_mul,Int.natCast_pow];rfl
 rw [this];omega

theorem fi (a:Nat)(ha:a<18446744073709551616):bits BinOp.and IntKind.u64 (a:Int) 4294967295=((a % 4294967296:Nat):Int):=by
 have h:=bits_and_u64_nat a 4294967295 ha (by omega)
 rw [show a &&& 4294967295=a % 4294967296 from Nat.and_two_pow_sub_one_eq_mod a 32] at h
 exact h

theorem fp (h s l U:Nat)(hs:s≤64)(hl:l<2 ^ s)(hh:h*2 ^ s<18446744073709551616)(hU:U=h*2 ^ s+l):bits BinOp.or IntKind.u64 ((h*2 ^ s:Nat):Int) (l:Int)=(U:Int):=by
 have hll:l<18446744073709551616:=Nat.lt_of_lt_of_le hl (by rw [show (18446744073709551616:Nat)=2 ^ 64 from rfl];exact Nat.pow_le_pow_right (by omega) hs)
 rw [bits_or_u64_nat _ _ hh hll,hU,Nat.mul_comm h,Nat.two_pow_add_eq_or_of_lt hl]

theorem d9 (a b y q r:Nat)(hd:q*y+r=a*4294967296+b)(hr:r<18446744073709551616) :
  ∃a1 a2 a3:Nat,a1<18446744073709551616∧a2<18446744073709551616∧a3<18446744073709551616∧IntKind.u64.wrap ((a:Int)*4294967296)=(a1:Int)∧IntKind.u64.wrap ((a1:Int)+(b:Int))=(a2:Int) ∧
   IntKind.u64.wrap ((q:Int)*(y:Int))=(a3:Int)∧IntKind.u64.wrap ((a2:Int) - (a3:Int))=(r:Int):=by
 refine⟨a*4294967296 % 18446744073709551616,(a*4294967296 % 18446744073709551616+b) % 18446744073709551616,q*y % 18446744073709551616,Nat.mod_lt _ (by omega),Nat.mod_lt _ (by omega),Nat.mod_lt _ (by omega),?_,?_,?_,?_⟩
 ·rw [IntKind.wrap_u64];omega
 ·rw [IntKind.wrap_u64];omega
 ·rw [IntKind.wrap_u64,←Int.natCast_mul];omega
 ·rw [IntKind.wrap_u64]
  omega

theorem iz (hi lo y:Nat)(w:World)(hy:y<18446744073709551616)(hhi0:0<hi)(hhi:hi<y)(hlo:lo<18446744073709551616) :
  Calls Tryz.prog 108 #[.int .u64 hi,.int .u64 lo,.int .u64 y] w fun e w'=>e=.returned (.tuple #[.int .u64 (((hi*18446744073709551616+lo) / y:Nat):Int),.int .u64 (((hi*18446744073709551616+lo) % y:Nat):Int)])∧ag w w':=by
 have hz:((y:Int) == 0)=false:=by rw [beq_eq_false_iff_ne];omega
 have hz1:((hi:Int) == 0)=false:=by rw [beq_eq_false_iff_ne];omega
 have hz2:decide ((y:Int)≤(hi:Int))=false:=by simp;omega
 have HLZ:=Tryz.bits_LeadingZeros64 (y:Int) w (by omega) (by omega)
 rw [Int.toNat_natCast] at HLZ
 obtain⟨n1,n2,n3,n4⟩:=norm_y y (by omega) hy
 obtain⟨s,hs⟩:∃s,s=64 - Lib.bitLen y:=⟨_,rfl⟩
 have hsI:(64:Int) - (Lib.bitLen y:Int)=(s:Int):=by omega
 rw [hsI] at HLZ
 rw [←hs] at n3 n4
 have hs63:s≤63:=by omega
 clear hs hsI n1 n2
 have hp:=Nat.two_pow_pos s
 have hhy:(hi+1)*2 ^ s≤y*2 ^ s:=Nat.mul_le_mul_right _ hhi
 rw [Nat.add_mul,Nat.one_mul] at hhy
 have hl1:=shr_lt lo s (by omega) hlo
 have HVV:=aa (shift_whole hi lo s (by omega))
 have r1:=bT y s (y*2 ^ s) (Nat.mod_eq_of_lt n4)
 have r4:=bT hi s (hi*2 ^ s) (Nat.mod_eq_of_lt (by omega))
 have r7:=fp hi s (lo / 2 ^ (64 - s)) (hi*2 ^ s+lo / 2 ^ (64 - s)) (by omega) hl1 (by omega) rfl
 have r8:=bT lo s (lo*2 ^ s % 18446744073709551616) rfl
 have r6:=walk_shr lo (64 - s)
 have HK:=aa (fun N u0 q1 q0=>knuth_whole (hi*18446744073709551616+lo) y s N u0 q1 q0 (by omega))
 have hUY:hi*2 ^ s+lo / 2 ^ (64 - s)<y*2 ^ s:=by omega
 have hu10:lo*2 ^ s % 18446744073709551616<18446744073709551616:=Nat.mod_lt _ (by omega)
 have r5:(64:Int) - (s:Int)=((64 - s:Nat):Int):=by omega
 have ht:64 - s≤64:=by omega
 have ht0:1≤64 - s:=by omega
 generalize lo*2 ^ s % 18446744073709551616=u10 at *
 generalize hU:hi*2 ^ s+lo / 2 ^ (64 - s)=U at *
 generalize lo / 2 ^ (64 - s)=l1 at *
 generalize 64 - s=t at *
 have hh1:hi*2 ^ s<18446744073709551616:=by omega
 generalize hi*2 ^ s=h1 at *
 have r3:=fi (y*2 ^ s) n4
 have r10:=fi u10 hu10
 generalize y*2 ^ s=Y at *
 have r2:(Y:Int) / 4294967296=((Y / 4294967296:Nat):Int):=by omega
 have r9:(u10:Int) / 4294967296=((u10 / 4294967296:Nat):Int):=by omega
 have hY:Y=Y / 4294967296*4294967296+Y % 4294967296:=by omega
 have k1:2147483648≤Y / 4294967296:=by omega
 have k2:Y / 4294967296<4294967296:=by omega
 have k3:Y % 4294967296<4294967296:=by omega
 have k4:u10 / 4294967296<4294967296:=by omega
 have k5:u10 % 4294967296<4294967296:=by omega
 generalize Y / 4294967296=y1 at *
 generalize Y % 4294967296=y0 at *
 generalize u10 / 4294967296=u1 at *
 generalize u10 % 4294967296=u0 at *
 have HY:=aa hY
 have hl1W:l1<18446744073709551616:=by omega
 have HU:Hid (h1+l1=U):=aa hU
 clear hU hY hl1 hp hhy
 have KS:=aa (knuth_start HY.out k1 k2 k3 k4 hUY)
 have r11:(U:Int) / (y1:Int)=((U / y1:Nat):Int):=(Int.natCast_ediv _ _).symm
 have r12:((U / y1:Nat):Int)*(y1:Int)=((U / y1*y1:Nat):Int):=(Int.natCast_mul _ _).symm
 have d1:U / y1*y1+U % y1=U:=KS.out.sum
 have hUW:U<18446744073709551616:=by omega
 have b1:U / y1<18446744073709551616:=Nat.lt_of_le_of_lt (Nat.div_le_self _ _) hUW
 generalize U / y1*y1=p1 at *
 generalize U / y1=q at *
 generalize U % y1=r at *
 have r13:(U:Int) - (p1:Int)=(r:Int):=by omega
 have hp1:p1≤U:=by omega
 have hy1p:(1:Int)≤(y1:Int):=by omega
 have D1:=aa d1
 clear d1
 go_enter Tryz.func108,Tryz.ntmps108
 go_wp2_with fail
 refine HLZ.mono ?_
 rintro e w1 ⟨rfl,rfl⟩
 clear HLZ
 go_upto_block 0 with fail
 clear r1 r2 r3 r4 r5 r6 r7 r8 r9 r10 r11 r12 r13 hz hz1 hz2
 go_cut [15,16] from 67 to 85 (fun a _ wc=>a=.int .u64 (((U*4294967296+u1) / Y:Nat):Int)∧wc=w1)
 case first=>
  go_wp2_with fail
  go_loop [15,16] (fun a b=>∃q r:Nat,a=.int .u64 q∧b=.int .u64 r∧Knuth U Y y1 u1 q r) (fun a _=>(intOf a).toNat)
  case atStart=>exact⟨_,_,rfl,rfl,KS.out⟩
  case round=>
   obtain⟨q,r,rfl,rfl,K⟩:=hrel
   have hq:=K.few
   have hr:=K.small
   obtain⟨r',hr'⟩:∃r',r'=r+y1:=⟨_,rfl⟩
   have hrI:(r:Int)+(y1:Int)=(r':Int):=by omega
   obtain⟨m0,hm0⟩:∃m0,m0=4294967296*r:=⟨_,rfl⟩
   have hmI0:(4294967296:Int)*(r:Int)=(m0:Int):=by omega
   obtain⟨m,hm⟩:∃m,m=m0+u1:=⟨_,rfl⟩
   have hmI:(m0:Int)+(u1:Int)=(m:Int):=by omega
   have hmW:m<18446744073709551616:=by omega
   have hmW0:m0<18446744073709551616:=by omega
   have hrW:r'<18446744073709551616:=by omega
   have HM:=aa (show m=r*4294967296+u1 by omega)
   have HR:=aa hr'
   have hrb:4294967296≤r'∨r'<4294967296:=by omega
   clear hr' hm0 hm
   by_cases c1:4294967296≤q
   ·obtain⟨g1,g2,g3⟩:=knuth_down HY.out k4 hUY K (.inl c1)
    rw [←HR.out] at g3
    have G2:=aa g2
    have G3:=aa g3
    have i1:(4294967296:Int)≤(q:Int):=by omega
    have i2:(q:Int)≤4294967297:=by omega
    rcases hrb with c2|c2
    ·have HQ:=aa (knuth_break HY.out (by omega) k3 G3.out G2.out (by omega) c2)
     have i4:(4294967296:Int)≤(r':Int):=by omega
     clear g1 g2 g3 K c1 c2 hq hr
     go_wp2
     go_meet
     case rel=>exact⟨by rw [←HQ.out];go_num,rfl⟩
    ·have i4:(r':Int)<4294967296:=by omega
     have hb2:decide ((4294967296:Int)≤(r':Int))=false:=decide_eq_false (by omega)
     clear g1 g2 g3 K c1 c2 hq hr
     go_wp2
     go_round
     case rel=>exact⟨q - 1,r',by go_num,rfl,G3.out,G2.out,by omega,by omega⟩
     case measure=>simp [intOf];omega
   ·obtain⟨p,hp⟩:∃p,p=q*y0:=⟨_,rfl⟩
    have hpI:(q:Int)*(y0:Int)=(p:Int):=by rw [hp];exact (Int.natCast_mul _ _).symm
    have hpW:p<18446744073709551616:=by
     rw [hp]
     have:=Nat.mul_le_mul (show q≤4294967295 by omega) (show y0≤4294967295 by omega)
     omega
    have HP:=aa hp
    clear hp
    have i1:(q:Int)<4294967296:=by omega
    have hb1:decide ((4294967296:Int)≤(q:Int))=false:=decide_eq_false (by omega)
    by_cases c3:m<p
    ·obtain⟨g1,g2,g3⟩:=knuth_down HY.out k4 hUY K (.inr (by rw [←HP.out,←HM.out];exact c3))
     rw [←HR.out] at g3
     have G2:=aa g2
     have G3:=aa g3
     have i2:(m:Int)<(p:Int):=by omega
     have i5:(1:Int)≤(q:Int):=by omega
     rcases hrb with c2|c2
     ·have HQ:=aa (knuth_break HY.out (by omega) k3 G3.out G2.out (by omega) c2)
      have i4:(4294967296:Int)≤(r':Int):=by omega
      clear g1 g2 g3 K c1 c2 c3 hq hr
      go_wp2
      go_meet
      case rel=>exact⟨by rw [←HQ.out];go_num,rfl⟩
     ·have i4:(r':Int)<4294967296:=by omega
      have hb2:decide ((4294967296:Int)≤(r':Int))=false:=decide_eq_false (by omega)
      clear g1 g2 g3 K c1 c2 c3 hq hr
      go_wp2
      go_round
      case rel=>exact⟨q - 1,r',by go_num,rfl,G3.out,G2.out,by omega,by omega⟩
      case measure=>simp [intOf];omega
    ·have HQ:=aa (knuth_stop HY.out K (by omega) (by rw [←HP.out,←HM.out];omega))
     have i2:(p:Int)≤(m:Int):=by omega
     have hb3:decide ((m:Int)<(p:Int))=false:=decide_eq_false (by omega)
     have hb4:decide (m<p)=false:=decide_eq_false c3
     clear K c1 c3 hq hr hrb
     go_wp2
     go_meet
     case rel=>exact⟨by rw [←HQ.out],rfl⟩
 case rest=>
  obtain⟨rfl,hwc⟩:=hcut
  have hwc':=hwc.symm
  subst hwc'
  clear hwc
  have hRY:(U*4294967296+u1) % Y<Y:=Nat.mod_lt _ (by omega)
  have hQ1b:=knuth_lt k4 hUY
  have hd1:=Nat.div_add_mod (U*4294967296+u1) Y
  rw [Nat.mul_comm] at hd1
  obtain⟨R1,hR1⟩:∃R1,R1=(U*4294967296+u1) % Y:=⟨_,rfl⟩
  obtain⟨Q1,hQ1⟩:∃Q1,Q1=(U*4294967296+u1) / Y:=⟨_,rfl⟩
  rw [←hR1] at hRY hd1
  rw [←hQ1] at hd1 hQ1b ⊢
  obtain⟨a1,a2,a3,t1,t2,t3,s1,s2,s3,s4⟩:=d9 U u1 Y Q1 R1 hd1 (by omega)
  have HR1:=aa hR1
  have HQ1:=aa hQ1
  clear hR1 hQ1 hd1 KS D1
  have KS:=aa (knuth_start HY.out k1 k2 k3 k5 hRY)
  have r11:(R1:Int) / (y1:Int)=((R1 / y1:Nat):Int):=(Int.natCast_ediv _ _).symm
  have r12:((R1 / y1:Nat):Int)*(y1:Int)=((R1 / y1*y1:Nat):Int):=(Int.natCast_mul _ _).symm
  have d1:R1 / y1*y1+R1 % y1=R1:=KS.out.sum
  have hRW:R1<18446744073709551616:=by omega
  have b1':R1 / y1<18446744073709551616:=Nat.lt_of_le_of_lt (Nat.div_le_self _ _) hRW
  clear b1 hp1
  generalize R1 / y1*y1=p1' at *
  generalize R1 / y1=q' at *
  generalize R1 % y1=r' at *
  have r13:(R1:Int) - (p1':Int)=(r':Int):=by omega
  have hp1':p1'≤R1:=by omega
  clear d1
  go_upto_block 2 with fail
  clear r11 r12 r13 s1 s2 s3 s4 t1 t2 t3
  go_cut [18,16] from 102 to 120 (fun a _ wc=>a=.int .u64 (((R1*4294967296+u0) / Y:Nat):Int)∧wc=w1)
  case first=>
   go_wp2_with fail
   go_loop [18,16] (fun a b=>∃q r:Nat,a=.int .u64 q∧b=.int .u64 r∧Knuth R1 Y y1 u0 q r) (fun a _=>(intOf a).toNat)
   case atStart=>exact⟨_,_,rfl,rfl,KS.out⟩
   case round=>
    obtain⟨q,r,rfl,rfl,K⟩:=hrel
    have hq:=K.few
    have hr:=K.small
    obtain⟨r',hr'⟩:∃r',r'=r+y1:=⟨_,rfl⟩
    have hrI:(r:Int)+(y1:Int)=(r':Int):=by omega
    obtain⟨m0,hm0⟩:∃m0,m0=4294967296*r:=⟨_,rfl⟩
    have hmI0:(4294967296:Int)*(r:Int)=(m0:Int):=by omega
    obtain⟨m,hm⟩:∃m,m=m0+u0:=⟨_,rfl⟩
    have hmI:(m0:Int)+(u0:Int)=(m:Int):=by omega
    have hmW:m<18446744073709551616:=by omega
    have hmW0:m0<18446744073709551616:=by omega
    have hrW:r'<18446744073709551616:=by omega
    have HM:=aa (show m=r*4294967296+u0 by omega)
    have HR:=aa hr'
    have hrb:4294967296≤r'∨r'<4294967296:=by omega
    clear hr' hm0 hm
    by_cases c1:4294967296≤q
    ·obtain⟨g1,g2,g3⟩:=knuth_down HY.out k5 hRY K (.inl c1)
     rw [←HR.out] at g3
     have G2:=aa g2
     have G3:=aa g3
     have i1:(4294967296:Int)≤(q:Int):=by omega
     have i2:(q:Int)≤4294967297:=by omega
     rcases hrb with c2|c2
     ·have HQ:=aa (knuth_break HY.out (by omega) k3 G3.out G2.out (by omega) c2)
      have i4:(4294967296:Int)≤(r':Int):=by omega
      clear g1 g2 g3 K c1 c2 hq hr
      go_wp2
      go_meet
      case rel=>exact⟨by rw [←HQ.out];go_num,rfl⟩
     ·have i4:(r':Int)<4294967296:=by omega
      have hb2:decide ((4294967296:Int)≤(r':Int))=false:=decide_eq_false (by omega)
      clear g1 g2 g3 K c1 c2 hq hr
      go_wp2
      go_round
      case rel=>exact⟨q - 1,r',by go_num,rfl,G3.out,G2.out,by omega,by omega⟩
      case measure=>simp [intOf];omega
    ·obtain⟨p,hp⟩:∃p,p=q*y0:=⟨_,rfl⟩
     have hpI:(q:Int)*(y0:Int)=(p:Int):=by rw [hp];exact (Int.natCast_mul _ _).symm
     have hpW:p<18446744073709551616:=by
      rw [hp]
      have:=Nat.mul_le_mul (show q≤4294967295 by omega) (show y0≤4294967295 by omega)
      omega
     have HP:=aa hp
     clear hp
     have i1:(q:Int)<4294967296:=by omega
     have hb1:decide ((4294967296:Int)≤(q:Int))=false:=decide_eq_false (by omega)
     by_cases c3:m<p
     ·obtain⟨g1,g2,g3⟩:=knuth_down HY.out k5 hRY K (.inr (by rw [←HP.out,←HM.out];exact c3))
      rw [←HR.out] at g3
      have G2:=aa g2
      have G3:=aa g3
      have i2:(m:Int)<(p:Int):=by omega
      have i5:(1:Int)≤(q:Int):=by omega
      rcases hrb with c2|c2
      ·have HQ:=aa (knuth_break HY.out (by omega) k3 G3.out G2.out (by omega) c2)
       have i4:(4294967296:Int)≤(r':Int):=by omega
       clear g1 g2 g3 K c1 c2 c3 hq hr
       go_wp2
       go_meet
       case rel=>exact⟨by rw [←HQ.out];go_num,rfl⟩
      ·have i4:(r':Int)<4294967296:=by omega
       have hb2:decide ((4294967296:Int)≤(r':Int))=false:=decide_eq_false (by omega)
       clear g1 g2 g3 K c1 c2 c3 hq hr
       go_wp2
       go_round
       case rel=>exact⟨q - 1,r',by go_num,rfl,G3.out,G2.out,by omega,by omega⟩
       case measure=>simp [intOf];omega
     ·have HQ:=aa (knuth_stop HY.out K (by omega) (by rw [←HP.out,←HM.out];omega))
      have i2:(p:Int)≤(m:Int):=by omega
      have hb3:decide ((m:Int)<(p:Int))=false:=decide_eq_false (by omega)
      have hb4:decide (m<p)=false:=decide_eq_false c3
      clear K c1 c3 hq hr hrb
      go_wp2
      go_meet
      case rel=>exact⟨by rw [←HQ.out],rfl⟩
  case rest=>
   obtain⟨rfl,rfl⟩:=hcut
   have hRY0:(R1*4294967296+u0) % Y<Y:=Nat.mod_lt _ (by omega)
   have hQ0b:=knuth_lt k5 hRY
   have hd1:=Nat.div_add_mod (R1*4294967296+u0) Y
   rw [Nat.mul_comm] at hd1
   obtain⟨R0,hR0⟩:∃R0,R0=(R1*4294967296+u0) % Y:=⟨_,rfl⟩
   obtain⟨Q0,hQ0⟩:∃Q0,Q0=(R1*4294967296+u0) / Y:=⟨_,rfl⟩
   rw [←hR0] at hRY0 hd1
   rw [←hQ0] at hd1 hQ0b ⊢
   obtain⟨a1,a2,a3,t1,t2,t3,s1,s2,s3,s4⟩:=d9 R1 u0 Y Q0 R0 hd1 (by omega)
   have hfin:=HK.out (U*4294967296+u1) u0 Q1 Q0 HVV.out HQ1.out (by rw [←HR1.out];exact hQ0)
   rw [←HR1.out,←hR0] at hfin
   have f1:(Q1:Int)*4294967296+(Q0:Int)=(((hi*18446744073709551616+lo) / y:Nat):Int):=by rw [←hfin.1];omega
   have f2:(R0:Int) / 2 ^ s=(((hi*18446744073709551616+lo) % y:Nat):Int):=by rw [←hfin.2];exact walk_shr R0 s
   have F1:=aa f1
   have F2:=aa f2
   have hQQ:((Q1:Int)*4294967296+(Q0:Int))<18446744073709551616:=by omega
   clear hR0 hQ0 hd1 KS hfin HK HVV f1 f2
   go_wp2
   go_ret2
   rw [←F1.out,←F2.out]
   exact⟨rfl,ag.refl _⟩



theorem Ans.stored {w:World}{base g cap:Nat}{zs:List Nat}(h:Ans w base (.slice (some ⟨g,0,none⟩) zs.length cap) zs)(j z:Nat)(hz:z<18446744073709551616):Ans (w.setCell ⟨g,j,none⟩ (.int .u64 (z:Int))) base (.slice (some ⟨g,0,none⟩) (zs.set j z).length cap) (zs.set j z):=by
 refine⟨?_,limbs_set h.limbs _ _ hz⟩
 have:=(h.own.stored j (.int .u64 (z:Int))).1
 rw [List.length_set,List.map_set]
 exact this

def over (rows:Nat→List Nat)(m:Nat):List Nat:=List.replicate (rows m).length (m % 251+1)



theorem Ans.slice {w:World}{base:Nat}{v:Value}{zs:List Nat}(h:Ans w base v zs):∃ao n cap,v=.slice ao n cap:=by
 rcases h.form with ⟨rfl,_⟩|⟨g,cap,rfl,_⟩
 ·exact⟨_,_,_,rfl⟩
 ·exact⟨_,_,_,rfl⟩

theorem bj {w a b:World}(h:Hid (Below w.heap.size w a))(hb:Below a.heap.size a b):Hid (Below w.heap.size w b):=h.out.trans (hb.mono h.out.size)

theorem ag.top {a b:World}(h:ag a b):Below a.heap.size a b:=h.below _

theorem Res.few {w:World}{base:Nat}{v:Value}{c:Int}{rs:List Nat}{s:Nat}(_:Ans w base v rs)(h:(c=0∧val rs=s∧tr rs=rs∧blen s≤67108864)∨(c=3∧rs=[]∧67108864<blen s)):rs.length≤1048576:=by
 rcases h with ⟨_,hv,ht,hs⟩|⟨_,rfl,_⟩
 ·have:=few_limbs rs 1048576 (by rw [hv];omega)
  rwa [ht] at this
 ·simp
end Go.Proofs.YteehipcoeocojaaGreatDoor
namespace Go.Proofs.YteehipcoeocojaaGreatDoor
open Go.RowKit
open Lm
attribute [local go_sem ↓] Go.wp_at_zero Go.wp_at_succ

theorem dV (w:World):Calls Tryz.prog 31 #[.int .i64 16] w fun e w'=>e=.returned (.bool true)∧w'=w:=by
 go_enter Tryz.func31,Tryz.ntmps31
 go_wp2
 go_ret
 exact⟨rfl,rfl⟩

theorem dT (w:World)(hT:Tab w):Calls Tryz.prog 56 #[.int .u64 16] w fun e w'=>e=.returned (.int .i64 4)∧w'=w:=by
 have H:=dk 16 4 w (by omega) ⟨by decide,by decide⟩ hT
 clear hT
 go_enter Tryz.func56,Tryz.ntmps56
 go_wp2_with fail
 refine H.mono ?_
 rintro e wn ⟨rfl,hw⟩;rw [hw];clear hw wn H
 go_wp2
 go_ret
 exact⟨rfl,rfl⟩

theorem kH (w:World):Calls Tryz.prog 58 #[.int .u64 255,.int .u64 16] w fun e w'=>e=.returned (.int .i64 2)∧w'=w:=by
 go_enter Tryz.func58,Tryz.ntmps58
 go_wp2
 refine wp_loop_rounds 2 ?_
 rw [rounds_succ]
 go_wp2
 rw [rounds_succ]
 go_wp2
 go_ret
 exact⟨rfl,rfl⟩

theorem fE (w:World):Calls Tryz.prog 79 #[.int .i64 16] w fun e w'=>e=.returned (.tuple #[.int .i64 15,.int .u64 1152921504606846976])∧w'=w:=by
 go_enter Tryz.func79,Tryz.ntmps79
 go_wp2
 refine wp_loop_rounds 16 ?_
 iterate 16
  rw [rounds_succ]
  go_wp2
 go_returns
 exact⟨rfl,rfl⟩

theorem mA (va:Value)(X:List Nat)(w:World)(hA:Arg w va X)(hT:Tab w)(hX:val X=255)(hl:X.length=1) :
  Calls Tryz.prog 34 #[va,.int .i64 16] w fun e w'=>e=.returned (.int .i64 2)∧w'=w:=by
 have L1:=ar va X w hA
 rw [hX,show blen 255=8 from rfl] at L1
 have T1:=dT w hT
 have S1:=fk va X w hA
 have ht:(tr X).length≤1:=Nat.le_trans (tr_length_le X) (by omega)
 rw [if_pos ht,decide_eq_true ht] at S1
 have hg:(tr X).getD 0 0=255:=by
  have h2:=val_tr X
  rw [hX] at h2
  match h:tr X,ht,h2 with
  | [],_,h2=>simp [val] at h2
  | [a],_,h2=>simpa [val] using h2
  | a :: b :: c,h1,_=>simp at h1
 rw [hg] at S1
 have C1:=kH w
 clear hA hT hX hl ht hg
 go_enter Tryz.func34,Tryz.ntmps34
 go_wp2_with fail
 refine L1.mono ?_
 rintro e wn ⟨rfl,hw⟩;rw [hw];clear hw wn L1
 go_wp2_with fail
 refine T1.mono ?_
 rintro e wn ⟨rfl,hw⟩;rw [hw];clear hw wn T1
 go_wp2_with fail
 refine S1.mono ?_
 rintro e wn ⟨rfl,hw⟩;rw [hw];clear hw wn S1
 go_wp2_with fail
 refine C1.mono ?_
 rintro e wn ⟨rfl,hw⟩;rw [hw];clear hw wn C1
 go_wp2
 go_ret
 exact⟨rfl,rfl⟩

theorem Ans.cellAt5 {w:World}{base g cap:Nat}{zs:List Nat}(h:Ans w base (.slice (some ⟨g,0,none⟩) zs.length cap) zs):(zs.length≤cap∧cap≤9223372036854775807)∧(∀k,w.frozen? ⟨g,k,none⟩=false)∧∀k,k<zs.length→w.cell? ⟨g,k,none⟩=some (.int .u64 ((zs.getD k 0:Nat):Int)):=by
 rcases h.form with ⟨e,_⟩|⟨g',cap',e,_,_,h1,h2,h3,h4⟩
 ·cases e
 ·cases e
  exact⟨⟨h1,h2⟩,h3,h4⟩

theorem aO {w:World}{h k:Nat}{cs:Array Value}{t:TypeId}(e:w.heap[h]?=some (.cells cs t))(u:Value):(w.setCell ⟨h,k,none⟩ u).heap[h]?=some (.cells (cs.setIfInBounds k u) t):=by
 have hlt:=lt_of_block e
 have h':w.heap[h]=.cells cs t:=by simpa [Array.getElem?_eq_getElem hlt] using e
 show (w.heap.modify h _)[h]?=_
 rw [Array.getElem?_eq_getElem (by simpa using hlt),Array.getElem_modify_self,h']
 rfl

theorem j6 {w:World}{g k:Nat}{u v:Value}(h:w.cell? ⟨g,k,none⟩=some v):(w.setCell ⟨g,k,none⟩ u).cell? ⟨g,k,none⟩=some u:=by
 simp only [World.cell?] at h ⊢
 rcases hh:w.heap[g]? with _|o
 ·simp [hh] at h
 ·cases o with
  | cells cs t fz=>
   have hlt:=lt_of_block hh
   have h':w.heap[g]=.cells cs t fz:=by simpa [Array.getElem?_eq_getElem hlt] using hh
   have:(w.setCell ⟨g,k,none⟩ u).heap[g]?=some (.cells (cs.setIfInBounds k u) t fz):=by
    show (w.heap.modify g _)[g]?=_
    rw [Array.getElem?_eq_getElem (by simpa using hlt),Array.getElem_modify_self,h']
    rfl
   simp [this]
   simp [hh] at h
   have hk:k<cs.size:=by
    rcases Nat.lt_or_ge k cs.size with h2|h2
    ·exact h2
    ·simp [Array.getElem?_eq_none h2] at h
   simp [hk]
  | _=>simp [hh] at h

theorem kL (w:World):Calls Tryz.prog 108 #[.int .u64 0,.int .u64 255,.int .u64 1152921504606846976] w fun e w'=>e=.returned (.tuple #[.int .u64 0,.int .u64 255])∧ag w w':=
 ev 255 1152921504606846976 w (by omega) (by omega) (by omega)

theorem ma (base g cap:Nat)(w:World)(hA:Ans w base (.slice (some ⟨g,0,none⟩) 1 cap) [255]) :
  Calls Tryz.prog 81 #[.slice (some ⟨g,0,none⟩) 1 cap,.int .u64 1152921504606846976] w fun e w'=>e=.returned (.tuple #[.slice (some ⟨g,0,none⟩) 0 cap,.int .u64 255])∧Below base w w':=by
 have HA:=aa hA
 obtain⟨⟨hc1,hc2⟩,hf,hc⟩:=Ans.cellAt5 (zs:=[255]) hA
 have hc0:=hc 0 (by simp)
 rw [show ((([255]:List Nat).getD 0 0:Nat):Int)=255 from rfl] at hc0
 have hbg:base≤g:=(hA.own.lt g rfl).1
 simp only [List.length_singleton] at hc1
 have HD:=kL w
 clear hA hc hf
 go_enter Tryz.func81,Tryz.ntmps81
 go_wp2
 refine wp_loop_rounds 2 ?_
 rw [rounds_succ]
 go_wp2_with fail
 refine HD.mono ?_
 rintro e w1 ⟨rfl,hsm⟩
 have A1:=HA.out.below (hsm.below w.heap.size)
 obtain⟨_,hf1,hc1'⟩:=Ans.cellAt5 (zs:=[255]) A1
 have hc0':=hc1' 0 (by simp)
 rw [show ((([255]:List Nat).getD 0 0:Nat):Int)=255 from rfl] at hc0'
 have HB:=aa ((hsm.below base).setCell (p:=⟨g,0,none⟩) hbg (.int .u64 0))
 have hc2':=j6 (u:=.int .u64 0) hc0'
 clear HD A1 hsm hc1' hc0
 go_wp2
 rw [rounds_succ]
 go_wp2
 go_returns
 exact⟨rfl,HB.out⟩

theorem kB (gd:Nat)(va:Value)(X:List Nat)(w:World)(hA:Arg w va X)(hX:tr X=[255])(hl:X.length≤1000)(hd:w.heap[gd]?=some (.cells #[.int .u8 0,.int .u8 0] 5)) :
  Calls Tryz.prog 54 #[.slice (some ⟨gd,0,none⟩) 2 2,va,.int .i64 16] w fun e w'=>e=.returned (.tuple #[])∧w'.heap[gd]?=some (.cells #[.int .u8 15,.int .u8 15] 5)∧Below gd w w':=by
 have HU:=fE w
 have HN:=cz va X w hA (by omega)
 rw [hX] at HN
 have HD:=aa hd
 have hlt:=lt_of_block hd
 clear hA hX hd
 go_enter Tryz.func54,Tryz.ntmps54
 go_wp2_with fail
 refine HU.mono ?_
 rintro e wn ⟨rfl,hw⟩;rw [hw];clear hw wn HU
 go_wp2_with fail
 refine HN.mono ?_
 rintro e w1 ⟨⟨v1,rfl,A1⟩,hb1⟩
 obtain⟨g,cap,rfl⟩:∃g cap,v1=.slice (some ⟨g,0,none⟩) 1 cap:=by
  rcases A1.form with ⟨_,e⟩|⟨g,cap,e,_⟩
  ·cases e
  ·exact⟨g,cap,e⟩
 have HS:=ma w.heap.size g cap w1 A1
 have HB1:=aa hb1
 clear HN A1 hb1
 go_wp2
 refine wp_loop_rounds 2 ?_
 rw [rounds_succ]
 go_wp2_with fail
 refine HS.mono ?_
 rintro e w2 ⟨rfl,hb2⟩
 have hb:=HB1.out.trans hb2
 have hd2:w2.heap[gd]?=some (.cells #[.int .u8 0,.int .u8 0] 5):=by rw [hb.block gd hlt];exact HD.out
 have c0:w2.cell? ⟨gd,0,none⟩=some (.int .u8 0):=by simp [World.cell?,hd2]
 have c1:w2.cell? ⟨gd,1,none⟩=some (.int .u8 0):=by simp [World.cell?,hd2]
 have hf:∀k,w2.frozen? ⟨gd,k,none⟩=false:=fun k=>by simp [World.frozen?,hd2]
 have HB2:=aa (hb.mono (Nat.le_of_lt hlt))
 have HD2:=aa hd2
 clear HS hb hb2 hd2
 go_wp2
 refine wp_loop_rounds 3 ?_
 rw [rounds_succ]
 go_wp2
 rw [rounds_succ]
 go_wp2
 rw [rounds_succ]
 go_wp2
 rw [rounds_succ]
 go_wp2
 go_end0
 have s1:=aO (k:=1) HD2.out (.int .u8 15)
 have s0:=aO (k:=0) s1 (.int .u8 15)
 exact⟨rfl,s0,(HB2.out.setCell (p:=⟨gd,1,none⟩) (Nat.le_refl _) _).setCell (p:=⟨gd,0,none⟩) (Nat.le_refl _) _⟩

theorem kZ (h:15<(ByteArray.mk #[48,49,50,51,52,53,54,55,56,57,97,98,99,100,101,102,103,104,105,106,107,108,109,110,111,112,113,114,115,116,117,118,119,120,121,122]).size):(ByteArray.mk #[48,49,50,51,52,53,54,55,56,57,97,98,99,100,101,102,103,104,105,106,107,108,109,110,111,112,113,114,115,116,117,118,119,120,121,122])[15]=102:=rfl

theorem iP (h:15<(ByteArray.mk #[48,49,50,51,52,53,54,55,56,57,97,98,99,100,101,102,103,104,105,106,107,108,109,110,111,112,113,114,115,116,117,118,119,120,121,122]).size):(ByteArray.mk #[48,49,50,51,52,53,54,55,56,57,97,98,99,100,101,102,103,104,105,106,107,108,109,110,111,112,113,114,115,116,117,118,119,120,121,122])[15].toNat=102:=rfl

attribute [local go_sem] kZ iP

theorem iW (gd:Nat)(w:World)(hd:w.heap[gd]?=some (.cells #[.int .u8 102,.int .u8 102] 5)) :
  (convert 67 9 (.slice (some ⟨gd,0,none⟩) 2 2)).run Tryz.prog w=.ok (.string ⟨#[102,102]⟩) w:=by
 have c0:w.cell? ⟨gd,0,none⟩=some (.int .u8 102):=by simp [World.cell?,hd]
 have c1:w.cell? ⟨gd,1,none⟩=some (.int .u8 102):=by simp [World.cell?,hd]
 rw [run_convert_bytes_string w 67 9 5 _ _ _ Tryz.underlying67 Tryz.underlying5 Tryz.underlying9]
 rw [run_bytesToString w _ 2 2 [102,102] (by simp [go_sem,loadCells,loadCellsFrom,c0,c1,Addr.add])]
 rfl

theorem kd (gd:Nat)(w:World)(hd:w.heap[gd]?=some (.cells #[.int .u8 15,.int .u8 15] 5)) :
  Calls Tryz.prog 32 #[.slice (some ⟨gd,0,none⟩) 2 2] w fun e w'=>e=.returned (.string ⟨#[102,102]⟩)∧Below gd w w':=by
 have c0:w.cell? ⟨gd,0,none⟩=some (.int .u8 15):=by simp [World.cell?,hd]
 have c1:w.cell? ⟨gd,1,none⟩=some (.int .u8 15):=by simp [World.cell?,hd]
 have hf:∀k,w.frozen? ⟨gd,k,none⟩=false:=fun k=>by simp [World.frozen?,hd]
 have s1:=aO (k:=0) hd (.int .u8 102)
 have s0:=aO (k:=1) s1 (.int .u8 102)
 have hconv:=iW gd _ s0
 have HB:=aa (((Below.refl gd w).setCell (p:=⟨gd,0,none⟩) (Nat.le_refl _) (.int .u8 102)).setCell (p:=⟨gd,1,none⟩) (Nat.le_refl _) (.int .u8 102))
 clear hd s0 s1
 go_enter Tryz.func32,Tryz.ntmps32
 go_wp2
 refine wp_loop_rounds 3 ?_
 rw [rounds_succ]
 go_wp2
 rw [rounds_succ]
 go_wp2
 rw [rounds_succ]
 go_wp2
 go_ret
 exact⟨rfl,HB.out⟩
end Go.Proofs.YteehipcoeocojaaGreatDoor
namespace Go.Proofs.YteehipcoeocojaaGreatDoor
open Go.RowKit
open Lm
attribute [local go_sem ↓] Go.wp_at_zero Go.wp_at_succ

theorem Tryz.infoB:(Tryz.prog.info? 5).map (fun i=>(i.zero,i.size,i.bytes))=some (some (.int .u8 0),1,1):=by kernel_rfl

theorem fl (w:World)(hT:Tab w):Calls Tryz.prog 51 #[.int .i64 16,.int .i64 2] w fun e w'=>e=.returned (.slice none 0 0)∧w'=w:=by
 have T1:=dT w hT
 have HLN:=Tryz.bits_Len 1 w (by omega) (by omega)
 rw [show Lib.bitLen (1:Int).toNat=1 from rfl] at HLN
 clear hT
 go_enter Tryz.func51,Tryz.ntmps51
 go_wp2
 refine wp_loop_rounds 1 ?_
 rw [rounds_succ]
 go_wp2_with fail
 refine T1.mono ?_
 rintro e wn ⟨rfl,hw⟩;rw [hw];clear hw wn T1
 go_wp2_with fail
 refine HLN.mono ?_
 rintro e wn ⟨rfl,hw⟩;rw [hw];clear hw wn HLN
 go_wp2
 refine wp_loop_rounds 1 ?_
 rw [rounds_succ]
 go_wp2
 go_ret
 exact⟨rfl,rfl⟩

theorem eZ (w:World):Calls Tryz.prog 53 #[.slice none 0 0,.int .i64 2] w fun e w'=>e=.returned (.tuple #[.agg #[.int .i64 0,.slice none 0 0,.int .i64 0],.bool false])∧Below w.heap.size w w':=by
 have hb:Below w.heap.size w (w.alloc (.cells #[.int .i64 0,.slice none 0 0,.int .i64 0] 88)):=(Below.refl _ _).alloc (Nat.le_refl _) _
 have HB:=aa hb
 clear hb
 go_enter Tryz.func53,Tryz.ntmps53
 go_wp2
 refine wp_loop_rounds 1 ?_
 rw [rounds_succ]
 go_wp2
 go_returns
 exact⟨rfl,HB.out⟩

theorem cP {P:Program}(w:World)(a:Addr)(m:Mode)(f:Fn)(x y:Array Value):(store a (.func f x y) m).run P w=stored P w a (.func f x y) m:=run_store P w a _ m rfl

attribute [local go_sem] cP

theorem bp {w w':World}{g o:Nat}{v:Value}(hb:Below w.heap.size w w')(h:w.cell? ⟨g,o,none⟩=some v):w'.cell? ⟨g,o,none⟩=some v:=by
 rw [hb.cell (p:=⟨g,o,none⟩) ?_]
 ·exact h
 ·show g<w.heap.size
  rcases Nat.lt_or_ge g w.heap.size with h' | h'
  ·exact h'
  ·simp [World.cell?,Array.getElem?_eq_none h'] at h

theorem aw {w w':World}{g:Nat}{x:Obj}(hb:Below w.heap.size w w')(h:w.heap[g]?=some x):w'.heap[g]?=some x:=by
 rw [hb.block g (lt_of_block h)];exact h

theorem bh {w:World}{h:Nat}{a:Value}{t:TypeId}(e:w.heap[h]?=some (.cells #[a] t)):w.cell? ⟨h,0,none⟩=some a:=by simp [World.cell?,e]

theorem ab (w:World)(o:Obj):Below w.heap.size w (w.alloc o):=(Below.refl _ _).alloc (Nat.le_refl _) _

theorem dj {w:World}{base n g:Nat}(h:w.ownsRow base 5 1 (.slice (some ⟨g,0,none⟩) n n) n (madeCells (Value.int .u8 0).cells (n*1)).toList):w.heap[g]?=some (.cells (List.replicate n (Value.int .u8 0)).toArray 5):=by
 obtain⟨_,h2⟩:=h
 rcases h2 with ⟨h2,_⟩|⟨g',cap,cur,hv,_,hh,_,_,hs,ht⟩
 ·cases h2
 ·cases hv
  rw [hh]
  have e:cur.toList=List.replicate n (Value.int .u8 0):=by
   have:cur.toList.take (n*1)=cur.toList:=List.take_of_length_le (by simp;omega)
   rw [←this,ht]
   show (madeCells #[Value.int .u8 0] (n*1)).toList=_
   rw [toList_madeCells_one,Nat.mul_one]
  rw [←e]

theorem jy (gl gb gw gd:Nat)(va:Value)(X:List Nat)(w:World)(hA:Arg w va X)(hX:tr X=[255])(hl:X.length≤1000)(hd:w.heap[gd]?=some (.cells #[.int .u8 0,.int .u8 0] 5))(cl:w.cell? ⟨gl,0,none⟩=some (.slice none 0 0))(cb:w.cell? ⟨gb,0,none⟩=some (.int .i64 16)) :
  Calls Tryz.prog 52 #[.slice (some ⟨gd,0,none⟩) 2 2,va,.pointer (some ⟨gl,0,none⟩),.pointer (some ⟨gb,0,none⟩),.pointer (some ⟨gw,0,none⟩)] w fun e w'=>e=.returned (.tuple #[])∧w'.heap[gd]?=some (.cells #[.int .u8 15,.int .u8 15] 5)∧Below gd w w':=by
 have HG:=eZ w
 have hlt:=lt_of_block hd
 have FW:=aa (fun (w2:World) (hb:Below w.heap.size w w2)=>kB gd va X w2 (hA.below hb) hX hl (aw hb hd))
 clear hA hX hd
 go_enter Tryz.func52,Tryz.ntmps52
 go_wp2_with fail
 refine HG.mono ?_
 rintro e w1 ⟨rfl,hb1⟩
 obtain⟨w2,hw2⟩:∃w2,w1.alloc (.cells #[.int .i64 0,.slice none 0 0,.int .i64 0] 88)=w2:=⟨_,rfl⟩
 have hb12:Below w1.heap.size w1 w2:=by rw [←hw2];exact ab _ _
 have hb2:=hb1.trans (hb12.mono hb1.size)
 have cb2:=bp hb2 cb
 rw [←hw2] at cb2
 have F2:=FW.out w2 hb2
 have HB2:=aa (hb2.mono (Nat.le_of_lt hlt))
 have HW2:=aa hw2
 clear HG hb1 hb12 hb2 FW hw2
 go_wp2_with fail
 rw [HW2.out]
 refine F2.mono ?_
 rintro e w3 ⟨rfl,hd3,hb3⟩
 have HD:=aa (And.intro hd3 (HB2.out.trans hb3))
 clear F2 hd3 hb3 cb2
 go_wp2
 go_returns
 exact⟨rfl,HD.out.1,HD.out.2⟩

theorem lg (va:Value)(X:List Nat)(w:World)(hA:Arg w va X)(hT:Tab w)(hX:tr X=[255])(hl:X.length=1) :
  Calls Tryz.prog 33 #[va,.int .i64 16] w fun e w'=>(∃g,e=.returned (.slice (some ⟨g,0,none⟩) 2 2)∧w.heap.size≤g∧w'.heap[g]?=some (.cells #[.int .u8 15,.int .u8 15] 5))∧Below w.heap.size w w':=by
 obtain⟨i0,hi,hz0,hz1,hz2⟩:=info_parts Tryz.infoB
 obtain⟨w0,hw0⟩:∃w0,w.alloc (.cells #[.int .i64 16] 3)=w0:=⟨_,rfl⟩
 have hb0:Below w.heap.size w w0:=by rw [←hw0];exact ab _ _
 have hs0:w0.heap.size=w.heap.size+1:=by rw [←hw0];exact World.size_alloc _ _
 have cb:w0.cell? ⟨w.heap.size,0,none⟩=some (.int .i64 16):=bh (by rw [←hw0];exact heap_alloc_new ..)
 have hv:val X=255:=by rw [←val_tr X,hX];rfl
 have HC:=mA va X w0 (hA.below hb0) (hT.below hb0) hv hl
 have HA:=aa hA
 have HT:=aa hT
 have HW0:=aa hw0
 have HB0:=aa hb0
 have HS0:=aa hs0
 have HX:=aa (And.intro hX hl)
 clear hA hT hw0 hb0 hX hl hv hs0
 go_enter Tryz.func33,Tryz.ntmps33
 go_wp2_with fail
 rw [HW0.out]
 refine HC.mono ?_
 rintro e wn ⟨rfl,hw⟩;rw [hw];clear hw wn HC
 go_wp2_with (at_make;refine wpList_make_full _ rfl _ _ 67 rfl w0.heap.size 5 i0 (.int .u8 0) 1 Tryz.underlying67 hi hz0 hz1 .i64 .i64 _ _ 2 rfl rfl (by rfl) (by rfl) (by rw [hz2];omega) (by unfold maxLen;omega) (Nat.le_refl _) ?_;intro w1 hown hgrow;have hb1:Below w0.heap.size w0 w1:=(Below.refl w0.heap.size w0).grown hgrow (Nat.le_refl _) (fun k hk=>by cases hk);have cb1:=bp hb1 cb)
 have hd1:w1.heap[w0.heap.size]?=some (.cells #[.int .u8 0,.int .u8 0] 5):=dj (n:=2) hown
 have HBB:=bj HB0 hb1
 have HP:=fl w1 (HT.out.below HBB.out)
 obtain⟨gd,hgd⟩:∃gd,w0.heap.size=gd:=⟨_,rfl⟩
 rw [hgd] at hd1
 have hgdw:w.heap.size≤gd:=by have:=HS0.out;omega
 have HD1:=aa hd1
 have HGD:=aa hgd
 clear hown hgrow hi hz0 hz1 hz2 hb1 cb hd1 hgd
 go_wp2_with fail
 rw [HGD.out]
 refine HP.mono ?_
 rintro e wn ⟨rfl,hw⟩;rw [hw];clear hw wn HP
 obtain⟨w2,hw2⟩:∃w2,w1.alloc (.cells #[.slice none 0 0] 84)=w2:=⟨_,rfl⟩
 have hs2:w2.heap.size=w1.heap.size+1:=by rw [←hw2];exact World.size_alloc _ _
 obtain⟨w3,hw3⟩:∃w3,w2.alloc (.cells #[.func (.func 52) #[] #[.pointer (some ⟨w1.heap.size,0,none⟩),.pointer (some ⟨w.heap.size,0,none⟩),.pointer (some ⟨w1.heap.size+1,0,none⟩)]] 86)=w3:=⟨_,rfl⟩
 have hb2:Below w1.heap.size w1 w2:=by rw [←hw2];exact ab _ _
 have hb3:Below w2.heap.size w2 w3:=by rw [←hw3];exact ab _ _
 have hb13:=hb2.trans (hb3.mono hb2.size)
 have cl:=bp hb3 (bh (show w2.heap[w1.heap.size]?=some (.cells #[.slice none 0 0] 84) by rw [←hw2];exact heap_alloc_new ..))
 have cb3:=bp hb13 cb1
 have cw:w3.cell? ⟨w1.heap.size+1,0,none⟩=some (.func (.func 52) #[] #[.pointer (some ⟨w1.heap.size,0,none⟩),.pointer (some ⟨w.heap.size,0,none⟩),.pointer (some ⟨w1.heap.size+1,0,none⟩)]):=bh (t:=86) (by
  have h:=heap_alloc_new w2 (.cells #[.func (.func 52) #[] #[.pointer (some ⟨w1.heap.size,0,none⟩),.pointer (some ⟨w.heap.size,0,none⟩),.pointer (some ⟨w1.heap.size+1,0,none⟩)]] 86)
  rw [hs2,hw3] at h
  exact h)
 have HBB3:=bj HBB hb13
 have FW:=jy w1.heap.size w.heap.size (w1.heap.size+1) gd va X w3 (HA.out.below HBB3.out) HX.out.1 (by have:=HX.out.2;omega) (aw hb13 HD1.out) cl cb3
 have HW3:=aa (show (w1.alloc (.cells #[.slice none 0 0] 84)).alloc (.cells #[.func (.func 52) #[] #[.pointer (some ⟨w1.heap.size,0,none⟩),.pointer (some ⟨w.heap.size,0,none⟩),.pointer (some ⟨w1.heap.size+1,0,none⟩)]] 86)=w3 by rw [hw2,hw3])
 rw [←HW3.out] at cw
 clear hb2 hb3 hb13 cl cb3 hw2 hw3 hs2 cb1
 go_wp2_with fail
 rw [HW3.out]
 refine FW.mono ?_
 rintro e w4 ⟨rfl,hd4,hb4⟩
 have HD:=aa (And.intro hd4 (HBB3.out.trans (hb4.mono hgdw)))
 clear FW hd4 hb4 cw
 go_wp2
 go_ret
 exact⟨⟨gd,rfl,hgdw,HD.out.1⟩,HD.out.2⟩

theorem mt (va:Value)(X:List Nat)(w:World)(hA:Arg w va X)(hT:Tab w)(hX:tr X=[255])(hl:X.length=1) :
  Calls Tryz.prog 11 #[va,.int .i64 16] w fun e w'=>e=.returned (.tuple #[.string ⟨#[102,102]⟩,.int .i64 0])∧Below w.heap.size w w':=by
 have HI:=dV w
 have HW:=lg va X w hA hT hX hl
 clear hA hT hX hl
 go_enter Tryz.func11,Tryz.ntmps11
 go_wp2_with fail
 refine HI.mono ?_
 rintro e wn ⟨rfl,hw⟩;rw [hw];clear hw wn HI
 go_wp2_with fail
 refine HW.mono ?_
 rintro e w1 ⟨⟨g,rfl,hg,hd⟩,hb⟩
 have HT:=kd g w1 hd
 have HB:=aa hb
 clear HW hd hb
 go_wp2_with fail
 refine HT.mono ?_
 rintro e w2 ⟨rfl,hb⟩
 have HB2:=aa (HB.out.trans (hb.mono hg))
 clear HT hb
 go_wp2
 go_returns
 exact⟨rfl,HB2.out⟩
end Go.Proofs.YteehipcoeocojaaGreatDoor
namespace Go.Proofs.YteehipcoeocojaaGreatDoor
open Go.RowKit
open Lm
attribute [local go_sem ↓] Go.wp_at_zero Go.wp_at_succ

theorem ak {w:World}{h:Nat}{a b:Value}{t:TypeId}(e:w.heap[h]?=some (.cells #[a,b] t)):w.cell? ⟨h,0,none⟩=some a∧w.cell? ⟨h,1,none⟩=some b:=
 ⟨by simp [World.cell?,e],by simp [World.cell?,e]⟩

theorem bI {w:World}{h:Nat}{a b:Value}{t:TypeId}(e:w.heap[h]?=some (.cells #[a,b] t)):∀k,w.frozen? ⟨h,k,none⟩=false:=fun k=>by simp [World.frozen?,e]

theorem lz1 (w:World):Calls Tryz.prog 122 #[.int .u64 1] w fun e w'=>e=.returned (.int .i64 63)∧w'=w:=
 Tryz.bits_LeadingZeros64 1 w (by omega) (by omega)

theorem lf (w:World):Calls Tryz.prog 122 #[.int .u64 16] w fun e w'=>e=.returned (.int .i64 59)∧w'=w:=
 Tryz.bits_LeadingZeros64 16 w (by omega) (by omega)

theorem fa (w:World):Calls Tryz.prog 112 #[.int .u64 1] w fun e w'=>e=.returned (.agg #[.int .u64 9223372036854775808,.int .i64 (-63)])∧Below w.heap.size w w':=by
 have HB:=aa (ab w (.cells #[.int .u64 9223372036854775808,.int .i64 (-63)] 128))
 go_enter Tryz.func112,Tryz.ntmps112
 go_wp2_with fail
 refine (lz1 _).mono ?_
 rintro e wn ⟨rfl,hw⟩;rw [hw];clear hw wn
 go_wp2
 go_returns
 exact⟨rfl,HB.out⟩

theorem ir (w:World):Calls Tryz.prog 112 #[.int .u64 16] w fun e w'=>e=.returned (.agg #[.int .u64 9223372036854775808,.int .i64 (-59)])∧Below w.heap.size w w':=by
 have HB:=aa (ab w (.cells #[.int .u64 9223372036854775808,.int .i64 (-59)] 128))
 go_enter Tryz.func112,Tryz.ntmps112
 go_wp2_with fail
 refine (lf _).mono ?_
 rintro e wn ⟨rfl,hw⟩;rw [hw];clear hw wn
 go_wp2
 go_returns
 exact⟨rfl,HB.out⟩

theorem mm (w:World):Calls Tryz.prog 97 #[.int .u64 9223372036854775808,.int .u64 9223372036854775808] w fun e w'=>e=.returned (.tuple #[.int .u64 4611686018427387904,.int .u64 0])∧w'=w:=
 Tryz.bits_Mul64 9223372036854775808 9223372036854775808 (by omega) (by omega) w

theorem fw (e1 e2 e3 e4 e5:Int)(w:World)(h1:e1+e2=e3)(h2:e3+64=e4)(h3:e4 - 1=e5)(b1:-1000≤e3)(b2:e3≤1000) :
  Calls Tryz.prog 113 #[.agg #[.int .u64 9223372036854775808,.int .i64 e1],.agg #[.int .u64 9223372036854775808,.int .i64 e2]] w fun e w'=>e=.returned (.agg #[.int .u64 9223372036854775808,.int .i64 e5])∧Below w.heap.size w w':=by
 have ba:=ab w (.cells #[.int .u64 9223372036854775808,.int .i64 e1] 128)
 have bb:=ab (w.alloc (.cells #[.int .u64 9223372036854775808,.int .i64 e1] 128)) (.cells #[.int .u64 9223372036854775808,.int .i64 e2] 128)
 have bc:=ab ((w.alloc (.cells #[.int .u64 9223372036854775808,.int .i64 e1] 128)).alloc (.cells #[.int .u64 9223372036854775808,.int .i64 e2] 128)) (.cells #[.int .u64 9223372036854775808,.int .i64 e5] 128)
 have bab:=ba.trans (bb.mono ba.size)
 have HB:=aa (bab.trans (bc.mono bab.size))
 have w3:IntKind.i64.wrap e3=e3:=by rw [IntKind.wrap_i64];omega
 have w4:IntKind.i64.wrap e4=e4:=by rw [IntKind.wrap_i64];omega
 have w5:IntKind.i64.wrap e5=e5:=by rw [IntKind.wrap_i64];omega
 clear ba bb bc bab
 go_enter Tryz.func113,Tryz.ntmps113
 go_wp2_with fail
 refine (mm _).mono ?_
 rintro e wn ⟨rfl,hw⟩;rw [hw];clear hw wn
 go_wp2
 go_returns
 exact⟨rfl,HB.out⟩

def dY (w:World)(g:Nat)(l:List (Nat × Value × Nat)):Prop:=∀(i d:Nat) (o:Value) (s:Nat),l[i]?=some (d,o,s)→w.cell? ⟨g,i*3,none⟩=some (.int .i64 d)∧w.cell? ⟨g,i*3+1,none⟩=some o∧w.cell? ⟨g,i*3+2,none⟩=some (.int .i64 s)∧d≤9223372036854775807∧s≤9223372036854775807∧∃a n c,o=.slice a n c

def bd (w:World)(v:Value)(l:List (Nat × Value × Nat)):Prop:=
 (v=.slice none 0 0∧l=[])∨∃g cap,v=.slice (some ⟨g,0,none⟩) l.length cap∧g<w.heap.size∧l.length≤cap∧cap≤9223372036854775807 ∧
  dY w g l

def dD (l:List (Nat × Value × Nat))(n:Nat)(w:World)(e:Ending)(w':World):Prop:=
 ((∃(i d:Nat) (o:Value) (s:Nat),l[i]?=some (d,o,s)∧d<n∧(∀(j d':Nat) (o':Value) (s':Nat),i<j→l[j]?=some (d',o',s')→n≤d')∧e=.returned (.tuple #[.agg #[.int .i64 d,o,.int .i64 s],.bool true])) ∨
  ((∀(j d':Nat) (o':Value) (s':Nat),l[j]?=some (d',o',s')→n≤d')∧e=.returned (.tuple #[.agg #[.int .i64 0,.slice none 0 0,.int .i64 0],.bool false])))∧Below w.heap.size w w'

theorem tri {w:World}{h:Nat}{a b c:Value}{t:TypeId}(e:w.heap[h]?=some (.cells #[a,b,c] t)):w.cell? ⟨h,0,none⟩=some a∧w.cell? ⟨h,1,none⟩=some b∧w.cell? ⟨h,2,none⟩=some c:=
 ⟨by simp [World.cell?,e],by simp [World.cell?,e],by simp [World.cell?,e]⟩

theorem fh {w:World}{h:Nat}{a b c:Value}{t:TypeId}(e:w.heap[h]?=some (.cells #[a,b,c] t)):∀k,w.frozen? ⟨h,k,none⟩=false:=fun k=>by simp [World.frozen?,e]

theorem gt {w:World}{h:Nat}{a b c a' b' c':Value}{t:TypeId}(e:w.heap[h]?=some (.cells #[a,b,c] t)):(((w.setCell ⟨h,0,none⟩ a').setCell ⟨h,1,none⟩ b').setCell ⟨h,2,none⟩ c').heap[h]?=some (.cells #[a',b',c'] t):=
 aO (aO (aO e a') b') c'

theorem dW {B:Nat}{w0 w:World}{g:Nat}{u0 u1 u2:Value}(h:Below B w0 w)(hg:B≤g):Below B w0 (((w.setCell ⟨g,0,none⟩ u0).setCell ⟨g,1,none⟩ u1).setCell ⟨g,2,none⟩ u2):=
 ((h.setCell (p:=⟨g,0,none⟩) hg u0).setCell (p:=⟨g,1,none⟩) hg u1).setCell (p:=⟨g,2,none⟩) hg u2

theorem la (g cap n:Nat)(l:List (Nat × Value × Nat))(w:World)(hg:g<w.heap.size)(hc:l.length≤cap)(hcm:cap≤9223372036854775807)
  (hl:dY w g l) :
  Calls Tryz.prog 53 #[.slice (some ⟨g,0,none⟩) l.length cap,.int .i64 n] w (dD l n w):=by
 obtain⟨w0,hw0⟩:∃w0,w.alloc (.cells #[.int .i64 0,.slice none 0 0,.int .i64 0] 88)=w0:=⟨_,rfl⟩
 have hb0:Below w.heap.size w w0:=by rw [←hw0];exact ab _ _
 have h0:w0.heap[w.heap.size]?=some (.cells #[.int .i64 0,.slice none 0 0,.int .i64 0] 88):=by rw [←hw0];exact heap_alloc_new ..
 have HL:=aa hl
 have HB0:=aa hb0
 have H0:=aa h0
 have HW0:=aa hw0
 clear hl hb0 h0
 go_enter Tryz.func53,Tryz.ntmps53
 go_wp2
 clear hw0
 go_loop [6] (fun i=>∃k:Nat,k≤l.length∧i=.int .i64 ((k:Int) - 1)∧∀(j d':Nat) (o':Value) (s':Nat),k≤j→l[j]?=some (d',o',s')→n≤d') (fun i=>(intOf i+1).toNat)
 case atStart=>exact⟨l.length,Nat.le_refl _,rfl,fun j d' o' s' h1 h2=>by rw [List.getElem?_eq_none h1] at h2;cases h2⟩
 case round=>
  obtain⟨k,hk,rfl,hall⟩:=hrel
  have HA:=aa hall
  clear hall
  by_cases hk0:k=0
  ·subst hk0
   obtain⟨d0,d1,d2⟩:=tri H0.out
   have hf:=fh H0.out
   have R5:=gt H0.out (a':=.int .i64 0) (b':=.slice none 0 0) (c':=.int .i64 0)
   have HD:=aa (dW HB0.out (g:=w.heap.size) (u0:=.int .i64 0) (u1:=.slice none 0 0) (u2:=.int .i64 0) (Nat.le_refl _))
   go_wp2
   generalize ((w0.setCell ⟨w.heap.size,0,none⟩ (.int .i64 0)).setCell ⟨w.heap.size,1,none⟩ (.slice none 0 0)).setCell ⟨w.heap.size,2,none⟩ (.int .i64 0)=w5 at *
   obtain⟨q0,q1,q2⟩:=tri R5
   clear d0 d1 d2 hf
   refine bodyPost_ret (v:=.tuple #[.agg #[.int .i64 0,.slice none 0 0,.int .i64 0],.bool false]) (by simp [results,Tryz.results53,go_sem,q0,q1,q2]) rfl ?_
   exact⟨.inr ⟨fun j d' o' s' h=>HA.out j d' o' s' (Nat.zero_le _) h,rfl⟩,HD.out⟩
  ·obtain⟨j,rfl⟩:∃j,k=j+1:=⟨k - 1,by omega⟩
   have ej:(((j+1:Nat):Int) - 1)=(j:Int):=by omega
   rw [ej]
   have hjl:j<l.length:=by omega
   obtain⟨d,o,s,hd⟩:∃d o s,l[j]?=some (d,o,s):=⟨_,_,_,List.getElem?_eq_getElem hjl⟩
   obtain⟨c0,c1,c2,hdm,hsm,a,n',c',rfl⟩:=HL.out j d o s hd
   rw [←HB0.out.cell (p:=⟨g,j*3,none⟩) hg] at c0
   rw [←HB0.out.cell (p:=⟨g,j*3+1,none⟩) hg] at c1
   rw [←HB0.out.cell (p:=⟨g,j*3+2,none⟩) hg] at c2
   have hj0:(0:Int)≤(j:Int):=by omega
   have hjl':(j:Int)<(l.length:Int):=by omega
   by_cases hdn:d<n
   ·have hi:(d:Int)<(n:Int):=by omega
    obtain⟨d0,d1,d2⟩:=tri H0.out
    have hf:=fh H0.out
    have R5:=gt H0.out (a':=.int .i64 d) (b':=.slice a n' c') (c':=.int .i64 s)
    have HD:=aa (dW HB0.out (g:=w.heap.size) (u0:=.int .i64 d) (u1:=.slice a n' c') (u2:=.int .i64 s) (Nat.le_refl _))
    have HR:=aa hd
    clear hd
    go_wp2
    generalize ((w0.setCell ⟨w.heap.size,0,none⟩ (.int .i64 d)).setCell ⟨w.heap.size,1,none⟩ (.slice a n' c')).setCell ⟨w.heap.size,2,none⟩ (.int .i64 s)=w5 at *
    obtain⟨q0,q1,q2⟩:=tri R5
    clear d0 d1 d2 hf c0 c1 c2
    refine bodyPost_ret (v:=.tuple #[.agg #[.int .i64 d,.slice a n' c',.int .i64 s],.bool true]) (by simp [results,Tryz.results53,go_sem,q0,q1,q2]) rfl ?_
    exact⟨.inl ⟨j,d,_,s,HR.out,hdn,fun i d' o' s' h1 h2=>HA.out i d' o' s' (by omega) h2,rfl⟩,HD.out⟩
   ·have hi:¬((d:Int)<(n:Int)):=by omega
    go_wp2
    go_round
    case rel=>
     refine⟨j,by omega,rfl,fun i d' o' s' h1 h2=>?_⟩
     rcases Nat.lt_or_ge j i with h3|h3
     ·exact HA.out i d' o' s' (by omega) h2
     ·obtain rfl:i=j:=by omega
      rw [hd] at h2
      cases h2
      omega
    case measure=>simp [intOf]

theorem lO (n:Nat)(w:World):Calls Tryz.prog 53 #[.slice none 0 0,.int .i64 n] w (dD [] n w):=by
 have HB:=aa (ab w (.cells #[.int .i64 0,.slice none 0 0,.int .i64 0] 88))
 go_enter Tryz.func53,Tryz.ntmps53
 go_wp2
 refine wp_loop_rounds 1 ?_
 rw [rounds_succ]
 go_wp2
 go_returns
 exact⟨.inr ⟨fun j d' o' s' h=>by simp at h,rfl⟩,HB.out⟩

theorem dl (v:Value)(n:Nat)(l:List (Nat × Value × Nat))(w:World)(h:bd w v l):Calls Tryz.prog 53 #[v,.int .i64 n] w (dD l n w):=by
 rcases h with ⟨rfl,rfl⟩|⟨g,cap,rfl,hg,hc,hcm,hl⟩
 ·exact lO n w
 ·exact la g cap n l w hg hc hcm hl

theorem fI (n:Nat):(Builtin.zeroCells (Value.int .u64 0).cells n).size=n:=by
 simp [Builtin.zeroCells,Value.cells]

theorem lp (n:Nat)(w:World)(hn:0<n)(hm:n≤17592186044416) :
  Calls Tryz.prog 127 #[.slice none 0 0,.int .i64 n] w fun e w'=>(∃cap,e=.returned (.slice (some ⟨w.heap.size,0,none⟩) 0 cap)∧w'.ownsRow w.heap.size 63 1 (.slice (some ⟨w.heap.size,0,none⟩) 0 cap) 0 [])∧Below w.heap.size w w':=by
 obtain⟨i0,hi,hz0,hz1,hz2⟩:=info_parts Tryz.infoU
 have i1:¬((n:Int)<0):=by omega
 have i2:(0:Int)<(n:Int):=by omega
 have HR:=Lib.run_append_nil_zeros (P:=Tryz.prog) w 23 3 23 63 i0 (.int .u64 0) .i64 .i64 Tryz.underlying23 Tryz.underlying3 hi hz0 n hn (by omega) (by omega) (by rw [hz2];omega)
 have hge:=grownCap_ge w n 0 63
 have hml:=grownCap_le_maxLen w n 0 63 (by unfold maxLen;omega)
 obtain⟨cap,hcap⟩:∃cap,grownCap w n 0 63=cap:=⟨_,rfl⟩
 rw [hcap] at HR hge hml
 obtain⟨w1,hw1⟩:∃w1,w.drew.alloc (.cells (Builtin.zeroCells (Value.int .u64 0).cells n ++ Builtin.zeroCells (Value.int .u64 0).cells (cap - n)) 63)=w1:=⟨_,rfl⟩
 have HO:Hid (w1.ownsRow w.heap.size 63 1 (.slice (some ⟨w.heap.size,0,none⟩) 0 cap) 0 []):=by
  refine⟨rfl,.inr ⟨w.heap.size,cap,_,rfl,Nat.le_refl _,by rw [←hw1];exact heap_alloc_new _ _,Nat.zero_le _,hml,?_,by simp⟩⟩
  rw [Array.size_append,fI,fI]
  omega
 have HB:Hid (Below w.heap.size w w1):=by
  rw [←hw1]
  exact (Below.refl w.heap.size w).drew.alloc (Nat.le_refl _) _
 rw [hw1] at HR
 clear hw1 hi hz0 hz1 hz2 hcap hml
 go_enter Tryz.func127,Tryz.ntmps127
 go_wp2_with (at_builtin;refine Lib.wpList_append_run _ rfl _ _ _ _ rfl _ _ rfl rfl _ _ HR ?_)
 go_wp2
 go_ret
 exact⟨⟨cap,rfl,HO.out⟩,HB.out⟩

theorem jY (gs:Nat)(ad:Addr)(c:Nat)(X:List Nat)(w:World)(hg:w.heap[gs]?=some (.cells #[.slice (some ad) X.length c,.slice none 0 0] 23))(hA:Arg w (.slice (some ad) X.length c) X)(hX:0<X.length)(hm:X.length≤17592186044416) :
  Calls Tryz.prog 110 #[.slice (some ⟨gs,0,none⟩) 2 2] w fun e w'=>(∃v',e=.returned v'∧Ans w' w.heap.size v' X)∧Below w.heap.size w w':=by
 obtain⟨i0,hi,hz0,hz1,hz2⟩:=info_parts Tryz.infoU
 have HL:=aa hA.limbs
 have c0:w.cell? ⟨gs,0,none⟩=some (.slice (some ad) X.length c):=by simp [World.cell?,hg]
 have c1:w.cell? ⟨gs,1,none⟩=some (.slice none 0 0):=by simp [World.cell?,hg]
 have HG:=aa hg
 have HA:=aa hA
 have C:=lp X.length w hX hm
 have i1:¬((X.length:Int)<0):=by omega
 clear hg hA
 go_enter Tryz.func110,Tryz.ntmps110
 go_wp2
 refine wp_loop_rounds 3 ?_
 rw [rounds_succ]
 go_wp2
 rw [rounds_succ]
 go_wp2
 rw [rounds_succ]
 go_wp2_with fail
 refine C.mono ?_
 rintro e w1 ⟨⟨cap,rfl,hown⟩,hb⟩
 have hA1:=HA.out.below hb
 have hg1:=(hb.block gs (lt_of_block HG.out)).trans HG.out
 have d0:w1.cell? ⟨gs,0,none⟩=some (.slice (some ad) X.length c):=by simp [World.cell?,hg1]
 have hnews:∀j u,(X.map lv)[j]?=some u→w1.cell? (ad.add j)=some u:=by
  intro j u hj
  obtain⟨_,_,e,_,_,hl⟩:=hA1.form
  cases e
  rcases hl with rfl|⟨b,off,he,hc⟩
  ·simp at hj
  ·cases he
   rw [List.getElem?_map] at hj
   obtain⟨z,hz,rfl⟩:=Option.map_eq_some_iff.1 hj
   have hjl:j<X.length:=(List.getElem?_eq_some_iff.1 hz).1
   have:=hc j hjl
   simp only [List.getD,hz,Option.getD_some] at this
   rw [mG]
   exact this
 have HB:=aa hb
 have HG1:=aa hg1
 have HOW:=aa hown
 have hle:=hb.size
 clear C c0 c1 hA1 hg1 hb hown HA HG1
 go_wp2
 refine wp_loop_rounds 3 ?_
 rw [rounds_succ]
 go_wp2_with (at_builtin;refine wpList_append_own _ rfl _ _ 23 rfl w.heap.size 63 i0 (.int .u64 0) 1 8 Tryz.underlying23 hi hz0 hz1 hz2 rfl (by decide) _ 0 [] rfl HOW.out ad X.length c (X.map lv) rfl (by simp) hnews (cu X) (by unfold maxLen;omega) (by omega) hle ?_;intro v' w2 hown2 hgrow _)
 rw [Nat.zero_add,List.nil_append] at hown2
 have HB2:Hid (Below w.heap.size w w2):=(HB.out).grown hgrow hle (fun g hg=>(HOW.out.lt g hg).1)
 have HO2:=aa hown2
 clear hnews d0 hgrow HOW
 have d1:w2.cell? ⟨gs,1,none⟩=some (.slice none 0 0):=by
  have hg2:=(HB2.out.block gs (lt_of_block HG.out)).trans HG.out
  simp [World.cell?,hg2]
 rw [rounds_succ]
 go_wp2_with (at_builtin;refine wpList_append_own_none rfl _ _ 23 rfl w.heap.size 63 i0 1 Tryz.underlying23 hi _ X.length (X.map lv) rfl HO2.out rfl ?_)
 rw [rounds_succ]
 go_wp2
 go_ret
 exact⟨⟨_,rfl,HO2.out,HL.out⟩,HB2.out⟩
end Go.Proofs.YteehipcoeocojaaGreatDoor

