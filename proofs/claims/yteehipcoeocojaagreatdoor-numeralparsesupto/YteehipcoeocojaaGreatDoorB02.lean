/- Package nat: Tail, as far as which limb it tells; the table of math/bits. -/
import Derived.Test.YteehipcoeocojaaGreatDoorB01
import Derived.Laws.Bits128
import Derived.Laws.AppendOwnNone
import Derived.Deep.CutBlock
import Derived.Deep.DeepCutAuto
import Derived.Maps.AppendAt
import Derived.LoopN
import Derived.Handy
set_option maxRecDepth 20000
set_option maxHeartbeats 1000000
namespace Go.Proofs.YteehipcoeocojaaGreatDoor
open Go.RowKit
open Lm
attribute [local go_sem ↓] Go.wp_at_zero Go.wp_at_succ

def az:List Nat:=[0,1,56,2,57,49,28,3,61,58,42,50,38,29,17,4,62,47,59,36,45,43,51,22,53,39,33,30,24,18,12,5,63,55,48,27,60,41,37,16,46,35,44,21,52,32,23,11,54,26,40,15,34,20,31,10,25,14,19,9,13,8,7,6]

theorem fB (i:Nat):az.getD i 0<64:=by
 by_cases h:i<64
 ·have:∀j:Fin 64,az.getD j.1 0<64:=by decide
  exact this ⟨i,h⟩
 ·have:az.length≤i:=by show 64≤i;omega
  simp [List.getD,this]

def Tab (w:World):Prop:=1<w.heap.size∧∀i,i<64→w.cell? ⟨1,i,none⟩=some (.int .u8 ((az.getD i 0:Nat):Int))

theorem Tab.below {w w':World}(h:Tab w)(hb:Below w.heap.size w w'):Tab w':=
 ⟨Nat.lt_of_lt_of_le h.1 hb.size,fun i hi=>by rw [hb.cell (p:=⟨1,i,none⟩) h.1];exact h.2 i hi⟩

theorem gh (x:Nat)(w:World)(h0:x≠0)(hT:Tab w) :
  Calls Tryz.prog 84 #[.int .u64 x] w fun e w'=>(∃t:Nat,t<64∧e=.returned (.int .i64 (t:Int)))∧w'=w:=by
 have hd:((x:Int) == 0)=false:=by rw [beq_eq_false_iff_ne];omega
 obtain⟨j,hj,ej⟩:∃j:Nat,j<64∧IntKind.u64.wrap (bits BinOp.and IntKind.u64 (x:Int) (IntKind.u64.wrap (-(x:Int)))*285870213051353865) / 288230376151711744=(j:Int):=by
  generalize bits BinOp.and IntKind.u64 (x:Int) (IntKind.u64.wrap (-(x:Int)))*285870213051353865=y
  refine⟨(IntKind.u64.wrap y / 288230376151711744).toNat,?_,?_⟩ <;> (rw [IntKind.wrap_u64];omega)
 have hc:=hT.2 j hj
 have ht:=fB j
 generalize az.getD j 0=t at *
 have hj2:(j:Int)<64:=by omega
 have hj3:(0:Int)≤(j:Int):=by omega
 clear hT
 go_enter Tryz.func84,Tryz.ntmps84
 go_wp2
 go_ret
 exact⟨⟨t,ht,rfl⟩,rfl⟩

def an:List Nat→Nat
 | []=>0
 | z :: r=>if z=0 then (if val r=0 then 0 else an r+1) else 0

theorem go (X:List Nat)(k:Nat)(h:k<X.length)(h1:val (X.take k)=0)(h2:X.getD k 0≠0):an X=k:=by
 induction X generalizing k with
 | nil=>simp at h
 | cons z r ih=>
  cases k with
  | zero=>
   have:z≠0:=by simpa using h2
   simp [an,this]
  | succ k=>
   rw [List.take_succ_cons,val] at h1
   have hz:z=0:=by omega
   have hr:val (r.take k)=0:=by omega
   rw [List.getD_cons_succ] at h2
   have hk:k<r.length:=by simpa using h
   have hv:val r≠0:=by
    intro e
    have h3:=val_take_succ r k hk
    have h4:val r=val (r.take (k+1))+18446744073709551616 ^ (k+1)*val (r.drop (k+1)):=by
     conv=>lhs;rw [←List.take_append_drop (k+1) r,val_append]
     rw [List.length_take,Nat.min_eq_left hk]
    rw [h4,h3] at e
    have h5:18446744073709551616 ^ k*r.getD k 0=0:=by omega
    rcases Nat.mul_eq_zero.1 h5 with h6|h6
    ·exact absurd h6 (Nat.pos_iff_ne_zero.1 (Nat.pow_pos (by omega)))
    ·exact h2 h6
   rw [an,if_pos hz,if_neg hv,ih k hk hr h2]

theorem gY (X:List Nat)(h:val X=0):an X=0:=by
 cases X with
 | nil=>rfl
 | cons z r=>
  rw [val] at h
  rw [an,if_pos (by omega),if_pos (by omega)]

theorem b5 (v:Value)(X:List Nat)(w:World)(hA:Arg w v X)(hT:Tab w) :
  Calls Tryz.prog 102 #[v] w fun e w'=>(∃t:Nat,t<64∧e=.returned (.int .i64 ((an X*64+t:Nat):Int)))∧w'=w:=by
 obtain⟨a1,c1,rfl,hcc1,hcm1,hl1⟩:=hA.form
 have M1:=hA.limbs
 have hX:=hA.few
 clear hA
 have HT:=aa hT
 clear hT
 go_enter Tryz.func102,Tryz.ntmps102
 go_wp2
 go_loopw [7] (fun i wr=>∃k:Nat,k≤X.length∧i=.int .i64 k∧wr=w∧val (X.take k)=0) (fun i _=>X.length - (intOf i).toNat)
 case atStart=>exact⟨0,Nat.zero_le _,rfl,rfl,by simp [val]⟩
 case round=>
  obtain⟨k,hk,rfl,rfl,hval⟩:=hrel
  have HV:=aa hval
  clear hval
  by_cases hkl:k<X.length
  ·rcases hl1 with h0|⟨b,off,rfl,hcell⟩
   ·rw [h0] at hkl;simp at hkl
   ·have hck:=hcell k hkl
    have z1:=limb_lt M1 k
    by_cases hz:X.getD k 0=0
    ·rw [hz] at hck
     have HV2:Hid (val (X.take (k+1))=0):=aa (by rw [val_take_succ X k hkl,HV.out,hz];simp)
     clear hcell hz
     go_wp2
     go_roundw
     case rel=>exact⟨k+1,by omega,by go_num,trivial,HV2.out⟩
     case measure=>simp [intOf];omega
    ·have HK:=aa (go X k hkl HV.out hz)
     have H:=gh (X.getD k 0) wr hz HT.out
     have hne:((X.getD k 0:Int) == 0)=false:=by rw [beq_eq_false_iff_ne];omega
     have hne2:((X.getD k 0:Int) != 0)=true:=by rw [bne,hne];rfl
     generalize X.getD k 0=x at *
     clear hcell
     go_wp2_with fail
     refine H.mono ?_
     rintro e w2 ⟨⟨t,ht,rfl⟩,hw⟩
     subst hw
     clear H
     go_wp2
     go_ret
     refine⟨⟨t,ht,?_⟩,rfl⟩
     rw [HK.out]
     exact congrArg (fun i=>Ending.returned (Value.int IntKind.i64 i)) (by omega)
  ·have ek:k=X.length:=by omega
   subst ek
   rw [List.take_length] at HV
   have HK:=aa (gY X HV.out)
   clear hl1
   go_wp2
   go_ret
   exact⟨⟨0,by omega,by rw [HK.out];rfl⟩,rfl⟩
end Go.Proofs.YteehipcoeocojaaGreatDoor
namespace Go.Proofs.YteehipcoeocojaaGreatDoor
open Go.RowKit
open Lm

def aI (x t:Nat):Prop:=x % 2 ^ t=0∧x / 2 ^ t % 2=1

theorem dI (t m:Nat):aI (2 ^ t*(2*m+1)) t:=by
 refine⟨Nat.mul_mod_right _ _,?_⟩
 rw [Nat.mul_div_cancel_left _ (Nat.two_pow_pos t)]
 omega

theorem cT {x t:Nat}(h:aI x t):x=2 ^ t*(2*(x / 2 ^ t / 2)+1):=by
 have h1:=Nat.div_add_mod x (2 ^ t)
 rw [h.1,Nat.add_zero] at h1
 have h2:=Nat.div_add_mod (x / 2 ^ t) 2
 rw [h.2] at h2
 rw [h2];exact h1.symm

theorem fJ (x:Nat)(h:x≠0):∃t,aI x t:=by
 induction x using Nat.strongRecOn with
 | ind x ih=>
  by_cases h2:x % 2=1
  ·exact⟨0,by simp [Nat.mod_one],by simpa using h2⟩
  ·obtain⟨t,ht⟩:=ih (x / 2) (by omega) (by omega)
   refine⟨t+1,?_⟩
   have e:=cT ht
   generalize x / 2 / 2 ^ t / 2=m at e
   have e2:x=2 ^ (t+1)*(2*m+1):=by
    rw [Nat.pow_succ,Nat.mul_comm (2 ^ t) 2,Nat.mul_assoc,←e];omega
   rw [e2];exact dI _ _

theorem cC {x t n:Nat}(h:aI x t)(hx:x<2 ^ n):t<n:=by
 refine Nat.lt_of_not_le fun hn=>?_
 have:2 ^ n≤2 ^ t:=Nat.pow_le_pow_right (by omega) hn
 have h2:=h.2
 rw [Nat.div_eq_of_lt (by omega)] at h2
 omega

theorem jy (x t:Nat)(h:aI x t)(hx:x<18446744073709551616):x &&& (18446744073709551616 - x)=2 ^ t:=by
 have e:=cT h
 generalize x / 2 ^ t / 2=m at e
 have hp:=Nat.two_pow_pos t
 have e1:x=2 ^ t*(2*m+1)+0:=by rw [Nat.add_zero];exact e
 have e2:x - 1=2 ^ t*(2*m)+(2 ^ t - 1):=by rw [e,Nat.mul_add,Nat.mul_one];omega
 have h0:0<x:=by rw [e];exact Nat.mul_pos hp (by omega)
 have e3:18446744073709551616 - x=2 ^ 64 - ((x - 1)+1):=by omega
 have hlt:=cC (n:=64) h hx
 refine Nat.eq_of_testBit_eq fun j=>?_
 rw [Nat.testBit_and,e3,Nat.testBit_two_pow_sub_succ (by omega),Nat.testBit_two_pow,e2]
 conv=>lhs;lhs;rw [e1]
 rw [Nat.testBit_two_pow_mul_add _ hp,Nat.testBit_two_pow_mul_add _ (by omega)]
 by_cases hj:j<t
 ·have:t≠j:=by omega
  simp [hj,this]
 ·rw [if_neg hj,if_neg hj]
  obtain⟨s,rfl⟩:∃s,j=t+s:=⟨j - t,by omega⟩
  rw [Nat.add_sub_cancel_left]
  cases s with
  | zero=>
   have e0:(2*m).testBit 0=false:=by simp [Nat.testBit_zero]
   have e4:(2*m+1).testBit 0=true:=by simp [Nat.testBit_zero]
   rw [e0,e4]
   have h64:t+0<64:=by omega
   simp [hlt]
  | succ s=>
   have e4:(2*m+1).testBit (s+1)=m.testBit s:=by rw [Nat.testBit_succ];congr 1;omega
   have e5:(2*m).testBit (s+1)=m.testBit s:=by rw [Nat.testBit_succ];congr 1;omega
   rw [e4,e5]
   cases m.testBit s <;> simp

theorem jb:∀t:Fin 64,az.getD (2 ^ t.1*285870213051353865 % 18446744073709551616 / 288230376151711744) 0=t.1:=by decide +kernel

theorem cV (x t:Nat)(w:World)(hx:x<18446744073709551616)(h:aI x t)(hT:Tab w) :
  Calls Tryz.prog 84 #[.int .u64 x] w fun e w'=>e=.returned (.int .i64 (t:Int))∧w'=w:=by
 have hlt:=cC (n:=64) h hx
 have h0:x≠0:=by
  intro e;subst e
  have:=h.2
  simp at this
 have hd:((x:Int) == 0)=false:=by rw [beq_eq_false_iff_ne];omega
 have hand:=jy x t h hx
 have hw:IntKind.u64.wrap (-(x:Int))=((18446744073709551616 - x:Nat):Int):=by rw [IntKind.wrap_u64];omega
 have hb:=bits_and_u64_nat x (18446744073709551616 - x) hx (by omega)
 rw [hand,←hw] at hb
 have ht:=jb ⟨t,hlt⟩
 obtain⟨j,hj,ej⟩:∃j:Nat,Hid (2 ^ t*285870213051353865 % 18446744073709551616 / 288230376151711744=j)∧IntKind.u64.wrap (bits BinOp.and IntKind.u64 (x:Int) (IntKind.u64.wrap (-(x:Int)))*285870213051353865) / 288230376151711744=(j:Int):=by
  refine⟨_,aa rfl,?_⟩
  rw [hb,IntKind.wrap_u64]
  generalize 2 ^ t=p
  omega
 have ht2:az.getD j 0=t:=by rw [←hj.out];exact ht
 have hj1:j<64:=by rw [←hj.out];omega
 have hc:=hT.2 j hj1
 rw [ht2] at hc
 have hj2:(j:Int)<64:=by omega
 have hj3:(0:Int)≤(j:Int):=by omega
 clear hT ht ht2 hj hb hw hand h
 go_enter Tryz.func84,Tryz.ntmps84
 go_wp2
 go_ret
 exact⟨rfl,rfl⟩
end Go.Proofs.YteehipcoeocojaaGreatDoor
namespace Go.Proofs.YteehipcoeocojaaGreatDoor

def g1 (b:Nat):Nat:=((b / 2) &&& 85)+(b &&& 85)
def g2 (b:Nat):Nat:=((g1 b / 4) &&& 51)+(g1 b &&& 51)
end Go.Proofs.YteehipcoeocojaaGreatDoor
namespace Go.Proofs.YteehipcoeocojaaGreatDoor
open Go.RowKit
open Lm
attribute [local go_sem ↓] Go.wp_at_zero Go.wp_at_succ
end Go.Proofs.YteehipcoeocojaaGreatDoor
namespace Go.Proofs.YteehipcoeocojaaGreatDoor
open Lm
end Go.Proofs.YteehipcoeocojaaGreatDoor
namespace Go.Proofs.YteehipcoeocojaaGreatDoor
open Go.RowKit
open Lm
attribute [local go_sem ↓] Go.wp_at_zero Go.wp_at_succ

theorem jr (X:List Nat)(k t:Nat)(h:k<X.length)(h1:val (X.take k)=0)(h2:aI (X.getD k 0) t)(ht:t<64):aI (val X) (64*k+t):=by
 have e:=cT h2
 generalize X.getD k 0 / 2 ^ t / 2=m at e
 have h3:=val_take_succ X k h
 have h4:val X=val (X.take (k+1))+18446744073709551616 ^ (k+1)*val (X.drop (k+1)):=by
  conv=>lhs;rw [←List.take_append_drop (k+1) X,val_append]
  rw [List.length_take,Nat.min_eq_left h]
 rw [h3,h1,e,Nat.zero_add] at h4
 have e1:(18446744073709551616:Nat) ^ k=2 ^ (64*k):=by rw [Nat.pow_mul]
 have e2:(18446744073709551616:Nat) ^ (k+1)=2 ^ (64*k)*(2 ^ t*(2*2 ^ (63 - t))):=by
  rw [Nat.pow_succ,e1]
  congr 1
  rw [←Nat.pow_succ',←Nat.pow_add]
  have:t+(63 - t+1)=64:=by omega
  rw [this]
 rw [e1,e2] at h4
 have h5:val X=2 ^ (64*k+t)*(2*(m+2 ^ (63 - t)*val (X.drop (k+1)))+1):=by
  rw [h4,Nat.pow_add]
  generalize 2 ^ (64*k)=a
  generalize 2 ^ t=b
  generalize 2 ^ (63 - t)=c
  generalize val (X.drop (k+1))=d
  grind
 rw [h5];exact dI _ _

theorem iM (v:Value)(X:List Nat)(w:World)(hA:Arg w v X)(hT:Tab w) :
  Calls Tryz.prog 102 #[v] w fun e w'=>(∃t:Nat,t≤64*X.length∧e=.returned (.int .i64 (t:Int))∧(val X=0→t=0)∧(val X≠0→aI (val X) t))∧w'=w:=by
 obtain⟨a1,c1,rfl,hcc1,hcm1,hl1⟩:=hA.form
 have M1:=hA.limbs
 have hX:=hA.few
 clear hA
 have HT:=aa hT
 clear hT
 go_enter Tryz.func102,Tryz.ntmps102
 go_wp2
 go_loopw [7] (fun i wr=>∃k:Nat,k≤X.length∧i=.int .i64 k∧wr=w∧val (X.take k)=0) (fun i _=>X.length - (intOf i).toNat)
 case atStart=>exact⟨0,Nat.zero_le _,rfl,rfl,by simp [val]⟩
 case round=>
  obtain⟨k,hk,rfl,rfl,hval⟩:=hrel
  have HV:=aa hval
  clear hval
  by_cases hkl:k<X.length
  ·rcases hl1 with h0|⟨b,off,rfl,hcell⟩
   ·rw [h0] at hkl;simp at hkl
   ·have hck:=hcell k hkl
    have z1:=limb_lt M1 k
    by_cases hz:X.getD k 0=0
    ·rw [hz] at hck
     have HV2:Hid (val (X.take (k+1))=0):=aa (by rw [val_take_succ X k hkl,HV.out,hz];simp)
     clear hcell hz
     go_wp2
     go_roundw
     case rel=>exact⟨k+1,by omega,by go_num,trivial,HV2.out⟩
     case measure=>simp [intOf];omega
    ·obtain⟨t,ht⟩:=fJ _ hz
     have htl:=cC (n:=64) ht z1
     have HK:=aa (jr X k t hkl HV.out ht htl)
     have H:=cV (X.getD k 0) t wr z1 ht HT.out
     have hne:((X.getD k 0:Int) == 0)=false:=by rw [beq_eq_false_iff_ne];omega
     have hne2:((X.getD k 0:Int) != 0)=true:=by rw [bne,hne];rfl
     clear ht
     generalize X.getD k 0=x at *
     clear hcell
     go_wp2_with fail
     refine H.mono ?_
     rintro e w2 ⟨rfl,hw⟩
     subst hw
     clear H
     go_wp2
     go_ret
     refine⟨⟨64*k+t,by omega,?_,?_,fun _=>HK.out⟩,rfl⟩
     ·exact congrArg (fun i=>Ending.returned (Value.int IntKind.i64 i)) (by omega)
     ·intro e
      have:=HK.out.2
      rw [e] at this
      simp at this
  ·have ek:k=X.length:=by omega
   subst ek
   rw [List.take_length] at HV
   clear hl1
   go_wp2
   go_ret
   exact⟨⟨0,by omega,rfl,fun _=>rfl,fun h=>absurd HV.out h⟩,rfl⟩

theorem jn (v:Value)(X:List Nat)(w:World)(hA:Arg w v X) :
  Calls Tryz.prog 57 #[v] w fun e w'=>e=.returned (.tuple #[.int .u64 ((if (tr X).length≤1 then (tr X).getD 0 0 else 0:Nat):Int),.bool (decide ((tr X).length≤1))])∧w'=w:=by
 obtain⟨a1,c1,rfl,hc1,hm1,hl1⟩:=hA.form
 have T1:=aJ a1 c1 X w hc1 hm1 hl1
 have l1:=tr_length_le X
 have L:=bQ a1 c1 (tr X) 0 w (by omega) hm1 hl1.tr
 have hX:=hA.few
 clear hl1 hA
 by_cases h:(tr X).length≤1
 ·rw [if_pos h,decide_eq_true h]
  have h2:¬((1:Int)<((tr X).length:Int)):=by omega
  generalize (tr X).getD 0 0=z at *
  go_enter Tryz.func57,Tryz.ntmps57
  go_wp2_with fail
  refine T1.mono ?_
  rintro e w2 ⟨rfl,rfl⟩
  clear T1
  go_wp2_with fail
  refine L.mono ?_
  rintro e w2 ⟨rfl,rfl⟩
  clear L
  go_wp2
  go_ret2
  exact⟨rfl,rfl⟩
 ·rw [if_neg h,decide_eq_false h]
  have h2:((1:Int)<((tr X).length:Int)):=by omega
  go_enter Tryz.func57,Tryz.ntmps57
  go_wp2_with fail
  refine T1.mono ?_
  rintro e w2 ⟨rfl,rfl⟩
  clear T1 L
  go_wp2
  go_ret2
  exact⟨rfl,rfl⟩
end Go.Proofs.YteehipcoeocojaaGreatDoor
namespace Go.Proofs.YteehipcoeocojaaGreatDoor
namespace Lm

def vb (B:Nat):List Nat→Nat
 | []=>0
 | z :: r=>z+B*vb B r

def Digs (B:Nat)(zs:List Nat):Prop:=∀z ∈ zs,z<B

variable {B:Nat}

theorem vb_tr (zs:List Nat):vb B (tr zs)=vb B zs:=by
 induction zs with
 | nil=>rfl
 | cons z r ih=>
  unfold tr
  split
  ·rename_i h
   rw [h.2] at ih
   simp only [vb] at ih ⊢
   rw [←ih,h.1];simp
  ·simp only [vb];rw [ih]

theorem vb_append (a b:List Nat):vb B (a ++ b)=vb B a+B ^ a.length*vb B b:=by
 induction a with
 | nil=>simp [vb]
 | cons z r ih=>
  simp only [List.cons_append,vb,ih,List.length_cons,Nat.pow_succ,Nat.mul_add]
  rw [←Nat.mul_assoc,Nat.mul_comm (B ^ r.length) B];omega

theorem vb_lt {zs:List Nat}(h:Digs B zs):vb B zs<B ^ zs.length:=by
 induction zs with
 | nil=>simp [vb]
 | cons z r ih=>
  have hz:z<B:=h z (by simp)
  have hr:=ih (fun x hx=>h x (by simp [hx]))
  simp only [vb,List.length_cons,Nat.pow_succ]
  have:=Nat.mul_le_mul_left B (Nat.succ_le_of_lt hr)
  rw [Nat.succ_eq_add_one,Nat.mul_add] at this
  rw [Nat.mul_comm (B ^ r.length)]
  omega

theorem vb_take_next (zs:List Nat)(k:Nat):vb B (zs.take (k+1))=vb B (zs.take k)+B ^ k*zs.getD k 0:=by
 by_cases h:k<zs.length
 ·rw [take_snoc zs k h,vb_append]
  have e:(zs.take k).length=k:=by simp;omega
  rw [e];simp [vb]
 ·have e:zs.getD k 0=0:=by simp [List.getD,Nat.le_of_not_lt h]
  rw [e,List.take_of_length_le (by omega),List.take_of_length_le (by omega)];simp

theorem vb_set_succ (out:List Nat)(k z:Nat)(h:k<out.length):vb B ((out.set k z).take (k+1))=vb B (out.take k)+B ^ k*z:=by
 rw [vb_take_next,List.take_set_of_le (Nat.le_refl k)]
 congr 2
 simp [List.getD,h]

theorem digs_tr {zs:List Nat}(h:Digs B zs):Digs B (tr zs):=by
 intro z hz
 rw [tr_take] at hz
 exact h z (List.mem_of_mem_take hz)

theorem dig_lt (hB:0<B){zs:List Nat}(h:Digs B zs)(k:Nat):zs.getD k 0<B:=by
 by_cases hk:k<zs.length
 ·have e:zs.getD k 0=zs[k]:=by simp [List.getD,hk]
  rw [e];exact h _ (List.getElem_mem hk)
 ·have e:zs.getD k 0=0:=by simp [List.getD,Nat.le_of_not_lt hk]
  omega

theorem digs_set {out:List Nat}(h:Digs B out)(k z:Nat)(hz:z<B):Digs B (out.set k z):=by
 intro y hy
 rcases List.mem_or_eq_of_mem_set hy with h1|h1
 ·exact h y h1
 ·omega

theorem digs_replicate (hB:0<B)(n:Nat):Digs B (List.replicate n 0):=by
 intro z hz
 have:=List.eq_of_mem_replicate hz
 omega

theorem digs_limbs {zs:List Nat}(h:Digs 4294967296 zs):Limbs zs:=fun z hz=>by have:=h z hz;omega

theorem vb_add_step (X S out:List Nat)(k cy:Nat)(hk:k<out.length)(h:vb B (out.take k)+cy*B ^ k=vb B (X.take k)+vb B (S.take k)) :
  vb B ((out.set k ((X.getD k 0+S.getD k 0+cy) % B)).take (k+1))+(X.getD k 0+S.getD k 0+cy) / B*B ^ (k+1)=vb B (X.take (k+1))+vb B (S.take (k+1)):=by
 rw [vb_set_succ _ _ _ hk,vb_take_next X,vb_take_next S]
 generalize X.getD k 0=x
 generalize S.getD k 0=y
 have hd:=Nat.div_add_mod (x+y+cy) B
 generalize (x+y+cy) % B=m at *
 generalize (x+y+cy) / B=d at *
 rw [Nat.pow_succ]
 generalize B ^ k=p at *
 have e1:p*m+d*(p*B)=p*(B*d+m):=by
  rw [Nat.mul_add,Nat.add_comm];congr 1;rw [←Nat.mul_assoc,←Nat.mul_assoc,Nat.mul_comm d p,Nat.mul_assoc,Nat.mul_assoc,Nat.mul_comm d]
 have e2:p*(x+y+cy)=p*x+p*y+cy*p:=by rw [Nat.mul_add,Nat.mul_add,Nat.mul_comm cy]
 rw [hd,e2] at e1
 omega

def halves:List Nat→List Nat
 | []=>[]
 | z :: r=>z % 4294967296 :: z / 4294967296 :: halves r

theorem halves_append (a b:List Nat):halves (a ++ b)=halves a ++ halves b:=by
 induction a with
 | nil=>rfl
 | cons z r ih=>simp [halves,ih]

theorem halves_length (a:List Nat):(halves a).length=2*a.length:=by
 induction a with
 | nil=>rfl
 | cons z r ih=>simp [halves,ih];omega

theorem halves_val (a:List Nat):vb 4294967296 (halves a)=val a:=by
 induction a with
 | nil=>rfl
 | cons z r ih=>simp only [halves,vb,val,ih];omega

theorem halves_digs {a:List Nat}(h:Limbs a):Digs 4294967296 (halves a):=by
 induction a with
 | nil=>intro z hz;cases hz
 | cons x r ih=>
  intro z hz
  have hx:=h x (by simp)
  simp only [halves,List.mem_cons] at hz
  rcases hz with rfl|rfl|hz
  ·exact Nat.mod_lt _ (by omega)
  ·omega
  ·exact ih (fun y hy=>h y (by simp [hy])) z hz

theorem halves_take (zs:List Nat)(k:Nat)(h:k<zs.length):halves (zs.take (k+1))=halves (zs.take k) ++ [zs.getD k 0 % 4294967296,zs.getD k 0 / 4294967296]:=by
 rw [take_snoc zs k h,halves_append];rfl

end Lm
end Go.Proofs.YteehipcoeocojaaGreatDoor
namespace Go.Proofs.YteehipcoeocojaaGreatDoor
open Go.RowKit
open Lm

def Num (w:World)(v:Value)(x:Nat):Prop:=∃ds,Arg w v ds∧Digs 4294967296 ds∧tr ds=ds∧vb 4294967296 ds=x∧ds.length≤35184372088900

theorem Num.below {w w':World}{v:Value}{x:Nat}(h:Num w v x)(hb:Below w.heap.size w w'):Num w' v x:=by
 obtain⟨ds,h1,h2⟩:=h
 exact⟨ds,h1.below hb,h2⟩

theorem Num.nil (w:World):Num w (.slice none 0 0) 0:=
 ⟨[],⟨⟨none,0,rfl,by simp,by simp,.inl rfl⟩,(by intro z hz;cases hz),by simp,fun n c e=>by cases e;rfl⟩,(by intro z hz;cases hz),rfl,rfl,by simp⟩

theorem g7 (b off cap:Nat)(zs:List Nat)(w:World)(hcap:zs.length≤cap)(hmax:cap≤9223372036854775807)
  (hc:∀k,k<zs.length→w.cell? ⟨b,off+k,none⟩=some (.int .u64 ((zs.getD k 0:Nat):Int))) :
  Calls Tryz.prog 30 #[.slice (some ⟨b,off,none⟩) zs.length cap] w fun e w'=>e=.returned (.slice (some ⟨b,off,none⟩) (tr zs).length (tr zs).length)∧w'=w:=by
 go_enter Tryz.func30,Tryz.ntmps30
 go_wp2
 go_loop [3] (fun n=>∃k:Nat,k≤zs.length∧n=.int .i64 k∧tr (zs.take k)=tr zs) (fun n=>(intOf n).toNat)
 case atStart=>exact⟨zs.length,Nat.le_refl _,rfl,by rw [List.take_length]⟩
 case round=>
  obtain⟨k,hk,rfl,ht⟩:=hrel
  have HT:=aa ht
  clear ht
  by_cases h0:k=0
  ·subst h0
   go_wp2
   go_ret
   have e:=HT.out
   simp only [List.take_zero,tr] at e
   rw [←e]
   exact⟨rfl,rfl⟩
  ·obtain⟨j,rfl⟩:∃j,k=j+1:=⟨k - 1,by omega⟩
   have hcj:=hc j (by omega)
   clear hc
   by_cases hz:zs.getD j 0=0
   ·have HZ:Hid (tr (zs.take j)=tr zs):=by rw [←tr_step zs j (by omega) hz];exact HT.out
    rw [hz] at hcj
    clear hz HT
    go_wp2
    go_round
    case rel=>exact⟨j,by omega,by go_num,HZ.out⟩
    case measure=>simp [intOf]
   ·have HZ:Hid (tr zs=zs.take (j+1)):=by rw [←HT.out];exact tr_stop zs j (by omega) hz
    clear HT
    generalize zs.getD j 0=z at hcj hz
    have hne:((z:Int) == 0)=false:=by rw [beq_eq_false_iff_ne];omega
    clear hz
    go_wp2
    go_ret
    rw [HZ.out]
    have e:(zs.take (j+1)).length=j+1:=by simp;omega
    rw [e]
    exact⟨rfl,rfl⟩

theorem ji (ao:Option Addr)(cap:Nat)(w:World)(_hmax:cap≤9223372036854775807) :
  Calls Tryz.prog 30 #[.slice ao 0 cap] w fun e w'=>e=.returned (.slice ao 0 0)∧w'=w:=by
 go_enter Tryz.func30,Tryz.ntmps30
 go_wp2
 refine wp_loop_rounds 1 ?_
 rw [rounds_succ]
 go_wp2
 go_ret
 exact⟨rfl,rfl⟩

def New (B:Nat)(v:Value):Prop:=∀b off n c,v=.slice (some ⟨b,off,none⟩) n c→B≤b

theorem New.at (B b off n c:Nat)(h:B≤b):New B (.slice (some ⟨b,off,none⟩) n c):=fun _ _ _ _ e=>by cases e;exact h

theorem cz (B:Nat)(v:Value)(ds:List Nat)(w:World)(h:Arg w v ds)(hd:Digs 4294967296 ds)(hl:ds.length≤35184372088900)(hB:New B v) :
  Calls Tryz.prog 30 #[v] w fun e w'=>(∃v',e=.returned v'∧Num w v' (vb 4294967296 ds)∧New B v')∧w'=w:=by
 obtain⟨ao,cap,rfl,hcap,hmax,hlies⟩:=h.form
 have hle:=tr_length_le ds
 have H:Calls Tryz.prog 30 #[.slice ao ds.length cap] w fun e w'=>e=.returned (.slice ao (tr ds).length (tr ds).length)∧w'=w:=by
  rcases hlies with rfl|⟨b,off,rfl,hc⟩
  ·exact ji ao cap w hmax
  ·exact g7 b off cap ds w hcap hmax hc
 refine H.mono ?_
 rintro e w' ⟨rfl,rfl⟩
 refine⟨⟨_,rfl,⟨tr ds,⟨⟨ao,_,rfl,Nat.le_refl _,by omega,hlies.tr⟩,limbs_tr h.limbs,by omega,?_⟩,digs_tr hd,tr_tr ds,vb_tr ds,by omega⟩,fun b off n c e=>?_⟩,rfl⟩
 rotate_left
 ·cases e;exact hB b off _ _ rfl
 intro n c e
 cases e
 have:=h.nz _ _ rfl
 omega

theorem d4 (v:Value)(ds:List Nat)(w:World)(h:Arg w v ds)(hd:Digs 4294967296 ds)(hl:ds.length≤35184372088900) :
  Calls Tryz.prog 30 #[v] w fun e w'=>(∃v',e=.returned v'∧Num w v' (vb 4294967296 ds))∧w'=w:=
 (cz 0 v ds w h hd hl (fun _ _ _ _ _=>Nat.zero_le _)).mono fun _ _ ⟨⟨v',h1,h2,_⟩,h3⟩=>⟨⟨v',h1,h2⟩,h3⟩

theorem ca (v:Value)(zs:List Nat)(i:Nat)(w:World)(h:Arg w v zs) :
  Calls Tryz.prog 66 #[v,.int .i64 i] w fun e w'=>e=.returned (.int .u64 ((zs.getD i 0:Nat):Int))∧w'=w:=by
 obtain⟨ao,cap,rfl,hcap,hmax,hl⟩:=h.form
 by_cases hi:i<zs.length
 ·rcases hl with rfl|⟨b,off,rfl,hc⟩
  ·simp at hi
  ·have hci:=hc i hi
   clear hc h
   generalize zs.getD i 0=z at hci ⊢
   go_enter Tryz.func66,Tryz.ntmps66
   go_wp2
   go_ret
   exact⟨rfl,rfl⟩
 ·have e:zs.getD i 0=0:=by simp [List.getD,Nat.le_of_not_lt hi]
  rw [e]
  clear hl e h
  go_enter Tryz.func66,Tryz.ntmps66
  go_wp2
  go_ret
  exact⟨rfl,rfl⟩

theorem bn {w:World}(l:List Nat)(j:Nat)(u:Value)(hj:(l.map lv)[j]?=some u):(w.alloc (.cells (l.map lv).toArray 63)).cell? ((⟨w.heap.size,0,none⟩:Addr).add j)=some u:=by
 have e:(⟨w.heap.size,0,none⟩:Addr).add j=⟨w.heap.size,j,none⟩:=by
  unfold Addr.add;split <;> simp_all
 rw [e]
 simp only [World.cell?,heap_alloc_new]
 simpa using hj

theorem jU (v:Value)(zs:List Nat)(w:World)(h:Arg w v zs)(hf:zs.length≤17592186044416) :
  Calls Tryz.prog 10 #[v] w fun e w'=>(∃v',e=.returned v'∧Num w' v' (val zs))∧Below w.heap.size w w':=by
 obtain⟨ao,cap,rfl,hcap,hmax,L1⟩:=h.form
 have M1:=h.limbs
 obtain⟨i0,hi,hz0,hz1,hz2⟩:=info_parts Tryz.infoU
 clear h
 go_enter Tryz.func10,Tryz.ntmps10
 go_wp2_with (at_make;refine wpList_make_own _ rfl _ _ 26 rfl w.heap.size 63 i0 (.int .u64 0) 1 Tryz.underlying26 hi hz0 hz1 .i64 .i64 _ (2*zs.length) rfl rfl (by omega) (by rw [hz2];omega) (by unfold maxLen;omega) (Nat.le_refl _) ?_;intro w1 hown hgrow)
 have hbel:Below w.heap.size w w1:=(Below.refl _ _).grown hgrow (Nat.le_refl _) (fun k hk=>by cases hk)
 have hsz:w.heap.size<w1.heap.size:=by
  have:=hown.lt w.heap.size rfl
  exact this.2
 clear hgrow hz0 hz2
 go_loopw [3,12] (fun o i wr=>∃k:Nat,k≤zs.length∧i=.int .i64 k∧o=.slice (some ⟨w.heap.size,0,none⟩) (2*k) (2*zs.length)∧wr.ownsRow w.heap.size 63 1 (.slice (some ⟨w.heap.size,0,none⟩) (2*k) (2*zs.length)) (2*k) ((halves (zs.take k)).map lv)∧Below w.heap.size w wr) (fun _ i _=>zs.length - (intOf i).toNat)
 case atStart=>exact⟨0,Nat.zero_le _,rfl,rfl,hown,hbel⟩
 case round=>
  obtain⟨k,hk,rfl,rfl,ho,hbl⟩:=hrel
  clear hown hbel
  by_cases hkl:k<zs.length
  ·rcases L1.below hbl with h0|⟨b,off,rfl,hcell⟩
   ·simp [h0] at hkl
   ·have hck:=hcell k hkl
    have z1:=limb_lt M1 k
    have HT:=aa (halves_take zs k hkl)
    generalize zs.getD k 0=z at *
    have e1:(z:Int) % 4294967296=((z % 4294967296:Nat):Int):=by omega
    have e2:(z:Int) / 4294967296=((z / 4294967296:Nat):Int):=by omega
    have b1:z % 4294967296<4294967296:=by omega
    have b2:z / 4294967296<4294967296:=by omega
    generalize z % 4294967296=lo at *
    generalize z / 4294967296=hh at *
    have HB:=aa hbl
    clear hcell L1 M1 hbl
    go_wp2_with (at_builtin;refine wpList_append_fits _ rfl _ _ 26 rfl w.heap.size 63 i0 1 Tryz.underlying26 hi hz1 w.heap.size (2*k) (2*zs.length) _ rfl (ho.alloc _) ⟨wr.heap.size,0,none⟩ 2 2 ([lo,hh].map lv) rfl rfl (bn [lo,hh]) (bg _) (by omega) ?_;intro w2 hown2 hgrow2)
    have HO:=aa hown2
    have HB2:=aa ((HB.out.alloc HB.out.size (.cells ([lo,hh].map lv).toArray 63)).grown hgrow2 (by have:=HB.out.size;simp;omega) (fun k hk=>by cases hk;exact Nat.le_refl _))
    clear hown2 hgrow2 ho hck
    go_wp2
    go_roundw
    case rel=>
     refine⟨k+1,by omega,by go_num,rfl,?_,HB2.out⟩
     rw [HT.out,List.map_append]
     exact HO.out
    case measure=>simp [intOf];omega
  ·have ek:k=zs.length:=by omega
   subst ek
   rw [List.take_length] at ho
   have el:=halves_length zs
   have hA:Ans wr w.heap.size (.slice (some ⟨w.heap.size,0,none⟩) (2*zs.length) (2*zs.length)) (halves zs):=⟨by rw [el];exact ho,digs_limbs (halves_digs M1)⟩
   have H:=d4 _ _ _ (hA.arg (by omega)) (halves_digs M1) (by omega)
   rw [halves_val] at H
   have HB:=aa hbl
   clear ho hA hbl L1 M1
   go_wp2_with fail
   refine H.mono ?_
   rintro e w2 ⟨⟨v',rfl,hnum⟩,rfl⟩
   have HN:=aa hnum
   clear hnum H
   go_wp2
   go_ret
   exact⟨⟨v',rfl,HN.out⟩,HB.out⟩
end Go.Proofs.YteehipcoeocojaaGreatDoor
namespace Go.Proofs.YteehipcoeocojaaGreatDoor
namespace Lm

def pairsB (B:Nat):List Nat→List Nat
 | []=>[]
 | [a]=>[a]
 | a :: b :: r=>(a+b*B) :: pairsB B r

def pairs (ds:List Nat):List Nat:=pairsB 4294967296 ds

theorem pairsB_length (B:Nat):∀ds:List Nat,(pairsB B ds).length=(ds.length+1) / 2
 | []=>by simp [pairsB]
 | [_]=>by simp [pairsB]
 | a :: b :: r=>by simp only [pairsB,List.length_cons,pairsB_length B r];omega

theorem pairsB_getD (B:Nat):∀(ds:List Nat) (k:Nat),(pairsB B ds).getD k 0=ds.getD (2*k) 0+ds.getD (2*k+1) 0*B
 | [],k=>by simp [pairsB,List.getD]
 | [a],0=>by simp [pairsB,List.getD]
 | [a],k+1=>by simp [pairsB,List.getD,Nat.mul_add]
 | a :: b :: r,0=>by simp [pairsB,List.getD]
 | a :: b :: r,k+1=>by
  have:=pairsB_getD B r k
  rw [show 2*(k+1)=2*k+1+1 by omega]
  simp only [pairsB,List.getD_cons_succ]
  exact this

theorem pairs_length (ds:List Nat):(pairs ds).length=(ds.length+1) / 2:=pairsB_length _ ds
theorem pairs_getD (ds:List Nat)(k:Nat):(pairs ds).getD k 0=ds.getD (2*k) 0+ds.getD (2*k+1) 0*4294967296:=pairsB_getD _ ds k

theorem pairs_val:∀ds:List Nat,val (pairs ds)=vb 4294967296 ds
 | []=>rfl
 | [a]=>by simp [pairs,pairsB,val,vb]
 | a :: b :: r=>by
  have ih:=pairs_val r
  unfold pairs at ih ⊢
  simp only [pairsB,val,vb,ih];omega

theorem pairs_limbs:∀ds:List Nat,Digs 4294967296 ds→Limbs (pairs ds)
 | [],_=>by intro z hz;cases hz
 | [a],h=>by
  intro z hz
  have:=h a (by simp)
  simp [pairs,pairsB] at hz
  omega
 | a :: b :: r,h=>by
  intro z hz
  have ha:=h a (by simp)
  have hb:=h b (by simp)
  simp only [pairs,pairsB,List.mem_cons] at hz
  rcases hz with rfl|hz
  ·omega
  ·exact pairs_limbs r (fun y hy=>h y (by simp [hy])) z hz

theorem pairs_nil:∀ds:List Nat,pairs ds=[]→ds=[]
 | [],_=>rfl
 | [a],h=>by simp [pairs,pairsB] at h
 | a :: b :: r,h=>by simp [pairs,pairsB] at h

theorem pairs_tr:∀ds:List Nat,tr ds=ds→tr (pairs ds)=pairs ds
 | [],_=>rfl
 | [a],h=>h
 | a :: b :: r,h=>by
  have h1:=tr_tail h
  have h2:=tr_tail h1
  have ih:=pairs_tr r h2
  unfold pairs at ih ⊢
  simp only [pairsB,tr,ih]
  split
  ·rename_i hc
   exfalso
   have hr:=pairs_nil r hc.2
   have hb:b=0:=by omega
   subst hr hb
   simp [tr] at h1
  ·rfl

theorem blen_half (v:Nat)(h:v≠0):blen v=blen (v / 2)+1:=by
 unfold blen
 rw [if_neg h]
 by_cases h2:v / 2=0
 ·rw [if_pos h2]
  have:v=1:=by omega
  subst this;rfl
 ·rw [if_neg h2]
  have:v.log2=(v / 2).log2+1:=by
   rw [Nat.log2_def];rw [if_pos (by omega)]
  omega

theorem B_pow (n:Nat):(4294967296:Nat) ^ n=2 ^ (32*n):=by rw [Nat.pow_mul]

theorem blen_top (p k d:Nat)(hp:p<2 ^ k)(hd:d≠0):blen (p+2 ^ k*d)=k+blen d:=by
 have h1:=Nat.log2_self_le hd
 have h2:=(Nat.log2_lt hd (k:=d.log2+1)).1 (by omega)
 have e:blen d=d.log2+1:=by unfold blen;rw [if_neg hd]
 rw [e,←Nat.add_assoc]
 refine blen_eq _ _ ?_ ?_
 ·rw [Nat.pow_add]
  exact Nat.le_trans (Nat.mul_le_mul_left _ h1) (Nat.le_add_left _ _)
 ·rw [Nat.add_assoc,Nat.pow_add]
  have:=Nat.mul_le_mul_left (2 ^ k) (Nat.succ_le_of_lt h2)
  rw [Nat.succ_eq_add_one,Nat.mul_add] at this
  omega

theorem tr_last' (ds:List Nat)(n:Nat)(ht:tr ds=ds)(h:ds.length=n+1):ds.getD n 0≠0:=by
 have:=tr_last ds n (by rw [ht];exact h)
 rwa [ht] at this

theorem vb_split (ds:List Nat)(n:Nat)(h:ds.length=n+1):vb 4294967296 ds=vb 4294967296 (ds.take n)+2 ^ (32*n)*ds.getD n 0:=by
 have:=vb_take_next (B:=4294967296) ds n
 rw [←h,List.take_length,B_pow] at this
 exact this

theorem vb_take_lt {ds:List Nat}(hd:Digs 4294967296 ds)(n:Nat):vb 4294967296 (ds.take n)<2 ^ (32*n):=by
 have h1:=vb_lt (B:=4294967296) (zs:=ds.take n) (fun z hz=>hd z (List.mem_of_mem_take hz))
 have h2:(ds.take n).length≤n:=List.length_take_le _ _
 rw [←B_pow]
 exact Nat.lt_of_lt_of_le h1 (Nat.pow_le_pow_right (by omega) h2)

theorem blen_vb {ds:List Nat}(hd:Digs 4294967296 ds)(ht:tr ds=ds)(n:Nat)(h:ds.length=n+1):blen (vb 4294967296 ds)=32*n+blen (ds.getD n 0):=by
 rw [vb_split ds n h]
 exact blen_top _ _ _ (vb_take_lt hd n) (tr_last' ds n ht h)

end Lm
end Go.Proofs.YteehipcoeocojaaGreatDoor
namespace Go.Proofs.YteehipcoeocojaaGreatDoor
open Go.RowKit
open Lm

theorem gW (v:Value)(ds:List Nat)(w:World)(h:Arg w v ds)(hd:Digs 4294967296 ds)(hf:ds.length≤35184372088832) :
  Calls Tryz.prog 65 #[v] w fun e w'=>(∃v',e=.returned v'∧Ans w' w.heap.size v' (pairs ds))∧Below w.heap.size w w':=by
 obtain⟨ao,cap,rfl,hcap,hmax,L1⟩:=h.form
 obtain⟨i0,hi,hz0,hz1,hz2⟩:=info_parts Tryz.infoU
 have hpl:=pairs_length ds
 clear h
 go_enter Tryz.func65,Tryz.ntmps65
 go_wp2
 go_loopw [3,4] (fun o i wr=>∃k:Nat,k≤(pairs ds).length∧i=.int .i64 ((2*k:Nat):Int)∧wr.ownsRow w.heap.size 63 1 o ((pairs ds).take k).length (((pairs ds).take k).map lv)∧Below w.heap.size w wr) (fun _ i _=>ds.length+2 - (intOf i).toNat)
 case atStart=>exact⟨0,Nat.zero_le _,rfl,World.ownsRow_nil _ _ _ _,Below.refl _ _⟩
 case round=>
  obtain⟨k,hk,rfl,ho,hbl⟩:=hrel
  have HB:=aa hbl
  by_cases hkl:2*k<ds.length
  ·rcases L1.below hbl with h0|⟨b,off,rfl,hcell⟩
   ·simp [h0] at hkl
   ·have hck:=hcell (2*k) hkl
    have HT:=aa (take_snoc (pairs ds) k (by omega))
    have hpg:=pairs_getD ds k
    have z1:=dig_lt (by omega) hd (2*k)
    have z2:=dig_lt (by omega) hd (2*k+1)
    by_cases hk2:2*k+1<ds.length
    ·have hck2:=hcell (2*k+1) hk2
     rw [hpg] at HT
     generalize ds.getD (2*k) 0=x at *
     generalize ds.getD (2*k+1) 0=y at *
     have i1:(2:Int)*(k:Int)+1<(ds.length:Int):=by omega
     have e1:(x:Int)+(y:Int)*4294967296=((x+y*4294967296:Nat):Int):=by omega
     have b1:x+y*4294967296<18446744073709551616:=by omega
     generalize x+y*4294967296=z at *
     clear hcell L1 hbl hd hpg
     go_wp2_with (at_builtin;refine wpList_append_own _ rfl _ _ 22 rfl w.heap.size 63 i0 (.int .u64 0) 1 8 Tryz.underlying22 hi hz0 hz1 hz2 rfl (by decide) _ _ _ rfl (ho.alloc _) ⟨wr.heap.size,0,none⟩ 1 1 ([z].map lv) rfl rfl (bn [z]) (bg _) (by simp only [List.length_take];unfold maxLen;omega) (by simp only [List.length_take];omega) (by have:=HB.out.size;simp;omega) ?_;intro v' w2 hown2 hgrow2 _)
     have HO:=aa hown2
     have HB2:=aa ((HB.out.alloc HB.out.size (.cells ([z].map lv).toArray 63)).grown hgrow2 (by have:=HB.out.size;simp;omega) (fun k hk=>(ho.lt k hk).1))
     clear hown2 hgrow2 ho
     go_wp2
     go_roundw
     case rel=>
      refine⟨k+1,by omega,by go_num,?_,HB2.out⟩
      rw [HT.out,List.length_append,List.map_append]
      exact HO.out
     case measure=>simp [intOf];omega
    ·have e0:ds.getD (2*k+1) 0=0:=by simp [List.getD,Nat.le_of_not_lt hk2]
     rw [hpg,e0,Nat.zero_mul,Nat.add_zero] at HT
     generalize ds.getD (2*k) 0=x at *
     have hd1:decide ((2:Int)*(k:Int)+1<(ds.length:Int))=false:=decide_eq_false (by omega)
     clear hcell L1 hbl hd hpg e0
     go_wp2_with (at_builtin;refine wpList_append_own _ rfl _ _ 22 rfl w.heap.size 63 i0 (.int .u64 0) 1 8 Tryz.underlying22 hi hz0 hz1 hz2 rfl (by decide) _ _ _ rfl (ho.alloc _) ⟨wr.heap.size,0,none⟩ 1 1 ([x].map lv) rfl rfl (bn [x]) (bg _) (by simp only [List.length_take];unfold maxLen;omega) (by simp only [List.length_take];omega) (by have:=HB.out.size;simp;omega) ?_;intro v' w2 hown2 hgrow2 _)
     have HO:=aa hown2
     have HB2:=aa ((HB.out.alloc HB.out.size (.cells ([x].map lv).toArray 63)).grown hgrow2 (by have:=HB.out.size;simp;omega) (fun k hk=>(ho.lt k hk).1))
     clear hown2 hgrow2 ho
     go_wp2
     go_roundw
     case rel=>
      refine⟨k+1,by omega,by go_num,?_,HB2.out⟩
      rw [HT.out,List.length_append,List.map_append]
      exact HO.out
     case measure=>simp [intOf];omega
  ·have ek:k=(pairs ds).length:=by omega
   rw [ek,List.take_length] at ho
   have HA:Hid (Ans wr w.heap.size u3 (pairs ds)):=⟨ho,pairs_limbs ds hd⟩
   clear ho hbl L1 hd
   go_wp2
   go_ret
   exact⟨⟨_,rfl,HA.out⟩,HB.out⟩

theorem iU (v u:Value)(x:Nat)(rs:List Nat)(w:World)(hn:Num w v x)(ha:Arg w u rs)(ht:tr rs=rs)(hv:val rs=x)(hf:blen x≤1125899906842624) :
  Calls Tryz.prog 42 #[v,u] w fun e w'=>e=.returned (.bool true)∧Below w.heap.size w w':=by
 obtain⟨ds,hd1,hd2,hd3,hd4,hd5⟩:=hn
 have hf2:ds.length≤35184372088832:=by
  refine Nat.le_of_not_lt fun hlt=>?_
  obtain⟨n,hn⟩:∃n,ds.length=n+1:=⟨ds.length - 1,by omega⟩
  have h1:=blen_vb hd2 hd3 n hn
  have h2:=tr_last' ds n hd3 hn
  have h3:=blen_half _ h2
  rw [hd4] at h1
  omega
 clear hf
 have HL:=gW v ds w hd1 hd2 hf2
 have he:pairs ds=rs:=norm_inj _ _ (pairs_limbs ds hd2) ha.limbs (pairs_tr ds hd3) ht (by rw [pairs_val,hd4,hv])
 rw [he] at HL
 have hfew:=ha.few
 clear he ht hv hd1 hd2 hd3 hd4 hd5 hf2
 go_enter Tryz.func42,Tryz.ntmps42
 go_wp2_with fail
 refine HL.mono ?_
 rintro e w1 ⟨⟨v',rfl,hans⟩,hb⟩
 have A1:=hans.arg hfew
 have A2:=ha.below hb
 have HB:=aa hb
 clear HL hans hb ha
 obtain⟨a1,c1,rfl,hc1,hm1,L1⟩:=A1.form
 obtain⟨a2,c2,rfl,hc2,hm2,L2⟩:=A2.form
 have hne:((rs.length:Int) != (rs.length:Int))=false:=by simp
 clear A1 A2
 go_wp2
 go_loopw [16] (fun i wr=>∃k:Nat,k≤rs.length∧i=.int .i64 k∧ai w1 wr) (fun i _=>rs.length - (intOf i).toNat)
 case atStart=>exact⟨0,Nat.zero_le _,rfl,ai.refl _⟩
 case round=>
  obtain⟨k,hk,rfl,hs⟩:=hrel
  by_cases hkl:k<rs.length
  ·rcases L1.below (hs.below _) with h0|⟨b,off,rfl,hcell⟩
   ·simp [h0] at hkl
   ·rcases L2.below (hs.below _) with h0|⟨b',off',rfl,hcell'⟩
    ·simp [h0] at hkl
    ·have hck:=hcell k hkl
     have hck':=hcell' k hkl
     generalize rs.getD k 0=z at *
     have hne2:((z:Int) != (z:Int))=false:=by simp
     have hi1:(0:Int)≤(k:Int):=by omega
     have hi2:(k:Int)<(rs.length:Int):=by omega
     have HS:=aa hs
     clear hcell hcell' L1 L2 hs
     go_wp2
     go_quiet (fail)
     go_wp2
     go_roundw
     case rel=>exact⟨k+1,by omega,by go_num,HS.out.drewN _⟩
     case measure=>simp [intOf];omega
  ·have HS:=aa hs
   clear L1 L2 hs
   go_wp2
   go_ret
   exact⟨rfl,HB.out.trans (HS.out.below _)⟩

theorem hG {k:IntKind}{a b:Int}(h:a=b):Ending.returned (.int k a)=.returned (.int k b):=by rw [h]

theorem fD (v:Value)(x:Nat)(w:World)(hn:Num w v x) :
  Calls Tryz.prog 41 #[v] w fun e w'=>e=.returned (.int .i64 ((blen x:Nat):Int))∧w'=w:=by
 obtain⟨ds,hd1,hd2,hd3,rfl,hd5⟩:=hn
 obtain⟨ao,cap,rfl,hcap,hmax,L1⟩:=hd1.form
 clear hd1
 by_cases h0:ds.length=0
 ·have hz:ds=[]:=List.length_eq_zero_iff.1 h0
  subst hz
  have e:blen (vb 4294967296 [])=0:=rfl
  rw [e]
  clear L1 hd2 hd3 hd5 h0
  go_enter Tryz.func41,Tryz.ntmps41
  go_wp2
  go_ret
  exact⟨rfl,rfl⟩
 ·obtain⟨n,hn⟩:∃n,ds.length=n+1:=⟨ds.length - 1,by omega⟩
  rcases L1 with hz|⟨b,off,rfl,hcell⟩
  ·simp [hz] at h0
  ·have hcn:=hcell n (by omega)
   rw [blen_vb hd2 hd3 n hn]
   have hdl:=dig_lt (by omega) hd2 n
   rw [hn] at hd5 ⊢
   have hz:(((n+1:Nat):Int) == 0)=false:=by rw [beq_eq_false_iff_ne];omega
   have hz':((n:Int)+1 == 0)=false:=by rw [beq_eq_false_iff_ne];omega
   generalize ds.getD n 0=d at *
   have hbd:blen d≤32:=(blen_le_iff d 32).2 hdl
   clear hcell hd2 hd3 h0 hn hcap
   go_enter Tryz.func41,Tryz.ntmps41
   go_wp2
   go_loop [3,4] (fun a b=>∃m y:Nat,a=.int .i64 m∧b=.int .u64 y∧m+blen y=32*n+blen d∧y<4294967296) (fun _ b=>(intOf b).toNat)
   case atStart=>exact⟨32*n,d,by go_num,rfl,rfl,hdl⟩
   case round=>
    obtain⟨m,y,rfl,rfl,hm,hy⟩:=hrel
    by_cases hy0:y=0
    ·subst hy0
     have HM:=aa hm
     have e0:blen 0=0:=rfl
     have HM2:Hid (m=32*n+blen d):=aa (by have:=HM.out;rw [e0] at this;exact this)
     clear hm HM e0
     go_wp2
     go_ret
     exact⟨hG (by have:=HM2.out;omega),rfl⟩
    ·have hb2:=blen_half y hy0
     have HM:Hid (m+1+blen (y / 2)=32*n+blen d):=aa (by omega)
     have hmb:m≤32*n+32:=by omega
     have e1:(y:Int) / 2=((y / 2:Nat):Int):=by omega
     have i1:(0:Int)<(y:Int):=by omega
     have i2:y / 2<y:=by omega
     clear hm hb2
     generalize y / 2=y2 at *
     go_wp2
     go_round
     case rel=>exact⟨m+1,y2,by go_num,rfl,HM.out,by omega⟩
     case measure=>simp [intOf];omega
end Go.Proofs.YteehipcoeocojaaGreatDoor
namespace Go.Proofs.YteehipcoeocojaaGreatDoor
open Lm
end Go.Proofs.YteehipcoeocojaaGreatDoor
namespace Go.Proofs.YteehipcoeocojaaGreatDoor
open Go.RowKit
open Lm
attribute [local go_sem ↓] Go.wp_at_zero Go.wp_at_succ

theorem jf {w:World}{b off:Nat}{X:List Nat}(hc:∀k,k<X.length→w.cell? ⟨b,off+k,none⟩=some (.int .u64 ((X.getD k 0:Nat):Int)))(j:Nat)(u:Value)(hj:(X.map lv)[j]?=some u):w.cell? ((⟨b,off,none⟩:Addr).add j)=some u:=by
 rw [List.getElem?_map] at hj
 have hl:j<X.length:=by
  refine Nat.lt_of_not_le fun h=>?_
  rw [List.getElem?_eq_none h] at hj
  cases hj
 have:=hc j hl
 have e:X.getD j 0=X[j]:=by simp [List.getD,hl]
 rw [List.getElem?_eq_getElem hl] at hj
 cases hj
 have ea:(⟨b,off,none⟩:Addr).add j=⟨b,off+j,none⟩:=by simp [Addr.add]
 rw [ea,this,e];rfl

theorem jE (ao:Option Addr)(cap:Nat)(X:List Nat)(w:World)(hl:ae w ao X)(hX:Limbs X)(hf:X.length≤17592186044416) :
  Calls Tryz.prog 107 #[.slice ao X.length cap] w fun e w'=>(∃v,e=.returned v∧Ans w' w.heap.size v X)∧Below w.heap.size w w':=by
 obtain⟨i0,hi,hz0,hz1,hz2⟩:=info_parts Tryz.infoU
 have ho:w.ownsRow w.heap.size 63 1 (.slice none 0 0) 0 []:=World.ownsRow_nil _ _ _ _
 have key:∀ad:Addr,(∀j u,(X.map lv)[j]?=some u→w.cell? (ad.add j)=some u)→Calls Tryz.prog 107 #[.slice (some ad) X.length cap] w fun e w'=>(∃v,e=.returned v∧Ans w' w.heap.size v X)∧Below w.heap.size w w':=by
  intro ad hn
  have HX:=aa hX
  clear hX hl
  go_enter Tryz.func107,Tryz.ntmps107
  go_wp2_with (at_builtin;refine wpList_append_own _ rfl _ _ 23 rfl w.heap.size 63 i0 (.int .u64 0) 1 8 Tryz.underlying23 hi hz0 hz1 hz2 rfl (by decide) _ _ _ rfl ho ad X.length cap (X.map lv) rfl (by simp) hn (bg _) (by unfold maxLen;omega) (by omega) (Nat.le_refl _) ?_;intro v' w2 hown2 hgrow2 _)
  have HA:Hid (Ans w2 w.heap.size v' X):=by
   rw [Nat.zero_add,List.nil_append] at hown2
   exact⟨hown2,HX.out⟩
  have HB:Hid (Below w.heap.size w w2):=(Below.refl _ _).grown hgrow2 (Nat.le_refl _) (fun k hk=>by cases hk)
  clear hown2 hgrow2 ho hn
  go_wp2
  go_ret
  exact⟨⟨_,rfl,HA.out⟩,HB.out⟩
 rcases hl with h0|⟨b,off,rfl,hc⟩
 ·subst h0
  cases ao with
  | some ad=>exact key ad (fun j u h=>by simp at h)
  | none=>
   clear key ho hi hz0 hz1 hz2 hX
   go_enter Tryz.func107,Tryz.ntmps107
   go_wp2
   go_ret
   exact⟨⟨_,rfl,Ans.nil _ _⟩,Below.refl _ _⟩
 ·exact key _ (jf hc)

theorem fg (v:Value)(X:List Nat)(w:World)(hA:Arg w v X)(hf:X.length≤17592186044416) :
  Calls Tryz.prog 80 #[v] w fun e w'=>(∃v,e=.returned v∧Ans w' w.heap.size v (tr X))∧Below w.heap.size w w':=by
 obtain⟨a1,c1,rfl,hc1,hm1,hl1⟩:=hA.form
 have T1:=aJ a1 c1 X w hc1 hm1 hl1
 have l1:=tr_length_le X
 have F:=jE a1 c1 (tr X) w hl1.tr (limbs_tr hA.limbs) (by omega)
 clear hl1 hA
 go_enter Tryz.func80,Tryz.ntmps80
 go_wp2_with fail
 refine T1.mono ?_
 rintro e w2 ⟨rfl,rfl⟩
 clear T1
 go_wp2_with fail
 refine F.mono ?_
 rintro e w3 ⟨⟨v,rfl,ha⟩,hb⟩
 have HA:=aa (And.intro ha hb)
 clear ha hb F
 go_wp2
 go_ret
 exact⟨⟨v,rfl,HA.out.1⟩,HA.out.2⟩
end Go.Proofs.YteehipcoeocojaaGreatDoor
namespace Go.Proofs.YteehipcoeocojaaGreatDoor
namespace Lm

theorem mul_hi (x m cy:Nat)(hx:x<18446744073709551616)(hm:m<18446744073709551616)(hc:cy<18446744073709551616) :
  x*m / 18446744073709551616+(x*m % 18446744073709551616+cy) / 18446744073709551616=(x*m+cy) / 18446744073709551616∧(x*m+cy) / 18446744073709551616<18446744073709551616 ∧
  (x*m % 18446744073709551616+cy) % 18446744073709551616=(x*m+cy) % 18446744073709551616:=by
 have h1:x*m≤18446744073709551615*18446744073709551615:=Nat.mul_le_mul (by omega) (by omega)
 generalize x*m=p at *
 omega

end Lm
end Go.Proofs.YteehipcoeocojaaGreatDoor
namespace Go.Proofs.YteehipcoeocojaaGreatDoor
open Go.RowKit
open Lm

theorem cJ (x:Nat)(w:World)(hx:x<18446744073709551616) :
  Calls Tryz.prog 77 #[.int .u64 x] w fun e w'=>(∃v,e=.returned v∧Ans w' w.heap.size v (tr [x]))∧Below w.heap.size w w':=by
 by_cases h:x=0
 ·subst h
  have hz:(((0:Nat):Int) == 0)=true:=rfl
  go_enter Tryz.func77,Tryz.ntmps77
  go_wp2
  go_ret
  exact⟨⟨_,rfl,Ans.nil _ _⟩,Below.refl _ _⟩
 ·have hz:((x:Int) == 0)=false:=by rw [beq_eq_false_iff_ne];omega
  have e:tr [x]=[x]:=by simp [tr,h]
  rw [e]
  clear e h
  have hb:Blk (w.alloc (.cells #[.int .u64 (x:Int)] 63)) w.heap.size [x]:=by
   unfold Blk;rw [heap_alloc_new];rfl
  have HA:=aa (Ans.of_blk (base:=w.heap.size) (zs:=[x]) (Nat.le_refl _) hb rfl (Nat.le_refl _) (by simp) (by intro y hy;simp at hy;omega))
  clear hb
  go_enter Tryz.func77,Tryz.ntmps77
  go_wp2
  go_ret
  exact⟨⟨_,rfl,HA.out⟩,(Below.refl _ _).alloc (Nat.le_refl _) _⟩
end Go.Proofs.YteehipcoeocojaaGreatDoor
namespace Go.Proofs.YteehipcoeocojaaGreatDoor
namespace Lm

variable {U Y y1 y0 u1 q r:Nat}

end Lm
end Go.Proofs.YteehipcoeocojaaGreatDoor
namespace Go.Proofs.YteehipcoeocojaaGreatDoor
open Go.RowKit
open Lm

theorem gm (lo y:Nat)(w:World)(hy:y<18446744073709551616)(h0:0<y)(hlo:lo<18446744073709551616) :
  Calls Tryz.prog 108 #[.int .u64 0,.int .u64 lo,.int .u64 y] w fun e w'=>e=.returned (.tuple #[.int .u64 ((lo / y:Nat):Int),.int .u64 ((lo % y:Nat):Int)])∧ai w w':=by
 have hz:((y:Int) == 0)=false:=by rw [beq_eq_false_iff_ne];omega
 have hz2:decide ((y:Int)≤0)=false:=by simp;omega
 have e1:(lo:Int) / (y:Int)=((lo / y:Nat):Int):=(Int.natCast_ediv _ _).symm
 have e2:(lo:Int) % (y:Int)=((lo % y:Nat):Int):=(Int.natCast_emod _ _).symm
 have e3:(lo:Int).tdiv (y:Int)=((lo / y:Nat):Int):=rfl
 have e4:(lo:Int).tmod (y:Int)=((lo % y:Nat):Int):=rfl
 have b1:lo / y<18446744073709551616:=Nat.lt_of_le_of_lt (Nat.div_le_self _ _) hlo
 have b2:lo % y<18446744073709551616:=Nat.lt_of_le_of_lt (Nat.mod_le _ _) hlo
 generalize lo / y=a at *
 generalize lo % y=b at *
 have h1:(1:Int)≤(y:Int):=by omega
 go_enter Tryz.func108,Tryz.ntmps108
 go_wp2
 go_quiet (fail)
 go_wp2
 go_ret2
 exact⟨rfl,(ai.refl _).drewN _⟩

theorem dK (x s r:Nat)(h:x*2 ^ s % 18446744073709551616=r):IntKind.u64.wrap ((x:Int)*2 ^ s)=(r:Int):=by
 rw [IntKind.wrap_u64]
 have:((x:Int)*2 ^ s)=((x*2 ^ s:Nat):Int):=by rw [Int.natCast_mul,Int.natCast_pow];rfl
 rw [this];omega

theorem gK (h s l U:Nat)(hs:s≤64)(hl:l<2 ^ s)(hh:h*2 ^ s<18446744073709551616)(hU:U=h*2 ^ s+l):bits BinOp.or IntKind.u64 ((h*2 ^ s:Nat):Int) (l:Int)=(U:Int):=by
 have hll:l<18446744073709551616:=Nat.lt_of_lt_of_le hl (by rw [show (18446744073709551616:Nat)=2 ^ 64 from rfl];exact Nat.pow_le_pow_right (by omega) hs)
 rw [bits_or_u64_nat _ _ hh hll,hU,Nat.mul_comm h,Nat.two_pow_add_eq_or_of_lt hl]

theorem fK (a b:List Nat)(x y:Nat):(a ++ x :: b).set a.length y=(a ++ [y]) ++ b:=by
 simp

abbrev ag:Value:=.slice none 0 0

def upd (rows:Nat→List Nat)(i:Nat)(r:List Nat):Nat→List Nat:=fun m=>if m=i then r else rows m

theorem aO (rows:Nat→List Nat)(i:Nat)(r:List Nat):upd rows i r i=r:=by simp [upd]
theorem aT (rows:Nat→List Nat)(i m:Nat)(r:List Nat)(h:m≠i):upd rows i r m=rows m:=by simp [upd,h]

structure St (w:World)(base L:Nat)(vs:List Value)(rows:Nat→List Nat):Prop where
 list:w.heap[L]?=some (.cells vs.toArray 22 (0,0))
 row:∀i,i<vs.length→Ans w base (vs.getD i ag) (rows i)
 apart:∀i j,i<vs.length→j<vs.length→i≠j→(vs.getD i ag).ownBlock=none∨(vs.getD i ag).ownBlock≠(vs.getD j ag).ownBlock

theorem St.cell {w:World}{base L:Nat}{vs:List Value}{rows:Nat→List Nat}(h:St w base L vs rows)(i:Nat)(hi:i<vs.length):w.cell? ⟨L,i,none⟩=some (vs.getD i ag):=by
 simp [World.cell?,h.list,hi,List.getD]

theorem St.free {w:World}{base L:Nat}{vs:List Value}{rows:Nat→List Nat}(h:St w base L vs rows)(i:Nat):w.frozen? ⟨L,i,none⟩=false:=by
 simp [World.frozen?,h.list]

theorem Ans.ne {w:World}{base L:Nat}{v:Value}{zs:List Nat}{vs:Array Value}(h:Ans w base v zs)(hl:w.heap[L]?=some (.cells vs 22 (0,0))):v.ownBlock≠some L:=by
 obtain⟨_,h2⟩:=h.own
 rcases h2 with ⟨rfl,_⟩|⟨g,cap,cur,rfl,_,hh,_⟩
 ·simp [Value.ownBlock]
 ·intro e
  simp [Value.ownBlock] at e
  subst e
  rw [hl] at hh
  simp at hh

theorem Ans.stored {w:World}{base g cap:Nat}{zs:List Nat}(h:Ans w base (.slice (some ⟨g,0,none⟩) zs.length cap) zs)(j z:Nat)(hz:z<18446744073709551616):Ans (w.setCell ⟨g,j,none⟩ (.int .u64 (z:Int))) base (.slice (some ⟨g,0,none⟩) (zs.set j z).length cap) (zs.set j z):=by
 refine⟨?_,limbs_set h.limbs _ _ hz⟩
 have:=(h.own.stored j (.int .u64 (z:Int))).1
 rw [List.length_set,List.map_set]
 exact this

theorem St.store {w:World}{base L:Nat}{vs:List Value}{rows:Nat→List Nat}(h:St w base L vs rows)(i g cap:Nat)(hi:i<vs.length)(hv:vs.getD i ag=.slice (some ⟨g,0,none⟩) (rows i).length cap)(j z:Nat)(hz:z<18446744073709551616) :
  St (w.setCell ⟨g,j,none⟩ (.int .u64 (z:Int))) base L vs (upd rows i ((rows i).set j z)):=by
 have hri:=h.row i hi
 have hne:=hri.ne h.list
 rw [hv] at hne
 have hgL:L≠g:=fun e=>hne (by simp [Value.ownBlock,e])
 refine⟨?_,fun m hm=>?_,h.apart⟩
 ·rw [Below.heap_setCell _ _ _ _ hgL];exact h.list
 ·by_cases e:m=i
  ·subst e
   rw [aO,hv]
   rw [hv] at hri
   have:=hri.stored j z hz
   rw [List.length_set] at this
   exact this
  ·rw [aT _ _ _ _ e]
   refine⟨ownsRow_setCell_other (h.row m hm).own ?_ _,(h.row m hm).limbs⟩
   have:=h.apart m i hm hi e
   rw [hv] at this
   rcases this with h1|h1
   ·rw [h1];simp
   ·simpa [Value.ownBlock] using h1

theorem i7 (r:List Nat)(j c:Nat)(h:j<r.length):(List.replicate j c ++ r.drop j).set j c=List.replicate (j+1) c ++ r.drop (j+1):=by
 rw [List.drop_eq_getElem_cons h]
 have:=fK (List.replicate j c) (r.drop (j+1)) r[j] c
 rw [List.length_replicate] at this
 rw [this,←List.replicate_succ']

theorem gX (r:List Nat)(j c:Nat)(h:j≤r.length):(List.replicate j c ++ r.drop j).length=r.length:=by
 simp;omega

def aA (b:Nat):List Nat:=[b,b+1,b+2,b+3,b+4]

theorem St.grow {w w2:World}{base L:Nat}{vs:List Value}{rows:Nat→List Nat}(h:St w base L vs rows)(k:Nat)(hk:k<vs.length)(o:Obj)(v':Value)(r:List Nat)
  (ho:w2.ownsRow base 63 1 v' r.length (r.map lv)) (hl:Limbs r) (hg:(w.alloc o).grownBy w2 (vs.getD k ag).ownBlock) (hat:v'.ownBlock=(vs.getD k ag).ownBlock∨v'.ownBlock=some (w.alloc o).heap.size) :
  St (w2.setCell ⟨L,k,none⟩ v') base L (vs.set k v') (upd rows k r):=by
 have hL:=lt_of_block h.list
 have hsz:(w.alloc o).heap.size=w.heap.size+1:=by simp
 have hneL:=(h.row k hk).ne h.list
 have hL2:w2.heap[L]?=some (.cells vs.toArray 22 (0,0)):=by
  have e1:(w.alloc o).heap[L]?=w.heap[L]?:=Below.heap_alloc w o L hL
  rw [hg.block L (by omega) (fun e=>hneL e.symm),e1];exact h.list
 have hneL':v'.ownBlock≠some L:=by
  rcases hat with e|e
  ·rw [e];exact hneL
  ·rw [e];intro e2;simp at e2;omega
 refine⟨?_,fun m hm=>?_,fun i j hi hj hij=>?_⟩
 ·have hlt:=lt_of_block hL2
  have h':w2.heap[L]=.cells vs.toArray 22 (0,0):=by simpa [Array.getElem?_eq_getElem hlt] using hL2
  show (w2.heap.modify L _)[L]?=_
  rw [Array.getElem?_eq_getElem (by simpa using hlt),Array.getElem_modify_self,h']
  simp
 ·rw [List.length_set] at hm
  by_cases e:m=k
  ·subst e
   have ev:(vs.set m v').getD m ag=v':=by simp [List.getD,hm]
   rw [aO,ev]
   exact⟨ownsRow_setCell_other ho hneL' _,hl⟩
  ·have ev:(vs.set k v').getD m ag=vs.getD m ag:=by
    simp [List.getD,List.getElem?_set_ne (Ne.symm e)]
   rw [aT _ _ _ _ e,ev]
   have hr:=h.row m hm
   refine⟨ownsRow_setCell_other (((hr.own).alloc o).kept hg ?_) (hr.ne h.list) _,hr.limbs⟩
   exact h.apart m k hm hk e
 ·rw [List.length_set] at hi hj
  have hlt:∀m,m<vs.length→∀g,(vs.getD m ag).ownBlock=some g→g<w.heap.size:=fun m hm g hg=>((h.row m hm).own.lt g hg).2
  by_cases e1:i=k
  ·subst e1
   have ev:(vs.set i v').getD i ag=v':=by simp [List.getD,hi]
   have ev2:(vs.set i v').getD j ag=vs.getD j ag:=by simp [List.getD,List.getElem?_set_ne hij]
   rw [ev,ev2]
   rcases hat with e|e
   ·rw [e];exact h.apart i j hi hj hij
   ·right
    rw [e]
    intro e2
    have:=hlt j hj _ e2.symm
    omega
  ·by_cases e2:j=k
   ·subst e2
    have ev:(vs.set j v').getD j ag=v':=by simp [List.getD,hj]
    have ev2:(vs.set j v').getD i ag=vs.getD i ag:=by simp [List.getD,List.getElem?_set_ne (Ne.symm e1)]
    rw [ev,ev2]
    rcases hat with e|e
    ·rw [e];exact h.apart i j hi hj hij
    ·right
     rw [e]
     intro e3
     have:=hlt i hi _ e3
     omega
   ·have ev:(vs.set k v').getD i ag=vs.getD i ag:=by simp [List.getD,List.getElem?_set_ne (Ne.symm e1)]
    have ev2:(vs.set k v').getD j ag=vs.getD j ag:=by simp [List.getD,List.getElem?_set_ne (Ne.symm e2)]
    rw [ev,ev2]
    exact h.apart i j hi hj hij

theorem St.congr {w:World}{base L:Nat}{vs:List Value}{rows rows':Nat→List Nat}(h:St w base L vs rows)(he:∀i,i<vs.length→rows i=rows' i):St w base L vs rows':=
 ⟨h.list,fun i hi=>by rw [←he i hi];exact h.row i hi,h.apart⟩

def over (rows:Nat→List Nat)(m:Nat):List Nat:=List.replicate (rows m).length (m % 251+1)

def aG (rows:Nat→List Nat)(k m:Nat):List Nat:=if m<k then over rows m else rows m

theorem eY (rows:Nat→List Nat)(k m:Nat)(h:m≠k):aG rows k m=aG rows (k+1) m:=by
 unfold aG
 by_cases h1:m<k
 ·rw [if_pos h1,if_pos (by omega)]
 ·rw [if_neg h1,if_neg (by omega)]

theorem jZ (rows:Nat→List Nat)(k:Nat)(hk:k≤1000):Limbs (over rows k ++ aA (300+5*k)):=by
 intro z hz
 rcases List.mem_append.1 hz with h|h
 ·have:=List.eq_of_mem_replicate h
  omega
 ·simp only [aA,List.mem_cons,List.not_mem_nil,or_false] at h
  omega

theorem f6 (rows:Nat→List Nat)(k j:Nat)(h:j<(rows k).length):(over rows k ++ aA (300+5*k)).getD j 0=k % 251+1:=by
 have hl:j<(over rows k).length:=by simpa [over] using h
 rw [List.getD,List.getElem?_append_left hl]
 simp [over,h]

theorem iQ (rows:Nat→List Nat)(k j:Nat)(h:(rows k).length≤j)(h2:j<(rows k).length+5):(over rows k ++ aA (300+5*k)).getD j 0=300+5*k+(j - (rows k).length):=by
 obtain⟨i,rfl⟩:∃i,j=(rows k).length+i:=⟨j - (rows k).length,by omega⟩
 have hl:(over rows k).length≤(rows k).length+i:=by simp [over]
 rw [List.getD,List.getElem?_append_right hl]
 match i,show i<5 by omega with
 | 0,_=>simp [over,aA]
 | 1,_=>simp [over,aA]
 | 2,_=>simp [over,aA]
 | 3,_=>simp [over,aA]
 | 4,_=>simp [over,aA]

theorem il {w:World}{base e n:Nat}{v:Value}{xs:List Value}(h:w.ownsRow base e 1 v n xs)(hn:0<n):∃g cap,v=.slice (some ⟨g,0,none⟩) n cap:=by
 rcases h.2 with ⟨_,h0⟩|⟨g,cap,_,hv,_⟩
 ·omega
 ·exact⟨g,cap,hv⟩

theorem St.kept {w w2:World}{base L:Nat}{vs:List Value}{rows:Nat→List Nat}{v:Value}(h:St w base L vs rows)(k:Nat)(hk:k<vs.length)(hv:vs.getD k ag=v)(o:Obj)(hg:(w.alloc o).grownBy w2 v.ownBlock) :
  w2.cell? ⟨L,k,none⟩=some v∧w2.frozen? ⟨L,k,none⟩=false:=by
 have hL:=lt_of_block h.list
 have hneL:=(h.row k hk).ne h.list
 rw [hv] at hneL
 have hsz:(w.alloc o).heap.size=w.heap.size+1:=by simp
 have e:w2.heap[L]?=w.heap[L]?:=by
  rw [hg.block L (by omega) (fun e=>hneL e.symm)];exact Below.heap_alloc w o L hL
 refine⟨?_,?_⟩
 ·rw [World.cell?_of_block (w:=w) (a:=⟨L,k,none⟩) e,h.cell k hk,hv]
 ·rw [World.frozen?_of_block (w:=w) (a:=⟨L,k,none⟩) e];exact h.free k

theorem gJ (L base:Nat)(vs:List Value)(rows:Nat→List Nat)(w:World)(h:St w base L vs rows)(hn:vs.length≤1000)(hl:∀i,i<vs.length→(rows i).length≤17592186044000)(hb:base≤L) :
  Calls Tryz.prog 22 #[.slice (some ⟨L,0,none⟩) vs.length vs.length] w fun e w'=>e=.returned (.bool true)∧Below base w w':=by
 go_enter Tryz.func22,Tryz.ntmps22
 go_wp2
 go_loopw [15] (fun i wr=>∃k:Nat,k≤vs.length∧i=.int .i64 k∧St wr base L vs (aG rows k)∧Below base w wr) (fun i _=>vs.length - (intOf i).toNat)
 case atStart=>exact⟨0,Nat.zero_le _,rfl,h.congr (fun i _=>by simp [aG]),Below.refl _ _⟩
 case round=>
  obtain⟨k,hk,rfl,hst,hbl⟩:=hrel
  by_cases hkl:k<vs.length
  ·have hck:=hst.cell k hkl
   have hrow:=hst.row k hkl
   have hrk:aG rows k k=rows k:=by simp [aG]
   rw [hrk] at hrow
   have hlk:=hl k hkl
   have ec:(k:Int) % 251+1=((k % 251+1:Nat):Int):=by omega
   have bc:k % 251+1<18446744073709551616:=by omega
   have HRK:=aa hrk
   have HOV:Hid (over rows k=List.replicate (rows k).length (k % 251+1)):=rfl
   have HST:=aa hst
   have HBL:=aa hbl
   generalize k % 251+1=c at *
   clear hst hbl hrk h
   rcases hrow.form with ⟨hv,hz⟩|⟨g,cap,hv,hg1,hg2,hcap,hmax,_,_⟩
   ·rw [hv] at hck
    have HZ:=aa hz
    clear hrow hv hz
    go_wp2
    refine wp_loop_rounds 1 ?_
    rw [rounds_succ]
    go_wp2
    go_roundw
    case rel=>
     refine⟨k+1,by omega,by go_num,HST.out.congr (fun m _=>?_),HBL.out⟩
     by_cases e:m=k
     ·subst e
      rw [HRK.out]
      simp [aG,over,HZ.out]
     ·exact eY rows k m e
    case measure=>simp [intOf];omega
   ·rw [hv] at hck
    go_wp2
    go_loopw [22] (fun i wr=>∃j:Nat,j≤(rows k).length∧i=.int .i64 j∧St wr base L vs (upd (aG rows k) k (List.replicate j c ++ (rows k).drop j))∧Below base w wr) (fun i _=>(rows k).length - (intOf i).toNat)
    case atStart=>
     refine⟨0,Nat.zero_le _,rfl,HST.out.congr (fun m _=>?_),HBL.out⟩
     by_cases e:m=k
     ·subst e;rw [HRK.out,aO];simp
     ·rw [aT _ _ _ _ e]
    case round=>
     obtain⟨j,hj,rfl,hst,hbl⟩:=hrel
     clear HST HBL
     by_cases hjl:j<(rows k).length
     ·have hr2:=hst.row k hkl
      rw [aO] at hr2
      have hfl:=gX (rows k) j c hj
      rcases hr2.form with ⟨hv2,_⟩|⟨g',cap',hv2,hg1',hg2',_,_,hfr',hcl'⟩
      ·rw [hv2] at hv;cases hv
      ·have hgg:g'=g:=by rw [hv2] at hv;simp only [Value.slice.injEq,Option.some.injEq,Addr.mk.injEq] at hv;exact hv.1.1
       subst hgg
       have hfr:=hfr' j
       have hco:=hcl' j (by omega)
       have hst2:=hst.store k g' cap' hkl (by rw [aO];exact hv2) j c bc
       rw [aO,i7 (rows k) j c hjl] at hst2
       have HS:=aa hst2
       have HL:=aa (hbl.setCell (p:=⟨g',j,none⟩) hg1' (.int .u64 (c:Int)))
       generalize (List.replicate j c ++ (rows k).drop j).getD j 0=o at *
       clear hst hbl hst2 hr2 hv2 hfr' hcl' hrow hv hck hfl
       go_wp2
       go_roundw
       case rel=>
        refine⟨j+1,by omega,by go_num,HS.out.congr (fun m _=>?_),HL.out⟩
        by_cases e:m=k
        ·subst e;rw [aO,aO]
        ·rw [aT _ _ _ _ e,aT _ _ _ _ e,aT _ _ _ _ e]
       case measure=>simp [intOf];omega
     ·have ej:j=(rows k).length:=by omega
      subst ej
      have HS:=aa hst
      have HL:=aa hbl
      clear hst hbl hrow hv hck
      go_wp2
      go_roundw
      case rel=>
       refine⟨k+1,by omega,by go_num,HS.out.congr (fun m _=>?_),HL.out⟩
       by_cases e:m=k
       ·subst e
        rw [aO]
        have:aG rows (m+1) m=over rows m:=by simp [aG]
        rw [this,HOV.out];simp
       ·rw [aT _ _ _ _ e];exact eY rows k m e
      case measure=>simp [intOf];omega
  ·have ek:k=vs.length:=by omega
   subst ek
   have hst3:St wr base L vs (over rows):=hst.congr (fun m hm=>by simp [aG,hm])
   have HST:=aa hst3
   have HBL:=aa hbl
   clear hst hbl hst3 h
   obtain⟨i0,hi,hz0,hz1,hz2⟩:=info_parts Tryz.infoU
   go_wp2
   go_loopw [36] (fun i wr=>∃(k:Nat) (us:List Value),k≤vs.length∧us.length=vs.length∧i=.int .i64 k∧St wr base L us (fun m=>if m<k then over rows m ++ aA (300+5*m) else over rows m)∧Below base w wr) (fun i _=>vs.length - (intOf i).toNat)
   case atStart=>exact⟨0,vs,Nat.zero_le _,rfl,rfl,HST.out.congr (fun m _=>by simp),HBL.out⟩
   case round=>
    obtain⟨k,us,hk',hus,rfl,hst,hbl⟩:=hrel
    clear HST HBL
    by_cases hkl':k<vs.length
    ·have hku:k<us.length:=by omega
     have hck:=hst.cell k hku
     have hrow:=hst.row k hku
     simp only [Nat.lt_irrefl,if_false] at hrow
     have hfr:=hst.free k
     have hlen:(over rows k).length≤17592186044000:=by unfold over;rw [List.length_replicate];exact hl k hkl'
     have eb:(300:Int)+5*(k:Int)=((300+5*k:Nat):Int):=by omega
     have HST:=aa hst
     have HBL:=aa hbl
     have HV:=aa (rfl:us.getD k ag=us.getD k ag)
     have HB5:Hid (300+5*k<6000):=by unfold Hid;omega
     obtain⟨bb,hbb⟩:∃bb,bb=300+5*k:=⟨_,rfl⟩
     rw [←hbb] at eb
     have hb6:bb<6000:=by omega
     have HBB:=aa hbb
     generalize hv:us.getD k ag=v at *
     have HVV:=aa hv
     obtain⟨b1,h1⟩:∃b1,b1=bb+1:=⟨_,rfl⟩
     obtain⟨b2,h2⟩:∃b2,b2=bb+2:=⟨_,rfl⟩
     obtain⟨b3,h3⟩:∃b3,b3=bb+3:=⟨_,rfl⟩
     obtain⟨b4,h4⟩:∃b4,b4=bb+4:=⟨_,rfl⟩
     have g1:(bb:Int)+1=(b1:Int):=by omega
     have g2:(bb:Int)+2=(b2:Int):=by omega
     have g3:(bb:Int)+3=(b3:Int):=by omega
     have g4:(bb:Int)+4=(b4:Int):=by omega
     have q1:b1<18446744073709551616:=by omega
     have q2:b2<18446744073709551616:=by omega
     have q3:b3<18446744073709551616:=by omega
     have q4:b4<18446744073709551616:=by omega
     have H5:Hid ([bb,b1,b2,b3,b4]=aA (300+5*k)):=aa (by rw [h1,h2,h3,h4,hbb];rfl)
     clear hst hbl hv hbb HV h1 h2 h3 h4
     go_wp2_with (at_builtin;refine wpList_append_own_at _ rfl _ _ 22 rfl base 63 i0 (.int .u64 0) 1 8 Tryz.underlying22 hi hz0 hz1 hz2 rfl (by decide) v (over rows k).length _ rfl (hrow.own.alloc _) ⟨wr.heap.size,0,none⟩ 5 5 ([bb,b1,b2,b3,b4].map lv) rfl rfl (bn [bb,b1,b2,b3,b4]) (bg _) (by unfold maxLen;omega) (by omega) (by have:=lt_of_block HST.out.list;simp;omega) ?_;intro v' w2 hown2 hgrow2 _ hat2;have hkp:=HST.out.kept k hku HVV.out _ hgrow2;have hck2:=hkp.1;have hfr2:=hkp.2;clear hkp;obtain⟨g5,cap5,hv5⟩:=il hown2 (by omega);subst hv5;have HO:=aa hown2;have HG:=aa hgrow2;have HAT:=aa hat2;clear hown2 hgrow2 hat2)
     go_roundw
     case rel=>
      refine⟨k+1,us.set k _,by omega,by rw [List.length_set];exact hus,by go_num,(HST.out.grow k hku _ _ (over rows k ++ aA (300+5*k)) ?_ ?_ (by rw [HVV.out];exact HG.out) (by rw [HVV.out];exact HAT.out)).congr (fun m _=>?_),?_⟩
      ·rw [←H5.out,List.length_append,List.map_append];exact HO.out
      ·exact jZ rows k (by omega)
      ·by_cases e:m=k
       ·subst e;rw [aO];simp
       ·rw [aT _ _ _ _ e]
        by_cases h1:m<k
        ·rw [if_pos h1,if_pos (by omega)]
        ·rw [if_neg h1,if_neg (by omega)]
      ·have hLs:=lt_of_block HST.out.list
       exact ((HBL.out.alloc (by omega) _).grown HG.out (by simp;omega) (fun g hg=>(hrow.own.lt g hg).1)).setCell hb _
     case measure=>simp [intOf];omega
    ·have ek:k=vs.length:=by omega
     subst ek
     have hst4:St wr base L us (fun m=>over rows m ++ aA (300+5*m)):=hst.congr (fun m hm=>by simp [show m<vs.length by omega])
     have HST:=aa hst4
     have HBL:=aa hbl
     clear hst hbl hst4 hi hz0 hz1 hz2
     go_wp2
     go_loop [64] (fun i=>∃k:Nat,k≤vs.length∧i=.int .i64 k) (fun i=>vs.length - (intOf i).toNat)
     case atStart=>exact⟨0,Nat.zero_le _,rfl⟩
     case round=>
      obtain⟨k,hk4,rfl⟩:=hrel
      by_cases hkl4:k<vs.length
      ·have hku:k<us.length:=by omega
       have hck:=HST.out.cell k hku
       have hrow:=HST.out.row k hku
       have hlr:(over rows k ++ aA (300+5*k)).length=(rows k).length+5:=by simp [over,aA]
       rcases hrow.form with ⟨_,h0⟩|⟨g,cap,hv,_,_,hgl,hgm,_,hgc⟩
       ·rw [h0] at hlr;simp at hlr
       ·rw [hlr] at hv hgl hgc
        rw [hv] at hck
        have hzl:=hl k hkl4
        have HGC:=aa hgc
        clear hrow hgc hv hlr
        go_wp2
        go_loop [71] (fun i=>∃j:Nat,j≤(rows k).length+5∧i=.int .i64 j) (fun i=>(rows k).length+5 - (intOf i).toNat)
        case atStart=>exact⟨0,Nat.zero_le _,rfl⟩
        case round=>
         obtain⟨j,hj,rfl⟩:=hrel
         by_cases hjl:j<(rows k).length+5
         ·have hcj:=HGC.out j hjl
          by_cases hj2:j<(rows k).length
          ·rw [f6 rows k j hj2] at hcj
           have ec:(k:Int) % 251+1=((k % 251+1:Nat):Int):=by omega
           have bc:k % 251+1<18446744073709551616:=by omega
           generalize k % 251+1=c at *
           have hne:((c:Int) != (c:Int))=false:=by simp
           have i1:(j:Int)<((rows k).length:Int):=by omega
           have hd2:decide (((rows k).length:Int)≤(j:Int))=false:=decide_eq_false (by omega)
           generalize (rows k).length=zl at *
           go_wp2
           go_round
           case rel=>exact⟨j+1,by omega,by go_num⟩
           case measure=>simp [intOf];omega
          ·rw [iQ rows k j (by omega) hjl] at hcj
           have hd1:decide ((j:Int)<((rows k).length:Int))=false:=decide_eq_false (by omega)
           have i1:((rows k).length:Int)≤(j:Int):=by omega
           generalize (rows k).length=zl at *
           obtain⟨t,ht⟩:∃t,t=300+5*k+(j - zl):=⟨_,rfl⟩
           rw [←ht] at hcj
           have et:(300:Int)+5*(k:Int)+(j:Int) - ((zl:Int)+5)+5=(t:Int):=by omega
           have bt:t<18446744073709551616:=by omega
           have hne:((t:Int) != (t:Int))=false:=by simp
           have HT:=aa ht
           clear ht
           go_wp2
           go_round
           case rel=>exact⟨j+1,by omega,by go_num⟩
           case measure=>simp [intOf];omega
         ·go_wp2
          go_round
          case rel=>exact⟨k+1,by omega,by go_num⟩
          case measure=>simp [intOf];omega
      ·go_wp2
       go_ret
       exact⟨rfl,HBL.out⟩

def am (w:World):Nat→List Value→List (List Nat)→Prop
 | _,[],[]=>True
 | b,v :: vs,r :: rs=>∃b',(b≤b'∧b'≤w.heap.size)∧Ans w b v r∧(∀g,v.ownBlock=some g→g<b')∧am w b' vs rs
 | _,_,_=>False

theorem Ans.top {w:World}{base:Nat}{v:Value}{zs:List Nat}(h:Ans w base v zs):∀g,v.ownBlock=some g→g<w.heap.size:=fun g hg=>(h.own.lt g hg).2

theorem Ans.slice {w:World}{base:Nat}{v:Value}{zs:List Nat}(h:Ans w base v zs):∃ao n cap,v=.slice ao n cap:=by
 rcases h.form with ⟨rfl,_⟩|⟨g,cap,rfl,_⟩
 ·exact⟨_,_,_,rfl⟩
 ·exact⟨_,_,_,rfl⟩

theorem aR {w a b:World}(h:Hid (Below w.heap.size w a))(hb:Below a.heap.size a b):Hid (Below w.heap.size w b):=h.out.trans (hb.mono h.out.size)

theorem am.length {w:World}:∀ {b:Nat} {vs:List Value} {rs:List (List Nat)},am w b vs rs→vs.length=rs.length
 | _,[],[],_=>rfl
 | _,_ :: _,_ :: _,⟨_,_,_,_,h⟩=>by simp [h.length]
 | _,[],_ :: _,h=>h.elim
 | _,_ :: _,[],h=>h.elim

theorem am.row {w:World}:∀ {b:Nat} {vs:List Value} {rs:List (List Nat)},am w b vs rs→∀i,i<vs.length→Ans w b (vs.getD i ag) (rs.getD i [])
 | _,[],_,_,i,hi=>absurd hi (by simp)
 | _,_ :: _,[],h,_,_=>h.elim
 | _,v :: vs,r :: rs,⟨b',h1,h2,h3,h4⟩,i,hi=>by
  cases i with
  | zero=>exact h2
  | succ i=>exact (h4.row i (by simpa using hi)).base h1.1

theorem am.from {w:World}{b:Nat}{vs:List Value}{rs:List (List Nat)}(h:am w b vs rs)(i:Nat)(hi:i<vs.length)(g:Nat)(hg:(vs.getD i ag).ownBlock=some g):b≤g:=((h.row i hi).own.lt g hg).1

theorem am.apart {w:World}:∀ {b:Nat} {vs:List Value} {rs:List (List Nat)},am w b vs rs→∀i j,i<vs.length→j<vs.length→i≠j→(vs.getD i ag).ownBlock=none∨(vs.getD i ag).ownBlock≠(vs.getD j ag).ownBlock
 | _,[],_,_,i,_,hi,_,_=>absurd hi (by simp)
 | _,_ :: _,[],h,_,_,_,_,_=>h.elim
 | _,v :: vs,r :: rs,⟨b',h1,h2,h3,h4⟩,i,j,hi,hj,hij=>by
  cases i with
  | zero=>
   cases j with
   | zero=>exact absurd rfl hij
   | succ j=>
    show v.ownBlock=none∨v.ownBlock≠(vs.getD j ag).ownBlock
    cases hv:v.ownBlock with
    | none=>exact .inl rfl
    | some g=>
     refine .inr fun e=>?_
     have a:=h3 g hv
     have b:=h4.from j (by simpa using hj) g e.symm
     omega
  | succ i=>
   cases j with
   | zero=>
    show (vs.getD i ag).ownBlock=none∨(vs.getD i ag).ownBlock≠v.ownBlock
    cases hv:(vs.getD i ag).ownBlock with
    | none=>exact .inl rfl
    | some g=>
     refine .inr fun e=>?_
     have a:=h3 g e.symm
     have b:=h4.from i (by simpa using hi) g hv
     omega
   | succ j=>exact h4.apart i j (by simpa using hi) (by simpa using hj) (by omega)

theorem am.below {w w':World}(hb:Below w.heap.size w w'):∀ {b:Nat} {vs:List Value} {rs:List (List Nat)},am w b vs rs→am w' b vs rs
 | _,[],[],_=>trivial
 | _,_ :: _,_ :: _,⟨b',h1,h2,h3,h4⟩=>⟨b',⟨h1.1,Nat.le_trans h1.2 hb.size⟩,h2.below hb,h3,am.below hb h4⟩
 | _,[],_ :: _,h=>h.elim
 | _,_ :: _,[],h=>h.elim

theorem am.snoc {w w':World}{v:Value}{r:List Nat}(hb:Below w.heap.size w w')(ha:Ans w' w.heap.size v r):∀ {b:Nat} {vs:List Value} {rs:List (List Nat)},am w b vs rs→b≤w.heap.size→am w' b (vs ++ [v]) (rs ++ [r])
 | _,[],[],_,hl=>⟨w'.heap.size,⟨Nat.le_trans hl hb.size,Nat.le_refl _⟩,ha.base hl,ha.top,trivial⟩
 | _,_ :: _,_ :: _,⟨b',h1,h2,h3,h4⟩,_=>⟨b',⟨h1.1,Nat.le_trans h1.2 hb.size⟩,h2.below hb,h3,am.snoc hb ha h4 h1.2⟩
 | _,[],_ :: _,h,_=>h.elim
 | _,_ :: _,[],h,_=>h.elim

theorem am.one {w:World}{b:Nat}{v:Value}{r:List Nat}(h:Ans w b v r)(hb:b≤w.heap.size):am w b [v] [r]:=⟨w.heap.size,⟨hb,Nat.le_refl _⟩,h,h.top,trivial⟩

theorem cr (base:Nat)(vs:List Value)(rss:List (List Nat))(w:World)(h:am w base vs rss)(hn:vs.length≤1000)(hl:∀r ∈ rss,r.length≤17592186044000)(hb:base≤w.heap.size) :
  Calls Tryz.prog 22 #[.slice (some ⟨w.heap.size,0,none⟩) vs.length vs.length] (w.alloc (.cells vs.toArray 22)) fun e w'=>e=.returned (.bool true)∧Below base w w':=by
 have hst:St (w.alloc (.cells vs.toArray 22)) base w.heap.size vs (fun i=>rss.getD i []):=by
  have h':=h.below ((Below.refl _ _).alloc (Nat.le_refl _) (.cells vs.toArray 22))
  exact⟨by rw [heap_alloc_new],h'.row,h'.apart⟩
 refine (gJ w.heap.size base vs (fun i=>rss.getD i []) _ hst hn ?_ hb).mono ?_
 ·intro i hi
  have hi':i<rss.length:=by rw [←h.length];exact hi
  show (rss.getD i []).length≤_
  have e:rss.getD i []=rss[i]:=by simp [List.getD,hi']
  rw [e]
  exact hl _ (List.getElem_mem _)
 ·rintro e w' ⟨rfl,hbel⟩
  exact⟨rfl,((Below.refl _ _).alloc hb _).trans hbel⟩

theorem Res.few {w:World}{base:Nat}{v:Value}{c:Int}{rs:List Nat}{s:Nat}(_:Ans w base v rs)(h:(c=0∧val rs=s∧tr rs=rs∧blen s≤67108864)∨(c=3∧rs=[]∧67108864<blen s)):rs.length≤1048576:=by
 rcases h with ⟨_,hv,ht,hs⟩|⟨_,rfl,_⟩
 ·have:=few_limbs rs 1048576 (by rw [hv];omega)
  rwa [ht] at this
 ·simp
end Go.Proofs.YteehipcoeocojaaGreatDoor
namespace Go.Proofs.YteehipcoeocojaaGreatDoor
open Go.RowKit
open Lm
attribute [local go_sem ↓] Go.wp_at_zero Go.wp_at_succ

theorem eE (w:World):Calls Tryz.prog 31 #[.int .i64 16] w fun e w'=>e=.returned (.bool true)∧w'=w:=by
 go_enter Tryz.func31,Tryz.ntmps31
 go_wp2
 go_ret
 exact⟨rfl,rfl⟩

theorem eW (w:World)(hT:Tab w):Calls Tryz.prog 56 #[.int .u64 16] w fun e w'=>e=.returned (.int .i64 4)∧w'=w:=by
 have H:=cV 16 4 w (by omega) ⟨by decide,by decide⟩ hT
 clear hT
 go_enter Tryz.func56,Tryz.ntmps56
 go_wp2_with fail
 refine H.mono ?_
 rintro e wn ⟨rfl,hw⟩;rw [hw];clear hw wn H
 go_wp2
 go_ret
 exact⟨rfl,rfl⟩

theorem jQ (w:World):Calls Tryz.prog 58 #[.int .u64 255,.int .u64 16] w fun e w'=>e=.returned (.int .i64 2)∧w'=w:=by
 go_enter Tryz.func58,Tryz.ntmps58
 go_wp2
 refine wp_loop_rounds 2 ?_
 rw [rounds_succ]
 go_wp2
 rw [rounds_succ]
 go_wp2
 go_ret
 exact⟨rfl,rfl⟩

theorem d7 (w:World):Calls Tryz.prog 79 #[.int .i64 16] w fun e w'=>e=.returned (.tuple #[.int .i64 15,.int .u64 1152921504606846976])∧w'=w:=by
 go_enter Tryz.func79,Tryz.ntmps79
 go_wp2
 refine wp_loop_rounds 16 ?_
 iterate 16
  rw [rounds_succ]
  go_wp2
 go_returns
 exact⟨rfl,rfl⟩

theorem gE (va:Value)(X:List Nat)(w:World)(hA:Arg w va X)(hT:Tab w)(hX:val X=255)(hl:X.length=1) :
  Calls Tryz.prog 34 #[va,.int .i64 16] w fun e w'=>e=.returned (.int .i64 2)∧w'=w:=by
 have L1:=aL va X w hA
 rw [hX,show blen 255=8 from rfl] at L1
 have T1:=eW w hT
 have S1:=jn va X w hA
 have ht:(tr X).length≤1:=Nat.le_trans (tr_length_le X) (by omega)
 rw [if_pos ht,decide_eq_true ht] at S1
 have hg:(tr X).getD 0 0=255:=by
  have h2:=val_tr X
  rw [hX] at h2
  match h:tr X,ht,h2 with
  | [],_,h2=>simp [val] at h2
  | [a],_,h2=>simpa [val] using h2
  | a :: b :: c,h1,_=>simp at h1
 rw [hg] at S1
 have C1:=jQ w
 clear hA hT hX hl ht hg
 go_enter Tryz.func34,Tryz.ntmps34
 go_wp2_with fail
 refine L1.mono ?_
 rintro e wn ⟨rfl,hw⟩;rw [hw];clear hw wn L1
 go_wp2_with fail
 refine T1.mono ?_
 rintro e wn ⟨rfl,hw⟩;rw [hw];clear hw wn T1
 go_wp2_with fail
 refine S1.mono ?_
 rintro e wn ⟨rfl,hw⟩;rw [hw];clear hw wn S1
 go_wp2_with fail
 refine C1.mono ?_
 rintro e wn ⟨rfl,hw⟩;rw [hw];clear hw wn C1
 go_wp2
 go_ret
 exact⟨rfl,rfl⟩
end Go.Proofs.YteehipcoeocojaaGreatDoor

