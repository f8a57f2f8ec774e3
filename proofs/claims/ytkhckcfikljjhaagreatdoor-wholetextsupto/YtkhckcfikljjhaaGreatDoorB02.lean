/- Plain facts: digits to a base B, the least first; limbs of 64 bits as digits of 32. -/
import Derived.Test.YtkhckcfikljjhaaGreatDoorB01
import Derived.Laws.AppendOwnNone
import Derived.Deep.CutBlock
import Derived.Deep.DeepCutAuto
import Derived.Maps.AppendAt
set_option maxRecDepth 100000
set_option maxHeartbeats 1000000
namespace Go.Proofs.YtkhckcfikljjhaaGreatDoor
namespace Lm

def vb (B:Nat):List Nat→Nat
 | []=>0
 | z :: r=>z+B*vb B r

def Digs (B:Nat)(zs:List Nat):Prop:=∀z ∈ zs,z<B

variable {B:Nat}

theorem vb_tr (zs:List Nat):vb B (tr zs)=vb B zs:=by
 induction zs with
 | nil=>rfl
 | cons z r ih=>
  unfold tr
  split
  ·rename_i h
   rw [h.2] at ih
   simp only [vb] at ih ⊢
   rw [←ih,h.1];simp
  ·simp only [vb];rw [ih]

theorem vb_append (a b:List Nat):vb B (a ++ b)=vb B a+B ^ a.length*vb B b:=by
 induction a with
 | nil=>simp [vb]
 | cons z r ih=>
  simp only [List.cons_append,vb,ih,List.length_cons,Nat.pow_succ,Nat.mul_add]
  rw [←Nat.mul_assoc,Nat.mul_comm (B ^ r.length) B];omega

theorem vb_lt {zs:List Nat}(h:Digs B zs):vb B zs<B ^ zs.length:=by
 induction zs with
 | nil=>simp [vb]
 | cons z r ih=>
  have hz:z<B:=h z (by simp)
  have hr:=ih (fun x hx=>h x (by simp [hx]))
  simp only [vb,List.length_cons,Nat.pow_succ]
  have:=Nat.mul_le_mul_left B (Nat.succ_le_of_lt hr)
  rw [Nat.succ_eq_add_one,Nat.mul_add] at this
  rw [Nat.mul_comm (B ^ r.length)]
  omega

theorem vb_take_next (zs:List Nat)(k:Nat):vb B (zs.take (k+1))=vb B (zs.take k)+B ^ k*zs.getD k 0:=by
 by_cases h:k<zs.length
 ·rw [take_snoc zs k h,vb_append]
  have e:(zs.take k).length=k:=by simp;omega
  rw [e];simp [vb]
 ·have e:zs.getD k 0=0:=by simp [List.getD,Nat.le_of_not_lt h]
  rw [e,List.take_of_length_le (by omega),List.take_of_length_le (by omega)];simp

theorem vb_set_succ (out:List Nat)(k z:Nat)(h:k<out.length):vb B ((out.set k z).take (k+1))=vb B (out.take k)+B ^ k*z:=by
 rw [vb_take_next,List.take_set_of_le (Nat.le_refl k)]
 congr 2
 simp [List.getD,h]

theorem digs_tr {zs:List Nat}(h:Digs B zs):Digs B (tr zs):=by
 intro z hz
 rw [tr_take] at hz
 exact h z (List.mem_of_mem_take hz)

theorem dig_lt (hB:0<B){zs:List Nat}(h:Digs B zs)(k:Nat):zs.getD k 0<B:=by
 by_cases hk:k<zs.length
 ·have e:zs.getD k 0=zs[k]:=by simp [List.getD,hk]
  rw [e];exact h _ (List.getElem_mem hk)
 ·have e:zs.getD k 0=0:=by simp [List.getD,Nat.le_of_not_lt hk]
  omega

theorem digs_set {out:List Nat}(h:Digs B out)(k z:Nat)(hz:z<B):Digs B (out.set k z):=by
 intro y hy
 rcases List.mem_or_eq_of_mem_set hy with h1|h1
 ·exact h y h1
 ·omega

theorem digs_replicate (hB:0<B)(n:Nat):Digs B (List.replicate n 0):=by
 intro z hz
 have:=List.eq_of_mem_replicate hz
 omega

theorem digs_limbs {zs:List Nat}(h:Digs 4294967296 zs):Limbs zs:=fun z hz=>by have:=h z hz;omega

theorem vb_tail_zero (hB:0<B){a:List Nat}(h:tr a=a)(hv:vb B a=0):a=[]:=by
 induction a with
 | nil=>rfl
 | cons z r ih=>
  exfalso
  simp only [vb] at hv
  have hz:z=0:=by omega
  have hr:vb B r=0:=by
   rcases Nat.mul_eq_zero.1 (show B*vb B r=0 by omega) with h|h
   ·omega
   ·exact h
  have:=ih (tr_tail h) hr
  subst this hz
  simp [tr] at h

theorem vb_add_step (X S out:List Nat)(k cy:Nat)(hk:k<out.length)(h:vb B (out.take k)+cy*B ^ k=vb B (X.take k)+vb B (S.take k)) :
  vb B ((out.set k ((X.getD k 0+S.getD k 0+cy) % B)).take (k+1))+(X.getD k 0+S.getD k 0+cy) / B*B ^ (k+1)=vb B (X.take (k+1))+vb B (S.take (k+1)):=by
 rw [vb_set_succ _ _ _ hk,vb_take_next X,vb_take_next S]
 generalize X.getD k 0=x
 generalize S.getD k 0=y
 have hd:=Nat.div_add_mod (x+y+cy) B
 generalize (x+y+cy) % B=m at *
 generalize (x+y+cy) / B=d at *
 rw [Nat.pow_succ]
 generalize B ^ k=p at *
 have e1:p*m+d*(p*B)=p*(B*d+m):=by
  rw [Nat.mul_add,Nat.add_comm];congr 1;rw [←Nat.mul_assoc,←Nat.mul_assoc,Nat.mul_comm d p,Nat.mul_assoc,Nat.mul_assoc,Nat.mul_comm d]
 have e2:p*(x+y+cy)=p*x+p*y+cy*p:=by rw [Nat.mul_add,Nat.mul_add,Nat.mul_comm cy]
 rw [hd,e2] at e1
 omega

def halves:List Nat→List Nat
 | []=>[]
 | z :: r=>z % 4294967296 :: z / 4294967296 :: halves r

theorem halves_append (a b:List Nat):halves (a ++ b)=halves a ++ halves b:=by
 induction a with
 | nil=>rfl
 | cons z r ih=>simp [halves,ih]

theorem halves_length (a:List Nat):(halves a).length=2*a.length:=by
 induction a with
 | nil=>rfl
 | cons z r ih=>simp [halves,ih];omega

theorem halves_val (a:List Nat):vb 4294967296 (halves a)=val a:=by
 induction a with
 | nil=>rfl
 | cons z r ih=>simp only [halves,vb,val,ih];omega

theorem halves_digs {a:List Nat}(h:Limbs a):Digs 4294967296 (halves a):=by
 induction a with
 | nil=>intro z hz;cases hz
 | cons x r ih=>
  intro z hz
  have hx:=h x (by simp)
  simp only [halves,List.mem_cons] at hz
  rcases hz with rfl|rfl|hz
  ·exact Nat.mod_lt _ (by omega)
  ·omega
  ·exact ih (fun y hy=>h y (by simp [hy])) z hz

theorem halves_take (zs:List Nat)(k:Nat)(h:k<zs.length):halves (zs.take (k+1))=halves (zs.take k) ++ [zs.getD k 0 % 4294967296,zs.getD k 0 / 4294967296]:=by
 rw [take_snoc zs k h,halves_append];rfl

end Lm
end Go.Proofs.YtkhckcfikljjhaaGreatDoor
namespace Go.Proofs.YtkhckcfikljjhaaGreatDoor
open Go.RowKit
open Lm

def Num (w:World)(v:Value)(x:Nat):Prop:=∃ds,Arg w v ds∧Digs 4294967296 ds∧tr ds=ds∧vb 4294967296 ds=x∧ds.length≤35184372088900

theorem Num.below {w w':World}{v:Value}{x:Nat}(h:Num w v x)(hb:Below w.heap.size w w'):Num w' v x:=by
 obtain⟨ds,h1,h2⟩:=h
 exact⟨ds,h1.below hb,h2⟩

theorem Num.nil (w:World):Num w (.slice none 0 0) 0:=
 ⟨[],⟨⟨none,0,rfl,by simp,by simp,.inl rfl⟩,(by intro z hz;cases hz),by simp,fun n c e=>by cases e;rfl⟩,(by intro z hz;cases hz),rfl,rfl,by simp⟩

theorem mf (b off cap:Nat)(zs:List Nat)(w:World)(hcap:zs.length≤cap)(hmax:cap≤9223372036854775807)
  (hc:∀k,k<zs.length→w.cell? ⟨b,off+k,none⟩=some (.int .u64 ((zs.getD k 0:Nat):Int))) :
  Calls Tryz.prog 48 #[.slice (some ⟨b,off,none⟩) zs.length cap] w fun e w'=>e=.returned (.slice (some ⟨b,off,none⟩) (tr zs).length (tr zs).length)∧w'=w:=by
 go_enter Tryz.func48,Tryz.ntmps48
 go_wp2
 go_loop [3] (fun n=>∃k:Nat,k≤zs.length∧n=.int .i64 k∧tr (zs.take k)=tr zs) (fun n=>(intOf n).toNat)
 case atStart=>exact⟨zs.length,Nat.le_refl _,rfl,by rw [List.take_length]⟩
 case round=>
  obtain⟨k,hk,rfl,ht⟩:=hrel
  have HT:=aa ht
  clear ht
  by_cases h0:k=0
  ·subst h0
   go_wp2
   go_ret
   have e:=HT.out
   simp only [List.take_zero,tr] at e
   rw [←e]
   exact⟨rfl,rfl⟩
  ·obtain⟨j,rfl⟩:∃j,k=j+1:=⟨k - 1,by omega⟩
   have hcj:=hc j (by omega)
   clear hc
   by_cases hz:zs.getD j 0=0
   ·have HZ:Hid (tr (zs.take j)=tr zs):=by rw [←tr_step zs j (by omega) hz];exact HT.out
    rw [hz] at hcj
    clear hz HT
    go_wp2
    go_round
    case rel=>exact⟨j,by omega,by go_num,HZ.out⟩
    case measure=>simp [intOf]
   ·have HZ:Hid (tr zs=zs.take (j+1)):=by rw [←HT.out];exact tr_stop zs j (by omega) hz
    clear HT
    generalize zs.getD j 0=z at hcj hz
    have hne:((z:Int) == 0)=false:=by rw [beq_eq_false_iff_ne];omega
    clear hz
    go_wp2
    go_ret
    rw [HZ.out]
    have e:(zs.take (j+1)).length=j+1:=by simp;omega
    rw [e]
    exact⟨rfl,rfl⟩

theorem ng (ao:Option Addr)(cap:Nat)(w:World)(_hmax:cap≤9223372036854775807) :
  Calls Tryz.prog 48 #[.slice ao 0 cap] w fun e w'=>e=.returned (.slice ao 0 0)∧w'=w:=by
 go_enter Tryz.func48,Tryz.ntmps48
 go_wp2
 refine wp_loop_rounds 1 ?_
 rw [rounds_succ]
 go_wp2
 go_ret
 exact⟨rfl,rfl⟩

def New (B:Nat)(v:Value):Prop:=∀b off n c,v=.slice (some ⟨b,off,none⟩) n c→B≤b

theorem New.nil (B n c:Nat):New B (.slice none n c):=fun _ _ _ _ e=>by cases e

theorem New.at (B b off n c:Nat)(h:B≤b):New B (.slice (some ⟨b,off,none⟩) n c):=fun _ _ _ _ e=>by cases e;exact h

theorem New.mono {B B':Nat}{v:Value}(h:New B v)(hb:B'≤B):New B' v:=fun b off n c e=>Nat.le_trans hb (h b off n c e)

theorem Num.store {w:World}{v:Value}{x g j:Nat}{u:Value}(h:Num w v x)(hn:New (g+1) v):Num (w.setCell ⟨g,j,none⟩ u) v x:=by
 obtain⟨ds,hA,hr⟩:=h
 refine⟨ds,?_,hr⟩
 obtain⟨ao,cap,h1,h2,h3,h4⟩:=hA.form
 refine⟨⟨ao,cap,h1,h2,h3,?_⟩,hA.limbs,hA.few,hA.nz⟩
 rcases h4 with h4|⟨b,off,rfl,hc⟩
 ·exact .inl h4
 ·have hb:=hn b off _ _ h1
  refine .inr ⟨b,off,rfl,fun k hk=>?_⟩
  rw [World.cell?_of_block (w:=w) (Below.heap_setCell w ⟨g,j,none⟩ u b (by show b≠g;omega))]
  exact hc k hk

theorem dB (B:Nat)(v:Value)(ds:List Nat)(w:World)(h:Arg w v ds)(hd:Digs 4294967296 ds)(hl:ds.length≤35184372088900)(hB:New B v) :
  Calls Tryz.prog 48 #[v] w fun e w'=>(∃v',e=.returned v'∧Num w v' (vb 4294967296 ds)∧New B v')∧w'=w:=by
 obtain⟨ao,cap,rfl,hcap,hmax,hlies⟩:=h.form
 have hle:=tr_length_le ds
 have H:Calls Tryz.prog 48 #[.slice ao ds.length cap] w fun e w'=>e=.returned (.slice ao (tr ds).length (tr ds).length)∧w'=w:=by
  rcases hlies with rfl|⟨b,off,rfl,hc⟩
  ·exact ng ao cap w hmax
  ·exact mf b off cap ds w hcap hmax hc
 refine H.mono ?_
 rintro e w' ⟨rfl,rfl⟩
 refine⟨⟨_,rfl,⟨tr ds,⟨⟨ao,_,rfl,Nat.le_refl _,by omega,hlies.tr⟩,limbs_tr h.limbs,by omega,?_⟩,digs_tr hd,tr_tr ds,vb_tr ds,by omega⟩,fun b off n c e=>?_⟩,rfl⟩
 rotate_left
 ·cases e;exact hB b off _ _ rfl
 intro n c e
 cases e
 have:=h.nz _ _ rfl
 omega

theorem dV (v:Value)(ds:List Nat)(w:World)(h:Arg w v ds)(hd:Digs 4294967296 ds)(hl:ds.length≤35184372088900) :
  Calls Tryz.prog 48 #[v] w fun e w'=>(∃v',e=.returned v'∧Num w v' (vb 4294967296 ds))∧w'=w:=
 (dB 0 v ds w h hd hl (fun _ _ _ _ _=>Nat.zero_le _)).mono fun _ _ ⟨⟨v',h1,h2,_⟩,h3⟩=>⟨⟨v',h1,h2⟩,h3⟩

theorem du (v:Value)(zs:List Nat)(i:Nat)(w:World)(h:Arg w v zs) :
  Calls Tryz.prog 57 #[v,.int .i64 i] w fun e w'=>e=.returned (.int .u64 ((zs.getD i 0:Nat):Int))∧w'=w:=by
 obtain⟨ao,cap,rfl,hcap,hmax,hl⟩:=h.form
 by_cases hi:i<zs.length
 ·rcases hl with rfl|⟨b,off,rfl,hc⟩
  ·simp at hi
  ·have hci:=hc i hi
   clear hc h
   generalize zs.getD i 0=z at hci ⊢
   go_enter Tryz.func57,Tryz.ntmps57
   go_wp2
   go_ret
   exact⟨rfl,rfl⟩
 ·have e:zs.getD i 0=0:=by simp [List.getD,Nat.le_of_not_lt hi]
  rw [e]
  clear hl e h
  go_enter Tryz.func57,Tryz.ntmps57
  go_wp2
  go_ret
  exact⟨rfl,rfl⟩

theorem dI {w:World}(l:List Nat)(j:Nat)(u:Value)(hj:(l.map lv)[j]?=some u):(w.alloc (.cells (l.map lv).toArray 65)).cell? ((⟨w.heap.size,0,none⟩:Addr).add j)=some u:=by
 have e:(⟨w.heap.size,0,none⟩:Addr).add j=⟨w.heap.size,j,none⟩:=by
  unfold Addr.add;split <;> simp_all
 rw [e]
 simp only [World.cell?,heap_alloc_new]
 simpa using hj

theorem ep (v:Value)(zs:List Nat)(w:World)(h:Arg w v zs)(hf:zs.length≤17592186044416) :
  Calls Tryz.prog 29 #[v] w fun e w'=>(∃v',e=.returned v'∧Num w' v' (val zs))∧Below w.heap.size w w':=by
 obtain⟨ao,cap,rfl,hcap,hmax,L1⟩:=h.form
 have M1:=h.limbs
 obtain⟨i0,hi,hz0,hz1,hz2⟩:=info_parts Tryz.infoU
 clear h
 go_enter Tryz.func29,Tryz.ntmps29
 go_wp2_with (at_make;refine wpList_make_own _ rfl _ _ 30 rfl w.heap.size 65 i0 (.int .u64 0) 1 Tryz.underlying30 hi hz0 hz1 .i64 .i64 _ (2*zs.length) rfl rfl (by omega) (by rw [hz2];omega) (by unfold maxLen;omega) (Nat.le_refl _) ?_;intro w1 hown hgrow)
 have hbel:Below w.heap.size w w1:=(Below.refl _ _).grown hgrow (Nat.le_refl _) (fun k hk=>by cases hk)
 have hsz:w.heap.size<w1.heap.size:=by
  have:=hown.lt w.heap.size rfl
  exact this.2
 clear hgrow hz0 hz2
 go_loopw [3,12] (fun o i wr=>∃k:Nat,k≤zs.length∧i=.int .i64 k∧o=.slice (some ⟨w.heap.size,0,none⟩) (2*k) (2*zs.length)∧wr.ownsRow w.heap.size 65 1 (.slice (some ⟨w.heap.size,0,none⟩) (2*k) (2*zs.length)) (2*k) ((halves (zs.take k)).map lv)∧Below w.heap.size w wr) (fun _ i _=>zs.length - (intOf i).toNat)
 case atStart=>exact⟨0,Nat.zero_le _,rfl,rfl,hown,hbel⟩
 case round=>
  obtain⟨k,hk,rfl,rfl,ho,hbl⟩:=hrel
  clear hown hbel
  by_cases hkl:k<zs.length
  ·rcases L1.below hbl with h0|⟨b,off,rfl,hcell⟩
   ·simp [h0] at hkl
   ·have hck:=hcell k hkl
    have z1:=limb_lt M1 k
    have HT:=aa (halves_take zs k hkl)
    generalize zs.getD k 0=z at *
    have e1:(z:Int) % 4294967296=((z % 4294967296:Nat):Int):=by omega
    have e2:(z:Int) / 4294967296=((z / 4294967296:Nat):Int):=by omega
    have b1:z % 4294967296<4294967296:=by omega
    have b2:z / 4294967296<4294967296:=by omega
    generalize z % 4294967296=lo at *
    generalize z / 4294967296=hh at *
    have HB:=aa hbl
    clear hcell L1 M1 hbl
    go_wp2_with (at_builtin;refine wpList_append_fits _ rfl _ _ 30 rfl w.heap.size 65 i0 1 Tryz.underlying30 hi hz1 w.heap.size (2*k) (2*zs.length) _ rfl (ho.alloc _) ⟨wr.heap.size,0,none⟩ 2 2 ([lo,hh].map lv) rfl rfl (dI [lo,hh]) (cL _) (by omega) ?_;intro w2 hown2 hgrow2)
    have HO:=aa hown2
    have HB2:=aa ((HB.out.alloc HB.out.size (.cells ([lo,hh].map lv).toArray 65)).grown hgrow2 (by have:=HB.out.size;simp;omega) (fun k hk=>by cases hk;exact Nat.le_refl _))
    clear hown2 hgrow2 ho hck
    go_wp2
    go_roundw
    case rel=>
     refine⟨k+1,by omega,by go_num,rfl,?_,HB2.out⟩
     rw [HT.out,List.map_append]
     exact HO.out
    case measure=>simp [intOf];omega
  ·have ek:k=zs.length:=by omega
   subst ek
   rw [List.take_length] at ho
   have el:=halves_length zs
   have hA:Ans wr w.heap.size (.slice (some ⟨w.heap.size,0,none⟩) (2*zs.length) (2*zs.length)) (halves zs):=⟨by rw [el];exact ho,digs_limbs (halves_digs M1)⟩
   have H:=dV _ _ _ (hA.arg (by omega)) (halves_digs M1) (by omega)
   rw [halves_val] at H
   have HB:=aa hbl
   clear ho hA hbl L1 M1
   go_wp2_with fail
   refine H.mono ?_
   rintro e w2 ⟨⟨v',rfl,hnum⟩,rfl⟩
   have HN:=aa hnum
   clear hnum H
   go_wp2
   go_ret
   exact⟨⟨v',rfl,HN.out⟩,HB.out⟩
end Go.Proofs.YtkhckcfikljjhaaGreatDoor
namespace Go.Proofs.YtkhckcfikljjhaaGreatDoor
namespace Lm

def pairsB (B:Nat):List Nat→List Nat
 | []=>[]
 | [a]=>[a]
 | a :: b :: r=>(a+b*B) :: pairsB B r

def pairs (ds:List Nat):List Nat:=pairsB 4294967296 ds

theorem pairsB_length (B:Nat):∀ds:List Nat,(pairsB B ds).length=(ds.length+1) / 2
 | []=>by simp [pairsB]
 | [_]=>by simp [pairsB]
 | a :: b :: r=>by simp only [pairsB,List.length_cons,pairsB_length B r];omega

theorem pairsB_getD (B:Nat):∀(ds:List Nat) (k:Nat),(pairsB B ds).getD k 0=ds.getD (2*k) 0+ds.getD (2*k+1) 0*B
 | [],k=>by simp [pairsB,List.getD]
 | [a],0=>by simp [pairsB,List.getD]
 | [a],k+1=>by simp [pairsB,List.getD,Nat.mul_add]
 | a :: b :: r,0=>by simp [pairsB,List.getD]
 | a :: b :: r,k+1=>by
  have:=pairsB_getD B r k
  rw [show 2*(k+1)=2*k+1+1 by omega]
  simp only [pairsB,List.getD_cons_succ]
  exact this

theorem pairs_length (ds:List Nat):(pairs ds).length=(ds.length+1) / 2:=pairsB_length _ ds
theorem pairs_getD (ds:List Nat)(k:Nat):(pairs ds).getD k 0=ds.getD (2*k) 0+ds.getD (2*k+1) 0*4294967296:=pairsB_getD _ ds k

theorem pairs_val:∀ds:List Nat,val (pairs ds)=vb 4294967296 ds
 | []=>rfl
 | [a]=>by simp [pairs,pairsB,val,vb]
 | a :: b :: r=>by
  have ih:=pairs_val r
  unfold pairs at ih ⊢
  simp only [pairsB,val,vb,ih];omega

theorem pairs_limbs:∀ds:List Nat,Digs 4294967296 ds→Limbs (pairs ds)
 | [],_=>by intro z hz;cases hz
 | [a],h=>by
  intro z hz
  have:=h a (by simp)
  simp [pairs,pairsB] at hz
  omega
 | a :: b :: r,h=>by
  intro z hz
  have ha:=h a (by simp)
  have hb:=h b (by simp)
  simp only [pairs,pairsB,List.mem_cons] at hz
  rcases hz with rfl|hz
  ·omega
  ·exact pairs_limbs r (fun y hy=>h y (by simp [hy])) z hz

theorem pairs_nil:∀ds:List Nat,pairs ds=[]→ds=[]
 | [],_=>rfl
 | [a],h=>by simp [pairs,pairsB] at h
 | a :: b :: r,h=>by simp [pairs,pairsB] at h

theorem pairs_tr:∀ds:List Nat,tr ds=ds→tr (pairs ds)=pairs ds
 | [],_=>rfl
 | [a],h=>h
 | a :: b :: r,h=>by
  have h1:=tr_tail h
  have h2:=tr_tail h1
  have ih:=pairs_tr r h2
  unfold pairs at ih ⊢
  simp only [pairsB,tr,ih]
  split
  ·rename_i hc
   exfalso
   have hr:=pairs_nil r hc.2
   have hb:b=0:=by omega
   subst hr hb
   simp [tr] at h1
  ·rfl

theorem blen_half (v:Nat)(h:v≠0):blen v=blen (v / 2)+1:=by
 unfold blen
 rw [if_neg h]
 by_cases h2:v / 2=0
 ·rw [if_pos h2]
  have:v=1:=by omega
  subst this;rfl
 ·rw [if_neg h2]
  have:v.log2=(v / 2).log2+1:=by
   rw [Nat.log2_def];rw [if_pos (by omega)]
  omega

theorem B_pow (n:Nat):(4294967296:Nat) ^ n=2 ^ (32*n):=by rw [Nat.pow_mul]

theorem blen_top (p k d:Nat)(hp:p<2 ^ k)(hd:d≠0):blen (p+2 ^ k*d)=k+blen d:=by
 have h1:=Nat.log2_self_le hd
 have h2:=(Nat.log2_lt hd (k:=d.log2+1)).1 (by omega)
 have e:blen d=d.log2+1:=by unfold blen;rw [if_neg hd]
 rw [e,←Nat.add_assoc]
 refine blen_eq _ _ ?_ ?_
 ·rw [Nat.pow_add]
  exact Nat.le_trans (Nat.mul_le_mul_left _ h1) (Nat.le_add_left _ _)
 ·rw [Nat.add_assoc,Nat.pow_add]
  have:=Nat.mul_le_mul_left (2 ^ k) (Nat.succ_le_of_lt h2)
  rw [Nat.succ_eq_add_one,Nat.mul_add] at this
  omega

theorem tr_last' (ds:List Nat)(n:Nat)(ht:tr ds=ds)(h:ds.length=n+1):ds.getD n 0≠0:=by
 have:=tr_last ds n (by rw [ht];exact h)
 rwa [ht] at this

theorem vb_split (ds:List Nat)(n:Nat)(h:ds.length=n+1):vb 4294967296 ds=vb 4294967296 (ds.take n)+2 ^ (32*n)*ds.getD n 0:=by
 have:=vb_take_next (B:=4294967296) ds n
 rw [←h,List.take_length,B_pow] at this
 exact this

theorem vb_take_lt {ds:List Nat}(hd:Digs 4294967296 ds)(n:Nat):vb 4294967296 (ds.take n)<2 ^ (32*n):=by
 have h1:=vb_lt (B:=4294967296) (zs:=ds.take n) (fun z hz=>hd z (List.mem_of_mem_take hz))
 have h2:(ds.take n).length≤n:=List.length_take_le _ _
 rw [←B_pow]
 exact Nat.lt_of_lt_of_le h1 (Nat.pow_le_pow_right (by omega) h2)

theorem blen_vb {ds:List Nat}(hd:Digs 4294967296 ds)(ht:tr ds=ds)(n:Nat)(h:ds.length=n+1):blen (vb 4294967296 ds)=32*n+blen (ds.getD n 0):=by
 rw [vb_split ds n h]
 exact blen_top _ _ _ (vb_take_lt hd n) (tr_last' ds n ht h)

theorem vb_shorter {a b:List Nat}(ha:Digs 4294967296 a)(hb:tr b=b)(h:a.length<b.length):vb 4294967296 a<vb 4294967296 b:=by
 obtain⟨n,hn⟩:∃n,b.length=n+1:=⟨b.length - 1,by omega⟩
 have h1:=vb_take_lt ha n
 rw [List.take_of_length_le (by omega)] at h1
 have h2:=tr_last' b n hb hn
 rw [vb_split b n hn]
 have:=Nat.mul_le_mul_left (2 ^ (32*n)) (Nat.one_le_iff_ne_zero.2 h2)
 omega

theorem vcmp_same {Z Y:List Nat}(j:Nat)(he:Z.getD j 0=Y.getD j 0):cmpN (vb 4294967296 (Z.take (j+1))) (vb 4294967296 (Y.take (j+1)))=cmpN (vb 4294967296 (Z.take j)) (vb 4294967296 (Y.take j)):=by
 rw [vb_take_next,vb_take_next,he,cmpN_add]

theorem vcmp_top {Z Y:List Nat}(hZ:Digs 4294967296 Z)(hY:Digs 4294967296 Y)(j:Nat)(hne:Z.getD j 0≠Y.getD j 0):cmpN (vb 4294967296 (Z.take (j+1))) (vb 4294967296 (Y.take (j+1)))=cmpN (Z.getD j 0) (Y.getD j 0):=by
 rw [vb_take_next,vb_take_next,B_pow]
 exact cmpN_top _ _ _ _ _ (vb_take_lt hZ j) (vb_take_lt hY j) hne

theorem vb_sub_step (X S out:List Nat)(k bw:Nat)(hk:k<out.length)(hx:X.getD k 0<4294967296)(hy:S.getD k 0<4294967296)(hb:bw≤1)
  (h:vb 4294967296 (out.take k)+vb 4294967296 (S.take k)=vb 4294967296 (X.take k)+bw*4294967296 ^ k) :
  vb 4294967296 ((out.set k ((X.getD k 0+4294967296 - S.getD k 0 - bw) % 4294967296)).take (k+1))+vb 4294967296 (S.take (k+1))=vb 4294967296 (X.take (k+1))+(1 - (X.getD k 0+4294967296 - S.getD k 0 - bw) / 4294967296)*4294967296 ^ (k+1):=by
 rw [vb_set_succ _ _ _ hk,vb_take_next X,vb_take_next S,Nat.pow_succ]
 generalize X.getD k 0=x at *
 generalize S.getD k 0=y at *
 have hm:(x+4294967296 - y - bw) % 4294967296+y+bw=x+(1 - (x+4294967296 - y - bw) / 4294967296)*4294967296:=by omega
 generalize (x+4294967296 - y - bw) % 4294967296=m at *
 generalize 1 - (x+4294967296 - y - bw) / 4294967296=d at *
 generalize (4294967296:Nat) ^ k=p at *
 have e:p*(m+y+bw)=p*(x+d*4294967296):=by rw [hm]
 rw [Nat.mul_add,Nat.mul_add,Nat.mul_add] at e
 have e2:d*(p*4294967296)=p*(d*4294967296):=by rw [←Nat.mul_assoc,Nat.mul_comm d p,Nat.mul_assoc]
 have e3:bw*p=p*bw:=Nat.mul_comm _ _
 omega

end Lm
end Go.Proofs.YtkhckcfikljjhaaGreatDoor
namespace Go.Proofs.YtkhckcfikljjhaaGreatDoor
open Go.RowKit
open Lm

theorem o9 (v:Value)(ds:List Nat)(w:World)(h:Arg w v ds)(hd:Digs 4294967296 ds)(hf:ds.length≤35184372088832) :
  Calls Tryz.prog 68 #[v] w fun e w'=>(∃v',e=.returned v'∧Ans w' w.heap.size v' (pairs ds))∧Below w.heap.size w w':=by
 obtain⟨ao,cap,rfl,hcap,hmax,L1⟩:=h.form
 obtain⟨i0,hi,hz0,hz1,hz2⟩:=info_parts Tryz.infoU
 have hpl:=pairs_length ds
 clear h
 go_enter Tryz.func68,Tryz.ntmps68
 go_wp2
 go_loopw [3,4] (fun o i wr=>∃k:Nat,k≤(pairs ds).length∧i=.int .i64 ((2*k:Nat):Int)∧wr.ownsRow w.heap.size 65 1 o ((pairs ds).take k).length (((pairs ds).take k).map lv)∧Below w.heap.size w wr) (fun _ i _=>ds.length+2 - (intOf i).toNat)
 case atStart=>exact⟨0,Nat.zero_le _,rfl,World.ownsRow_nil _ _ _ _,Below.refl _ _⟩
 case round=>
  obtain⟨k,hk,rfl,ho,hbl⟩:=hrel
  have HB:=aa hbl
  by_cases hkl:2*k<ds.length
  ·rcases L1.below hbl with h0|⟨b,off,rfl,hcell⟩
   ·simp [h0] at hkl
   ·have hck:=hcell (2*k) hkl
    have HT:=aa (take_snoc (pairs ds) k (by omega))
    have hpg:=pairs_getD ds k
    have z1:=dig_lt (by omega) hd (2*k)
    have z2:=dig_lt (by omega) hd (2*k+1)
    by_cases hk2:2*k+1<ds.length
    ·have hck2:=hcell (2*k+1) hk2
     rw [hpg] at HT
     generalize ds.getD (2*k) 0=x at *
     generalize ds.getD (2*k+1) 0=y at *
     have i1:(2:Int)*(k:Int)+1<(ds.length:Int):=by omega
     have e1:(x:Int)+(y:Int)*4294967296=((x+y*4294967296:Nat):Int):=by omega
     have b1:x+y*4294967296<18446744073709551616:=by omega
     generalize x+y*4294967296=z at *
     clear hcell L1 hbl hd hpg
     go_wp2_with (at_builtin;refine wpList_append_own _ rfl _ _ 22 rfl w.heap.size 65 i0 (.int .u64 0) 1 8 Tryz.underlying22 hi hz0 hz1 hz2 rfl (by decide) _ _ _ rfl (ho.alloc _) ⟨wr.heap.size,0,none⟩ 1 1 ([z].map lv) rfl rfl (dI [z]) (cL _) (by simp only [List.length_take];unfold maxLen;omega) (by simp only [List.length_take];omega) (by have:=HB.out.size;simp;omega) ?_;intro v' w2 hown2 hgrow2 _)
     have HO:=aa hown2
     have HB2:=aa ((HB.out.alloc HB.out.size (.cells ([z].map lv).toArray 65)).grown hgrow2 (by have:=HB.out.size;simp;omega) (fun k hk=>(ho.lt k hk).1))
     clear hown2 hgrow2 ho
     go_wp2
     go_roundw
     case rel=>
      refine⟨k+1,by omega,by go_num,?_,HB2.out⟩
      rw [HT.out,List.length_append,List.map_append]
      exact HO.out
     case measure=>simp [intOf];omega
    ·have e0:ds.getD (2*k+1) 0=0:=by simp [List.getD,Nat.le_of_not_lt hk2]
     rw [hpg,e0,Nat.zero_mul,Nat.add_zero] at HT
     generalize ds.getD (2*k) 0=x at *
     have hd1:decide ((2:Int)*(k:Int)+1<(ds.length:Int))=false:=decide_eq_false (by omega)
     clear hcell L1 hbl hd hpg e0
     go_wp2_with (at_builtin;refine wpList_append_own _ rfl _ _ 22 rfl w.heap.size 65 i0 (.int .u64 0) 1 8 Tryz.underlying22 hi hz0 hz1 hz2 rfl (by decide) _ _ _ rfl (ho.alloc _) ⟨wr.heap.size,0,none⟩ 1 1 ([x].map lv) rfl rfl (dI [x]) (cL _) (by simp only [List.length_take];unfold maxLen;omega) (by simp only [List.length_take];omega) (by have:=HB.out.size;simp;omega) ?_;intro v' w2 hown2 hgrow2 _)
     have HO:=aa hown2
     have HB2:=aa ((HB.out.alloc HB.out.size (.cells ([x].map lv).toArray 65)).grown hgrow2 (by have:=HB.out.size;simp;omega) (fun k hk=>(ho.lt k hk).1))
     clear hown2 hgrow2 ho
     go_wp2
     go_roundw
     case rel=>
      refine⟨k+1,by omega,by go_num,?_,HB2.out⟩
      rw [HT.out,List.length_append,List.map_append]
      exact HO.out
     case measure=>simp [intOf];omega
  ·have ek:k=(pairs ds).length:=by omega
   rw [ek,List.take_length] at ho
   have HA:Hid (Ans wr w.heap.size u3 (pairs ds)):=⟨ho,pairs_limbs ds hd⟩
   clear ho hbl L1 hd
   go_wp2
   go_ret
   exact⟨⟨_,rfl,HA.out⟩,HB.out⟩

theorem mc (v u:Value)(x:Nat)(rs:List Nat)(w:World)(hn:Num w v x)(ha:Arg w u rs)(ht:tr rs=rs)(hv:val rs=x)(hf:blen x≤1125899906842624) :
  Calls Tryz.prog 52 #[v,u] w fun e w'=>e=.returned (.bool true)∧Below w.heap.size w w':=by
 obtain⟨ds,hd1,hd2,hd3,hd4,hd5⟩:=hn
 have hf2:ds.length≤35184372088832:=by
  refine Nat.le_of_not_lt fun hlt=>?_
  obtain⟨n,hn⟩:∃n,ds.length=n+1:=⟨ds.length - 1,by omega⟩
  have h1:=blen_vb hd2 hd3 n hn
  have h2:=tr_last' ds n hd3 hn
  have h3:=blen_half _ h2
  rw [hd4] at h1
  omega
 clear hf
 have HL:=o9 v ds w hd1 hd2 hf2
 have he:pairs ds=rs:=norm_inj _ _ (pairs_limbs ds hd2) ha.limbs (pairs_tr ds hd3) ht (by rw [pairs_val,hd4,hv])
 rw [he] at HL
 have hfew:=ha.few
 clear he ht hv hd1 hd2 hd3 hd4 hd5 hf2
 go_enter Tryz.func52,Tryz.ntmps52
 go_wp2_with fail
 refine HL.mono ?_
 rintro e w1 ⟨⟨v',rfl,hans⟩,hb⟩
 have A1:=hans.arg hfew
 have A2:=ha.below hb
 have HB:=aa hb
 clear HL hans hb ha
 obtain⟨a1,c1,rfl,hc1,hm1,L1⟩:=A1.form
 obtain⟨a2,c2,rfl,hc2,hm2,L2⟩:=A2.form
 have hne:((rs.length:Int) != (rs.length:Int))=false:=by simp
 clear A1 A2
 go_wp2
 go_loopw [16] (fun i wr=>∃k:Nat,k≤rs.length∧i=.int .i64 k∧ag w1 wr) (fun i _=>rs.length - (intOf i).toNat)
 case atStart=>exact⟨0,Nat.zero_le _,rfl,ag.refl _⟩
 case round=>
  obtain⟨k,hk,rfl,hs⟩:=hrel
  by_cases hkl:k<rs.length
  ·rcases L1.below (hs.below _) with h0|⟨b,off,rfl,hcell⟩
   ·simp [h0] at hkl
   ·rcases L2.below (hs.below _) with h0|⟨b',off',rfl,hcell'⟩
    ·simp [h0] at hkl
    ·have hck:=hcell k hkl
     have hck':=hcell' k hkl
     generalize rs.getD k 0=z at *
     have hne2:((z:Int) != (z:Int))=false:=by simp
     have hi1:(0:Int)≤(k:Int):=by omega
     have hi2:(k:Int)<(rs.length:Int):=by omega
     have HS:=aa hs
     clear hcell hcell' L1 L2 hs
     go_wp2
     go_quiet (fail)
     go_wp2
     go_roundw
     case rel=>exact⟨k+1,by omega,by go_num,HS.out.drewN _⟩
     case measure=>simp [intOf];omega
  ·have HS:=aa hs
   clear L1 L2 hs
   go_wp2
   go_ret
   exact⟨rfl,HB.out.trans (HS.out.below _)⟩

theorem nc {k:IntKind}{a b:Int}(h:a=b):Ending.returned (.int k a)=.returned (.int k b):=by rw [h]

theorem nY (v:Value)(x:Nat)(w:World)(hn:Num w v x) :
  Calls Tryz.prog 17 #[v] w fun e w'=>e=.returned (.int .i64 ((blen x:Nat):Int))∧w'=w:=by
 obtain⟨ds,hd1,hd2,hd3,rfl,hd5⟩:=hn
 obtain⟨ao,cap,rfl,hcap,hmax,L1⟩:=hd1.form
 clear hd1
 by_cases h0:ds.length=0
 ·have hz:ds=[]:=List.length_eq_zero_iff.1 h0
  subst hz
  have e:blen (vb 4294967296 [])=0:=rfl
  rw [e]
  clear L1 hd2 hd3 hd5 h0
  go_enter Tryz.func17,Tryz.ntmps17
  go_wp2
  go_ret
  exact⟨rfl,rfl⟩
 ·obtain⟨n,hn⟩:∃n,ds.length=n+1:=⟨ds.length - 1,by omega⟩
  rcases L1 with hz|⟨b,off,rfl,hcell⟩
  ·simp [hz] at h0
  ·have hcn:=hcell n (by omega)
   rw [blen_vb hd2 hd3 n hn]
   have hdl:=dig_lt (by omega) hd2 n
   rw [hn] at hd5 ⊢
   have hz:(((n+1:Nat):Int) == 0)=false:=by rw [beq_eq_false_iff_ne];omega
   have hz':((n:Int)+1 == 0)=false:=by rw [beq_eq_false_iff_ne];omega
   generalize ds.getD n 0=d at *
   have hbd:blen d≤32:=(blen_le_iff d 32).2 hdl
   clear hcell hd2 hd3 h0 hn hcap
   go_enter Tryz.func17,Tryz.ntmps17
   go_wp2
   go_loop [3,4] (fun a b=>∃m y:Nat,a=.int .i64 m∧b=.int .u64 y∧m+blen y=32*n+blen d∧y<4294967296) (fun _ b=>(intOf b).toNat)
   case atStart=>exact⟨32*n,d,by go_num,rfl,rfl,hdl⟩
   case round=>
    obtain⟨m,y,rfl,rfl,hm,hy⟩:=hrel
    by_cases hy0:y=0
    ·subst hy0
     have HM:=aa hm
     have e0:blen 0=0:=rfl
     have HM2:Hid (m=32*n+blen d):=aa (by have:=HM.out;rw [e0] at this;exact this)
     clear hm HM e0
     go_wp2
     go_ret
     exact⟨nc (by have:=HM2.out;omega),rfl⟩
    ·have hb2:=blen_half y hy0
     have HM:Hid (m+1+blen (y / 2)=32*n+blen d):=aa (by omega)
     have hmb:m≤32*n+32:=by omega
     have e1:(y:Int) / 2=((y / 2:Nat):Int):=by omega
     have i1:(0:Int)<(y:Int):=by omega
     have i2:y / 2<y:=by omega
     clear hm hb2
     generalize y / 2=y2 at *
     go_wp2
     go_round
     case rel=>exact⟨m+1,y2,by go_num,rfl,HM.out,by omega⟩
     case measure=>simp [intOf];omega
end Go.Proofs.YtkhckcfikljjhaaGreatDoor
namespace Go.Proofs.YtkhckcfikljjhaaGreatDoor
open Lm

theorem jk (s:Nat)(hs:s≤32):(4294967296:Nat)=2 ^ (32 - s)*2 ^ s:=by
 rw [←Nat.pow_add,Nat.sub_add_cancel hs]

theorem j5 (q s:Nat):2 ^ (q*32+s)=4294967296 ^ q*2 ^ s:=by
 rw [Nat.pow_add,Nat.mul_comm q 32,Nat.pow_mul]

theorem mz (x s o:Nat)(hs:s≤32)(ho:o<2 ^ s):o+x*2 ^ s % 4294967296<4294967296:=by
 have e:x*2 ^ s % 4294967296=x % 2 ^ (32 - s)*2 ^ s:=by
  conv=>lhs;rw [jk s hs,Nat.mul_mod_mul_right]
 have h1:x % 2 ^ (32 - s)<2 ^ (32 - s):=Nat.mod_lt _ (Nat.two_pow_pos _)
 have h2:(x % 2 ^ (32 - s)+1)*2 ^ s≤2 ^ (32 - s)*2 ^ s:=Nat.mul_le_mul_right _ h1
 rw [←jk s hs,Nat.add_mul,Nat.one_mul] at h2
 omega

theorem kM (x s:Nat)(hx:x<4294967296):x*2 ^ s / 4294967296<2 ^ s:=by
 rw [Nat.div_lt_iff_lt_mul (by omega),Nat.mul_comm (2 ^ s)]
 exact Nat.mul_lt_mul_of_pos_right hx (Nat.two_pow_pos _)

theorem oR (x s:Nat)(hx:x<4294967296)(hs:s<32):x*2 ^ s<18446744073709551616:=by
 have h:2 ^ s≤2 ^ 32:=Nat.pow_le_pow_right (by omega) (by omega)
 have:=Nat.mul_le_mul (Nat.le_sub_one_of_lt hx) h
 omega

theorem pC (X out:List Nat)(q s k n:Nat)(hn:n=q*32+s)(hk:q+k+1<out.length)(h:vb 4294967296 (out.take (q+k+1))=vb 4294967296 (X.take k)*2 ^ n) :
  vb 4294967296 (((out.set (q+k) (out.getD (q+k) 0+X.getD k 0*2 ^ s % 4294967296)).set (q+k+1) (X.getD k 0*2 ^ s / 4294967296)).take (q+k+1+1))=vb 4294967296 (X.take (k+1))*2 ^ n:=by
 rw [vb_set_succ _ _ _ (by simpa using hk),vb_set_succ _ _ _ (by omega),vb_take_next X k]
 rw [vb_take_next] at h
 have ht:=Nat.mod_add_div (X.getD k 0*2 ^ s) 4294967296
 have e:2 ^ n=4294967296 ^ q*2 ^ s:=by rw [hn,j5]
 have e2:4294967296 ^ (q+k)=4294967296 ^ q*4294967296 ^ k:=Nat.pow_add _ _ _
 have e3:4294967296 ^ (q+k+1)=4294967296 ^ (q+k)*4294967296:=Nat.pow_succ ..
 rw [e3]
 rw [e2] at h ⊢
 rw [e] at h ⊢
 generalize X.getD k 0*2 ^ s % 4294967296=r at *
 generalize X.getD k 0*2 ^ s / 4294967296=d at *
 generalize X.getD k 0=x at *
 generalize out.getD (q+k) 0=o at *
 generalize vb 4294967296 (out.take (q+k))=V at *
 generalize vb 4294967296 (X.take k)=U at *
 generalize 4294967296 ^ q=Q at *
 generalize 4294967296 ^ k=K at *
 generalize 2 ^ s=S at *
 generalize 4294967296=B at *
 grind
end Go.Proofs.YtkhckcfikljjhaaGreatDoor
namespace Go.Proofs.YtkhckcfikljjhaaGreatDoor
open Go.RowKit
open Lm
attribute [local go_sem ↓] Go.wp_at_zero Go.wp_at_succ

theorem pp {w:World}{b off:Nat}{X:List Nat}(hc:∀k,k<X.length→w.cell? ⟨b,off+k,none⟩=some (.int .u64 ((X.getD k 0:Nat):Int)))(j:Nat)(u:Value)(hj:(X.map lv)[j]?=some u):w.cell? ((⟨b,off,none⟩:Addr).add j)=some u:=by
 rw [List.getElem?_map] at hj
 have hl:j<X.length:=by
  refine Nat.lt_of_not_le fun h=>?_
  rw [List.getElem?_eq_none h] at hj
  cases hj
 have:=hc j hl
 have e:X.getD j 0=X[j]:=by simp [List.getD,hl]
 rw [List.getElem?_eq_getElem hl] at hj
 cases hj
 have ea:(⟨b,off,none⟩:Addr).add j=⟨b,off+j,none⟩:=by simp [Addr.add]
 rw [ea,this,e];rfl

theorem kH (ao:Option Addr)(cap:Nat)(X:List Nat)(w:World)(hl:ac w ao X)(hX:Limbs X)(hf:X.length≤17592186044416) :
  Calls Tryz.prog 124 #[.slice ao X.length cap] w fun e w'=>(∃v,e=.returned v∧Ans w' w.heap.size v X)∧Below w.heap.size w w':=by
 obtain⟨i0,hi,hz0,hz1,hz2⟩:=info_parts Tryz.infoU
 have ho:w.ownsRow w.heap.size 65 1 (.slice none 0 0) 0 []:=World.ownsRow_nil _ _ _ _
 have key:∀ad:Addr,(∀j u,(X.map lv)[j]?=some u→w.cell? (ad.add j)=some u)→Calls Tryz.prog 124 #[.slice (some ad) X.length cap] w fun e w'=>(∃v,e=.returned v∧Ans w' w.heap.size v X)∧Below w.heap.size w w':=by
  intro ad hn
  have HX:=aa hX
  clear hX hl
  go_enter Tryz.func124,Tryz.ntmps124
  go_wp2_with (at_builtin;refine wpList_append_own _ rfl _ _ 25 rfl w.heap.size 65 i0 (.int .u64 0) 1 8 Tryz.underlying25 hi hz0 hz1 hz2 rfl (by decide) _ _ _ rfl ho ad X.length cap (X.map lv) rfl (by simp) hn (cL _) (by unfold maxLen;omega) (by omega) (Nat.le_refl _) ?_;intro v' w2 hown2 hgrow2 _)
  have HA:Hid (Ans w2 w.heap.size v' X):=by
   rw [Nat.zero_add,List.nil_append] at hown2
   exact⟨hown2,HX.out⟩
  have HB:Hid (Below w.heap.size w w2):=(Below.refl _ _).grown hgrow2 (Nat.le_refl _) (fun k hk=>by cases hk)
  clear hown2 hgrow2 ho hn
  go_wp2
  go_ret
  exact⟨⟨_,rfl,HA.out⟩,HB.out⟩
 rcases hl with h0|⟨b,off,rfl,hc⟩
 ·subst h0
  cases ao with
  | some ad=>exact key ad (fun j u h=>by simp at h)
  | none=>
   clear key ho hi hz0 hz1 hz2 hX
   go_enter Tryz.func124,Tryz.ntmps124
   go_wp2
   go_ret
   exact⟨⟨_,rfl,Ans.nil _ _⟩,Below.refl _ _⟩
 ·exact key _ (pp hc)

theorem fT (v:Value)(X:List Nat)(w:World)(hA:Arg w v X)(hf:X.length≤17592186044416) :
  Calls Tryz.prog 91 #[v] w fun e w'=>(∃v,e=.returned v∧Ans w' w.heap.size v (tr X))∧Below w.heap.size w w':=by
 obtain⟨a1,c1,rfl,hc1,hm1,hl1⟩:=hA.form
 have T1:=bG a1 c1 X w hc1 hm1 hl1
 have l1:=tr_length_le X
 have F:=kH a1 c1 (tr X) w hl1.tr (limbs_tr hA.limbs) (by omega)
 clear hl1 hA
 go_enter Tryz.func91,Tryz.ntmps91
 go_wp2_with fail
 refine T1.mono ?_
 rintro e w2 ⟨rfl,rfl⟩
 clear T1
 go_wp2_with fail
 refine F.mono ?_
 rintro e w3 ⟨⟨v,rfl,ha⟩,hb⟩
 have HA:=aa (And.intro ha hb)
 clear ha hb F
 go_wp2
 go_ret
 exact⟨⟨v,rfl,HA.out.1⟩,HA.out.2⟩
end Go.Proofs.YtkhckcfikljjhaaGreatDoor
namespace Go.Proofs.YtkhckcfikljjhaaGreatDoor
namespace Lm

theorem mul_hi (x m cy:Nat)(hx:x<18446744073709551616)(hm:m<18446744073709551616)(hc:cy<18446744073709551616) :
  x*m / 18446744073709551616+(x*m % 18446744073709551616+cy) / 18446744073709551616=(x*m+cy) / 18446744073709551616∧(x*m+cy) / 18446744073709551616<18446744073709551616 ∧
  (x*m % 18446744073709551616+cy) % 18446744073709551616=(x*m+cy) % 18446744073709551616:=by
 have h1:x*m≤18446744073709551615*18446744073709551615:=Nat.mul_le_mul (by omega) (by omega)
 generalize x*m=p at *
 omega

theorem through_step (X out:List Nat)(d j r:Nat)(hj:j<out.length)
  (h:val (out.drop (j+1))*d+r=val (X.drop (j+1))) (hxl:j<X.length) :
  val ((out.set j ((r*18446744073709551616+X.getD j 0) / d)).drop j)*d+(r*18446744073709551616+X.getD j 0) % d=val (X.drop j):=by
 have e1:(out.set j ((r*18446744073709551616+X.getD j 0) / d)).drop j=((r*18446744073709551616+X.getD j 0) / d) :: out.drop (j+1):=by
  rw [List.drop_eq_getElem_cons (by simpa using hj)]
  simp [List.drop_set]
 have e2:X.drop j=X.getD j 0 :: X.drop (j+1):=by
  rw [List.drop_eq_getElem_cons hxl];simp [List.getD,hxl]
 rw [e1,e2]
 simp only [val]
 rw [←h]
 generalize X.getD j 0=x
 generalize val (out.drop (j+1))=q
 have hdm:=Nat.div_add_mod (r*18446744073709551616+x) d
 generalize (r*18446744073709551616+x) / d=a at *
 generalize (r*18446744073709551616+x) % d=b at *
 have e3:(a+18446744073709551616*q)*d=d*a+18446744073709551616*(q*d):=by
  rw [Nat.add_mul,Nat.mul_comm a d,Nat.mul_assoc]
 rw [e3]
 omega

theorem quo_lt (r x d:Nat)(hr:r<d)(hx:x<18446744073709551616):(r*18446744073709551616+x) / d<18446744073709551616:=by
 rw [Nat.div_lt_iff_lt_mul (by omega)]
 have:=Nat.mul_le_mul_right 18446744073709551616 (Nat.succ_le_of_lt hr)
 rw [Nat.succ_eq_add_one,Nat.add_mul] at this
 rw [Nat.mul_comm]
 omega

end Lm
end Go.Proofs.YtkhckcfikljjhaaGreatDoor
namespace Go.Proofs.YtkhckcfikljjhaaGreatDoor
open Go.RowKit
open Lm

theorem cM (x:Nat)(w:World)(hx:x<18446744073709551616) :
  Calls Tryz.prog 54 #[.int .u64 x] w fun e w'=>(∃v,e=.returned v∧Ans w' w.heap.size v (tr [x]))∧Below w.heap.size w w':=by
 by_cases h:x=0
 ·subst h
  have hz:(((0:Nat):Int) == 0)=true:=rfl
  go_enter Tryz.func54,Tryz.ntmps54
  go_wp2
  go_ret
  exact⟨⟨_,rfl,Ans.nil _ _⟩,Below.refl _ _⟩
 ·have hz:((x:Int) == 0)=false:=by rw [beq_eq_false_iff_ne];omega
  have e:tr [x]=[x]:=by simp [tr,h]
  rw [e]
  clear e h
  have hb:Blk (w.alloc (.cells #[.int .u64 (x:Int)] 65)) w.heap.size [x]:=by
   unfold Blk;rw [heap_alloc_new];rfl
  have HA:=aa (Ans.of_blk (base:=w.heap.size) (zs:=[x]) (Nat.le_refl _) hb rfl (Nat.le_refl _) (by simp) (by intro y hy;simp at hy;omega))
  clear hb
  go_enter Tryz.func54,Tryz.ntmps54
  go_wp2
  go_ret
  exact⟨⟨_,rfl,HA.out⟩,(Below.refl _ _).alloc (Nat.le_refl _) _⟩
end Go.Proofs.YtkhckcfikljjhaaGreatDoor
namespace Go.Proofs.YtkhckcfikljjhaaGreatDoor
namespace Lm

structure Knuth (U Y y1 u1 q r:Nat):Prop where
 sum:q*y1+r=U
 ge:(U*4294967296+u1) / Y≤q
 few:q≤4294967297
 small:r<4294967296

variable {U Y y1 y0 u1 q r:Nat}

theorem knuth_start (hY:Y=y1*4294967296+y0)(hy1:2147483648≤y1)(hy2:y1<4294967296)(hy0:y0<4294967296)(hu1:u1<4294967296)(hU:U<Y):Knuth U Y y1 u1 (U / y1) (U % y1):=by
 have hd:=Nat.div_add_mod U y1
 have hm:U % y1<y1:=Nat.mod_lt _ (by omega)
 have hs:U / y1*y1+U % y1=U:=by rw [Nat.mul_comm];exact hd
 clear hd
 generalize U / y1=q at *
 generalize U % y1=r at *
 refine⟨hs,?_,?_,by omega⟩
 ·have h1:(U*4294967296+u1) / Y<q+1:=by
   rw [Nat.div_lt_iff_lt_mul (by omega),hY,Nat.add_mul,Nat.mul_add,Nat.one_mul,←Nat.mul_assoc]
   omega
  omega
 ·refine Nat.le_of_not_lt fun h=>?_
  have h2:=Nat.mul_le_mul_right y1 (show 4294967298≤q by omega)
  omega

theorem knuth_mul (hY:Y=y1*4294967296+y0)(h:q*y1+r=U):q*Y+r*4294967296=U*4294967296+q*y0:=by
 rw [hY,Nat.mul_add,←h,Nat.add_mul,←Nat.mul_assoc];omega

theorem knuth_lt (hu1:u1<4294967296)(hU:U<Y):(U*4294967296+u1) / Y<4294967296:=by
 rw [Nat.div_lt_iff_lt_mul (by omega)]
 omega

theorem knuth_down (hY:Y=y1*4294967296+y0)(hu1:u1<4294967296)(hU:U<Y)(k:Knuth U Y y1 u1 q r)
  (hc:4294967296≤q∨r*4294967296+u1<q*y0):1≤q∧(U*4294967296+u1) / Y≤q - 1∧(q - 1)*y1+(r+y1)=U:=by
 have hlt:(U*4294967296+u1) / Y<q:=by
  rcases hc with hc|hc
  ·have h9:=knuth_lt hu1 hU
   revert h9 hc
   generalize (U*4294967296+u1) / Y=z
   clear k hY hU hu1
   intro hc h9
   omega
  ·rw [Nat.div_lt_iff_lt_mul (by omega)]
   have:=knuth_mul hY k.sum
   refine Nat.lt_of_add_lt_add_right (n:=r*4294967296) ?_
   rw [this,Nat.add_assoc,Nat.add_comm u1]
   exact Nat.add_lt_add_left hc _
 have hge:1≤q:=Nat.lt_of_le_of_lt (Nat.zero_le _) hlt
 refine⟨hge,Nat.le_sub_one_of_lt hlt,?_⟩
 have hq:q - 1+1=q:=by omega
 have:=k.sum
 rw [←hq,Nat.add_mul,Nat.one_mul] at this
 omega

theorem knuth_stop (hY:Y=y1*4294967296+y0)(k:Knuth U Y y1 u1 q r)(hy:0<Y)(h:q*y0≤r*4294967296+u1):q=(U*4294967296+u1) / Y:=by
 have:=knuth_mul hY k.sum
 have h2:q≤(U*4294967296+u1) / Y:=by
  rw [Nat.le_div_iff_mul_le hy];omega
 exact Nat.le_antisymm h2 k.ge

theorem knuth_break (hY:Y=y1*4294967296+y0)(hy:0<Y)(hy0:y0<4294967296)(hs:q*y1+r=U)(hge:(U*4294967296+u1) / Y≤q)(hq:q≤4294967296)(hr:4294967296≤r) :
  q=(U*4294967296+u1) / Y:=by
 have:=knuth_mul hY hs
 have h1:q*y0≤4294967296*4294967296:=Nat.mul_le_mul hq (by omega)
 have h2:q≤(U*4294967296+u1) / Y:=by
  rw [Nat.le_div_iff_mul_le hy];omega
 exact Nat.le_antisymm h2 hge

theorem knuth_key (V t Y N u0 q1 q0 r1 r0:Nat)(hV:V*t=N*4294967296+u0)(d1:Y*q1+r1=N)(d0:Y*q0+r0=r1*4294967296+u0) :
  V*t=Y*(q1*4294967296+q0)+r0:=by
 rw [hV,←d1,Nat.mul_add Y,←Nat.mul_assoc]
 omega

theorem knuth_whole (V y s N u0 q1 q0:Nat)(hy:0<y)(hV:V*2 ^ s=N*4294967296+u0)
  (h1:q1=N / (y*2 ^ s)) (h0:q0=(N % (y*2 ^ s)*4294967296+u0) / (y*2 ^ s)) :
  q1*4294967296+q0=V / y∧(N % (y*2 ^ s)*4294967296+u0) % (y*2 ^ s) / 2 ^ s=V % y:=by
 have hp:=Nat.two_pow_pos s
 have hY:0<y*2 ^ s:=Nat.mul_pos hy hp
 have d1:=Nat.div_add_mod N (y*2 ^ s)
 have d0:=Nat.div_add_mod (N % (y*2 ^ s)*4294967296+u0) (y*2 ^ s)
 have l0:=Nat.mod_lt (N % (y*2 ^ s)*4294967296+u0) hY
 rw [←h1] at d1
 rw [←h0] at d0
 have key:=knuth_key V (2 ^ s) (y*2 ^ s) N u0 q1 q0 _ _ hV d1 d0
 have hq:V*2 ^ s / (y*2 ^ s)=q1*4294967296+q0:=by
  rw [key,Nat.mul_add_div hY,Nat.div_eq_of_lt l0,Nat.add_zero]
 have hr:V*2 ^ s % (y*2 ^ s)=(N % (y*2 ^ s)*4294967296+u0) % (y*2 ^ s):=by
  rw [key,Nat.mul_add_mod,Nat.mod_mod]
 rw [Nat.mul_div_mul_right _ _ hp] at hq
 rw [Nat.mul_mod_mul_right] at hr
 exact⟨hq.symm,by rw [←hr,Nat.mul_div_cancel _ hp]⟩

theorem shift_whole (hi lo s:Nat)(hs:s≤64) :
  (hi*18446744073709551616+lo)*2 ^ s=((hi*2 ^ s+lo / 2 ^ (64 - s))*4294967296+lo*2 ^ s % 18446744073709551616 / 4294967296)*4294967296+lo*2 ^ s % 18446744073709551616 % 4294967296:=by
 rw [shr_mul lo s hs,Nat.add_mul,Nat.mul_right_comm]
 generalize hi*2 ^ s=a
 generalize lo*2 ^ s=b
 omega

theorem norm_y (y:Nat)(h0:0<y)(hy:y<18446744073709551616):1≤Lib.bitLen y∧Lib.bitLen y≤64∧9223372036854775808≤y*2 ^ (64 - Lib.bitLen y)∧y*2 ^ (64 - Lib.bitLen y)<18446744073709551616:=by
 obtain⟨h1,h2,h3⟩:=Lib.bitLenAux_bounds 64 y hy (by omega)
 have h4:=Lib.bitLen_le y 64 (by omega) hy
 have h1':1≤Lib.bitLen y:=h1
 have h2':2 ^ (Lib.bitLen y - 1)≤y:=h2
 have h3':y<2 ^ Lib.bitLen y:=h3
 generalize Lib.bitLen y=k at *
 refine⟨h1',h4,?_,?_⟩
 ·have:=Nat.mul_le_mul_right (2 ^ (64 - k)) h2'
  rw [←Nat.pow_add,show k - 1+(64 - k)=63 by omega] at this
  exact this
 ·have:=(Nat.mul_lt_mul_right (Nat.two_pow_pos (64 - k))).2 h3'
  rw [←Nat.pow_add,show k+(64 - k)=64 by omega] at this
  exact this

end Lm
end Go.Proofs.YtkhckcfikljjhaaGreatDoor
namespace Go.Proofs.YtkhckcfikljjhaaGreatDoor
open Go.RowKit
open Lm

theorem pS (lo y:Nat)(w:World)(hy:y<18446744073709551616)(h0:0<y)(hlo:lo<18446744073709551616) :
  Calls Tryz.prog 125 #[.int .u64 0,.int .u64 lo,.int .u64 y] w fun e w'=>e=.returned (.tuple #[.int .u64 ((lo / y:Nat):Int),.int .u64 ((lo % y:Nat):Int)])∧ag w w':=by
 have hz:((y:Int) == 0)=false:=by rw [beq_eq_false_iff_ne];omega
 have hz2:decide ((y:Int)≤0)=false:=by simp;omega
 have e1:(lo:Int) / (y:Int)=((lo / y:Nat):Int):=(Int.natCast_ediv _ _).symm
 have e2:(lo:Int) % (y:Int)=((lo % y:Nat):Int):=(Int.natCast_emod _ _).symm
 have e3:(lo:Int).tdiv (y:Int)=((lo / y:Nat):Int):=rfl
 have e4:(lo:Int).tmod (y:Int)=((lo % y:Nat):Int):=rfl
 have b1:lo / y<18446744073709551616:=Nat.lt_of_le_of_lt (Nat.div_le_self _ _) hlo
 have b2:lo % y<18446744073709551616:=Nat.lt_of_le_of_lt (Nat.mod_le _ _) hlo
 generalize lo / y=a at *
 generalize lo % y=b at *
 have h1:(1:Int)≤(y:Int):=by omega
 go_enter Tryz.func125,Tryz.ntmps125
 go_wp2
 go_quiet (fail)
 go_wp2
 go_ret2
 exact⟨rfl,(ag.refl _).drewN _⟩

theorem cV (x s r:Nat)(h:x*2 ^ s % 18446744073709551616=r):IntKind.u64.wrap ((x:Int)*2 ^ s)=(r:Int):=by
 rw [IntKind.wrap_u64]
 have:((x:Int)*2 ^ s)=((x*2 ^ s:Nat):Int):=by rw [Int.natCast_mul,Int.natCast_pow];rfl
 rw [this];omega

theorem gE (a:Nat)(ha:a<18446744073709551616):bits BinOp.and IntKind.u64 (a:Int) 4294967295=((a % 4294967296:Nat):Int):=by
 have h:=bits_and_u64_nat a 4294967295 ha (by omega)
 rw [show a &&& 4294967295=a % 4294967296 from Nat.and_two_pow_sub_one_eq_mod a 32] at h
 exact h

theorem iZ (h s l U:Nat)(hs:s≤64)(hl:l<2 ^ s)(hh:h*2 ^ s<18446744073709551616)(hU:U=h*2 ^ s+l):bits BinOp.or IntKind.u64 ((h*2 ^ s:Nat):Int) (l:Int)=(U:Int):=by
 have hll:l<18446744073709551616:=Nat.lt_of_lt_of_le hl (by rw [show (18446744073709551616:Nat)=2 ^ 64 from rfl];exact Nat.pow_le_pow_right (by omega) hs)
 rw [bits_or_u64_nat _ _ hh hll,hU,Nat.mul_comm h,Nat.two_pow_add_eq_or_of_lt hl]

theorem ia (a b y q r:Nat)(hd:q*y+r=a*4294967296+b)(hr:r<18446744073709551616) :
  ∃a1 a2 a3:Nat,a1<18446744073709551616∧a2<18446744073709551616∧a3<18446744073709551616∧IntKind.u64.wrap ((a:Int)*4294967296)=(a1:Int)∧IntKind.u64.wrap ((a1:Int)+(b:Int))=(a2:Int) ∧
   IntKind.u64.wrap ((q:Int)*(y:Int))=(a3:Int)∧IntKind.u64.wrap ((a2:Int) - (a3:Int))=(r:Int):=by
 refine⟨a*4294967296 % 18446744073709551616,(a*4294967296 % 18446744073709551616+b) % 18446744073709551616,q*y % 18446744073709551616,Nat.mod_lt _ (by omega),Nat.mod_lt _ (by omega),Nat.mod_lt _ (by omega),?_,?_,?_,?_⟩
 ·rw [IntKind.wrap_u64];omega
 ·rw [IntKind.wrap_u64];omega
 ·rw [IntKind.wrap_u64,←Int.natCast_mul];omega
 ·rw [IntKind.wrap_u64]
  omega

theorem ka (hi lo y:Nat)(w:World)(hy:y<18446744073709551616)(hhi0:0<hi)(hhi:hi<y)(hlo:lo<18446744073709551616) :
  Calls Tryz.prog 125 #[.int .u64 hi,.int .u64 lo,.int .u64 y] w fun e w'=>e=.returned (.tuple #[.int .u64 (((hi*18446744073709551616+lo) / y:Nat):Int),.int .u64 (((hi*18446744073709551616+lo) % y:Nat):Int)])∧ag w w':=by
 have hz:((y:Int) == 0)=false:=by rw [beq_eq_false_iff_ne];omega
 have hz1:((hi:Int) == 0)=false:=by rw [beq_eq_false_iff_ne];omega
 have hz2:decide ((y:Int)≤(hi:Int))=false:=by simp;omega
 have HLZ:=Tryz.bits_LeadingZeros64 (y:Int) w (by omega) (by omega)
 rw [Int.toNat_natCast] at HLZ
 obtain⟨n1,n2,n3,n4⟩:=norm_y y (by omega) hy
 obtain⟨s,hs⟩:∃s,s=64 - Lib.bitLen y:=⟨_,rfl⟩
 have hsI:(64:Int) - (Lib.bitLen y:Int)=(s:Int):=by omega
 rw [hsI] at HLZ
 rw [←hs] at n3 n4
 have hs63:s≤63:=by omega
 clear hs hsI n1 n2
 have hp:=Nat.two_pow_pos s
 have hhy:(hi+1)*2 ^ s≤y*2 ^ s:=Nat.mul_le_mul_right _ hhi
 rw [Nat.add_mul,Nat.one_mul] at hhy
 have hl1:=shr_lt lo s (by omega) hlo
 have HVV:=aa (shift_whole hi lo s (by omega))
 have r1:=cV y s (y*2 ^ s) (Nat.mod_eq_of_lt n4)
 have r4:=cV hi s (hi*2 ^ s) (Nat.mod_eq_of_lt (by omega))
 have r7:=iZ hi s (lo / 2 ^ (64 - s)) (hi*2 ^ s+lo / 2 ^ (64 - s)) (by omega) hl1 (by omega) rfl
 have r8:=cV lo s (lo*2 ^ s % 18446744073709551616) rfl
 have r6:=walk_shr lo (64 - s)
 have HK:=aa (fun N u0 q1 q0=>knuth_whole (hi*18446744073709551616+lo) y s N u0 q1 q0 (by omega))
 have hUY:hi*2 ^ s+lo / 2 ^ (64 - s)<y*2 ^ s:=by omega
 have hu10:lo*2 ^ s % 18446744073709551616<18446744073709551616:=Nat.mod_lt _ (by omega)
 have r5:(64:Int) - (s:Int)=((64 - s:Nat):Int):=by omega
 have ht:64 - s≤64:=by omega
 have ht0:1≤64 - s:=by omega
 generalize lo*2 ^ s % 18446744073709551616=u10 at *
 generalize hU:hi*2 ^ s+lo / 2 ^ (64 - s)=U at *
 generalize lo / 2 ^ (64 - s)=l1 at *
 generalize 64 - s=t at *
 have hh1:hi*2 ^ s<18446744073709551616:=by omega
 generalize hi*2 ^ s=h1 at *
 have r3:=gE (y*2 ^ s) n4
 have r10:=gE u10 hu10
 generalize y*2 ^ s=Y at *
 have r2:(Y:Int) / 4294967296=((Y / 4294967296:Nat):Int):=by omega
 have r9:(u10:Int) / 4294967296=((u10 / 4294967296:Nat):Int):=by omega
 have hY:Y=Y / 4294967296*4294967296+Y % 4294967296:=by omega
 have k1:2147483648≤Y / 4294967296:=by omega
 have k2:Y / 4294967296<4294967296:=by omega
 have k3:Y % 4294967296<4294967296:=by omega
 have k4:u10 / 4294967296<4294967296:=by omega
 have k5:u10 % 4294967296<4294967296:=by omega
 generalize Y / 4294967296=y1 at *
 generalize Y % 4294967296=y0 at *
 generalize u10 / 4294967296=u1 at *
 generalize u10 % 4294967296=u0 at *
 have HY:=aa hY
 have hl1W:l1<18446744073709551616:=by omega
 have HU:Hid (h1+l1=U):=aa hU
 clear hU hY hl1 hp hhy
 have KS:=aa (knuth_start HY.out k1 k2 k3 k4 hUY)
 have r11:(U:Int) / (y1:Int)=((U / y1:Nat):Int):=(Int.natCast_ediv _ _).symm
 have r12:((U / y1:Nat):Int)*(y1:Int)=((U / y1*y1:Nat):Int):=(Int.natCast_mul _ _).symm
 have d1:U / y1*y1+U % y1=U:=KS.out.sum
 have hUW:U<18446744073709551616:=by omega
 have b1:U / y1<18446744073709551616:=Nat.lt_of_le_of_lt (Nat.div_le_self _ _) hUW
 generalize U / y1*y1=p1 at *
 generalize U / y1=q at *
 generalize U % y1=r at *
 have r13:(U:Int) - (p1:Int)=(r:Int):=by omega
 have hp1:p1≤U:=by omega
 have hy1p:(1:Int)≤(y1:Int):=by omega
 have D1:=aa d1
 clear d1
 go_enter Tryz.func125,Tryz.ntmps125
 go_wp2_with fail
 refine HLZ.mono ?_
 rintro e w1 ⟨rfl,rfl⟩
 clear HLZ
 go_upto_block 0 with fail
 clear r1 r2 r3 r4 r5 r6 r7 r8 r9 r10 r11 r12 r13 hz hz1 hz2
 go_cut [15,16] from 67 to 85 (fun a _ wc=>a=.int .u64 (((U*4294967296+u1) / Y:Nat):Int)∧wc=w1)
 case first=>
  go_wp2_with fail
  go_loop [15,16] (fun a b=>∃q r:Nat,a=.int .u64 q∧b=.int .u64 r∧Knuth U Y y1 u1 q r) (fun a _=>(intOf a).toNat)
  case atStart=>exact⟨_,_,rfl,rfl,KS.out⟩
  case round=>
   obtain⟨q,r,rfl,rfl,K⟩:=hrel
   have hq:=K.few
   have hr:=K.small
   obtain⟨r',hr'⟩:∃r',r'=r+y1:=⟨_,rfl⟩
   have hrI:(r:Int)+(y1:Int)=(r':Int):=by omega
   obtain⟨m0,hm0⟩:∃m0,m0=4294967296*r:=⟨_,rfl⟩
   have hmI0:(4294967296:Int)*(r:Int)=(m0:Int):=by omega
   obtain⟨m,hm⟩:∃m,m=m0+u1:=⟨_,rfl⟩
   have hmI:(m0:Int)+(u1:Int)=(m:Int):=by omega
   have hmW:m<18446744073709551616:=by omega
   have hmW0:m0<18446744073709551616:=by omega
   have hrW:r'<18446744073709551616:=by omega
   have HM:=aa (show m=r*4294967296+u1 by omega)
   have HR:=aa hr'
   have hrb:4294967296≤r'∨r'<4294967296:=by omega
   clear hr' hm0 hm
   by_cases c1:4294967296≤q
   ·obtain⟨g1,g2,g3⟩:=knuth_down HY.out k4 hUY K (.inl c1)
    rw [←HR.out] at g3
    have G2:=aa g2
    have G3:=aa g3
    have i1:(4294967296:Int)≤(q:Int):=by omega
    have i2:(q:Int)≤4294967297:=by omega
    rcases hrb with c2|c2
    ·have HQ:=aa (knuth_break HY.out (by omega) k3 G3.out G2.out (by omega) c2)
     have i4:(4294967296:Int)≤(r':Int):=by omega
     clear g1 g2 g3 K c1 c2 hq hr
     go_wp2
     go_meet
     case rel=>exact⟨by rw [←HQ.out];go_num,rfl⟩
    ·have i4:(r':Int)<4294967296:=by omega
     have hb2:decide ((4294967296:Int)≤(r':Int))=false:=decide_eq_false (by omega)
     clear g1 g2 g3 K c1 c2 hq hr
     go_wp2
     go_round
     case rel=>exact⟨q - 1,r',by go_num,rfl,G3.out,G2.out,by omega,by omega⟩
     case measure=>simp [intOf];omega
   ·obtain⟨p,hp⟩:∃p,p=q*y0:=⟨_,rfl⟩
    have hpI:(q:Int)*(y0:Int)=(p:Int):=by rw [hp];exact (Int.natCast_mul _ _).symm
    have hpW:p<18446744073709551616:=by
     rw [hp]
     have:=Nat.mul_le_mul (show q≤4294967295 by omega) (show y0≤4294967295 by omega)
     omega
    have HP:=aa hp
    clear hp
    have i1:(q:Int)<4294967296:=by omega
    have hb1:decide ((4294967296:Int)≤(q:Int))=false:=decide_eq_false (by omega)
    by_cases c3:m<p
    ·obtain⟨g1,g2,g3⟩:=knuth_down HY.out k4 hUY K (.inr (by rw [←HP.out,←HM.out];exact c3))
     rw [←HR.out] at g3
     have G2:=aa g2
     have G3:=aa g3
     have i2:(m:Int)<(p:Int):=by omega
     have i5:(1:Int)≤(q:Int):=by omega
     rcases hrb with c2|c2
     ·have HQ:=aa (knuth_break HY.out (by omega) k3 G3.out G2.out (by omega) c2)
      have i4:(4294967296:Int)≤(r':Int):=by omega
      clear g1 g2 g3 K c1 c2 c3 hq hr
      go_wp2
      go_meet
      case rel=>exact⟨by rw [←HQ.out];go_num,rfl⟩
     ·have i4:(r':Int)<4294967296:=by omega
      have hb2:decide ((4294967296:Int)≤(r':Int))=false:=decide_eq_false (by omega)
      clear g1 g2 g3 K c1 c2 c3 hq hr
      go_wp2
      go_round
      case rel=>exact⟨q - 1,r',by go_num,rfl,G3.out,G2.out,by omega,by omega⟩
      case measure=>simp [intOf];omega
    ·have HQ:=aa (knuth_stop HY.out K (by omega) (by rw [←HP.out,←HM.out];omega))
     have i2:(p:Int)≤(m:Int):=by omega
     have hb3:decide ((m:Int)<(p:Int))=false:=decide_eq_false (by omega)
     have hb4:decide (m<p)=false:=decide_eq_false c3
     clear K c1 c3 hq hr hrb
     go_wp2
     go_meet
     case rel=>exact⟨by rw [←HQ.out],rfl⟩
 case rest=>
  obtain⟨rfl,hwc⟩:=hcut
  have hwc':=hwc.symm
  subst hwc'
  clear hwc
  have hRY:(U*4294967296+u1) % Y<Y:=Nat.mod_lt _ (by omega)
  have hQ1b:=knuth_lt k4 hUY
  have hd1:=Nat.div_add_mod (U*4294967296+u1) Y
  rw [Nat.mul_comm] at hd1
  obtain⟨R1,hR1⟩:∃R1,R1=(U*4294967296+u1) % Y:=⟨_,rfl⟩
  obtain⟨Q1,hQ1⟩:∃Q1,Q1=(U*4294967296+u1) / Y:=⟨_,rfl⟩
  rw [←hR1] at hRY hd1
  rw [←hQ1] at hd1 hQ1b ⊢
  obtain⟨a1,a2,a3,t1,t2,t3,s1,s2,s3,s4⟩:=ia U u1 Y Q1 R1 hd1 (by omega)
  have HR1:=aa hR1
  have HQ1:=aa hQ1
  clear hR1 hQ1 hd1 KS D1
  have KS:=aa (knuth_start HY.out k1 k2 k3 k5 hRY)
  have r11:(R1:Int) / (y1:Int)=((R1 / y1:Nat):Int):=(Int.natCast_ediv _ _).symm
  have r12:((R1 / y1:Nat):Int)*(y1:Int)=((R1 / y1*y1:Nat):Int):=(Int.natCast_mul _ _).symm
  have d1:R1 / y1*y1+R1 % y1=R1:=KS.out.sum
  have hRW:R1<18446744073709551616:=by omega
  have b1':R1 / y1<18446744073709551616:=Nat.lt_of_le_of_lt (Nat.div_le_self _ _) hRW
  clear b1 hp1
  generalize R1 / y1*y1=p1' at *
  generalize R1 / y1=q' at *
  generalize R1 % y1=r' at *
  have r13:(R1:Int) - (p1':Int)=(r':Int):=by omega
  have hp1':p1'≤R1:=by omega
  clear d1
  go_upto_block 2 with fail
  clear r11 r12 r13 s1 s2 s3 s4 t1 t2 t3
  go_cut [18,16] from 102 to 120 (fun a _ wc=>a=.int .u64 (((R1*4294967296+u0) / Y:Nat):Int)∧wc=w1)
  case first=>
   go_wp2_with fail
   go_loop [18,16] (fun a b=>∃q r:Nat,a=.int .u64 q∧b=.int .u64 r∧Knuth R1 Y y1 u0 q r) (fun a _=>(intOf a).toNat)
   case atStart=>exact⟨_,_,rfl,rfl,KS.out⟩
   case round=>
    obtain⟨q,r,rfl,rfl,K⟩:=hrel
    have hq:=K.few
    have hr:=K.small
    obtain⟨r',hr'⟩:∃r',r'=r+y1:=⟨_,rfl⟩
    have hrI:(r:Int)+(y1:Int)=(r':Int):=by omega
    obtain⟨m0,hm0⟩:∃m0,m0=4294967296*r:=⟨_,rfl⟩
    have hmI0:(4294967296:Int)*(r:Int)=(m0:Int):=by omega
    obtain⟨m,hm⟩:∃m,m=m0+u0:=⟨_,rfl⟩
    have hmI:(m0:Int)+(u0:Int)=(m:Int):=by omega
    have hmW:m<18446744073709551616:=by omega
    have hmW0:m0<18446744073709551616:=by omega
    have hrW:r'<18446744073709551616:=by omega
    have HM:=aa (show m=r*4294967296+u0 by omega)
    have HR:=aa hr'
    have hrb:4294967296≤r'∨r'<4294967296:=by omega
    clear hr' hm0 hm
    by_cases c1:4294967296≤q
    ·obtain⟨g1,g2,g3⟩:=knuth_down HY.out k5 hRY K (.inl c1)
     rw [←HR.out] at g3
     have G2:=aa g2
     have G3:=aa g3
     have i1:(4294967296:Int)≤(q:Int):=by omega
     have i2:(q:Int)≤4294967297:=by omega
     rcases hrb with c2|c2
     ·have HQ:=aa (knuth_break HY.out (by omega) k3 G3.out G2.out (by omega) c2)
      have i4:(4294967296:Int)≤(r':Int):=by omega
      clear g1 g2 g3 K c1 c2 hq hr
      go_wp2
      go_meet
      case rel=>exact⟨by rw [←HQ.out];go_num,rfl⟩
     ·have i4:(r':Int)<4294967296:=by omega
      have hb2:decide ((4294967296:Int)≤(r':Int))=false:=decide_eq_false (by omega)
      clear g1 g2 g3 K c1 c2 hq hr
      go_wp2
      go_round
      case rel=>exact⟨q - 1,r',by go_num,rfl,G3.out,G2.out,by omega,by omega⟩
      case measure=>simp [intOf];omega
    ·obtain⟨p,hp⟩:∃p,p=q*y0:=⟨_,rfl⟩
     have hpI:(q:Int)*(y0:Int)=(p:Int):=by rw [hp];exact (Int.natCast_mul _ _).symm
     have hpW:p<18446744073709551616:=by
      rw [hp]
      have:=Nat.mul_le_mul (show q≤4294967295 by omega) (show y0≤4294967295 by omega)
      omega
     have HP:=aa hp
     clear hp
     have i1:(q:Int)<4294967296:=by omega
     have hb1:decide ((4294967296:Int)≤(q:Int))=false:=decide_eq_false (by omega)
     by_cases c3:m<p
     ·obtain⟨g1,g2,g3⟩:=knuth_down HY.out k5 hRY K (.inr (by rw [←HP.out,←HM.out];exact c3))
      rw [←HR.out] at g3
      have G2:=aa g2
      have G3:=aa g3
      have i2:(m:Int)<(p:Int):=by omega
      have i5:(1:Int)≤(q:Int):=by omega
      rcases hrb with c2|c2
      ·have HQ:=aa (knuth_break HY.out (by omega) k3 G3.out G2.out (by omega) c2)
       have i4:(4294967296:Int)≤(r':Int):=by omega
       clear g1 g2 g3 K c1 c2 c3 hq hr
       go_wp2
       go_meet
       case rel=>exact⟨by rw [←HQ.out];go_num,rfl⟩
      ·have i4:(r':Int)<4294967296:=by omega
       have hb2:decide ((4294967296:Int)≤(r':Int))=false:=decide_eq_false (by omega)
       clear g1 g2 g3 K c1 c2 c3 hq hr
       go_wp2
       go_round
       case rel=>exact⟨q - 1,r',by go_num,rfl,G3.out,G2.out,by omega,by omega⟩
       case measure=>simp [intOf];omega
     ·have HQ:=aa (knuth_stop HY.out K (by omega) (by rw [←HP.out,←HM.out];omega))
      have i2:(p:Int)≤(m:Int):=by omega
      have hb3:decide ((m:Int)<(p:Int))=false:=decide_eq_false (by omega)
      have hb4:decide (m<p)=false:=decide_eq_false c3
      clear K c1 c3 hq hr hrb
      go_wp2
      go_meet
      case rel=>exact⟨by rw [←HQ.out],rfl⟩
  case rest=>
   obtain⟨rfl,rfl⟩:=hcut
   have hRY0:(R1*4294967296+u0) % Y<Y:=Nat.mod_lt _ (by omega)
   have hQ0b:=knuth_lt k5 hRY
   have hd1:=Nat.div_add_mod (R1*4294967296+u0) Y
   rw [Nat.mul_comm] at hd1
   obtain⟨R0,hR0⟩:∃R0,R0=(R1*4294967296+u0) % Y:=⟨_,rfl⟩
   obtain⟨Q0,hQ0⟩:∃Q0,Q0=(R1*4294967296+u0) / Y:=⟨_,rfl⟩
   rw [←hR0] at hRY0 hd1
   rw [←hQ0] at hd1 hQ0b ⊢
   obtain⟨a1,a2,a3,t1,t2,t3,s1,s2,s3,s4⟩:=ia R1 u0 Y Q0 R0 hd1 (by omega)
   have hfin:=HK.out (U*4294967296+u1) u0 Q1 Q0 HVV.out HQ1.out (by rw [←HR1.out];exact hQ0)
   rw [←HR1.out,←hR0] at hfin
   have f1:(Q1:Int)*4294967296+(Q0:Int)=(((hi*18446744073709551616+lo) / y:Nat):Int):=by rw [←hfin.1];omega
   have f2:(R0:Int) / 2 ^ s=(((hi*18446744073709551616+lo) % y:Nat):Int):=by rw [←hfin.2];exact walk_shr R0 s
   have F1:=aa f1
   have F2:=aa f2
   have hQQ:((Q1:Int)*4294967296+(Q0:Int))<18446744073709551616:=by omega
   clear hR0 hQ0 hd1 KS hfin HK HVV f1 f2
   go_wp2
   go_ret2
   rw [←F1.out,←F2.out]
   exact⟨rfl,ag.refl _⟩

def bs (zs:List Nat):List Nat:=10855845 :: 10855845 :: (zs ++ [10855845,10855845])

theorem gI (zs:List Nat):(bs zs).length=zs.length+4:=by simp [bs]

theorem iT (zs:List Nat)(k:Nat)(h:k<zs.length):(bs zs).getD (k+2) 0=zs.getD k 0:=by
 simp [bs,List.getD,h,List.getElem?_append_left h]

theorem oM (zs:List Nat)(k:Nat)(h:k<2):(bs zs).getD k 0=10855845:=by
 match k,h with
 | 0,_=>rfl
 | 1,_=>rfl

theorem pe (zs:List Nat)(k:Nat)(h1:zs.length+2≤k)(h2:k<zs.length+4):(bs zs).getD k 0=10855845:=by
 obtain⟨j,rfl⟩:∃j,k=zs.length+j+2:=⟨k - 2 - zs.length,by omega⟩
 match j,show j<2 by omega with
 | 0,_=>simp [bs,List.getD]
 | 1,_=>simp [bs,List.getD]

theorem fc (a b:List Nat)(x y:Nat):(a ++ x :: b).set a.length y=(a ++ [y]) ++ b:=by
 simp

def cg (m k:Nat):List Nat:=List.replicate k 10855845 ++ List.replicate (m - k) 0

theorem ki (m k:Nat)(h:k<m):(cg m k).set k 10855845=cg m (k+1):=by
 unfold cg
 have e:m - k=(m - (k+1))+1:=by omega
 rw [e,List.replicate_succ]
 have:=fc (List.replicate k 10855845) (List.replicate (m - (k+1)) 0) 0 10855845
 rw [List.length_replicate] at this
 rw [this,←List.replicate_succ']

theorem m7 (m k:Nat)(h:k≤m):(cg m k).length=m:=by
 simp [cg];omega

def bM (zs:List Nat)(k:Nat):List Nat:=10855845 :: 10855845 :: (zs.take k ++ List.replicate (zs.length - k+2) 10855845)

theorem mZ (zs:List Nat)(k:Nat)(h:k<zs.length):(bM zs k).set (k+2) (zs.getD k 0)=bM zs (k+1):=by
 unfold bM
 have e:zs.length - k+2=(zs.length - (k+1)+2)+1:=by omega
 rw [e,List.replicate_succ]
 have:=fc (zs.take k) (List.replicate (zs.length - (k+1)+2) 10855845) 10855845 (zs.getD k 0)
 have el:(zs.take k).length=k:=by simp;omega
 rw [el] at this
 simp only [List.set_cons_succ]
 rw [this,take_snoc zs k h]

theorem j7 (zs:List Nat)(k:Nat)(h:k≤zs.length):(bM zs k).length=zs.length+4:=by
 simp [bM];omega

theorem lb (zs:List Nat):bM zs 0=cg (zs.length+4) (zs.length+4):=by
 simp [bM,cg,List.replicate_succ]

theorem lc (zs:List Nat):bM zs zs.length=bs zs:=by
 simp [bM,bs,List.replicate_succ]

theorem j6 (v:Value)(zs:List Nat)(w:World)(h:Arg w v zs)(hf:zs.length≤35184372088000) :
  Calls Tryz.prog 19 #[v] w fun e w'=>e=.returned (.tuple #[.slice (some ⟨w.heap.size,0,none⟩) (zs.length+4) (zs.length+4),.slice (some ⟨w.heap.size,2,none⟩) zs.length (zs.length+2)])∧Blk w' w.heap.size (bs zs)∧Below w.heap.size w w':=by
 obtain⟨ao,cap,rfl,hcap,hmax,L1⟩:=h.form
 obtain⟨i0,hi,hz0,hz1,hz2⟩:=info_parts Tryz.infoU
 clear h
 go_enter Tryz.func19,Tryz.ntmps19
 go_wp2_with (at_make;refine wpList_make_full _ rfl _ _ 22 rfl w.heap.size 65 i0 (.int .u64 0) 1 Tryz.underlying22 hi hz0 hz1 .i64 .i64 _ _ (zs.length+4) rfl rfl (by omega) (by omega) (by rw [hz2];omega) (by unfold maxLen;omega) (Nat.le_refl _) ?_;intro w1 hown hgrow)
 have hb1:=Blk.made hown
 have hbel:Below w.heap.size w w1:=(Below.refl _ _).grown hgrow (Nat.le_refl _) (fun k hk=>by cases hk)
 clear hown hgrow hi hz0 hz1 hz2
 go_loopw [14] (fun i wr=>∃k:Nat,k≤zs.length+4∧i=.int .i64 k∧Blk wr w.heap.size (cg (zs.length+4) k)∧Below w.heap.size w wr) (fun i _=>zs.length+4 - (intOf i).toNat)
 case atStart=>exact⟨0,Nat.zero_le _,rfl,hb1,hbel⟩
 case round=>
  obtain⟨k,hk,rfl,hblk,hbl⟩:=hrel
  clear hb1 hbel
  by_cases hkl:k<zs.length+4
  ·have hfr:=hblk.free k
   have hco:=hblk.cell k (by rw [m7 _ _ hk];exact hkl)
   generalize (cg (zs.length+4) k).getD k 0=o at *
   have HB:=aa (hblk.set k 10855845)
   have HL:=aa (hbl.setCell (p:=⟨w.heap.size,k,none⟩) (Nat.le_refl _) (.int .u64 10855845))
   clear hblk hbl L1
   go_wp2
   go_roundw
   case rel=>exact⟨k+1,by omega,by go_num,by rw [←ki _ _ hkl];exact HB.out,HL.out⟩
   case measure=>simp [intOf];omega
  ·have ek:k=zs.length+4:=by omega
   subst ek
   have HB:=aa hblk
   have HL:=aa hbl
   clear hblk hbl
   go_wp2
   go_loopw [23] (fun i wr=>∃k:Nat,k≤zs.length∧i=.int .i64 k∧Blk wr w.heap.size (bM zs k)∧Below w.heap.size w wr) (fun i _=>zs.length - (intOf i).toNat)
   case atStart=>exact⟨0,Nat.zero_le _,rfl,by rw [lb];exact HB.out,HL.out⟩
   case round=>
    obtain⟨k,hk,rfl,hblk,hbl⟩:=hrel
    clear HB HL
    by_cases hkl':k<zs.length
    ·rcases L1.below hbl with h0|⟨b,off,rfl,hcell⟩
     ·simp [h0] at hkl'
     ·have hck:=hcell k hkl'
      have hbw:=ac.block (L1:ac w (some ⟨b,off,none⟩) zs) (by omega)
      have hne1:¬b=w.heap.size:=by omega
      have hne2:¬w.heap.size=b:=by omega
      have hfr:=hblk.free (k+2)
      have hco:=hblk.cell (k+2) (by rw [j7 _ _ hk];omega)
      generalize (bM zs k).getD (k+2) 0=o at *
      have HS:=aa (mZ zs k hkl')
      have HB:=aa (fun z=>hblk.set (k+2) z)
      have HL:=aa hbl
      generalize zs.getD k 0=z at *
      clear hcell hblk hbl L1
      go_wp2
      go_roundw
      case rel=>exact⟨k+1,by omega,by go_num,by rw [←HS.out];exact HB.out z,HL.out.setCell (Nat.le_refl _) _⟩
      case measure=>simp [intOf];omega
    ·have ek:k=zs.length:=by omega
     subst ek
     rw [lc] at hblk
     have HB:=aa hblk
     have HL:=aa hbl
     have hi1:(0:Int)≤(zs.length:Int):=by omega
     clear hblk hbl L1
     go_wp2
     go_quiet (fail)
     go_wp2
     go_ret2
     exact⟨rfl,HB.out,((HL.out).trans ((ag.refl _).drewN _ |>.below _))⟩

theorem nT (g:Nat)(va:Value)(zs:List Nat)(w:World)(hb:Blk w g (bs zs))(ha:Arg w va zs)(hf:zs.length≤35184372088000) :
  Calls Tryz.prog 13 #[.slice (some ⟨g,0,none⟩) (zs.length+4) (zs.length+4),va] w fun e w'=>e=.returned (.bool true)∧w'=w:=by
 obtain⟨ao,cap,rfl,hcap,hmax,L1⟩:=ha.form
 have hn:((zs.length:Int)+4 != (zs.length:Int)+4)=false:=by simp
 clear ha
 go_enter Tryz.func13,Tryz.ntmps13
 go_wp2
 go_loop [15] (fun i=>∃k:Nat,k≤zs.length+4∧i=.int .i64 k) (fun i=>zs.length+4 - (intOf i).toNat)
 case atStart=>exact⟨0,Nat.zero_le _,rfl⟩
 case round=>
  obtain⟨k,hk,rfl⟩:=hrel
  by_cases hkl:k<zs.length+4
  ·have hck:=hb.cell k (by rw [gI];exact hkl)
   by_cases h2:k<2
   ·rw [oM zs k h2] at hck
    have i1:(k:Int)<2:=by omega
    clear hb L1
    go_wp2
    go_round
    case rel=>exact⟨k+1,by omega,by go_num⟩
    case measure=>simp [intOf];omega
   ·by_cases h3:zs.length+2≤k
    ·rw [pe zs k h3 hkl] at hck
     have hd1:decide ((k:Int)<2)=false:=decide_eq_false (by omega)
     have i2:(zs.length:Int)+2≤(k:Int):=by omega
     clear hb L1
     go_wp2
     go_round
     case rel=>exact⟨k+1,by omega,by go_num⟩
     case measure=>simp [intOf];omega
    ·obtain⟨j,rfl⟩:∃j,k=j+2:=⟨k - 2,by omega⟩
     rw [iT zs j (by omega)] at hck
     rcases L1 with h0|⟨b,off,rfl,hcell⟩
     ·simp [h0] at h3
     ·have hcj:=hcell j (by omega)
      generalize zs.getD j 0=z at *
      have hne:((z:Int) != (z:Int))=false:=by simp
      have i1:((j+2:Nat):Int)=(j:Int)+2:=by omega
      have hd1:decide ((j:Int)+2<2)=false:=decide_eq_false (by omega)
      have hd2:decide ((zs.length:Int)+2≤(j:Int)+2)=false:=decide_eq_false (by omega)
      have i3:(j:Int)<(zs.length:Int):=by omega
      clear hb hcell
      go_wp2
      go_round
      case rel=>exact⟨j+2+1,by omega,by go_num⟩
      case measure=>simp [intOf];omega
  ·clear hb L1
   go_wp2
   go_ret
   exact⟨rfl,rfl⟩

abbrev an:Value:=.slice none 0 0

def upd (rows:Nat→List Nat)(i:Nat)(r:List Nat):Nat→List Nat:=fun m=>if m=i then r else rows m

theorem bX (rows:Nat→List Nat)(i:Nat)(r:List Nat):upd rows i r i=r:=by simp [upd]
theorem cE (rows:Nat→List Nat)(i m:Nat)(r:List Nat)(h:m≠i):upd rows i r m=rows m:=by simp [upd,h]

structure St (w:World)(base L:Nat)(vs:List Value)(rows:Nat→List Nat):Prop where
 list:w.heap[L]?=some (.cells vs.toArray 22 (0,0))
 row:∀i,i<vs.length→Ans w base (vs.getD i an) (rows i)
 apart:∀i j,i<vs.length→j<vs.length→i≠j→(vs.getD i an).ownBlock=none∨(vs.getD i an).ownBlock≠(vs.getD j an).ownBlock

theorem St.cell {w:World}{base L:Nat}{vs:List Value}{rows:Nat→List Nat}(h:St w base L vs rows)(i:Nat)(hi:i<vs.length):w.cell? ⟨L,i,none⟩=some (vs.getD i an):=by
 simp [World.cell?,h.list,hi,List.getD]

theorem St.free {w:World}{base L:Nat}{vs:List Value}{rows:Nat→List Nat}(h:St w base L vs rows)(i:Nat):w.frozen? ⟨L,i,none⟩=false:=by
 simp [World.frozen?,h.list]

theorem Ans.ne {w:World}{base L:Nat}{v:Value}{zs:List Nat}{vs:Array Value}(h:Ans w base v zs)(hl:w.heap[L]?=some (.cells vs 22 (0,0))):v.ownBlock≠some L:=by
 obtain⟨_,h2⟩:=h.own
 rcases h2 with ⟨rfl,_⟩|⟨g,cap,cur,rfl,_,hh,_⟩
 ·simp [Value.ownBlock]
 ·intro e
  simp [Value.ownBlock] at e
  subst e
  rw [hl] at hh
  simp at hh

theorem Ans.stored {w:World}{base g cap:Nat}{zs:List Nat}(h:Ans w base (.slice (some ⟨g,0,none⟩) zs.length cap) zs)(j z:Nat)(hz:z<18446744073709551616):Ans (w.setCell ⟨g,j,none⟩ (.int .u64 (z:Int))) base (.slice (some ⟨g,0,none⟩) (zs.set j z).length cap) (zs.set j z):=by
 refine⟨?_,limbs_set h.limbs _ _ hz⟩
 have:=(h.own.stored j (.int .u64 (z:Int))).1
 rw [List.length_set,List.map_set]
 exact this

theorem St.store {w:World}{base L:Nat}{vs:List Value}{rows:Nat→List Nat}(h:St w base L vs rows)(i g cap:Nat)(hi:i<vs.length)(hv:vs.getD i an=.slice (some ⟨g,0,none⟩) (rows i).length cap)(j z:Nat)(hz:z<18446744073709551616) :
  St (w.setCell ⟨g,j,none⟩ (.int .u64 (z:Int))) base L vs (upd rows i ((rows i).set j z)):=by
 have hri:=h.row i hi
 have hne:=hri.ne h.list
 rw [hv] at hne
 have hgL:L≠g:=fun e=>hne (by simp [Value.ownBlock,e])
 refine⟨?_,fun m hm=>?_,h.apart⟩
 ·rw [Below.heap_setCell _ _ _ _ hgL];exact h.list
 ·by_cases e:m=i
  ·subst e
   rw [bX,hv]
   rw [hv] at hri
   have:=hri.stored j z hz
   rw [List.length_set] at this
   exact this
  ·rw [cE _ _ _ _ e]
   refine⟨ownsRow_setCell_other (h.row m hm).own ?_ _,(h.row m hm).limbs⟩
   have:=h.apart m i hm hi e
   rw [hv] at this
   rcases this with h1|h1
   ·rw [h1];simp
   ·simpa [Value.ownBlock] using h1

theorem qE (r:List Nat)(j c:Nat)(h:j<r.length):(List.replicate j c ++ r.drop j).set j c=List.replicate (j+1) c ++ r.drop (j+1):=by
 rw [List.drop_eq_getElem_cons h]
 have:=fc (List.replicate j c) (r.drop (j+1)) r[j] c
 rw [List.length_replicate] at this
 rw [this,←List.replicate_succ']

theorem qb (r:List Nat)(j c:Nat)(h:j≤r.length):(List.replicate j c ++ r.drop j).length=r.length:=by
 simp;omega

def be (b:Nat):List Nat:=[b,b+1,b+2,b+3,b+4]

theorem St.grow {w w2:World}{base L:Nat}{vs:List Value}{rows:Nat→List Nat}(h:St w base L vs rows)(k:Nat)(hk:k<vs.length)(o:Obj)(v':Value)(r:List Nat)
  (ho:w2.ownsRow base 65 1 v' r.length (r.map lv)) (hl:Limbs r) (hg:(w.alloc o).grownBy w2 (vs.getD k an).ownBlock) (hat:v'.ownBlock=(vs.getD k an).ownBlock∨v'.ownBlock=some (w.alloc o).heap.size) :
  St (w2.setCell ⟨L,k,none⟩ v') base L (vs.set k v') (upd rows k r):=by
 have hL:=lt_of_block h.list
 have hsz:(w.alloc o).heap.size=w.heap.size+1:=by simp
 have hneL:=(h.row k hk).ne h.list
 have hL2:w2.heap[L]?=some (.cells vs.toArray 22 (0,0)):=by
  have e1:(w.alloc o).heap[L]?=w.heap[L]?:=Below.heap_alloc w o L hL
  rw [hg.block L (by omega) (fun e=>hneL e.symm),e1];exact h.list
 have hneL':v'.ownBlock≠some L:=by
  rcases hat with e|e
  ·rw [e];exact hneL
  ·rw [e];intro e2;simp at e2;omega
 refine⟨?_,fun m hm=>?_,fun i j hi hj hij=>?_⟩
 ·have hlt:=lt_of_block hL2
  have h':w2.heap[L]=.cells vs.toArray 22 (0,0):=by simpa [Array.getElem?_eq_getElem hlt] using hL2
  show (w2.heap.modify L _)[L]?=_
  rw [Array.getElem?_eq_getElem (by simpa using hlt),Array.getElem_modify_self,h']
  simp
 ·rw [List.length_set] at hm
  by_cases e:m=k
  ·subst e
   have ev:(vs.set m v').getD m an=v':=by simp [List.getD,hm]
   rw [bX,ev]
   exact⟨ownsRow_setCell_other ho hneL' _,hl⟩
  ·have ev:(vs.set k v').getD m an=vs.getD m an:=by
    simp [List.getD,List.getElem?_set_ne (Ne.symm e)]
   rw [cE _ _ _ _ e,ev]
   have hr:=h.row m hm
   refine⟨ownsRow_setCell_other (((hr.own).alloc o).kept hg ?_) (hr.ne h.list) _,hr.limbs⟩
   exact h.apart m k hm hk e
 ·rw [List.length_set] at hi hj
  have hlt:∀m,m<vs.length→∀g,(vs.getD m an).ownBlock=some g→g<w.heap.size:=fun m hm g hg=>((h.row m hm).own.lt g hg).2
  by_cases e1:i=k
  ·subst e1
   have ev:(vs.set i v').getD i an=v':=by simp [List.getD,hi]
   have ev2:(vs.set i v').getD j an=vs.getD j an:=by simp [List.getD,List.getElem?_set_ne hij]
   rw [ev,ev2]
   rcases hat with e|e
   ·rw [e];exact h.apart i j hi hj hij
   ·right
    rw [e]
    intro e2
    have:=hlt j hj _ e2.symm
    omega
  ·by_cases e2:j=k
   ·subst e2
    have ev:(vs.set j v').getD j an=v':=by simp [List.getD,hj]
    have ev2:(vs.set j v').getD i an=vs.getD i an:=by simp [List.getD,List.getElem?_set_ne (Ne.symm e1)]
    rw [ev,ev2]
    rcases hat with e|e
    ·rw [e];exact h.apart i j hi hj hij
    ·right
     rw [e]
     intro e3
     have:=hlt i hi _ e3
     omega
   ·have ev:(vs.set k v').getD i an=vs.getD i an:=by simp [List.getD,List.getElem?_set_ne (Ne.symm e1)]
    have ev2:(vs.set k v').getD j an=vs.getD j an:=by simp [List.getD,List.getElem?_set_ne (Ne.symm e2)]
    rw [ev,ev2]
    exact h.apart i j hi hj hij

theorem St.congr {w:World}{base L:Nat}{vs:List Value}{rows rows':Nat→List Nat}(h:St w base L vs rows)(he:∀i,i<vs.length→rows i=rows' i):St w base L vs rows':=
 ⟨h.list,fun i hi=>by rw [←he i hi];exact h.row i hi,h.apart⟩

def over (rows:Nat→List Nat)(m:Nat):List Nat:=List.replicate (rows m).length (m % 251+1)

def bH (rows:Nat→List Nat)(k m:Nat):List Nat:=if m<k then over rows m else rows m

theorem iC (rows:Nat→List Nat)(k m:Nat)(h:m≠k):bH rows k m=bH rows (k+1) m:=by
 unfold bH
 by_cases h1:m<k
 ·rw [if_pos h1,if_pos (by omega)]
 ·rw [if_neg h1,if_neg (by omega)]

theorem ql (rows:Nat→List Nat)(k:Nat)(hk:k≤1000):Limbs (over rows k ++ be (300+5*k)):=by
 intro z hz
 rcases List.mem_append.1 hz with h|h
 ·have:=List.eq_of_mem_replicate h
  omega
 ·simp only [be,List.mem_cons,List.not_mem_nil,or_false] at h
  omega

theorem oj (rows:Nat→List Nat)(k j:Nat)(h:j<(rows k).length):(over rows k ++ be (300+5*k)).getD j 0=k % 251+1:=by
 have hl:j<(over rows k).length:=by simpa [over] using h
 rw [List.getD,List.getElem?_append_left hl]
 simp [over,h]

theorem kD (rows:Nat→List Nat)(k j:Nat)(h:(rows k).length≤j)(h2:j<(rows k).length+5):(over rows k ++ be (300+5*k)).getD j 0=300+5*k+(j - (rows k).length):=by
 obtain⟨i,rfl⟩:∃i,j=(rows k).length+i:=⟨j - (rows k).length,by omega⟩
 have hl:(over rows k).length≤(rows k).length+i:=by simp [over]
 rw [List.getD,List.getElem?_append_right hl]
 match i,show i<5 by omega with
 | 0,_=>simp [over,be]
 | 1,_=>simp [over,be]
 | 2,_=>simp [over,be]
 | 3,_=>simp [over,be]
 | 4,_=>simp [over,be]

theorem p9 {w:World}{base e n:Nat}{v:Value}{xs:List Value}(h:w.ownsRow base e 1 v n xs)(hn:0<n):∃g cap,v=.slice (some ⟨g,0,none⟩) n cap:=by
 rcases h.2 with ⟨_,h0⟩|⟨g,cap,_,hv,_⟩
 ·omega
 ·exact⟨g,cap,hv⟩

theorem St.kept {w w2:World}{base L:Nat}{vs:List Value}{rows:Nat→List Nat}{v:Value}(h:St w base L vs rows)(k:Nat)(hk:k<vs.length)(hv:vs.getD k an=v)(o:Obj)(hg:(w.alloc o).grownBy w2 v.ownBlock) :
  w2.cell? ⟨L,k,none⟩=some v∧w2.frozen? ⟨L,k,none⟩=false:=by
 have hL:=lt_of_block h.list
 have hneL:=(h.row k hk).ne h.list
 rw [hv] at hneL
 have hsz:(w.alloc o).heap.size=w.heap.size+1:=by simp
 have e:w2.heap[L]?=w.heap[L]?:=by
  rw [hg.block L (by omega) (fun e=>hneL e.symm)];exact Below.heap_alloc w o L hL
 refine⟨?_,?_⟩
 ·rw [World.cell?_of_block (w:=w) (a:=⟨L,k,none⟩) e,h.cell k hk,hv]
 ·rw [World.frozen?_of_block (w:=w) (a:=⟨L,k,none⟩) e];exact h.free k
end Go.Proofs.YtkhckcfikljjhaaGreatDoor

