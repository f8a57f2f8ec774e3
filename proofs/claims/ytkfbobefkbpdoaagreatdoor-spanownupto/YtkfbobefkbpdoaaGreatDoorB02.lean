/- Plain facts: digits to a base B, the least first; limbs of 64 bits as digits of 32. -/
import Derived.Test.YtkfbobefkbpdoaaGreatDoorB01
import Derived.Laws.AppendOwnNone
import Derived.Maps.AppendAt
import Derived.Handy
set_option maxRecDepth 20000
set_option maxHeartbeats 1000000
namespace Go.Proofs.YtkfbobefkbpdoaaGreatDoor
namespace Lm

def vb (B:Nat):List Nat→Nat
 | []=>0
 | z :: r=>z+B*vb B r

def Digs (B:Nat)(zs:List Nat):Prop:=∀z ∈ zs,z<B

variable {B:Nat}

theorem vb_tr (zs:List Nat):vb B (tr zs)=vb B zs:=by
 induction zs with
 | nil=>rfl
 | cons z r ih=>
  unfold tr
  split
  ·rename_i h
   rw [h.2] at ih
   simp only [vb] at ih ⊢
   rw [←ih,h.1];simp
  ·simp only [vb];rw [ih]

theorem vb_append (a b:List Nat):vb B (a ++ b)=vb B a+B ^ a.length*vb B b:=by
 induction a with
 | nil=>simp [vb]
 | cons z r ih=>
  simp only [List.cons_append,vb,ih,List.length_cons,Nat.pow_succ,Nat.mul_add]
  rw [←Nat.mul_assoc,Nat.mul_comm (B ^ r.length) B];omega

theorem vb_lt {zs:List Nat}(h:Digs B zs):vb B zs<B ^ zs.length:=by
 induction zs with
 | nil=>simp [vb]
 | cons z r ih=>
  have hz:z<B:=h z (by simp)
  have hr:=ih (fun x hx=>h x (by simp [hx]))
  simp only [vb,List.length_cons,Nat.pow_succ]
  have:=Nat.mul_le_mul_left B (Nat.succ_le_of_lt hr)
  rw [Nat.succ_eq_add_one,Nat.mul_add] at this
  rw [Nat.mul_comm (B ^ r.length)]
  omega

theorem vb_take_next (zs:List Nat)(k:Nat):vb B (zs.take (k+1))=vb B (zs.take k)+B ^ k*zs.getD k 0:=by
 by_cases h:k<zs.length
 ·rw [take_snoc zs k h,vb_append]
  have e:(zs.take k).length=k:=by simp;omega
  rw [e];simp [vb]
 ·have e:zs.getD k 0=0:=by simp [List.getD,Nat.le_of_not_lt h]
  rw [e,List.take_of_length_le (by omega),List.take_of_length_le (by omega)];simp

theorem vb_set_succ (out:List Nat)(k z:Nat)(h:k<out.length):vb B ((out.set k z).take (k+1))=vb B (out.take k)+B ^ k*z:=by
 rw [vb_take_next,List.take_set_of_le (Nat.le_refl k)]
 congr 2
 simp [List.getD,h]

theorem digs_tr {zs:List Nat}(h:Digs B zs):Digs B (tr zs):=by
 intro z hz
 rw [tr_take] at hz
 exact h z (List.mem_of_mem_take hz)

theorem dig_lt (hB:0<B){zs:List Nat}(h:Digs B zs)(k:Nat):zs.getD k 0<B:=by
 by_cases hk:k<zs.length
 ·have e:zs.getD k 0=zs[k]:=by simp [List.getD,hk]
  rw [e];exact h _ (List.getElem_mem hk)
 ·have e:zs.getD k 0=0:=by simp [List.getD,Nat.le_of_not_lt hk]
  omega

theorem digs_set {out:List Nat}(h:Digs B out)(k z:Nat)(hz:z<B):Digs B (out.set k z):=by
 intro y hy
 rcases List.mem_or_eq_of_mem_set hy with h1|h1
 ·exact h y h1
 ·omega

theorem digs_replicate (hB:0<B)(n:Nat):Digs B (List.replicate n 0):=by
 intro z hz
 have:=List.eq_of_mem_replicate hz
 omega

theorem digs_limbs {zs:List Nat}(h:Digs 4294967296 zs):Limbs zs:=fun z hz=>by have:=h z hz;omega

theorem vb_tail_zero (hB:0<B){a:List Nat}(h:tr a=a)(hv:vb B a=0):a=[]:=by
 induction a with
 | nil=>rfl
 | cons z r ih=>
  exfalso
  simp only [vb] at hv
  have hz:z=0:=by omega
  have hr:vb B r=0:=by
   rcases Nat.mul_eq_zero.1 (show B*vb B r=0 by omega) with h|h
   ·omega
   ·exact h
  have:=ih (tr_tail h) hr
  subst this hz
  simp [tr] at h

theorem vb_add_step (X S out:List Nat)(k cy:Nat)(hk:k<out.length)(h:vb B (out.take k)+cy*B ^ k=vb B (X.take k)+vb B (S.take k)) :
  vb B ((out.set k ((X.getD k 0+S.getD k 0+cy) % B)).take (k+1))+(X.getD k 0+S.getD k 0+cy) / B*B ^ (k+1)=vb B (X.take (k+1))+vb B (S.take (k+1)):=by
 rw [vb_set_succ _ _ _ hk,vb_take_next X,vb_take_next S]
 generalize X.getD k 0=x
 generalize S.getD k 0=y
 have hd:=Nat.div_add_mod (x+y+cy) B
 generalize (x+y+cy) % B=m at *
 generalize (x+y+cy) / B=d at *
 rw [Nat.pow_succ]
 generalize B ^ k=p at *
 have e1:p*m+d*(p*B)=p*(B*d+m):=by
  rw [Nat.mul_add,Nat.add_comm];congr 1;rw [←Nat.mul_assoc,←Nat.mul_assoc,Nat.mul_comm d p,Nat.mul_assoc,Nat.mul_assoc,Nat.mul_comm d]
 have e2:p*(x+y+cy)=p*x+p*y+cy*p:=by rw [Nat.mul_add,Nat.mul_add,Nat.mul_comm cy]
 rw [hd,e2] at e1
 omega

def halves:List Nat→List Nat
 | []=>[]
 | z :: r=>z % 4294967296 :: z / 4294967296 :: halves r

theorem halves_append (a b:List Nat):halves (a ++ b)=halves a ++ halves b:=by
 induction a with
 | nil=>rfl
 | cons z r ih=>simp [halves,ih]

theorem halves_length (a:List Nat):(halves a).length=2*a.length:=by
 induction a with
 | nil=>rfl
 | cons z r ih=>simp [halves,ih];omega

theorem halves_val (a:List Nat):vb 4294967296 (halves a)=val a:=by
 induction a with
 | nil=>rfl
 | cons z r ih=>simp only [halves,vb,val,ih];omega

theorem halves_digs {a:List Nat}(h:Limbs a):Digs 4294967296 (halves a):=by
 induction a with
 | nil=>intro z hz;cases hz
 | cons x r ih=>
  intro z hz
  have hx:=h x (by simp)
  simp only [halves,List.mem_cons] at hz
  rcases hz with rfl|rfl|hz
  ·exact Nat.mod_lt _ (by omega)
  ·omega
  ·exact ih (fun y hy=>h y (by simp [hy])) z hz

theorem halves_take (zs:List Nat)(k:Nat)(h:k<zs.length):halves (zs.take (k+1))=halves (zs.take k) ++ [zs.getD k 0 % 4294967296,zs.getD k 0 / 4294967296]:=by
 rw [take_snoc zs k h,halves_append];rfl

end Lm
end Go.Proofs.YtkfbobefkbpdoaaGreatDoor
namespace Go.Proofs.YtkfbobefkbpdoaaGreatDoor
open Go.RowKit
open Lm

def Num (w:World)(v:Value)(x:Nat):Prop:=∃ds,Arg w v ds∧Digs 4294967296 ds∧tr ds=ds∧vb 4294967296 ds=x∧ds.length≤35184372088900

theorem Num.below {w w':World}{v:Value}{x:Nat}(h:Num w v x)(hb:Below w.heap.size w w'):Num w' v x:=by
 obtain⟨ds,h1,h2⟩:=h
 exact⟨ds,h1.below hb,h2⟩

theorem Num.nil (w:World):Num w (.slice none 0 0) 0:=
 ⟨[],⟨⟨none,0,rfl,by simp,by simp,.inl rfl⟩,(by intro z hz;cases hz),by simp,fun n c e=>by cases e;rfl⟩,(by intro z hz;cases hz),rfl,rfl,by simp⟩

theorem sN (b off cap:Nat)(zs:List Nat)(w:World)(hcap:zs.length≤cap)(hmax:cap≤9223372036854775807)
  (hc:∀k,k<zs.length→w.cell? ⟨b,off+k,none⟩=some (.int .u64 ((zs.getD k 0:Nat):Int))) :
  Calls Tryz.prog 82 #[.slice (some ⟨b,off,none⟩) zs.length cap] w fun e w'=>e=.returned (.slice (some ⟨b,off,none⟩) (tr zs).length (tr zs).length)∧w'=w:=by
 go_enter Tryz.func82,Tryz.ntmps82
 go_wp2
 go_loop [3] (fun n=>∃k:Nat,k≤zs.length∧n=.int .i64 k∧tr (zs.take k)=tr zs) (fun n=>(intOf n).toNat)
 case atStart=>exact⟨zs.length,Nat.le_refl _,rfl,by rw [List.take_length]⟩
 case round=>
  obtain⟨k,hk,rfl,ht⟩:=hrel
  have HT:=ab ht
  clear ht
  by_cases h0:k=0
  ·subst h0
   go_wp2
   go_ret
   have e:=HT.out
   simp only [List.take_zero,tr] at e
   rw [←e]
   exact⟨rfl,rfl⟩
  ·obtain⟨j,rfl⟩:∃j,k=j+1:=⟨k - 1,by omega⟩
   have hcj:=hc j (by omega)
   clear hc
   by_cases hz:zs.getD j 0=0
   ·have HZ:Hid (tr (zs.take j)=tr zs):=by rw [←tr_step zs j (by omega) hz];exact HT.out
    rw [hz] at hcj
    clear hz HT
    go_wp2
    go_round
    case rel=>exact⟨j,by omega,by go_num,HZ.out⟩
    case measure=>simp [intOf]
   ·have HZ:Hid (tr zs=zs.take (j+1)):=by rw [←HT.out];exact tr_stop zs j (by omega) hz
    clear HT
    generalize zs.getD j 0=z at hcj hz
    have hne:((z:Int) == 0)=false:=by rw [beq_eq_false_iff_ne];omega
    clear hz
    go_wp2
    go_ret
    rw [HZ.out]
    have e:(zs.take (j+1)).length=j+1:=by simp;omega
    rw [e]
    exact⟨rfl,rfl⟩

theorem qS (ao:Option Addr)(cap:Nat)(w:World)(_hmax:cap≤9223372036854775807) :
  Calls Tryz.prog 82 #[.slice ao 0 cap] w fun e w'=>e=.returned (.slice ao 0 0)∧w'=w:=by
 go_enter Tryz.func82,Tryz.ntmps82
 go_wp2
 refine wp_loop_rounds 1 ?_
 rw [rounds_succ]
 go_wp2
 go_ret
 exact⟨rfl,rfl⟩

def New (B:Nat)(v:Value):Prop:=∀b off n c,v=.slice (some ⟨b,off,none⟩) n c→B≤b

theorem New.nil (B n c:Nat):New B (.slice none n c):=fun _ _ _ _ e=>by cases e

theorem New.at (B b off n c:Nat)(h:B≤b):New B (.slice (some ⟨b,off,none⟩) n c):=fun _ _ _ _ e=>by cases e;exact h

theorem New.mono {B B':Nat}{v:Value}(h:New B v)(hb:B'≤B):New B' v:=fun b off n c e=>Nat.le_trans hb (h b off n c e)

theorem Num.store {w:World}{v:Value}{x g j:Nat}{u:Value}(h:Num w v x)(hn:New (g+1) v):Num (w.setCell ⟨g,j,none⟩ u) v x:=by
 obtain⟨ds,hA,hr⟩:=h
 refine⟨ds,?_,hr⟩
 obtain⟨ao,cap,h1,h2,h3,h4⟩:=hA.form
 refine⟨⟨ao,cap,h1,h2,h3,?_⟩,hA.limbs,hA.few,hA.nz⟩
 rcases h4 with h4|⟨b,off,rfl,hc⟩
 ·exact .inl h4
 ·have hb:=hn b off _ _ h1
  refine .inr ⟨b,off,rfl,fun k hk=>?_⟩
  rw [World.cell?_of_block (w:=w) (Below.heap_setCell w ⟨g,j,none⟩ u b (by show b≠g;omega))]
  exact hc k hk

theorem fG (B:Nat)(v:Value)(ds:List Nat)(w:World)(h:Arg w v ds)(hd:Digs 4294967296 ds)(hl:ds.length≤35184372088900)(hB:New B v) :
  Calls Tryz.prog 82 #[v] w fun e w'=>(∃v',e=.returned v'∧Num w v' (vb 4294967296 ds)∧New B v')∧w'=w:=by
 obtain⟨ao,cap,rfl,hcap,hmax,hlies⟩:=h.form
 have hle:=tr_length_le ds
 have H:Calls Tryz.prog 82 #[.slice ao ds.length cap] w fun e w'=>e=.returned (.slice ao (tr ds).length (tr ds).length)∧w'=w:=by
  rcases hlies with rfl|⟨b,off,rfl,hc⟩
  ·exact qS ao cap w hmax
  ·exact sN b off cap ds w hcap hmax hc
 refine H.mono ?_
 rintro e w' ⟨rfl,rfl⟩
 refine⟨⟨_,rfl,⟨tr ds,⟨⟨ao,_,rfl,Nat.le_refl _,by omega,hlies.tr⟩,limbs_tr h.limbs,by omega,?_⟩,digs_tr hd,tr_tr ds,vb_tr ds,by omega⟩,fun b off n c e=>?_⟩,rfl⟩
 rotate_left
 ·cases e;exact hB b off _ _ rfl
 intro n c e
 cases e
 have:=h.nz _ _ rfl
 omega

theorem dw (v:Value)(ds:List Nat)(w:World)(h:Arg w v ds)(hd:Digs 4294967296 ds)(hl:ds.length≤35184372088900) :
  Calls Tryz.prog 82 #[v] w fun e w'=>(∃v',e=.returned v'∧Num w v' (vb 4294967296 ds))∧w'=w:=
 (fG 0 v ds w h hd hl (fun _ _ _ _ _=>Nat.zero_le _)).mono fun _ _ ⟨⟨v',h1,h2,_⟩,h3⟩=>⟨⟨v',h1,h2⟩,h3⟩

theorem dp (v:Value)(zs:List Nat)(i:Nat)(w:World)(h:Arg w v zs) :
  Calls Tryz.prog 81 #[v,.int .i64 i] w fun e w'=>e=.returned (.int .u64 ((zs.getD i 0:Nat):Int))∧w'=w:=by
 obtain⟨ao,cap,rfl,hcap,hmax,hl⟩:=h.form
 by_cases hi:i<zs.length
 ·rcases hl with rfl|⟨b,off,rfl,hc⟩
  ·simp at hi
  ·have hci:=hc i hi
   clear hc h
   generalize zs.getD i 0=z at hci ⊢
   go_enter Tryz.func81,Tryz.ntmps81
   go_wp2
   go_ret
   exact⟨rfl,rfl⟩
 ·have e:zs.getD i 0=0:=by simp [List.getD,Nat.le_of_not_lt hi]
  rw [e]
  clear hl e h
  go_enter Tryz.func81,Tryz.ntmps81
  go_wp2
  go_ret
  exact⟨rfl,rfl⟩

theorem fS {w:World}(l:List Nat)(j:Nat)(u:Value)(hj:(l.map lv)[j]?=some u):(w.alloc (.cells (l.map lv).toArray 51)).cell? ((⟨w.heap.size,0,none⟩:Addr).add j)=some u:=by
 have e:(⟨w.heap.size,0,none⟩:Addr).add j=⟨w.heap.size,j,none⟩:=by
  unfold Addr.add;split <;> simp_all
 rw [e]
 simp only [World.cell?,heap_alloc_new]
 simpa using hj

theorem ew (zs:List Nat):∀u ∈ zs.map lv,u.oneCell'=true:=by
 intro u hu
 obtain⟨z,_,rfl⟩:=List.mem_map.1 hu
 rfl

theorem gV (v:Value)(zs:List Nat)(w:World)(h:Arg w v zs)(hf:zs.length≤17592186044416) :
  Calls Tryz.prog 58 #[v] w fun e w'=>(∃v',e=.returned v'∧Num w' v' (val zs))∧Below w.heap.size w w':=by
 obtain⟨ao,cap,rfl,hcap,hmax,L1⟩:=h.form
 have M1:=h.limbs
 obtain⟨i0,hi,hz0,hz1,hz2⟩:=info_parts Tryz.infoU
 clear h
 go_enter Tryz.func58,Tryz.ntmps58
 go_wp2_with (at_make;refine wpList_make_own _ rfl _ _ 27 rfl w.heap.size 51 i0 (.int .u64 0) 1 Tryz.underlying27 hi hz0 hz1 .i64 .i64 _ (2*zs.length) rfl rfl (by omega) (by rw [hz2];omega) (by unfold maxLen;omega) (Nat.le_refl _) ?_;intro w1 hown hgrow)
 have hbel:Below w.heap.size w w1:=(Below.refl _ _).grown hgrow (Nat.le_refl _) (fun k hk=>by cases hk)
 have hsz:w.heap.size<w1.heap.size:=by
  have:=hown.lt w.heap.size rfl
  exact this.2
 clear hgrow hz0 hz2
 go_loopw [3,12] (fun o i wr=>∃k:Nat,k≤zs.length∧i=.int .i64 k∧o=.slice (some ⟨w.heap.size,0,none⟩) (2*k) (2*zs.length)∧wr.ownsRow w.heap.size 51 1 (.slice (some ⟨w.heap.size,0,none⟩) (2*k) (2*zs.length)) (2*k) ((halves (zs.take k)).map lv)∧Below w.heap.size w wr) (fun _ i _=>zs.length - (intOf i).toNat)
 case atStart=>exact⟨0,Nat.zero_le _,rfl,rfl,hown,hbel⟩
 case round=>
  obtain⟨k,hk,rfl,rfl,ho,hbl⟩:=hrel
  clear hown hbel
  by_cases hkl:k<zs.length
  ·rcases L1.below hbl with h0|⟨b,off,rfl,hcell⟩
   ·simp [h0] at hkl
   ·have hck:=hcell k hkl
    have z1:=limb_lt M1 k
    have HT:=ab (halves_take zs k hkl)
    generalize zs.getD k 0=z at *
    have e1:(z:Int) % 4294967296=((z % 4294967296:Nat):Int):=by omega
    have e2:(z:Int) / 4294967296=((z / 4294967296:Nat):Int):=by omega
    have b1:z % 4294967296<4294967296:=by omega
    have b2:z / 4294967296<4294967296:=by omega
    generalize z % 4294967296=lo at *
    generalize z / 4294967296=hh at *
    have HB:=ab hbl
    clear hcell L1 M1 hbl
    go_wp2_with (at_builtin;refine wpList_append_fits _ rfl _ _ 27 rfl w.heap.size 51 i0 1 Tryz.underlying27 hi hz1 w.heap.size (2*k) (2*zs.length) _ rfl (ho.alloc _) ⟨wr.heap.size,0,none⟩ 2 2 ([lo,hh].map lv) rfl rfl (fS [lo,hh]) (ew _) (by omega) ?_;intro w2 hown2 hgrow2)
    have HO:=ab hown2
    have HB2:=ab ((HB.out.alloc HB.out.size (.cells ([lo,hh].map lv).toArray 51)).grown hgrow2 (by have:=HB.out.size;simp;omega) (fun k hk=>by cases hk;exact Nat.le_refl _))
    clear hown2 hgrow2 ho hck
    go_wp2
    go_roundw
    case rel=>
     refine⟨k+1,by omega,by go_num,rfl,?_,HB2.out⟩
     rw [HT.out,List.map_append]
     exact HO.out
    case measure=>simp [intOf];omega
  ·have ek:k=zs.length:=by omega
   subst ek
   rw [List.take_length] at ho
   have el:=halves_length zs
   have hA:Ans wr w.heap.size (.slice (some ⟨w.heap.size,0,none⟩) (2*zs.length) (2*zs.length)) (halves zs):=⟨by rw [el];exact ho,digs_limbs (halves_digs M1)⟩
   have H:=dw _ _ _ (hA.arg (by omega)) (halves_digs M1) (by omega)
   rw [halves_val] at H
   have HB:=ab hbl
   clear ho hA hbl L1 M1
   go_wp2_with fail
   refine H.mono ?_
   rintro e w2 ⟨⟨v',rfl,hnum⟩,rfl⟩
   have HN:=ab hnum
   clear hnum H
   go_wp2
   go_ret
   exact⟨⟨v',rfl,HN.out⟩,HB.out⟩
end Go.Proofs.YtkfbobefkbpdoaaGreatDoor
namespace Go.Proofs.YtkfbobefkbpdoaaGreatDoor
namespace Lm

def pairsB (B:Nat):List Nat→List Nat
 | []=>[]
 | [a]=>[a]
 | a :: b :: r=>(a+b*B) :: pairsB B r

def pairs (ds:List Nat):List Nat:=pairsB 4294967296 ds

theorem pairsB_length (B:Nat):∀ds:List Nat,(pairsB B ds).length=(ds.length+1) / 2
 | []=>by simp [pairsB]
 | [_]=>by simp [pairsB]
 | a :: b :: r=>by simp only [pairsB,List.length_cons,pairsB_length B r];omega

theorem pairsB_getD (B:Nat):∀(ds:List Nat) (k:Nat),(pairsB B ds).getD k 0=ds.getD (2*k) 0+ds.getD (2*k+1) 0*B
 | [],k=>by simp [pairsB,List.getD]
 | [a],0=>by simp [pairsB,List.getD]
 | [a],k+1=>by simp [pairsB,List.getD,Nat.mul_add]
 | a :: b :: r,0=>by simp [pairsB,List.getD]
 | a :: b :: r,k+1=>by
  have:=pairsB_getD B r k
  rw [show 2*(k+1)=2*k+1+1 by omega]
  simp only [pairsB,List.getD_cons_succ]
  exact this

theorem pairs_length (ds:List Nat):(pairs ds).length=(ds.length+1) / 2:=pairsB_length _ ds
theorem pairs_getD (ds:List Nat)(k:Nat):(pairs ds).getD k 0=ds.getD (2*k) 0+ds.getD (2*k+1) 0*4294967296:=pairsB_getD _ ds k

theorem pairs_val:∀ds:List Nat,val (pairs ds)=vb 4294967296 ds
 | []=>rfl
 | [a]=>by simp [pairs,pairsB,val,vb]
 | a :: b :: r=>by
  have ih:=pairs_val r
  unfold pairs at ih ⊢
  simp only [pairsB,val,vb,ih];omega

theorem pairs_limbs:∀ds:List Nat,Digs 4294967296 ds→Limbs (pairs ds)
 | [],_=>by intro z hz;cases hz
 | [a],h=>by
  intro z hz
  have:=h a (by simp)
  simp [pairs,pairsB] at hz
  omega
 | a :: b :: r,h=>by
  intro z hz
  have ha:=h a (by simp)
  have hb:=h b (by simp)
  simp only [pairs,pairsB,List.mem_cons] at hz
  rcases hz with rfl|hz
  ·omega
  ·exact pairs_limbs r (fun y hy=>h y (by simp [hy])) z hz

theorem pairs_nil:∀ds:List Nat,pairs ds=[]→ds=[]
 | [],_=>rfl
 | [a],h=>by simp [pairs,pairsB] at h
 | a :: b :: r,h=>by simp [pairs,pairsB] at h

theorem pairs_tr:∀ds:List Nat,tr ds=ds→tr (pairs ds)=pairs ds
 | [],_=>rfl
 | [a],h=>h
 | a :: b :: r,h=>by
  have h1:=tr_tail h
  have h2:=tr_tail h1
  have ih:=pairs_tr r h2
  unfold pairs at ih ⊢
  simp only [pairsB,tr,ih]
  split
  ·rename_i hc
   exfalso
   have hr:=pairs_nil r hc.2
   have hb:b=0:=by omega
   subst hr hb
   simp [tr] at h1
  ·rfl

theorem blen_half (v:Nat)(h:v≠0):blen v=blen (v / 2)+1:=by
 unfold blen
 rw [if_neg h]
 by_cases h2:v / 2=0
 ·rw [if_pos h2]
  have:v=1:=by omega
  subst this;rfl
 ·rw [if_neg h2]
  have:v.log2=(v / 2).log2+1:=by
   rw [Nat.log2_def];rw [if_pos (by omega)]
  omega

theorem B_pow (n:Nat):(4294967296:Nat) ^ n=2 ^ (32*n):=by rw [Nat.pow_mul]

theorem blen_top (p k d:Nat)(hp:p<2 ^ k)(hd:d≠0):blen (p+2 ^ k*d)=k+blen d:=by
 have h1:=Nat.log2_self_le hd
 have h2:=(Nat.log2_lt hd (k:=d.log2+1)).1 (by omega)
 have e:blen d=d.log2+1:=by unfold blen;rw [if_neg hd]
 rw [e,←Nat.add_assoc]
 refine blen_eq _ _ ?_ ?_
 ·rw [Nat.pow_add]
  exact Nat.le_trans (Nat.mul_le_mul_left _ h1) (Nat.le_add_left _ _)
 ·rw [Nat.add_assoc,Nat.pow_add]
  have:=Nat.mul_le_mul_left (2 ^ k) (Nat.succ_le_of_lt h2)
  rw [Nat.succ_eq_add_one,Nat.mul_add] at this
  omega

theorem tr_last' (ds:List Nat)(n:Nat)(ht:tr ds=ds)(h:ds.length=n+1):ds.getD n 0≠0:=by
 have:=tr_last ds n (by rw [ht];exact h)
 rwa [ht] at this

theorem vb_split (ds:List Nat)(n:Nat)(h:ds.length=n+1):vb 4294967296 ds=vb 4294967296 (ds.take n)+2 ^ (32*n)*ds.getD n 0:=by
 have:=vb_take_next (B:=4294967296) ds n
 rw [←h,List.take_length,B_pow] at this
 exact this

theorem vb_take_lt {ds:List Nat}(hd:Digs 4294967296 ds)(n:Nat):vb 4294967296 (ds.take n)<2 ^ (32*n):=by
 have h1:=vb_lt (B:=4294967296) (zs:=ds.take n) (fun z hz=>hd z (List.mem_of_mem_take hz))
 have h2:(ds.take n).length≤n:=List.length_take_le _ _
 rw [←B_pow]
 exact Nat.lt_of_lt_of_le h1 (Nat.pow_le_pow_right (by omega) h2)

theorem blen_vb {ds:List Nat}(hd:Digs 4294967296 ds)(ht:tr ds=ds)(n:Nat)(h:ds.length=n+1):blen (vb 4294967296 ds)=32*n+blen (ds.getD n 0):=by
 rw [vb_split ds n h]
 exact blen_top _ _ _ (vb_take_lt hd n) (tr_last' ds n ht h)

theorem vb_shorter {a b:List Nat}(ha:Digs 4294967296 a)(hb:tr b=b)(h:a.length<b.length):vb 4294967296 a<vb 4294967296 b:=by
 obtain⟨n,hn⟩:∃n,b.length=n+1:=⟨b.length - 1,by omega⟩
 have h1:=vb_take_lt ha n
 rw [List.take_of_length_le (by omega)] at h1
 have h2:=tr_last' b n hb hn
 rw [vb_split b n hn]
 have:=Nat.mul_le_mul_left (2 ^ (32*n)) (Nat.one_le_iff_ne_zero.2 h2)
 omega

theorem vcmp_same {Z Y:List Nat}(j:Nat)(he:Z.getD j 0=Y.getD j 0):cmpN (vb 4294967296 (Z.take (j+1))) (vb 4294967296 (Y.take (j+1)))=cmpN (vb 4294967296 (Z.take j)) (vb 4294967296 (Y.take j)):=by
 rw [vb_take_next,vb_take_next,he,cmpN_add]

theorem vcmp_top {Z Y:List Nat}(hZ:Digs 4294967296 Z)(hY:Digs 4294967296 Y)(j:Nat)(hne:Z.getD j 0≠Y.getD j 0):cmpN (vb 4294967296 (Z.take (j+1))) (vb 4294967296 (Y.take (j+1)))=cmpN (Z.getD j 0) (Y.getD j 0):=by
 rw [vb_take_next,vb_take_next,B_pow]
 exact cmpN_top _ _ _ _ _ (vb_take_lt hZ j) (vb_take_lt hY j) hne

theorem vb_sub_step (X S out:List Nat)(k bw:Nat)(hk:k<out.length)(hx:X.getD k 0<4294967296)(hy:S.getD k 0<4294967296)(hb:bw≤1)
  (h:vb 4294967296 (out.take k)+vb 4294967296 (S.take k)=vb 4294967296 (X.take k)+bw*4294967296 ^ k) :
  vb 4294967296 ((out.set k ((X.getD k 0+4294967296 - S.getD k 0 - bw) % 4294967296)).take (k+1))+vb 4294967296 (S.take (k+1))=vb 4294967296 (X.take (k+1))+(1 - (X.getD k 0+4294967296 - S.getD k 0 - bw) / 4294967296)*4294967296 ^ (k+1):=by
 rw [vb_set_succ _ _ _ hk,vb_take_next X,vb_take_next S,Nat.pow_succ]
 generalize X.getD k 0=x at *
 generalize S.getD k 0=y at *
 have hm:(x+4294967296 - y - bw) % 4294967296+y+bw=x+(1 - (x+4294967296 - y - bw) / 4294967296)*4294967296:=by omega
 generalize (x+4294967296 - y - bw) % 4294967296=m at *
 generalize 1 - (x+4294967296 - y - bw) / 4294967296=d at *
 generalize (4294967296:Nat) ^ k=p at *
 have e:p*(m+y+bw)=p*(x+d*4294967296):=by rw [hm]
 rw [Nat.mul_add,Nat.mul_add,Nat.mul_add] at e
 have e2:d*(p*4294967296)=p*(d*4294967296):=by rw [←Nat.mul_assoc,Nat.mul_comm d p,Nat.mul_assoc]
 have e3:bw*p=p*bw:=Nat.mul_comm _ _
 omega

end Lm
end Go.Proofs.YtkfbobefkbpdoaaGreatDoor
namespace Go.Proofs.YtkfbobefkbpdoaaGreatDoor
open Go.RowKit
open Lm

theorem oc (v:Value)(ds:List Nat)(w:World)(h:Arg w v ds)(hd:Digs 4294967296 ds)(hf:ds.length≤35184372088832) :
  Calls Tryz.prog 86 #[v] w fun e w'=>(∃v',e=.returned v'∧Ans w' w.heap.size v' (pairs ds))∧Below w.heap.size w w':=by
 obtain⟨ao,cap,rfl,hcap,hmax,L1⟩:=h.form
 obtain⟨i0,hi,hz0,hz1,hz2⟩:=info_parts Tryz.infoU
 have hpl:=pairs_length ds
 clear h
 go_enter Tryz.func86,Tryz.ntmps86
 go_wp2
 go_loopw [3,4] (fun o i wr=>∃k:Nat,k≤(pairs ds).length∧i=.int .i64 ((2*k:Nat):Int)∧wr.ownsRow w.heap.size 51 1 o ((pairs ds).take k).length (((pairs ds).take k).map lv)∧Below w.heap.size w wr) (fun _ i _=>ds.length+2 - (intOf i).toNat)
 case atStart=>exact⟨0,Nat.zero_le _,rfl,World.ownsRow_nil _ _ _ _,Below.refl _ _⟩
 case round=>
  obtain⟨k,hk,rfl,ho,hbl⟩:=hrel
  have HB:=ab hbl
  by_cases hkl:2*k<ds.length
  ·rcases L1.below hbl with h0|⟨b,off,rfl,hcell⟩
   ·simp [h0] at hkl
   ·have hck:=hcell (2*k) hkl
    have HT:=ab (take_snoc (pairs ds) k (by omega))
    have hpg:=pairs_getD ds k
    have z1:=dig_lt (by omega) hd (2*k)
    have z2:=dig_lt (by omega) hd (2*k+1)
    by_cases hk2:2*k+1<ds.length
    ·have hck2:=hcell (2*k+1) hk2
     rw [hpg] at HT
     generalize ds.getD (2*k) 0=x at *
     generalize ds.getD (2*k+1) 0=y at *
     have i1:(2:Int)*(k:Int)+1<(ds.length:Int):=by omega
     have e1:(x:Int)+(y:Int)*4294967296=((x+y*4294967296:Nat):Int):=by omega
     have b1:x+y*4294967296<18446744073709551616:=by omega
     generalize x+y*4294967296=z at *
     clear hcell L1 hbl hd hpg
     go_wp2_with (at_builtin;refine wpList_append_own _ rfl _ _ 22 rfl w.heap.size 51 i0 (.int .u64 0) 1 8 Tryz.underlying22 hi hz0 hz1 hz2 rfl (by decide) _ _ _ rfl (ho.alloc _) ⟨wr.heap.size,0,none⟩ 1 1 ([z].map lv) rfl rfl (fS [z]) (ew _) (by simp only [List.length_take];unfold maxLen;omega) (by simp only [List.length_take];omega) (by have:=HB.out.size;simp;omega) ?_;intro v' w2 hown2 hgrow2 _)
     have HO:=ab hown2
     have HB2:=ab ((HB.out.alloc HB.out.size (.cells ([z].map lv).toArray 51)).grown hgrow2 (by have:=HB.out.size;simp;omega) (fun k hk=>(ho.lt k hk).1))
     clear hown2 hgrow2 ho
     go_wp2
     go_roundw
     case rel=>
      refine⟨k+1,by omega,by go_num,?_,HB2.out⟩
      rw [HT.out,List.length_append,List.map_append]
      exact HO.out
     case measure=>simp [intOf];omega
    ·have e0:ds.getD (2*k+1) 0=0:=by simp [List.getD,Nat.le_of_not_lt hk2]
     rw [hpg,e0,Nat.zero_mul,Nat.add_zero] at HT
     generalize ds.getD (2*k) 0=x at *
     have hd1:decide ((2:Int)*(k:Int)+1<(ds.length:Int))=false:=decide_eq_false (by omega)
     clear hcell L1 hbl hd hpg e0
     go_wp2_with (at_builtin;refine wpList_append_own _ rfl _ _ 22 rfl w.heap.size 51 i0 (.int .u64 0) 1 8 Tryz.underlying22 hi hz0 hz1 hz2 rfl (by decide) _ _ _ rfl (ho.alloc _) ⟨wr.heap.size,0,none⟩ 1 1 ([x].map lv) rfl rfl (fS [x]) (ew _) (by simp only [List.length_take];unfold maxLen;omega) (by simp only [List.length_take];omega) (by have:=HB.out.size;simp;omega) ?_;intro v' w2 hown2 hgrow2 _)
     have HO:=ab hown2
     have HB2:=ab ((HB.out.alloc HB.out.size (.cells ([x].map lv).toArray 51)).grown hgrow2 (by have:=HB.out.size;simp;omega) (fun k hk=>(ho.lt k hk).1))
     clear hown2 hgrow2 ho
     go_wp2
     go_roundw
     case rel=>
      refine⟨k+1,by omega,by go_num,?_,HB2.out⟩
      rw [HT.out,List.length_append,List.map_append]
      exact HO.out
     case measure=>simp [intOf];omega
  ·have ek:k=(pairs ds).length:=by omega
   rw [ek,List.take_length] at ho
   have HA:Hid (Ans wr w.heap.size u3 (pairs ds)):=⟨ho,pairs_limbs ds hd⟩
   clear ho hbl L1 hd
   go_wp2
   go_ret
   exact⟨⟨_,rfl,HA.out⟩,HB.out⟩

theorem nL (v u:Value)(x:Nat)(rs:List Nat)(w:World)(hn:Num w v x)(ha:Arg w u rs)(ht:tr rs=rs)(hv:val rs=x)(hf:blen x≤1125899906842624) :
  Calls Tryz.prog 67 #[v,u] w fun e w'=>e=.returned (.bool true)∧Below w.heap.size w w':=by
 obtain⟨ds,hd1,hd2,hd3,hd4,hd5⟩:=hn
 have hf2:ds.length≤35184372088832:=by
  refine Nat.le_of_not_lt fun hlt=>?_
  obtain⟨n,hn⟩:∃n,ds.length=n+1:=⟨ds.length - 1,by omega⟩
  have h1:=blen_vb hd2 hd3 n hn
  have h2:=tr_last' ds n hd3 hn
  have h3:=blen_half _ h2
  rw [hd4] at h1
  omega
 clear hf
 have HL:=oc v ds w hd1 hd2 hf2
 have he:pairs ds=rs:=norm_inj _ _ (pairs_limbs ds hd2) ha.limbs (pairs_tr ds hd3) ht (by rw [pairs_val,hd4,hv])
 rw [he] at HL
 have hfew:=ha.few
 clear he ht hv hd1 hd2 hd3 hd4 hd5 hf2
 go_enter Tryz.func67,Tryz.ntmps67
 go_wp2_with fail
 refine HL.mono ?_
 rintro e w1 ⟨⟨v',rfl,hans⟩,hb⟩
 have A1:=hans.arg hfew
 have A2:=ha.below hb
 have HB:=ab hb
 clear HL hans hb ha
 obtain⟨a1,c1,rfl,hc1,hm1,L1⟩:=A1.form
 obtain⟨a2,c2,rfl,hc2,hm2,L2⟩:=A2.form
 have hne:((rs.length:Int) != (rs.length:Int))=false:=by simp
 clear A1 A2
 go_wp2
 go_loopw [16] (fun i wr=>∃k:Nat,k≤rs.length∧i=.int .i64 k∧aR w1 wr) (fun i _=>rs.length - (intOf i).toNat)
 case atStart=>exact⟨0,Nat.zero_le _,rfl,aR.refl _⟩
 case round=>
  obtain⟨k,hk,rfl,hs⟩:=hrel
  by_cases hkl:k<rs.length
  ·rcases L1.below (hs.below _) with h0|⟨b,off,rfl,hcell⟩
   ·simp [h0] at hkl
   ·rcases L2.below (hs.below _) with h0|⟨b',off',rfl,hcell'⟩
    ·simp [h0] at hkl
    ·have hck:=hcell k hkl
     have hck':=hcell' k hkl
     generalize rs.getD k 0=z at *
     have hne2:((z:Int) != (z:Int))=false:=by simp
     have hi1:(0:Int)≤(k:Int):=by omega
     have hi2:(k:Int)<(rs.length:Int):=by omega
     have HS:=ab hs
     clear hcell hcell' L1 L2 hs
     go_wp2
     go_quiet (fail)
     go_wp2
     go_roundw
     case rel=>exact⟨k+1,by omega,by go_num,HS.out.drewN _⟩
     case measure=>simp [intOf];omega
  ·have HS:=ab hs
   clear L1 L2 hs
   go_wp2
   go_ret
   exact⟨rfl,HB.out.trans (HS.out.below _)⟩

theorem ip {k:IntKind}{a b:Int}(h:a=b):Ending.returned (.int k a)=.returned (.int k b):=by rw [h]

theorem fN (v:Value)(x:Nat)(w:World)(hn:Num w v x) :
  Calls Tryz.prog 59 #[v] w fun e w'=>e=.returned (.int .i64 ((blen x:Nat):Int))∧w'=w:=by
 obtain⟨ds,hd1,hd2,hd3,rfl,hd5⟩:=hn
 obtain⟨ao,cap,rfl,hcap,hmax,L1⟩:=hd1.form
 clear hd1
 by_cases h0:ds.length=0
 ·have hz:ds=[]:=List.length_eq_zero_iff.1 h0
  subst hz
  have e:blen (vb 4294967296 [])=0:=rfl
  rw [e]
  clear L1 hd2 hd3 hd5 h0
  go_enter Tryz.func59,Tryz.ntmps59
  go_wp2
  go_ret
  exact⟨rfl,rfl⟩
 ·obtain⟨n,hn⟩:∃n,ds.length=n+1:=⟨ds.length - 1,by omega⟩
  rcases L1 with hz|⟨b,off,rfl,hcell⟩
  ·simp [hz] at h0
  ·have hcn:=hcell n (by omega)
   rw [blen_vb hd2 hd3 n hn]
   have hdl:=dig_lt (by omega) hd2 n
   rw [hn] at hd5 ⊢
   have hz:(((n+1:Nat):Int) == 0)=false:=by rw [beq_eq_false_iff_ne];omega
   have hz':((n:Int)+1 == 0)=false:=by rw [beq_eq_false_iff_ne];omega
   generalize ds.getD n 0=d at *
   have hbd:blen d≤32:=(blen_le_iff d 32).2 hdl
   clear hcell hd2 hd3 h0 hn hcap
   go_enter Tryz.func59,Tryz.ntmps59
   go_wp2
   go_loop [3,4] (fun a b=>∃m y:Nat,a=.int .i64 m∧b=.int .u64 y∧m+blen y=32*n+blen d∧y<4294967296) (fun _ b=>(intOf b).toNat)
   case atStart=>exact⟨32*n,d,by go_num,rfl,rfl,hdl⟩
   case round=>
    obtain⟨m,y,rfl,rfl,hm,hy⟩:=hrel
    by_cases hy0:y=0
    ·subst hy0
     have HM:=ab hm
     have e0:blen 0=0:=rfl
     have HM2:Hid (m=32*n+blen d):=ab (by have:=HM.out;rw [e0] at this;exact this)
     clear hm HM e0
     go_wp2
     go_ret
     exact⟨ip (by have:=HM2.out;omega),rfl⟩
    ·have hb2:=blen_half y hy0
     have HM:Hid (m+1+blen (y / 2)=32*n+blen d):=ab (by omega)
     have hmb:m≤32*n+32:=by omega
     have e1:(y:Int) / 2=((y / 2:Nat):Int):=by omega
     have i1:(0:Int)<(y:Int):=by omega
     have i2:y / 2<y:=by omega
     clear hm hb2
     generalize y / 2=y2 at *
     go_wp2
     go_round
     case rel=>exact⟨m+1,y2,by go_num,rfl,HM.out,by omega⟩
     case measure=>simp [intOf];omega
end Go.Proofs.YtkfbobefkbpdoaaGreatDoor
namespace Go.Proofs.YtkfbobefkbpdoaaGreatDoor
open Lm

theorem gG (s:Nat)(hs:s≤32):(4294967296:Nat)=2 ^ (32 - s)*2 ^ s:=by
 rw [←Nat.pow_add,Nat.sub_add_cancel hs]

theorem jZ (q s:Nat):2 ^ (q*32+s)=4294967296 ^ q*2 ^ s:=by
 rw [Nat.pow_add,Nat.mul_comm q 32,Nat.pow_mul]

theorem qc (x s o:Nat)(hs:s≤32)(ho:o<2 ^ s):o+x*2 ^ s % 4294967296<4294967296:=by
 have e:x*2 ^ s % 4294967296=x % 2 ^ (32 - s)*2 ^ s:=by
  conv=>lhs;rw [gG s hs,Nat.mul_mod_mul_right]
 have h1:x % 2 ^ (32 - s)<2 ^ (32 - s):=Nat.mod_lt _ (Nat.two_pow_pos _)
 have h2:(x % 2 ^ (32 - s)+1)*2 ^ s≤2 ^ (32 - s)*2 ^ s:=Nat.mul_le_mul_right _ h1
 rw [←gG s hs,Nat.add_mul,Nat.one_mul] at h2
 omega

theorem sj (x s:Nat)(hx:x<4294967296):x*2 ^ s / 4294967296<2 ^ s:=by
 rw [Nat.div_lt_iff_lt_mul (by omega),Nat.mul_comm (2 ^ s)]
 exact Nat.mul_lt_mul_of_pos_right hx (Nat.two_pow_pos _)

theorem qy (x s:Nat)(hx:x<4294967296)(hs:s<32):x*2 ^ s<18446744073709551616:=by
 have h:2 ^ s≤2 ^ 32:=Nat.pow_le_pow_right (by omega) (by omega)
 have:=Nat.mul_le_mul (Nat.le_sub_one_of_lt hx) h
 omega

theorem mZ (X out:List Nat)(q s k n:Nat)(hn:n=q*32+s)(hk:q+k+1<out.length)(h:vb 4294967296 (out.take (q+k+1))=vb 4294967296 (X.take k)*2 ^ n) :
  vb 4294967296 (((out.set (q+k) (out.getD (q+k) 0+X.getD k 0*2 ^ s % 4294967296)).set (q+k+1) (X.getD k 0*2 ^ s / 4294967296)).take (q+k+1+1))=vb 4294967296 (X.take (k+1))*2 ^ n:=by
 rw [vb_set_succ _ _ _ (by simpa using hk),vb_set_succ _ _ _ (by omega),vb_take_next X k]
 rw [vb_take_next] at h
 have ht:=Nat.mod_add_div (X.getD k 0*2 ^ s) 4294967296
 have e:2 ^ n=4294967296 ^ q*2 ^ s:=by rw [hn,jZ]
 have e2:4294967296 ^ (q+k)=4294967296 ^ q*4294967296 ^ k:=Nat.pow_add _ _ _
 have e3:4294967296 ^ (q+k+1)=4294967296 ^ (q+k)*4294967296:=Nat.pow_succ ..
 rw [e3]
 rw [e2] at h ⊢
 rw [e] at h ⊢
 generalize X.getD k 0*2 ^ s % 4294967296=r at *
 generalize X.getD k 0*2 ^ s / 4294967296=d at *
 generalize X.getD k 0=x at *
 generalize out.getD (q+k) 0=o at *
 generalize vb 4294967296 (out.take (q+k))=V at *
 generalize vb 4294967296 (X.take k)=U at *
 generalize 4294967296 ^ q=Q at *
 generalize 4294967296 ^ k=K at *
 generalize 2 ^ s=S at *
 generalize 4294967296=B at *
 grind

def bL (s:Nat):List Nat→List Nat
 | []=>[]
 | y :: r=>(y+r.getD 0 0*4294967296) / 2 ^ s % 4294967296 :: bL s r

theorem kn (s:Nat):∀Y:List Nat,(bL s Y).length=Y.length
 | []=>rfl
 | _ :: r=>by simp [bL,kn s r]

theorem lN (s y:Nat)(r:List Nat):bL s (y :: r)=(y+r.getD 0 0*4294967296) / 2 ^ s % 4294967296 :: bL s r:=by rw [bL]

theorem my (s:Nat)(Y:List Nat)(k:Nat)(h:k<Y.length):(bL s Y).getD k 0=(Y.getD k 0+Y.getD (k+1) 0*4294967296) / 2 ^ s % 4294967296:=by
 induction Y generalizing k with
 | nil=>simp at h
 | cons y r ih=>
  rw [lN]
  cases k with
  | zero=>rw [List.getD_cons_zero,List.getD_cons_zero,List.getD_cons_succ]
  | succ k=>rw [List.getD_cons_succ,List.getD_cons_succ,List.getD_cons_succ,ih k (by simpa using h)]

theorem ni (y R S t:Nat)(hy:y<4294967296)(hS:0<S)(ht:4294967296=t*S) :
  (y+4294967296*R) / S=(y+R % 4294967296*4294967296) / S % 4294967296+4294967296*(R / S):=by
 have e1:y+4294967296*R=y+4294967296*(R % S)+(4294967296*(R / S))*S:=by
  have:=Nat.mod_add_div R S
  grind
 have e2:R % S=R % 4294967296 % S:=by rw [Nat.mod_mod_of_dvd];exact⟨t,by rw [Nat.mul_comm];exact ht⟩
 have e3:y+R % 4294967296*4294967296=y+4294967296*(R % S)+(4294967296*(R % 4294967296 / S))*S:=by
  have:=Nat.mod_add_div (R % 4294967296) S
  grind
 rw [e1,e3,Nat.add_mul_div_right _ _ hS,Nat.add_mul_div_right _ _ hS,Nat.add_mul_mod_self_left]
 congr 1
 refine (Nat.mod_eq_of_lt ?_).symm
 rw [Nat.div_lt_iff_lt_mul hS]
 have h1:R % S<S:=Nat.mod_lt _ hS
 have h2:4294967296*(R % S+1)≤4294967296*S:=Nat.mul_le_mul_left _ h1
 omega

theorem kh (r:List Nat)(h:Digs 4294967296 r):vb 4294967296 r % 4294967296=r.getD 0 0:=by
 cases r with
 | nil=>rfl
 | cons a r=>
  show (a+4294967296*vb 4294967296 r) % 4294967296=a
  rw [Nat.add_mul_mod_self_left]
  exact Nat.mod_eq_of_lt (h a (List.mem_cons_self ..))

theorem lD (s:Nat)(hs:s<32):∀Y:List Nat,Digs 4294967296 Y→vb 4294967296 (bL s Y)=vb 4294967296 Y / 2 ^ s
 | [],_=>by simp [bL,vb]
 | y :: r,h=>by
  have hr:Digs 4294967296 r:=fun z hz=>h z (List.mem_cons_of_mem _ hz)
  rw [lN,vb,vb,lD s hs r hr,ni y _ (2 ^ s) (2 ^ (32 - s)) (h y (List.mem_cons_self ..)) (Nat.two_pow_pos _) (gG s (by omega)),kh r hr]

theorem ri (out L:List Nat)(k:Nat)(hl:out.length=L.length)(hk:k<L.length)(h:out.take k=L.take k):(out.set k (L.getD k 0)).take (k+1)=L.take (k+1):=by
 rw [List.take_add_one,List.take_add_one,List.take_set_of_le (Nat.le_refl _),h]
 simp [hl,hk,List.getD]

theorem lA (X:List Nat)(q:Nat)(h:Digs 4294967296 X)(hq:q≤X.length):vb 4294967296 (X.drop q)=vb 4294967296 X / 4294967296 ^ q:=by
 have e:vb 4294967296 X=vb 4294967296 (X.take q)+4294967296 ^ q*vb 4294967296 (X.drop q):=by
  conv=>lhs;rw [←List.take_append_drop q X,vb_append]
  rw [List.length_take,Nat.min_eq_left hq]
 have hlt:=vb_take_lt h q
 rw [B_pow] at e ⊢
 rw [e,Nat.add_mul_div_left _ _ (Nat.two_pow_pos _),Nat.div_eq_of_lt hlt,Nat.zero_add]

theorem p9 (X:List Nat)(q s:Nat)(h:Digs 4294967296 X)(hq:q≤X.length)(hs:s<32):vb 4294967296 (bL s (X.drop q))=vb 4294967296 X / 2 ^ (q*32+s):=by
 rw [lD s hs _ (fun z hz=>h z (List.mem_of_mem_drop hz)),lA X q h hq,Nat.div_div_eq_div_mul,jZ]

theorem mO (X:List Nat)(n:Nat)(h:Digs 4294967296 X)(hq:X.length≤n / 32):vb 4294967296 X / 2 ^ n=0:=by
 apply Nat.div_eq_of_lt
 have h1:=vb_lt h
 have h2:4294967296 ^ X.length≤2 ^ n:=by
  rw [show (4294967296:Nat)=2 ^ 32 from rfl,←Nat.pow_mul]
  exact Nat.pow_le_pow_right (by omega) (by omega)
 omega
end Go.Proofs.YtkfbobefkbpdoaaGreatDoor
namespace Go.Proofs.YtkfbobefkbpdoaaGreatDoor
open Go.RowKit
open Lm
attribute [local go_sem ↓] Go.wp_at_zero Go.wp_at_succ

theorem iN (x k:Nat):((x:Int) / 2 ^ k)=((x / 2 ^ k:Nat):Int):=by
 rw [Int.natCast_ediv,Int.natCast_pow];rfl

theorem nd (ds:List Nat)(q s:Nat)(h:Digs 4294967296 ds)(hq:q<ds.length)(hs:s<32):vb 4294967296 ds / 2 ^ (32*q+s) % 2=ds.getD q 0 / 2 ^ s % 2:=by
 have h1:=lA ds q h (by omega)
 have h2:=kh (ds.drop q) (fun z hz=>h z (List.mem_of_mem_drop hz))
 have h3:(ds.drop q).getD 0 0=ds.getD q 0:=by simp [List.getD]
 rw [h3,h1] at h2
 have e1:(4294967296:Nat) ^ q=2 ^ (32*q):=by rw [Nat.pow_mul]
 rw [e1] at h2
 rw [eU,eU,←h2,show (4294967296:Nat)=2 ^ 32 from rfl,Nat.testBit_mod_two_pow,Nat.testBit_div_two_pow]
 simp [hs,Nat.add_comm]

theorem og (ds:List Nat)(q s:Nat)(h:Digs 4294967296 ds)(hq:ds.length≤q):vb 4294967296 ds / 2 ^ (32*q+s) % 2=0:=by
 have h1:=vb_lt h
 have e1:(4294967296:Nat) ^ ds.length=2 ^ (32*ds.length):=by rw [Nat.pow_mul]
 rw [e1] at h1
 have h2:2 ^ (32*ds.length)≤2 ^ (32*q+s):=Nat.pow_le_pow_right (by omega) (by omega)
 rw [Nat.div_eq_of_lt (by omega)]

theorem lg (x:Nat)(h:x<18446744073709551616):wrap64 (bits BinOp.and IntKind.u64 (x:Int) 1)=((x % 2:Nat):Int):=by
 have:=bits_and_u64_nat x 1 h (by omega)
 rw [show ((1:Nat):Int)=1 from rfl] at this
 rw [this,Nat.and_one_is_mod]
 unfold wrap64
 omega

theorem iX (v:Value)(x i:Nat)(w:World)(hn:Num w v x)(hi:i≤9223372036854775807) :
  Calls Tryz.prog 80 #[v,.int .i64 i] w fun e w'=>e=.returned (.int .i64 ((x / 2 ^ i % 2:Nat):Int))∧w'=w:=by
 obtain⟨ds,hd1,hd2,hd3,rfl,hd5⟩:=hn
 obtain⟨ao,cap,rfl,hcap,hmax,L1⟩:=hd1.form
 clear hd1
 obtain⟨q,s,hq,hs,hqs⟩:∃q s:Nat,i=32*q+s∧s<32∧True:=⟨i / 32,i % 32,by omega,by omega,trivial⟩
 have i1:¬(i:Int)<0:=by omega
 have i2:(i:Int) / 32=(q:Int):=by omega
 have i3:(i:Int) % 32=(s:Int):=by omega
 by_cases h0:ds.length≤q
 ·have hr:=og ds q s hd2 h0
  rw [←hq] at hr
  rw [hr]
  have i4:(ds.length:Int)≤(q:Int):=by omega
  have HQ:=ab hq
  clear hd2 hd3 hr hq L1
  go_enter Tryz.func80,Tryz.ntmps80
  go_wp2
  go_ret
  exact⟨rfl,rfl⟩
 ·rcases L1 with hz|⟨b,off,rfl,hcell⟩
  ·simp [hz] at h0
  ·have hcn:=hcell q (by omega)
   have hdl:=dig_lt (by omega) hd2 q
   have i4:(q:Int)<(ds.length:Int):=by omega
   have hr:(vb 4294967296 ds / 2 ^ i % 2:Nat)=ds.getD q 0 / 2 ^ s % 2:=by rw [hq];exact nd ds q s hd2 (by omega) hs
   rw [hr]
   generalize ds.getD q 0=d at *
   have HQ:=ab hq
   clear hcell hd2 hd3 hr hq
   go_enter Tryz.func80,Tryz.ntmps80
   go_wp2
   go_ret
   refine⟨ip ?_,rfl⟩
   have hd3:d / 2 ^ s≤d:=Nat.div_le_self _ _
   have:=lg (d / 2 ^ s) (by omega)
   rw [←iN] at this
   rw [this]
   norm_cast

theorem rj {w:World}{b off:Nat}{X:List Nat}(hc:∀k,k<X.length→w.cell? ⟨b,off+k,none⟩=some (.int .u64 ((X.getD k 0:Nat):Int)))(j:Nat)(u:Value)(hj:(X.map lv)[j]?=some u):w.cell? ((⟨b,off,none⟩:Addr).add j)=some u:=by
 rw [List.getElem?_map] at hj
 have hl:j<X.length:=by
  refine Nat.lt_of_not_le fun h=>?_
  rw [List.getElem?_eq_none h] at hj
  cases hj
 have:=hc j hl
 have e:X.getD j 0=X[j]:=by simp [List.getD,hl]
 rw [List.getElem?_eq_getElem hl] at hj
 cases hj
 have ea:(⟨b,off,none⟩:Addr).add j=⟨b,off+j,none⟩:=by simp [Addr.add]
 rw [ea,this,e];rfl

theorem mo (ao:Option Addr)(cap:Nat)(X:List Nat)(w:World)(hl:aC w ao X)(hX:Limbs X)(hf:X.length≤17592186044416) :
  Calls Tryz.prog 132 #[.slice ao X.length cap] w fun e w'=>(∃v,e=.returned v∧Ans w' w.heap.size v X)∧Below w.heap.size w w':=by
 obtain⟨i0,hi,hz0,hz1,hz2⟩:=info_parts Tryz.infoU
 have ho:w.ownsRow w.heap.size 51 1 (.slice none 0 0) 0 []:=World.ownsRow_nil _ _ _ _
 have key:∀ad:Addr,(∀j u,(X.map lv)[j]?=some u→w.cell? (ad.add j)=some u)→Calls Tryz.prog 132 #[.slice (some ad) X.length cap] w fun e w'=>(∃v,e=.returned v∧Ans w' w.heap.size v X)∧Below w.heap.size w w':=by
  intro ad hn
  have HX:=ab hX
  clear hX hl
  go_enter Tryz.func132,Tryz.ntmps132
  go_wp2_with (at_builtin;refine wpList_append_own _ rfl _ _ 39 rfl w.heap.size 51 i0 (.int .u64 0) 1 8 Tryz.underlying39 hi hz0 hz1 hz2 rfl (by decide) _ _ _ rfl ho ad X.length cap (X.map lv) rfl (by simp) hn (ew _) (by unfold maxLen;omega) (by omega) (Nat.le_refl _) ?_;intro v' w2 hown2 hgrow2 _)
  have HA:Hid (Ans w2 w.heap.size v' X):=by
   rw [Nat.zero_add,List.nil_append] at hown2
   exact⟨hown2,HX.out⟩
  have HB:Hid (Below w.heap.size w w2):=(Below.refl _ _).grown hgrow2 (Nat.le_refl _) (fun k hk=>by cases hk)
  clear hown2 hgrow2 ho hn
  go_wp2
  go_ret
  exact⟨⟨_,rfl,HA.out⟩,HB.out⟩
 rcases hl with h0|⟨b,off,rfl,hc⟩
 ·subst h0
  cases ao with
  | some ad=>exact key ad (fun j u h=>by simp at h)
  | none=>
   clear key ho hi hz0 hz1 hz2 hX
   go_enter Tryz.func132,Tryz.ntmps132
   go_wp2
   go_ret
   exact⟨⟨_,rfl,Ans.nil _ _⟩,Below.refl _ _⟩
 ·exact key _ (rj hc)

theorem nh (v:Value)(X:List Nat)(w:World)(hA:Arg w v X)(hf:X.length≤17592186044416) :
  Calls Tryz.prog 117 #[v] w fun e w'=>(∃v,e=.returned v∧Ans w' w.heap.size v (tr X))∧Below w.heap.size w w':=by
 obtain⟨a1,c1,rfl,hc1,hm1,hl1⟩:=hA.form
 have T1:=dS a1 c1 X w hc1 hm1 hl1
 have l1:=tr_length_le X
 have F:=mo a1 c1 (tr X) w hl1.tr (limbs_tr hA.limbs) (by omega)
 clear hl1 hA
 go_enter Tryz.func117,Tryz.ntmps117
 go_wp2_with fail
 refine T1.mono ?_
 rintro e w2 ⟨rfl,rfl⟩
 clear T1
 go_wp2_with fail
 refine F.mono ?_
 rintro e w3 ⟨⟨v,rfl,ha⟩,hb⟩
 have HA:=ab (And.intro ha hb)
 clear ha hb F
 go_wp2
 go_ret
 exact⟨⟨v,rfl,HA.out.1⟩,HA.out.2⟩

theorem pB (X:List Nat)(q s:Nat)(h:Limbs X)(hs:s<64):val X / 2 ^ (64*q+s) % 2=X.getD q 0 / 2 ^ s % 2:=by
 induction q generalizing X with
 | zero=>
  have h1:=jX X
  have h2:val X % 2 ^ 64=X.getD 0 0:=by
   have:=limb_lt h 0
   rw [show (2:Nat) ^ 64=18446744073709551616 from rfl]
   omega
  rw [Nat.mul_zero,Nat.zero_add,eU,eU,←h2,Nat.testBit_mod_two_pow]
  simp [hs]
 | succ q ih=>
  have h1:=jX X
  have h3:=limb_lt h 0
  have h2:val X / 2 ^ 64=val X.tail:=by
   rw [show (2:Nat) ^ 64=18446744073709551616 from rfl]
   omega
  have e:64*(q+1)+s=64+(64*q+s):=by omega
  rw [e,Nat.pow_add,←Nat.div_div_eq_div_mul,h2,ih X.tail (mI h),rd]

def dg (x:Nat)(i:Int):Nat:=if i<0 then 0 else x / 2 ^ i.toNat % 2

theorem j9 (v:Value)(X:List Nat)(i:Int)(w:World)(hA:Arg w v X)(h1:-9223372036854775808≤i)(h2:i≤9223372036854775807) :
  Calls Tryz.prog 136 #[v,.int .i64 i] w fun e w'=>e=.returned (.int .i64 ((dg (val X) i:Nat):Int))∧w'=w:=by
 by_cases h0:i<0
 ·have e:dg (val X) i=0:=if_pos h0
  rw [e]
  clear hA
  go_enter Tryz.func136,Tryz.ntmps136
  go_wp2
  go_ret
  exact⟨rfl,rfl⟩
 ·obtain⟨n,rfl⟩:∃n:Nat,i=(n:Int):=⟨i.toNat,by omega⟩
  obtain⟨q,s,hq,hs⟩:∃q s:Nat,n=64*q+s∧s<64:=⟨n / 64,n % 64,by omega,by omega⟩
  have e:dg (val X) (n:Int)=X.getD q 0 / 2 ^ s % 2:=by
   unfold dg
   rw [if_neg h0,Int.toNat_natCast,hq]
   exact pB X q s hA.limbs hs
  rw [e]
  have i2:(n:Int) / 64=(q:Int):=by omega
  have i3:(n:Int) % 64=(s:Int):=by omega
  obtain⟨a1,c1,rfl,hc1,hm1,hl1⟩:=hA.form
  have L:=qf a1 c1 X q w hc1 hm1 hl1
  have z:=limb_lt hA.limbs q
  generalize X.getD q 0=d at *
  have HQ:=ab hq
  clear hl1 hA hq e
  go_enter Tryz.func136,Tryz.ntmps136
  go_wp2_with fail
  refine L.mono ?_
  rintro e w2 ⟨rfl,rfl⟩
  clear L
  go_wp2
  go_ret
  refine⟨ip ?_,rfl⟩
  have hd3:d / 2 ^ s≤d:=Nat.div_le_self _ _
  have:=lg (d / 2 ^ s) (by omega)
  rw [←iN] at this
  rw [this]
end Go.Proofs.YtkfbobefkbpdoaaGreatDoor
namespace Go.Proofs.YtkfbobefkbpdoaaGreatDoor
open Go.RowKit
open Lm

theorem rh (a b:List Nat)(x y:Nat):(a ++ x :: b).set a.length y=(a ++ [y]) ++ b:=by
 simp

abbrev aK:Value:=.slice none 0 0

def upd (rows:Nat→List Nat)(i:Nat)(r:List Nat):Nat→List Nat:=fun m=>if m=i then r else rows m

theorem cb (rows:Nat→List Nat)(i:Nat)(r:List Nat):upd rows i r i=r:=by simp [upd]
theorem cS (rows:Nat→List Nat)(i m:Nat)(r:List Nat)(h:m≠i):upd rows i r m=rows m:=by simp [upd,h]

theorem Ans.ne {w:World}{base L:Nat}{v:Value}{zs:List Nat}{vs:Array Value}(h:Ans w base v zs)(hl:w.heap[L]?=some (.cells vs 22 (0,0))):v.ownBlock≠some L:=by
 obtain⟨_,h2⟩:=h.own
 rcases h2 with ⟨rfl,_⟩|⟨g,cap,cur,rfl,_,hh,_⟩
 ·simp [Value.ownBlock]
 ·intro e
  simp [Value.ownBlock] at e
  subst e
  rw [hl] at hh
  simp at hh

theorem Ans.stored {w:World}{base g cap:Nat}{zs:List Nat}(h:Ans w base (.slice (some ⟨g,0,none⟩) zs.length cap) zs)(j z:Nat)(hz:z<18446744073709551616):Ans (w.setCell ⟨g,j,none⟩ (.int .u64 (z:Int))) base (.slice (some ⟨g,0,none⟩) (zs.set j z).length cap) (zs.set j z):=by
 refine⟨?_,limbs_set h.limbs _ _ hz⟩
 have:=(h.own.stored j (.int .u64 (z:Int))).1
 rw [List.length_set,List.map_set]
 exact this

theorem mT (r:List Nat)(j c:Nat)(h:j<r.length):(List.replicate j c ++ r.drop j).set j c=List.replicate (j+1) c ++ r.drop (j+1):=by
 rw [List.drop_eq_getElem_cons h]
 have:=rh (List.replicate j c) (r.drop (j+1)) r[j] c
 rw [List.length_replicate] at this
 rw [this,←List.replicate_succ']

theorem mK (r:List Nat)(j c:Nat)(h:j≤r.length):(List.replicate j c ++ r.drop j).length=r.length:=by
 simp;omega

def bv (b:Nat):List Nat:=[b,b+1,b+2,b+3,b+4]

def over (rows:Nat→List Nat)(m:Nat):List Nat:=List.replicate (rows m).length (m % 251+1)

def bV (rows:Nat→List Nat)(k m:Nat):List Nat:=if m<k then over rows m else rows m

theorem iM (rows:Nat→List Nat)(k m:Nat)(h:m≠k):bV rows k m=bV rows (k+1) m:=by
 unfold bV
 by_cases h1:m<k
 ·rw [if_pos h1,if_pos (by omega)]
 ·rw [if_neg h1,if_neg (by omega)]

theorem oI (rows:Nat→List Nat)(k:Nat)(hk:k≤1000):Limbs (over rows k ++ bv (300+5*k)):=by
 intro z hz
 rcases List.mem_append.1 hz with h|h
 ·have:=List.eq_of_mem_replicate h
  omega
 ·simp only [bv,List.mem_cons,List.not_mem_nil,or_false] at h
  omega

theorem qr (rows:Nat→List Nat)(k j:Nat)(h:j<(rows k).length):(over rows k ++ bv (300+5*k)).getD j 0=k % 251+1:=by
 have hl:j<(over rows k).length:=by simpa [over] using h
 rw [List.getD,List.getElem?_append_left hl]
 simp [over,h]

theorem lR (rows:Nat→List Nat)(k j:Nat)(h:(rows k).length≤j)(h2:j<(rows k).length+5):(over rows k ++ bv (300+5*k)).getD j 0=300+5*k+(j - (rows k).length):=by
 obtain⟨i,rfl⟩:∃i,j=(rows k).length+i:=⟨j - (rows k).length,by omega⟩
 have hl:(over rows k).length≤(rows k).length+i:=by simp [over]
 rw [List.getD,List.getElem?_append_right hl]
 match i,show i<5 by omega with
 | 0,_=>simp [over,bv]
 | 1,_=>simp [over,bv]
 | 2,_=>simp [over,bv]
 | 3,_=>simp [over,bv]
 | 4,_=>simp [over,bv]

theorem dz {w:World}{base e n:Nat}{v:Value}{xs:List Value}(h:w.ownsRow base e 1 v n xs)(hn:0<n):∃g cap,v=.slice (some ⟨g,0,none⟩) n cap:=by
 rcases h.2 with ⟨_,h0⟩|⟨g,cap,_,hv,_⟩
 ·omega
 ·exact⟨g,cap,hv⟩

theorem Ans.top {w:World}{base:Nat}{v:Value}{zs:List Nat}(h:Ans w base v zs):∀g,v.ownBlock=some g→g<w.heap.size:=fun g hg=>(h.own.lt g hg).2

theorem bN {w a b:World}(h:Hid (Below w.heap.size w a))(hb:Below a.heap.size a b):Hid (Below w.heap.size w b):=h.out.trans (hb.mono h.out.size)
end Go.Proofs.YtkfbobefkbpdoaaGreatDoor
namespace Go.Proofs.YtkfbobefkbpdoaaGreatDoor
open Go.RowKit
open Lm
attribute [local go_sem ↓] Go.wp_at_zero Go.wp_at_succ

theorem ig {x t n:Nat}(h:bo x t)(hn:n<t):x / 2 ^ n % 2=0:=by
 have e:=fy h
 generalize x / 2 ^ t / 2=m at e
 obtain⟨d,rfl⟩:∃d,t=n+(d+1):=⟨t - n - 1,by omega⟩
 have e2:x=2 ^ n*(2*(2 ^ d*(2*m+1))):=by
  rw [e,Nat.pow_add,Nat.pow_succ]
  generalize 2 ^ n=a
  generalize 2 ^ d=b
  grind
 rw [e2,Nat.mul_div_cancel_left _ (Nat.two_pow_pos n)]
 omega

theorem ry (v:Value)(x t:Nat)(w:World)(hn:Num w v x)(h:(x=0∧t=0)∨bo x t) :
  Calls Tryz.prog 55 #[v] w fun e w'=>e=.returned (.int .i64 (t:Int))∧w'=w:=by
 have hn0:=hn
 obtain⟨ds,hd1,hd2,hd3,hd4,hd5⟩:=hn
 obtain⟨ao,cap,rfl,hcap,hmax,L1⟩:=hd1.form
 clear hd1 L1
 by_cases h0:ds.length=0
 ·have hz:ds=[]:=List.length_eq_zero_iff.1 h0
  subst hz
  have hx:x=0:=hd4.symm
  have ht:t=0:=by
   rcases h with h|h
   ·exact h.2
   ·have:=h.2;rw [hx] at this;simp at this
  subst ht
  clear hd2 hd3 hd4 hd5 h0 hn0 h hx
  go_enter Tryz.func55,Tryz.ntmps55
  go_wp2
  go_ret
  exact⟨rfl,rfl⟩
 ·obtain⟨n,hn⟩:∃n,ds.length=n+1:=⟨ds.length - 1,by omega⟩
  have hx:x≠0:=by
   intro e
   have h1:=tr_last' ds n hd3 hn
   have h2:=vb_split ds n hn
   rw [hd4,e] at h2
   have h3:2 ^ (32*n)*ds.getD n 0=0:=by omega
   rcases Nat.mul_eq_zero.1 h3 with h6|h6
   ·exact absurd h6 (Nat.pos_iff_ne_zero.1 (Nat.two_pow_pos _))
   ·exact h1 h6
  have hT:bo x t:=by
   rcases h with h|h
   ·exact absurd h.1 hx
   ·exact h
  have hlt:x<2 ^ (32*ds.length):=by
   have:=vb_lt hd2
   rw [hd4] at this
   rw [Nat.pow_mul];exact this
  have htl:=dQ hT hlt
  have HT:=ab hT
  have i0:((ds.length:Int) == 0)=false:=by rw [beq_eq_false_iff_ne];omega
  clear hT h hx hlt hd2 hd3 hd4 hn
  go_enter Tryz.func55,Tryz.ntmps55
  go_wp2
  go_loopw [3] (fun i wr=>∃k:Nat,k≤t∧i=.int .i64 k∧wr=w) (fun i _=>t - (intOf i).toNat)
  case atStart=>exact⟨0,Nat.zero_le _,rfl,rfl⟩
  case round=>
   obtain⟨k,hk,rfl,rfl⟩:=hrel
   have B:=iX _ _ k _ hn0 (by omega)
   by_cases hkl:k<t
   ·rw [ig HT.out hkl] at B
    clear hn0
    go_wp2_with fail
    refine B.mono ?_
    rintro e wn ⟨rfl,hw⟩;subst hw
    clear B
    go_wp2
    go_roundw
    case rel=>exact⟨k+1,by omega,by go_num,trivial⟩
    case measure=>simp [intOf];omega
   ·have ek:k=t:=by omega
    subst ek
    rw [HT.out.2] at B
    clear hn0
    go_wp2_with fail
    refine B.mono ?_
    rintro e wn ⟨rfl,hw⟩;subst hw
    clear B
    go_wp2
    go_ret
    exact⟨rfl,rfl⟩
end Go.Proofs.YtkfbobefkbpdoaaGreatDoor
namespace Go.Proofs.YtkfbobefkbpdoaaGreatDoor
namespace Lm

end Lm
end Go.Proofs.YtkfbobefkbpdoaaGreatDoor
namespace Go.Proofs.YtkfbobefkbpdoaaGreatDoor
open Go.RowKit
open Lm

theorem po (x:Nat)(w:World)(hx:x<18446744073709551616) :
  Calls Tryz.prog 123 #[.int .u64 x] w fun e w'=>(∃v,e=.returned v∧Ans w' w.heap.size v (tr [x]))∧Below w.heap.size w w':=by
 by_cases h:x=0
 ·subst h
  have hz:(((0:Nat):Int) == 0)=true:=rfl
  go_enter Tryz.func123,Tryz.ntmps123
  go_wp2
  go_ret
  exact⟨⟨_,rfl,Ans.nil _ _⟩,Below.refl _ _⟩
 ·have hz:((x:Int) == 0)=false:=by rw [beq_eq_false_iff_ne];omega
  have e:tr [x]=[x]:=by simp [tr,h]
  rw [e]
  clear e h
  have hb:Blk (w.alloc (.cells #[.int .u64 (x:Int)] 51)) w.heap.size [x]:=by
   unfold Blk;rw [heap_alloc_new];rfl
  have HA:=ab (Ans.of_blk (base:=w.heap.size) (zs:=[x]) (Nat.le_refl _) hb rfl (Nat.le_refl _) (by simp) (by intro y hy;simp at hy;omega))
  clear hb
  go_enter Tryz.func123,Tryz.ntmps123
  go_wp2
  go_ret
  exact⟨⟨_,rfl,HA.out⟩,(Below.refl _ _).alloc (Nat.le_refl _) _⟩
end Go.Proofs.YtkfbobefkbpdoaaGreatDoor
namespace Go.Proofs.YtkfbobefkbpdoaaGreatDoor
open Go.RowKit
open Lm
attribute [local go_sem ↓] Go.wp_at_zero Go.wp_at_succ

theorem qO (x y b:Nat)(hb:b≤1)(w:World) :
  (callFunc 135 #[.int .u64 x,.int .u64 y,.int .u64 b]).run Tryz.prog w =
   .ok (.value (.tuple #[.int .u64 (((x+18446744073709551616 - y - b) % 18446744073709551616:Nat):Int),.int .u64 ((bor x y b:Nat):Int)])) w:=by
 rw [run_callFunc_extern Tryz.func135 (by kernel_rfl) (by kernel_rfl) (by kernel_rfl) (e:=sub64Entry) (by kernel_rfl),run_sub64 x y b hb]
 rfl

theorem ml (x y b:Nat):bor x y b≤1:=by unfold bor;split <;> omega

theorem oB {Z Y out:List Nat}(ho:Limbs out)(hl:out.length=Z.length)(hyl:Y.length≤Z.length)(hle:val Y≤val Z)(bw:Nat)(_hbw:bw≤1)
  (h:val (out.take Z.length)+val (Y.take Z.length)=val (Z.take Z.length)+bw*18446744073709551616 ^ Z.length):val out=val Z - val Y:=by
 rw [List.take_of_length_le (by omega),List.take_of_length_le (by omega),List.take_length] at h
 have h1:=val_lt ho
 rw [hl] at h1
 rcases Nat.eq_zero_or_pos bw with h0|h0
 ·subst h0;omega
 ·have e:bw=1:=by omega
  subst e
  omega

def zz (b:Bool)(x:Nat):Int:=if b then -(x:Int) else (x:Int)

theorem aV (b:Bool)(x:Nat):(zz b x).natAbs=x:=by cases b <;> simp [zz]
theorem sy (b:Bool)(x:Nat):zz (!b) x=-(zz b x):=by cases b <;> simp [zz]
theorem fL (b:Bool):zz b 0=0:=by cases b <;> simp [zz]
theorem cL (z:Int):zz (decide (z<0)) z.natAbs=z:=by
 unfold zz
 by_cases h:z<0
 ·rw [if_pos (by simpa using h)];omega
 ·rw [if_neg (by simpa using h)];omega

theorem mG {rs:List Nat}(ht:tr rs=rs):0<rs.length ↔ val rs≠0:=by
 constructor
 ·intro h h0
  have:=co rs 0 (by rw [h0];simp)
  rw [ht] at this
  omega
 ·intro h
  rcases Nat.eq_zero_or_pos rs.length with h0|h0
  ·rw [List.eq_nil_of_length_eq_zero h0] at h
   exact absurd rfl h
  ·exact h0

theorem j6 {rs:List Nat}{x:Nat}(b:Bool)(ht:tr rs=rs)(hv:val rs=x):(b && decide (0<rs.length))=decide (zz b x<0):=by
 have h:=mG ht
 rw [hv] at h
 cases b
 ·simp [zz]
 ·simp only [Bool.true_and,zz,if_true]
  rw [decide_eq_decide]
  omega

def ZR (w:World)(base:Nat)(b:Bool)(va:Value)(c z:Int):Prop:=
 ∃rs,Ans w base va rs∧((c=0∧b=decide (z<0)∧val rs=z.natAbs∧tr rs=rs∧blen z.natAbs≤67108864)∨(c=3∧b=false∧va=.slice none 0 0∧rs=[]∧67108864<blen z.natAbs))

def ep (w:World)(base:Nat)(e:Ending)(z:Int):Prop:=∃b a n k c,e=.returned (.tuple #[.agg #[.bool b,.slice a n k],.int .i64 c])∧ZR w base b (.slice a n k) c z

theorem ZR.below {w w':World}{base:Nat}{b:Bool}{va:Value}{c z:Int}(h:ZR w base b va c z)(hb:Below w.heap.size w w'):ZR w' base b va c z:=by
 obtain⟨rs,h1,h2⟩:=h
 exact⟨rs,h1.below hb,h2⟩

theorem ZR.base {w:World}{base base':Nat}{b:Bool}{va:Value}{c z:Int}(h:ZR w base b va c z)(hb:base'≤base):ZR w base' b va c z:=by
 obtain⟨rs,h1,h2⟩:=h
 exact⟨rs,h1.base hb,h2⟩

theorem ag (w:World)(o1:Obj):∃w0,w.alloc o1=w0∧Below w.heap.size w w0∧w0.heap[w.heap.size]?=some o1:=⟨_,rfl,(Below.refl _ _).alloc (Nat.le_refl _) _,heap_alloc_new ..⟩

theorem al (w:World)(o1 o2:Obj):∃w0,(w.alloc o1).alloc o2=w0∧Below w.heap.size w w0∧w0.heap[w.heap.size]?=some o1∧w0.heap[w.heap.size+1]?=some o2:=by
 obtain⟨w1,h1,b1,c1⟩:=ag w o1
 obtain⟨w2,h2,b2,c2⟩:=ag w1 o2
 have hs:w1.heap.size=w.heap.size+1:=by rw [←h1];exact World.size_alloc _ _
 refine⟨w2,by rw [h1];exact h2,b1.trans (b2.mono b1.size),?_,by rw [←hs];exact c2⟩
 rw [b2.block w.heap.size (lt_of_block c1)];exact c1

theorem aM (w:World)(o1 o2 o3:Obj):∃w0,((w.alloc o1).alloc o2).alloc o3=w0∧Below w.heap.size w w0∧w0.heap[w.heap.size]?=some o1∧w0.heap[w.heap.size+1]?=some o2∧w0.heap[w.heap.size+2]?=some o3:=by
 obtain⟨w1,h1,b1,c1,c2⟩:=al w o1 o2
 obtain⟨w2,h2,b2,c3⟩:=ag w1 o3
 have hs:w1.heap.size=w.heap.size+2:=by rw [←h1,World.size_alloc,World.size_alloc]
 refine⟨w2,by rw [h1];exact h2,b1.trans (b2.mono b1.size),?_,?_,by rw [←hs];exact c3⟩
 ·rw [b2.block _ (lt_of_block c1)];exact c1
 ·rw [b2.block _ (lt_of_block c2)];exact c2

theorem ac {w w':World}{g:Nat}{x:Obj}(hb:Below w.heap.size w w')(h:w.heap[g]?=some x):w'.heap[g]?=some x:=by
 rw [hb.block g (lt_of_block h)];exact h

theorem duo {w:World}{h:Nat}{a b:Value}{t:TypeId}(e:w.heap[h]?=some (.cells #[a,b] t)):w.cell? ⟨h,0,none⟩=some a∧w.cell? ⟨h,1,none⟩=some b:=⟨by simp [World.cell?,e],by simp [World.cell?,e]⟩

theorem bI (w:World)(o:Obj):Below w.heap.size w (w.alloc o):=(Below.refl _ _).alloc (Nat.le_refl _) _

theorem eu (x:Nat):blen x=0 ↔ x=0:=by
 have h:=blen_le_iff x 0
 rw [Nat.pow_zero] at h
 omega

theorem mQ (v:Value)(X:List Nat)(w:World)(hA:Arg w v X) :
  Calls Tryz.prog 140 #[v] w fun e w'=>e=.returned (.bool (decide (val X=0)))∧w'=w:=by
 have L:=cO v X w hA
 obtain⟨a,c,rfl,_,_,_⟩:=hA.form
 have hz:=eu (val X)
 clear hA
 generalize blen (val X)=l at *
 by_cases h0:l=0
 ·have h2:((l:Int) == 0)=true:=by rw [beq_iff_eq];omega
  rw [decide_eq_true (hz.1 h0)]
  go_enter Tryz.func140,Tryz.ntmps140
  go_wp2_with fail
  refine L.mono ?_
  rintro e wn ⟨rfl,hw⟩;rw [hw];clear hw wn L
  go_wp2
  go_ret
  exact⟨rfl,rfl⟩
 ·have h1:¬val X=0:=fun h=>h0 (hz.2 h)
  have h2:((l:Int) == 0)=false:=by rw [beq_eq_false_iff_ne];omega
  rw [decide_eq_false h1]
  go_enter Tryz.func140,Tryz.ntmps140
  go_wp2_with fail
  refine L.mono ?_
  rintro e wn ⟨rfl,hw⟩;rw [hw];clear hw wn L
  go_wp2
  go_ret
  exact⟨rfl,rfl⟩

def sg (b:Bool)(x:Nat):Int:=if x=0 then 0 else if b then -1 else 1

theorem pW (b:Bool)(v:Value)(X:List Nat)(w:World)(hA:Arg w v X) :
  Calls Tryz.prog 126 #[.agg #[.bool b,v]] w fun e w'=>e=.returned (.int .i64 (sg b (val X)))∧Below w.heap.size w w':=by
 obtain⟨a,c,rfl,_,_,_⟩:=hA.form
 obtain⟨w0,hw0⟩:∃w0,w.alloc (.cells #[.bool b,.slice a X.length c] 41)=w0:=⟨_,rfl⟩
 have hb0:Below w.heap.size w w0:=by rw [←hw0];exact bI _ _
 have h0:w0.heap[w.heap.size]?=some (.cells #[.bool b,.slice a X.length c] 41):=by rw [←hw0];exact heap_alloc_new ..
 obtain⟨k0,k1⟩:=duo h0
 have HZ:=mQ _ X w0 (hA.below hb0)
 have HB:=ab hb0
 unfold sg
 clear hA h0 hb0
 by_cases hx:val X=0
 ·rw [if_pos hx]
  rw [decide_eq_true hx] at HZ
  go_enter Tryz.func126,Tryz.ntmps126
  go_wp2_with fail
  refine HZ.mono ?_
  rintro e wn ⟨rfl,hw⟩;rw [hw];clear hw wn HZ
  go_wp2
  go_ret
  exact⟨rfl,HB.out⟩
 ·rw [if_neg hx]
  rw [decide_eq_false hx] at HZ
  cases b
  ·go_enter Tryz.func126,Tryz.ntmps126
   go_wp2_with fail
   refine HZ.mono ?_
   rintro e wn ⟨rfl,hw⟩;rw [hw];clear hw wn HZ
   go_wp2
   go_ret
   exact⟨rfl,HB.out⟩
  ·go_enter Tryz.func126,Tryz.ntmps126
   go_wp2_with fail
   refine HZ.mono ?_
   rintro e wn ⟨rfl,hw⟩;rw [hw];clear hw wn HZ
   go_wp2
   go_ret
   exact⟨rfl,HB.out⟩

theorem ku (b:Bool)(v:Value)(rs:List Nat)(base:Nat)(w:World)(hA:Ans w base v rs) :
  Calls Tryz.prog 116 #[.bool b,v] w fun e w'=>e=.returned (.agg #[.bool (b && decide (0<rs.length)),v])∧Below w.heap.size w w':=by
 obtain⟨a,c,rfl⟩:∃a c,v=.slice a rs.length c:=by
  rcases hA.form with ⟨rfl,h⟩|⟨g,cap,rfl,_⟩
  ·exact⟨none,0,by rw [h];rfl⟩
  ·exact⟨_,_,rfl⟩
 clear hA
 generalize rs.length=n at *
 cases b
 ·have HB:=ab (bI w (.cells #[.bool false,.slice a n c] 41))
  go_enter Tryz.func116,Tryz.ntmps116
  go_wp2
  go_returns
  exact⟨rfl,HB.out⟩
 ·by_cases hn:0<n
  ·have i1:(0:Int)<(n:Int):=by omega
   have HB:=ab (bI w (.cells #[.bool true,.slice a n c] 41))
   rw [decide_eq_true hn]
   go_enter Tryz.func116,Tryz.ntmps116
   go_wp2
   go_returns
   exact⟨rfl,HB.out⟩
  ·have i1:¬(0:Int)<(n:Int):=by omega
   have HB:=ab (bI w (.cells #[.bool false,.slice a n c] 41))
   rw [decide_eq_false hn]
   go_enter Tryz.func116,Tryz.ntmps116
   go_wp2
   go_returns
   exact⟨rfl,HB.out⟩

theorem gW (b:Bool)(x y:Nat):zz b x+zz b y=zz b (x+y):=by cases b <;> simp [zz] <;> omega
theorem gm (b:Bool){x y:Nat}(h:y≤x):zz b x+zz (!b) y=zz b (x - y):=by cases b <;> simp [zz] <;> omega
theorem gS (b:Bool){x y:Nat}(h:x≤y):zz b x+zz (!b) y=zz (!b) (y - x):=by cases b <;> simp [zz] <;> omega
theorem jW (b t:Bool)(x y:Nat):zz b x*zz t y=zz (b != t) (x*y):=by
 cases b <;> cases t <;> simp [zz,Int.mul_neg,Int.neg_mul]
end Go.Proofs.YtkfbobefkbpdoaaGreatDoor
namespace Go.Proofs.YtkfbobefkbpdoaaGreatDoor
open Go.RowKit
open Lm

noncomputable def tl (x:Nat):Nat:=if h:x=0 then 0 else Classical.choose (gC x h)
noncomputable def od (x:Nat):Nat:=x / 2 ^ tl x

theorem fV {x:Nat}(h:x≠0):bo x (tl x):=by
 unfold tl;rw [dif_neg h];exact Classical.choose_spec (gC x h)

theorem re {x s t:Nat}(h:bo x s)(k:bo x t):s=t:=by
 rcases Nat.lt_trichotomy s t with hlt|heq|hgt
 ·have:=ig k hlt;have:=h.2;omega
 ·exact heq
 ·have:=ig h hgt;have:=k.2;omega

theorem gF {x t:Nat}(h:bo x t):tl x=t:=by
 have hx:x≠0:=by rintro rfl;have:=h.2;simp at this
 exact re (fV hx) h

theorem fD {x:Nat}(h:x≠0):x=2 ^ tl x*od x∧od x % 2=1:=by
 have h1:=fV h
 refine⟨?_,h1.2⟩
 have:=Nat.div_add_mod x (2 ^ tl x)
 rw [h1.1] at this
 exact this.symm

theorem jL:od 0=0:=by unfold od;simp

theorem jk {x:Nat}(h:x≠0):od x≠0:=by have:=(fD h).2;omega

theorem cJ (x:Nat):od x≤x:=Nat.div_le_self _ _

theorem nA {x:Nat}(h:x≠0)(k:Nat):tl (x*2 ^ k)=tl x+k∧od (x*2 ^ k)=od x:=by
 obtain⟨h1,h2⟩:=fD h
 obtain⟨m,hm⟩:∃m,od x=2*m+1:=⟨od x / 2,by omega⟩
 have e:x*2 ^ k=2 ^ (tl x+k)*(2*m+1):=by
  rw [←hm,Nat.pow_add]
  conv=>lhs;rw [h1]
  rw [Nat.mul_assoc,Nat.mul_assoc,Nat.mul_comm (od x)]
 have ht:tl (x*2 ^ k)=tl x+k:=by
  refine gF ?_
  rw [e];exact gJ _ _
 refine⟨ht,?_⟩
 have:od (x*2 ^ k)=x*2 ^ k / 2 ^ (tl x+k):=by unfold od;rw [ht]
 rw [this,e,Nat.mul_div_cancel_left _ (Nat.two_pow_pos _),hm]

theorem l8 {x:Nat}(h:x % 2=1):tl x=0∧od x=x:=by
 have ht:tl x=0:=gF ⟨by simp [Nat.mod_one],by simpa using h⟩
 refine⟨ht,?_⟩
 unfold od;rw [ht];simp

noncomputable def omz (z:Int):Int:=zz (decide (z<0)) (od z.natAbs)
noncomputable def oe (z e:Int):Int:=if z=0 then 0 else e+(tl z.natAbs:Int)

theorem ct (z:Int):(omz z).natAbs=od z.natAbs:=aV _ _

theorem bC:omz 0=0:=by unfold omz;rw [show (0:Int).natAbs=0 from rfl,jL];exact fL _

theorem rE (z:Int):omz z<0 ↔ z<0:=by
 by_cases h0:z=0
 ·subst h0;rw [bC]
 ·have hp:=jk (x:=z.natAbs) (by omega)
  unfold omz zz
  by_cases h:z<0
  ·rw [decide_eq_true h,if_pos rfl];omega
  ·rw [decide_eq_false h];simp only [Bool.false_eq_true,if_false];omega

theorem ob (z:Int):z=omz z*2 ^ (tl z.natAbs):=by
 by_cases h0:z=0
 ·subst h0;rw [bC];simp
 ·have h1:=(fD (x:=z.natAbs) (by omega)).1
  unfold omz
  generalize od z.natAbs=o at *
  have h2:(z.natAbs:Int)=(o:Int)*2 ^ (tl z.natAbs):=by
   have:=congrArg (fun n:Nat=>(n:Int)) h1
   simp only [Int.natCast_mul,Int.natCast_pow] at this
   rw [Int.mul_comm];exact this
  by_cases h:z<0
  ·have h3:z=-(z.natAbs:Int):=by omega
   rw [decide_eq_true h]
   show z=-(o:Int)*2 ^ (tl z.natAbs)
   rw [Int.neg_mul,←h2];exact h3
  ·have h3:z=(z.natAbs:Int):=by omega
   rw [decide_eq_false h]
   show z=(o:Int)*2 ^ (tl z.natAbs)
   rw [←h2];exact h3

theorem jK (z e:Int)(k:Nat):omz (z*2 ^ k)=omz z∧oe (z*2 ^ k) e=oe z (e+k):=by
 by_cases h0:z=0
 ·subst h0;simp [oe]
 ·have hp:(0:Int)<2 ^ k:=Int.pow_pos (by omega)
  have ha:(z*2 ^ k).natAbs=z.natAbs*2 ^ k:=by rw [Int.natAbs_mul,Int.natAbs_pow];rfl
  obtain⟨h1,h2⟩:=nA (x:=z.natAbs) (by omega) k
  have hne:z*2 ^ k≠0:=Int.mul_ne_zero h0 (by omega)
  have hs:(z*2 ^ k<0) ↔ z<0:=by
   constructor
   ·intro h
    refine Int.lt_of_not_ge fun hz=>?_
    have:=Int.mul_nonneg hz (Int.le_of_lt hp)
    omega
   ·intro h;exact Int.mul_neg_of_neg_of_pos h hp
  unfold omz oe
  rw [ha,h1,h2,if_neg h0,if_neg hne]
  refine⟨by rw [decide_eq_decide.2 hs],by omega⟩

theorem fJ {z:Int}(h:z.natAbs % 2=1)(e:Int):omz z=z∧oe z e=e:=by
 obtain⟨h1,h2⟩:=l8 h
 unfold omz oe
 rw [h1,h2,cL,if_neg (by omega)]
 exact⟨rfl,by omega⟩

theorem eB (x:Nat):tl x≤blen x:=by
 by_cases h:x=0
 ·subst h;simp [tl]
 ·have:=dQ (n:=blen x) (fV h) ((blen_le_iff _ _).1 (Nat.le_refl _))
  omega

theorem i7 (b:Bool)(x:Nat):zz b x=0 ↔ x=0:=by cases b <;> simp [zz]

theorem ph (b:Bool)(x:Nat):omz (zz b x)=zz b (od x):=by
 by_cases h:x=0
 ·subst h;rw [jL,fL,bC]
 ·unfold omz
  rw [aV]
  congr 1
  cases b
  ·simp [zz]
  ·simp only [zz,if_true,decide_eq_true_eq];omega

theorem sk (b:Bool)(x:Nat)(e:Int):oe (zz b x) e=if x=0 then 0 else e+(tl x:Int):=by
 unfold oe
 rw [aV]
 by_cases h:x=0
 ·rw [if_pos h,if_pos ((i7 b x).2 h)]
 ·rw [if_neg h,if_neg (fun h'=>h ((i7 b x).1 h'))]
end Go.Proofs.YtkfbobefkbpdoaaGreatDoor
namespace Go.Proofs.YtkfbobefkbpdoaaGreatDoor
open Go.RowKit
open Lm
attribute [local go_sem ↓] Go.wp_at_zero Go.wp_at_succ

theorem aB {w:World}{h:Nat}{a b:Value}{t:TypeId}(e:w.heap[h]?=some (.cells #[a,b] t)):∀k,w.frozen? ⟨h,k,none⟩=false:=fun k=>by simp [World.frozen?,e]

theorem aP {w:World}{h:Nat}{a b a' b':Value}{t:TypeId}(e:w.heap[h]?=some (.cells #[a,b] t)):((w.setCell ⟨h,0,none⟩ a').setCell ⟨h,1,none⟩ b').heap[h]?=some (.cells #[a',b'] t):=
 az (az e a') b'

theorem aO {B:Nat}{w0 w:World}{g:Nat}{u0 u1:Value}(h:Below B w0 w)(hg:B≤g):Below B w0 ((w.setCell ⟨g,0,none⟩ u0).setCell ⟨g,1,none⟩ u1):=
 (h.setCell (p:=⟨g,0,none⟩) hg u0).setCell (p:=⟨g,1,none⟩) hg u1

theorem Ans.off1 {w:World}{base g o:Nat}{v u:Value}{zs:List Nat}{vs:Array Value}(h:Ans w base v zs)(hl:w.heap[g]?=some (.cells vs 41)):Ans (w.setCell ⟨g,o,none⟩ u) base v zs:=by
 have hne:v.ownBlock≠some g:=by
  obtain⟨_,h2⟩:=h.own
  rcases h2 with ⟨rfl,_⟩|⟨g',cap,cur,rfl,_,hh,_⟩
  ·simp [Value.ownBlock]
  ·intro e
   simp [Value.ownBlock] at e
   subst e
   rw [hl] at hh
   simp at hh
 exact⟨ownsRow_setCell_other h.own hne _,h.limbs⟩

theorem Ans.duo {w:World}{base g:Nat}{v u0 u1 a b:Value}{zs:List Nat}(h:Ans w base v zs)(hl:w.heap[g]?=some (.cells #[a,b] 41)):Ans ((w.setCell ⟨g,0,none⟩ u0).setCell ⟨g,1,none⟩ u1) base v zs:=
 (h.off1 hl).off1 (az hl u0)

theorem ZR.duo {w:World}{base g:Nat}{b:Bool}{va u0 u1 a1 b1:Value}{c z:Int}(h:ZR w base b va c z)(hl:w.heap[g]?=some (.cells #[a1,b1] 41)):ZR ((w.setCell ⟨g,0,none⟩ u0).setCell ⟨g,1,none⟩ u1) base b va c z:=by
 obtain⟨rs,h1,h2⟩:=h
 exact⟨rs,h1.duo hl,h2⟩

theorem Ans.shape {w:World}{base:Nat}{v:Value}{rs:List Nat}(h:Ans w base v rs):∃a c,v=.slice a rs.length c:=by
 rcases h.form with ⟨rfl,h⟩|⟨g,cap,rfl,_⟩
 ·exact⟨none,0,by simp_all⟩
 ·exact⟨_,_,rfl⟩

theorem pu (b:Bool)(v:Value)(rs:List Nat)(c:Int)(s base:Nat)(w:World)(hA:Ans w base v rs)
  (h:(c=0∧val rs=s∧tr rs=rs∧blen s≤67108864)∨(c=3∧rs=[]∧67108864<blen s)) :
  Calls Tryz.prog 110 #[.bool b,v,.int .i64 c] w fun e w'=>ep w' base e (zz b s)∧Below w.heap.size w w':=by
 obtain⟨w0,hw0⟩:∃w0,w.alloc (.cells #[.bool false,.slice none 0 0] 41)=w0:=⟨_,rfl⟩
 have hb0:Below w.heap.size w w0:=by rw [←hw0];exact bI _ _
 have h0:w0.heap[w.heap.size]?=some (.cells #[.bool false,.slice none 0 0] 41):=by rw [←hw0];exact heap_alloc_new ..
 have hf0:=aB h0
 obtain⟨k0,k1⟩:=duo h0
 rcases h with ⟨rfl,h1,h2,h3⟩|⟨rfl,h1,h2⟩
 ·have HS:=ku b v rs base w0 (hA.below hb0)
  have hsg:=j6 b h2 h1
  rw [hsg] at HS
  have hv:val rs=(zz b s).natAbs:=by rw [aV];exact h1
  have hbl:blen (zz b s).natAbs≤67108864:=by rw [aV];exact h3
  obtain⟨a,cc,rfl⟩:=hA.shape
  have HA:=ab (hA.below hb0)
  have HV:=ab (And.intro hv (And.intro h2 hbl))
  have HB0:=ab hb0
  have H0:=ab h0
  generalize zz b s=z at *
  clear hA hb0 h0 h1 h2 h3 hsg hv hbl
  go_enter Tryz.func110,Tryz.ntmps110
  go_wp2_with fail
  refine HS.mono ?_
  rintro e w1 ⟨rfl,hb1⟩
  have h1:w1.heap[w.heap.size]?=some (.cells #[.bool false,.slice none 0 0] 41):=by rw [hb1.block w.heap.size (lt_of_block H0.out)];exact H0.out
  have HBX:=ab h1
  have HAN:=ab (HA.out.below hb1)
  have HBE:=ab (HB0.out.trans (hb1.mono HB0.out.size))
  have hf1:=aB h1
  obtain⟨l0,l1⟩:=duo h1
  clear h1 hb1 HS k0 k1 hf0 hw0 H0 HA
  go_wp2
  have R5:=aP HBX.out (a':=.bool (decide (z<0))) (b':=.slice a rs.length cc)
  have HD:=ab (And.intro (HAN.out.duo (u0:=.bool (decide (z<0))) (u1:=.slice a rs.length cc) HBX.out) (aO HBE.out (g:=w.heap.size) (u0:=.bool (decide (z<0))) (u1:=.slice a rs.length cc) (Nat.le_refl _)))
  generalize (w1.setCell ⟨w.heap.size,0,none⟩ (.bool (decide (z<0)))).setCell ⟨w.heap.size,1,none⟩ (.slice a rs.length cc)=w5 at *
  obtain⟨q0,q1⟩:=duo R5
  refine bodyPost_ret (v:=.tuple #[.agg #[.bool (decide (z<0)),.slice a rs.length cc],.int .i64 0]) (by simp [results,Tryz.results110,go_sem,q0,q1]) rfl ?_
  exact⟨⟨_,_,_,_,0,rfl,rs,HD.out.1,.inl ⟨rfl,rfl,HV.out⟩⟩,HD.out.2⟩
 ·subst h1
  obtain⟨a,cc,rfl⟩:=hA.shape
  have hbl:67108864<blen (zz b s).natAbs:=by rw [aV];exact h2
  have HB0:=ab hb0
  have HBX:=ab h0
  have HV:=ab hbl
  generalize zz b s=z at *
  clear hA hb0 h0 h2 hbl
  go_enter Tryz.func110,Tryz.ntmps110
  go_wp2
  have R5:=aP HBX.out (a':=.bool false) (b':=.slice none 0 0)
  have HD:=ab (aO HB0.out (g:=w.heap.size) (u0:=.bool false) (u1:=.slice none 0 0) (Nat.le_refl _))
  generalize (w0.setCell ⟨w.heap.size,0,none⟩ (.bool false)).setCell ⟨w.heap.size,1,none⟩ (.slice none 0 0)=w5 at *
  obtain⟨q0,q1⟩:=duo R5
  refine bodyPost_ret (v:=.tuple #[.agg #[.bool false,.slice none 0 0],.int .i64 3]) (by simp [results,Tryz.results110,go_sem,q0,q1]) rfl ?_
  exact⟨⟨_,_,_,_,3,rfl,[],Ans.nil _ _,.inr ⟨rfl,rfl,rfl,rfl,HV.out⟩⟩,HD.out⟩

theorem cP {w:World}{g h:Nat}{u0 u1:Value}{x:Obj}(e:w.heap[h]?=some x)(hne:h≠g):((w.setCell ⟨g,0,none⟩ u0).setCell ⟨g,1,none⟩ u1).heap[h]?=some x:=by
 rw [Below.heap_setCell _ _ _ _ hne,Below.heap_setCell _ _ _ _ hne];exact e

theorem nW (b:Bool)(v:Value)(X:List Nat)(w:World)(hA:Arg w v X)(hf:X.length≤17592186044416) :
  Calls Tryz.prog 97 #[.bool b,v] w fun e w'=>ep w' w.heap.size e (zz b (val X))∧Below w.heap.size w w':=by
 obtain⟨w0,hw0,hb0,h0⟩:=ag w (.cells #[.bool false,.slice none 0 0] 41)
 have hf0:=aB h0
 obtain⟨k0,k1⟩:=duo h0
 have L:=cO v X w0 (hA.below hb0)
 have HB0:=ab hb0
 have HX0:=ab h0
 have HA:=ab hA
 obtain⟨a,n,rfl,_,_,_⟩:=hA.form
 clear hA hb0 h0
 by_cases hbl:blen (val X)≤67108864
 ·have i1:¬(67108864:Int)<((blen (val X):Nat):Int):=by omega
  have HN:=nh _ X w0 (HA.out.below HB0.out) hf
  have HL:=ab hbl
  generalize hl:blen (val X)=l at *
  clear hbl
  go_enter Tryz.func97,Tryz.ntmps97
  go_wp2_with fail
  refine L.mono ?_
  rintro e wn ⟨rfl,hw⟩;rw [hw];clear hw wn L
  go_wp2_with fail
  refine HN.mono ?_
  rintro e w1 ⟨⟨v1,rfl,A1⟩,hb1⟩
  have HS:=ku b v1 (tr X) _ w1 A1
  have hsg:=j6 b (tr_tr X) (val_tr X)
  rw [hsg] at HS
  have hsh:=A1.shape
  obtain⟨a1,n1,rfl⟩:=hsh
  have HA1:=ab A1
  have HB1:=ab hb1
  clear A1 hb1 HN k0 k1 hf0 hsg
  go_wp2_with fail
  refine HS.mono ?_
  rintro e w2 ⟨rfl,hb2⟩
  have HW:Hid (Below w0.heap.size w0 w2):=ab (HB1.out.trans (hb2.mono HB1.out.size))
  have HAN:=ab (HA1.out.below hb2)
  have hbx:=ac HW.out HX0.out
  have hf1:=aB hbx
  obtain⟨l0,l1⟩:=duo hbx
  have HBX:=ab hbx
  have HBE:=ab (HB0.out.trans (HW.out.mono HB0.out.size))
  clear hbx
  clear hb2 HS HA1
  go_wp2
  have R5:=aP HBX.out (a':=.bool (decide (zz b (val X)<0))) (b':=.slice a1 (tr X).length n1)
  have HD:=ab (And.intro (HAN.out.duo (u0:=.bool (decide (zz b (val X)<0))) (u1:=.slice a1 (tr X).length n1) HBX.out) (aO HBE.out (g:=w.heap.size) (u0:=.bool (decide (zz b (val X)<0))) (u1:=.slice a1 (tr X).length n1) (Nat.le_refl _)))
  generalize (w2.setCell ⟨w.heap.size,0,none⟩ (.bool (decide (zz b (val X)<0)))).setCell ⟨w.heap.size,1,none⟩ (.slice a1 (tr X).length n1)=w5 at *
  obtain⟨q0,q1⟩:=duo R5
  refine bodyPost_ret (v:=.tuple #[.agg #[.bool (decide (zz b (val X)<0)),.slice a1 (tr X).length n1],.int .i64 0]) (by simp [results,Tryz.results97,go_sem,q0,q1]) rfl ?_
  exact⟨⟨_,_,_,_,0,rfl,tr X,HD.out.1.base HB0.out.size,.inl ⟨rfl,rfl,by rw [aV,val_tr],tr_tr X,by rw [aV,hl];exact HL.out⟩⟩,HD.out.2⟩
 ·have i1:(67108864:Int)<((blen (val X):Nat):Int):=by omega
  have HL:=ab hbl
  generalize hl:blen (val X)=l at *
  clear hbl
  go_enter Tryz.func97,Tryz.ntmps97
  go_wp2_with fail
  refine L.mono ?_
  rintro e wn ⟨rfl,hw⟩;rw [hw];clear hw wn L
  go_wp2
  have R5:=aP HX0.out (a':=.bool false) (b':=.slice none 0 0)
  have HD:=ab (aO HB0.out (g:=w.heap.size) (u0:=.bool false) (u1:=.slice none 0 0) (Nat.le_refl _))
  generalize (w0.setCell ⟨w.heap.size,0,none⟩ (.bool false)).setCell ⟨w.heap.size,1,none⟩ (.slice none 0 0)=w5 at *
  obtain⟨q0,q1⟩:=duo R5
  refine bodyPost_ret (v:=.tuple #[.agg #[.bool false,.slice none 0 0],.int .i64 3]) (by simp [results,Tryz.results97,go_sem,q0,q1]) rfl ?_
  exact⟨⟨_,_,_,_,3,rfl,[],Ans.nil _ _,.inr ⟨rfl,rfl,rfl,rfl,by rw [aV,hl];have:=HL.out;omega⟩⟩,HD.out⟩
end Go.Proofs.YtkfbobefkbpdoaaGreatDoor

