/- The reference's numbers: norm, at, Of. -/
import Derived.Test.YtdbjbbdhlpfhjaaGreatDoorB01
import Derived.Laws.AppendOwnNone
import Derived.Deep.CutBlock
import Derived.Deep.DeepCutAuto
import Derived.Maps.AppendAt
import Derived.LoopN
import Derived.Handy
import Derived.Laws.IdiomStrings
import Derived.Lib.AppendZeros
set_option maxRecDepth 100000
set_option maxHeartbeats 2000000
namespace Go.Proofs.YtdbjbbdhlpfhjaaGreatDoor
open Go.RowKit
open Lm

def Num (w:World)(v:Value)(x:Nat):Prop:=∃ds,Arg w v ds∧Digs 4294967296 ds∧tr ds=ds∧vb 4294967296 ds=x∧ds.length≤35184372088900

theorem om (b off cap:Nat)(zs:List Nat)(w:World)(hcap:zs.length≤cap)(hmax:cap≤9223372036854775807)
  (hc:∀k,k<zs.length→w.cell? ⟨b,off+k,none⟩=some (.int .u64 ((zs.getD k 0:Nat):Int))) :
  Calls Tryz.prog 91 #[.slice (some ⟨b,off,none⟩) zs.length cap] w fun e w'=>e=.returned (.slice (some ⟨b,off,none⟩) (tr zs).length (tr zs).length)∧w'=w:=by
 go_enter Tryz.func91,Tryz.ntmps91
 go_wp2
 go_loop [3] (fun n=>∃k:Nat,k≤zs.length∧n=.int .i64 k∧tr (zs.take k)=tr zs) (fun n=>(intOf n).toNat)
 case atStart=>exact⟨zs.length,Nat.le_refl _,rfl,by rw [List.take_length]⟩
 case round=>
  obtain⟨k,hk,rfl,ht⟩:=hrel
  have HT:=aa ht
  clear ht
  by_cases h0:k=0
  ·subst h0
   go_wp2
   go_ret
   have e:=HT.out
   simp only [List.take_zero,tr] at e
   rw [←e]
   exact⟨rfl,rfl⟩
  ·obtain⟨j,rfl⟩:∃j,k=j+1:=⟨k - 1,by omega⟩
   have hcj:=hc j (by omega)
   clear hc
   by_cases hz:zs.getD j 0=0
   ·have HZ:Hid (tr (zs.take j)=tr zs):=by rw [←tr_step zs j (by omega) hz];exact HT.out
    rw [hz] at hcj
    clear hz HT
    go_wp2
    go_round
    case rel=>exact⟨j,by omega,by go_num,HZ.out⟩
    case measure=>simp [intOf]
   ·have HZ:Hid (tr zs=zs.take (j+1)):=by rw [←HT.out];exact tr_stop zs j (by omega) hz
    clear HT
    generalize zs.getD j 0=z at hcj hz
    have hne:((z:Int) == 0)=false:=by rw [beq_eq_false_iff_ne];omega
    clear hz
    go_wp2
    go_ret
    rw [HZ.out]
    have e:(zs.take (j+1)).length=j+1:=by simp;omega
    rw [e]
    exact⟨rfl,rfl⟩

theorem mp (ao:Option Addr)(cap:Nat)(w:World)(_hmax:cap≤9223372036854775807) :
  Calls Tryz.prog 91 #[.slice ao 0 cap] w fun e w'=>e=.returned (.slice ao 0 0)∧w'=w:=by
 go_enter Tryz.func91,Tryz.ntmps91
 go_wp2
 refine wp_loop_rounds 1 ?_
 rw [rounds_succ]
 go_wp2
 go_ret
 exact⟨rfl,rfl⟩

def New (B:Nat)(v:Value):Prop:=∀b off n c,v=.slice (some ⟨b,off,none⟩) n c→B≤b

theorem oX (B:Nat)(v:Value)(ds:List Nat)(w:World)(h:Arg w v ds)(hd:Digs 4294967296 ds)(hl:ds.length≤35184372088900)(hB:New B v) :
  Calls Tryz.prog 91 #[v] w fun e w'=>(∃v',e=.returned v'∧Num w v' (vb 4294967296 ds)∧New B v')∧w'=w:=by
 obtain⟨ao,cap,rfl,hcap,hmax,hlies⟩:=h.form
 have hle:=tr_length_le ds
 have H:Calls Tryz.prog 91 #[.slice ao ds.length cap] w fun e w'=>e=.returned (.slice ao (tr ds).length (tr ds).length)∧w'=w:=by
  rcases hlies with rfl|⟨b,off,rfl,hc⟩
  ·exact mp ao cap w hmax
  ·exact om b off cap ds w hcap hmax hc
 refine H.mono ?_
 rintro e w' ⟨rfl,rfl⟩
 refine⟨⟨_,rfl,⟨tr ds,⟨⟨ao,_,rfl,Nat.le_refl _,by omega,hlies.tr⟩,limbs_tr h.limbs,by omega,?_⟩,digs_tr hd,tr_tr ds,vb_tr ds,by omega⟩,fun b off n c e=>?_⟩,rfl⟩
 rotate_left
 ·cases e;exact hB b off _ _ rfl
 intro n c e
 cases e
 have:=h.nz _ _ rfl
 omega

theorem oS (v:Value)(ds:List Nat)(w:World)(h:Arg w v ds)(hd:Digs 4294967296 ds)(hl:ds.length≤35184372088900) :
  Calls Tryz.prog 91 #[v] w fun e w'=>(∃v',e=.returned v'∧Num w v' (vb 4294967296 ds))∧w'=w:=
 (oX 0 v ds w h hd hl (fun _ _ _ _ _=>Nat.zero_le _)).mono fun _ _ ⟨⟨v',h1,h2,_⟩,h3⟩=>⟨⟨v',h1,h2⟩,h3⟩

theorem rf {w:World}(l:List Nat)(j:Nat)(u:Value)(hj:(l.map lv)[j]?=some u):(w.alloc (.cells (l.map lv).toArray 61)).cell? ((⟨w.heap.size,0,none⟩:Addr).add j)=some u:=by
 have e:(⟨w.heap.size,0,none⟩:Addr).add j=⟨w.heap.size,j,none⟩:=by
  unfold Addr.add;split <;> simp_all
 rw [e]
 simp only [World.cell?,heap_alloc_new]
 simpa using hj

theorem ir (v:Value)(zs:List Nat)(w:World)(h:Arg w v zs)(hf:zs.length≤17592186044416) :
  Calls Tryz.prog 54 #[v] w fun e w'=>(∃v',e=.returned v'∧Num w' v' (val zs))∧Below w.heap.size w w':=by
 obtain⟨ao,cap,rfl,hcap,hmax,L1⟩:=h.form
 have M1:=h.limbs
 obtain⟨i0,hi,hz0,hz1,hz2⟩:=info_parts Tryz.infoU
 clear h
 go_enter Tryz.func54,Tryz.ntmps54
 go_wp2_with (at_make;refine wpList_make_own _ rfl _ _ 30 rfl w.heap.size 61 i0 (.int .u64 0) 1 Tryz.underlying30 hi hz0 hz1 .i64 .i64 _ (2*zs.length) rfl rfl (by omega) (by rw [hz2];omega) (by unfold maxLen;omega) (Nat.le_refl _) ?_;intro w1 hown hgrow)
 have hbel:Below w.heap.size w w1:=(Below.refl _ _).grown hgrow (Nat.le_refl _) (fun k hk=>by cases hk)
 have hsz:w.heap.size<w1.heap.size:=by
  have:=hown.lt w.heap.size rfl
  exact this.2
 clear hgrow hz0 hz2
 go_loopw [3,12] (fun o i wr=>∃k:Nat,k≤zs.length∧i=.int .i64 k∧o=.slice (some ⟨w.heap.size,0,none⟩) (2*k) (2*zs.length)∧wr.ownsRow w.heap.size 61 1 (.slice (some ⟨w.heap.size,0,none⟩) (2*k) (2*zs.length)) (2*k) ((halves (zs.take k)).map lv)∧Below w.heap.size w wr) (fun _ i _=>zs.length - (intOf i).toNat)
 case atStart=>exact⟨0,Nat.zero_le _,rfl,rfl,hown,hbel⟩
 case round=>
  obtain⟨k,hk,rfl,rfl,ho,hbl⟩:=hrel
  clear hown hbel
  by_cases hkl:k<zs.length
  ·rcases L1.below hbl with h0|⟨b,off,rfl,hcell⟩
   ·simp [h0] at hkl
   ·have hck:=hcell k hkl
    have z1:=limb_lt M1 k
    have HT:=aa (halves_take zs k hkl)
    generalize zs.getD k 0=z at *
    have e1:(z:Int) % 4294967296=((z % 4294967296:Nat):Int):=by omega
    have e2:(z:Int) / 4294967296=((z / 4294967296:Nat):Int):=by omega
    have b1:z % 4294967296<4294967296:=by omega
    have b2:z / 4294967296<4294967296:=by omega
    generalize z % 4294967296=lo at *
    generalize z / 4294967296=hh at *
    have HB:=aa hbl
    clear hcell L1 M1 hbl
    go_wp2_with (at_builtin;refine wpList_append_fits _ rfl _ _ 30 rfl w.heap.size 61 i0 1 Tryz.underlying30 hi hz1 w.heap.size (2*k) (2*zs.length) _ rfl (ho.alloc _) ⟨wr.heap.size,0,none⟩ 2 2 ([lo,hh].map lv) rfl rfl (rf [lo,hh]) (fS _) (by omega) ?_;intro w2 hown2 hgrow2)
    have HO:=aa hown2
    have HB2:=aa ((HB.out.alloc HB.out.size (.cells ([lo,hh].map lv).toArray 61)).grown hgrow2 (by have:=HB.out.size;simp;omega) (fun k hk=>by cases hk;exact Nat.le_refl _))
    clear hown2 hgrow2 ho hck
    go_wp2
    go_roundw
    case rel=>
     refine⟨k+1,by omega,by go_num,rfl,?_,HB2.out⟩
     rw [HT.out,List.map_append]
     exact HO.out
    case measure=>simp [intOf];omega
  ·have ek:k=zs.length:=by omega
   subst ek
   rw [List.take_length] at ho
   have el:=halves_length zs
   have hA:Ans wr w.heap.size (.slice (some ⟨w.heap.size,0,none⟩) (2*zs.length) (2*zs.length)) (halves zs):=⟨by rw [el];exact ho,digs_limbs (halves_digs M1)⟩
   have H:=oS _ _ _ (hA.arg (by omega)) (halves_digs M1) (by omega)
   rw [halves_val] at H
   have HB:=aa hbl
   clear ho hA hbl L1 M1
   go_wp2_with fail
   refine H.mono ?_
   rintro e w2 ⟨⟨v',rfl,hnum⟩,rfl⟩
   have HN:=aa hnum
   clear hnum H
   go_wp2
   go_ret
   exact⟨⟨v',rfl,HN.out⟩,HB.out⟩
end Go.Proofs.YtdbjbbdhlpfhjaaGreatDoor
namespace Go.Proofs.YtdbjbbdhlpfhjaaGreatDoor
namespace Lm

theorem blen_half (v:Nat)(h:v≠0):blen v=blen (v / 2)+1:=by
 unfold blen
 rw [if_neg h]
 by_cases h2:v / 2=0
 ·rw [if_pos h2]
  have:v=1:=by omega
  subst this;rfl
 ·rw [if_neg h2]
  have:v.log2=(v / 2).log2+1:=by
   rw [Nat.log2_def];rw [if_pos (by omega)]
  omega

theorem B_pow (n:Nat):(4294967296:Nat) ^ n=2 ^ (32*n):=by rw [Nat.pow_mul]

theorem blen_top (p k d:Nat)(hp:p<2 ^ k)(hd:d≠0):blen (p+2 ^ k*d)=k+blen d:=by
 have h1:=Nat.log2_self_le hd
 have h2:=(Nat.log2_lt hd (k:=d.log2+1)).1 (by omega)
 have e:blen d=d.log2+1:=by unfold blen;rw [if_neg hd]
 rw [e,←Nat.add_assoc]
 refine blen_eq _ _ ?_ ?_
 ·rw [Nat.pow_add]
  exact Nat.le_trans (Nat.mul_le_mul_left _ h1) (Nat.le_add_left _ _)
 ·rw [Nat.add_assoc,Nat.pow_add]
  have:=Nat.mul_le_mul_left (2 ^ k) (Nat.succ_le_of_lt h2)
  rw [Nat.succ_eq_add_one,Nat.mul_add] at this
  omega

theorem tr_last' (ds:List Nat)(n:Nat)(ht:tr ds=ds)(h:ds.length=n+1):ds.getD n 0≠0:=by
 have:=tr_last ds n (by rw [ht];exact h)
 rwa [ht] at this

theorem vb_split (ds:List Nat)(n:Nat)(h:ds.length=n+1):vb 4294967296 ds=vb 4294967296 (ds.take n)+2 ^ (32*n)*ds.getD n 0:=by
 have:=vb_take_next (B:=4294967296) ds n
 rw [←h,List.take_length,B_pow] at this
 exact this

theorem vb_take_lt {ds:List Nat}(hd:Digs 4294967296 ds)(n:Nat):vb 4294967296 (ds.take n)<2 ^ (32*n):=by
 have h1:=vb_lt (B:=4294967296) (zs:=ds.take n) (fun z hz=>hd z (List.mem_of_mem_take hz))
 have h2:(ds.take n).length≤n:=List.length_take_le _ _
 rw [←B_pow]
 exact Nat.lt_of_lt_of_le h1 (Nat.pow_le_pow_right (by omega) h2)

theorem blen_vb {ds:List Nat}(hd:Digs 4294967296 ds)(ht:tr ds=ds)(n:Nat)(h:ds.length=n+1):blen (vb 4294967296 ds)=32*n+blen (ds.getD n 0):=by
 rw [vb_split ds n h]
 exact blen_top _ _ _ (vb_take_lt hd n) (tr_last' ds n ht h)

end Lm
end Go.Proofs.YtdbjbbdhlpfhjaaGreatDoor
namespace Go.Proofs.YtdbjbbdhlpfhjaaGreatDoor
open Go.RowKit
open Lm

theorem nr {k:IntKind}{a b:Int}(h:a=b):Ending.returned (.int k a)=.returned (.int k b):=by rw [h]

theorem io (v:Value)(x:Nat)(w:World)(hn:Num w v x) :
  Calls Tryz.prog 10 #[v] w fun e w'=>e=.returned (.int .i64 ((blen x:Nat):Int))∧w'=w:=by
 obtain⟨ds,hd1,hd2,hd3,rfl,hd5⟩:=hn
 obtain⟨ao,cap,rfl,hcap,hmax,L1⟩:=hd1.form
 clear hd1
 by_cases h0:ds.length=0
 ·have hz:ds=[]:=List.length_eq_zero_iff.1 h0
  subst hz
  have e:blen (vb 4294967296 [])=0:=rfl
  rw [e]
  clear L1 hd2 hd3 hd5 h0
  go_enter Tryz.func10,Tryz.ntmps10
  go_wp2
  go_ret
  exact⟨rfl,rfl⟩
 ·obtain⟨n,hn⟩:∃n,ds.length=n+1:=⟨ds.length - 1,by omega⟩
  rcases L1 with hz|⟨b,off,rfl,hcell⟩
  ·simp [hz] at h0
  ·have hcn:=hcell n (by omega)
   rw [blen_vb hd2 hd3 n hn]
   have hdl:=dig_lt (by omega) hd2 n
   rw [hn] at hd5 ⊢
   have hz:(((n+1:Nat):Int) == 0)=false:=by rw [beq_eq_false_iff_ne];omega
   have hz':((n:Int)+1 == 0)=false:=by rw [beq_eq_false_iff_ne];omega
   generalize ds.getD n 0=d at *
   have hbd:blen d≤32:=(blen_le_iff d 32).2 hdl
   clear hcell hd2 hd3 h0 hn hcap
   go_enter Tryz.func10,Tryz.ntmps10
   go_wp2
   go_loop [3,4] (fun a b=>∃m y:Nat,a=.int .i64 m∧b=.int .u64 y∧m+blen y=32*n+blen d∧y<4294967296) (fun _ b=>(intOf b).toNat)
   case atStart=>exact⟨32*n,d,by go_num,rfl,rfl,hdl⟩
   case round=>
    obtain⟨m,y,rfl,rfl,hm,hy⟩:=hrel
    by_cases hy0:y=0
    ·subst hy0
     have HM:=aa hm
     have e0:blen 0=0:=rfl
     have HM2:Hid (m=32*n+blen d):=aa (by have:=HM.out;rw [e0] at this;exact this)
     clear hm HM e0
     go_wp2
     go_ret
     exact⟨nr (by have:=HM2.out;omega),rfl⟩
    ·have hb2:=blen_half y hy0
     have HM:Hid (m+1+blen (y / 2)=32*n+blen d):=aa (by omega)
     have hmb:m≤32*n+32:=by omega
     have e1:(y:Int) / 2=((y / 2:Nat):Int):=by omega
     have i1:(0:Int)<(y:Int):=by omega
     have i2:y / 2<y:=by omega
     clear hm hb2
     generalize y / 2=y2 at *
     go_wp2
     go_round
     case rel=>exact⟨m+1,y2,by go_num,rfl,HM.out,by omega⟩
     case measure=>simp [intOf];omega
end Go.Proofs.YtdbjbbdhlpfhjaaGreatDoor
namespace Go.Proofs.YtdbjbbdhlpfhjaaGreatDoor
open Lm
end Go.Proofs.YtdbjbbdhlpfhjaaGreatDoor
namespace Go.Proofs.YtdbjbbdhlpfhjaaGreatDoor
open Go.RowKit
open Lm
attribute [local go_sem ↓] Go.wp_at_zero Go.wp_at_succ

theorem nP {w:World}{b off:Nat}{X:List Nat}(hc:∀k,k<X.length→w.cell? ⟨b,off+k,none⟩=some (.int .u64 ((X.getD k 0:Nat):Int)))(j:Nat)(u:Value)(hj:(X.map lv)[j]?=some u):w.cell? ((⟨b,off,none⟩:Addr).add j)=some u:=by
 rw [List.getElem?_map] at hj
 have hl:j<X.length:=by
  refine Nat.lt_of_not_le fun h=>?_
  rw [List.getElem?_eq_none h] at hj
  cases hj
 have:=hc j hl
 have e:X.getD j 0=X[j]:=by simp [List.getD,hl]
 rw [List.getElem?_eq_getElem hl] at hj
 cases hj
 have ea:(⟨b,off,none⟩:Addr).add j=⟨b,off+j,none⟩:=by simp [Addr.add]
 rw [ea,this,e];rfl

theorem oT (ao:Option Addr)(cap:Nat)(X:List Nat)(w:World)(hl:an w ao X)(hX:Limbs X)(hf:X.length≤17592186044416) :
  Calls Tryz.prog 106 #[.slice ao X.length cap] w fun e w'=>(∃v,e=.returned v∧Ans w' w.heap.size v X)∧Below w.heap.size w w':=by
 obtain⟨i0,hi,hz0,hz1,hz2⟩:=info_parts Tryz.infoU
 have ho:w.ownsRow w.heap.size 61 1 (.slice none 0 0) 0 []:=World.ownsRow_nil _ _ _ _
 have key:∀ad:Addr,(∀j u,(X.map lv)[j]?=some u→w.cell? (ad.add j)=some u)→Calls Tryz.prog 106 #[.slice (some ad) X.length cap] w fun e w'=>(∃v,e=.returned v∧Ans w' w.heap.size v X)∧Below w.heap.size w w':=by
  intro ad hn
  have HX:=aa hX
  clear hX hl
  go_enter Tryz.func106,Tryz.ntmps106
  go_wp2_with (at_builtin;refine wpList_append_own _ rfl _ _ 25 rfl w.heap.size 61 i0 (.int .u64 0) 1 8 Tryz.underlying25 hi hz0 hz1 hz2 rfl (by decide) _ _ _ rfl ho ad X.length cap (X.map lv) rfl (by simp) hn (fS _) (by unfold maxLen;omega) (by omega) (Nat.le_refl _) ?_;intro v' w2 hown2 hgrow2 _)
  have HA:Hid (Ans w2 w.heap.size v' X):=by
   rw [Nat.zero_add,List.nil_append] at hown2
   exact⟨hown2,HX.out⟩
  have HB:Hid (Below w.heap.size w w2):=(Below.refl _ _).grown hgrow2 (Nat.le_refl _) (fun k hk=>by cases hk)
  clear hown2 hgrow2 ho hn
  go_wp2
  go_ret
  exact⟨⟨_,rfl,HA.out⟩,HB.out⟩
 rcases hl with h0|⟨b,off,rfl,hc⟩
 ·subst h0
  cases ao with
  | some ad=>exact key ad (fun j u h=>by simp at h)
  | none=>
   clear key ho hi hz0 hz1 hz2 hX
   go_enter Tryz.func106,Tryz.ntmps106
   go_wp2
   go_ret
   exact⟨⟨_,rfl,Ans.nil _ _⟩,Below.refl _ _⟩
 ·exact key _ (nP hc)

theorem cT (v:Value)(X:List Nat)(w:World)(hA:Arg w v X)(hf:X.length≤17592186044416) :
  Calls Tryz.prog 72 #[v] w fun e w'=>(∃v,e=.returned v∧Ans w' w.heap.size v (tr X))∧Below w.heap.size w w':=by
 obtain⟨a1,c1,rfl,hc1,hm1,hl1⟩:=hA.form
 have T1:=bR a1 c1 X w hc1 hm1 hl1
 have l1:=tr_length_le X
 have F:=oT a1 c1 (tr X) w hl1.tr (limbs_tr hA.limbs) (by omega)
 clear hl1 hA
 go_enter Tryz.func72,Tryz.ntmps72
 go_wp2_with fail
 refine T1.mono ?_
 rintro e w2 ⟨rfl,rfl⟩
 clear T1
 go_wp2_with fail
 refine F.mono ?_
 rintro e w3 ⟨⟨v,rfl,ha⟩,hb⟩
 have HA:=aa (And.intro ha hb)
 clear ha hb F
 go_wp2
 go_ret
 exact⟨⟨v,rfl,HA.out.1⟩,HA.out.2⟩
end Go.Proofs.YtdbjbbdhlpfhjaaGreatDoor
namespace Go.Proofs.YtdbjbbdhlpfhjaaGreatDoor
namespace Lm

theorem through_step (X out:List Nat)(d j r:Nat)(hj:j<out.length)
  (h:val (out.drop (j+1))*d+r=val (X.drop (j+1))) (hxl:j<X.length) :
  val ((out.set j ((r*18446744073709551616+X.getD j 0) / d)).drop j)*d+(r*18446744073709551616+X.getD j 0) % d=val (X.drop j):=by
 have e1:(out.set j ((r*18446744073709551616+X.getD j 0) / d)).drop j=((r*18446744073709551616+X.getD j 0) / d) :: out.drop (j+1):=by
  rw [List.drop_eq_getElem_cons (by simpa using hj)]
  simp [List.drop_set]
 have e2:X.drop j=X.getD j 0 :: X.drop (j+1):=by
  rw [List.drop_eq_getElem_cons hxl];simp [List.getD,hxl]
 rw [e1,e2]
 simp only [val]
 rw [←h]
 generalize X.getD j 0=x
 generalize val (out.drop (j+1))=q
 have hdm:=Nat.div_add_mod (r*18446744073709551616+x) d
 generalize (r*18446744073709551616+x) / d=a at *
 generalize (r*18446744073709551616+x) % d=b at *
 have e3:(a+18446744073709551616*q)*d=d*a+18446744073709551616*(q*d):=by
  rw [Nat.add_mul,Nat.mul_comm a d,Nat.mul_assoc]
 rw [e3]
 omega

theorem quo_lt (r x d:Nat)(hr:r<d)(hx:x<18446744073709551616):(r*18446744073709551616+x) / d<18446744073709551616:=by
 rw [Nat.div_lt_iff_lt_mul (by omega)]
 have:=Nat.mul_le_mul_right 18446744073709551616 (Nat.succ_le_of_lt hr)
 rw [Nat.succ_eq_add_one,Nat.add_mul] at this
 rw [Nat.mul_comm]
 omega

end Lm
end Go.Proofs.YtdbjbbdhlpfhjaaGreatDoor
namespace Go.Proofs.YtdbjbbdhlpfhjaaGreatDoor
open Go.RowKit
open Lm

theorem cH (x:Nat)(w:World)(hx:x<18446744073709551616) :
  Calls Tryz.prog 82 #[.int .u64 x] w fun e w'=>(∃v,e=.returned v∧Ans w' w.heap.size v (tr [x]))∧Below w.heap.size w w':=by
 by_cases h:x=0
 ·subst h
  have hz:(((0:Nat):Int) == 0)=true:=rfl
  go_enter Tryz.func82,Tryz.ntmps82
  go_wp2
  go_ret
  exact⟨⟨_,rfl,Ans.nil _ _⟩,Below.refl _ _⟩
 ·have hz:((x:Int) == 0)=false:=by rw [beq_eq_false_iff_ne];omega
  have e:tr [x]=[x]:=by simp [tr,h]
  rw [e]
  clear e h
  have hb:Blk (w.alloc (.cells #[.int .u64 (x:Int)] 61)) w.heap.size [x]:=by
   unfold Blk;rw [heap_alloc_new];rfl
  have HA:=aa (Ans.of_blk (base:=w.heap.size) (zs:=[x]) (Nat.le_refl _) hb rfl (Nat.le_refl _) (by simp) (by intro y hy;simp at hy;omega))
  clear hb
  go_enter Tryz.func82,Tryz.ntmps82
  go_wp2
  go_ret
  exact⟨⟨_,rfl,HA.out⟩,(Below.refl _ _).alloc (Nat.le_refl _) _⟩
end Go.Proofs.YtdbjbbdhlpfhjaaGreatDoor
namespace Go.Proofs.YtdbjbbdhlpfhjaaGreatDoor
namespace Lm

structure Knuth (U Y y1 u1 q r:Nat):Prop where
 sum:q*y1+r=U
 ge:(U*4294967296+u1) / Y≤q
 few:q≤4294967297
 small:r<4294967296

variable {U Y y1 y0 u1 q r:Nat}

theorem knuth_start (hY:Y=y1*4294967296+y0)(hy1:2147483648≤y1)(hy2:y1<4294967296)(hy0:y0<4294967296)(hu1:u1<4294967296)(hU:U<Y):Knuth U Y y1 u1 (U / y1) (U % y1):=by
 have hd:=Nat.div_add_mod U y1
 have hm:U % y1<y1:=Nat.mod_lt _ (by omega)
 have hs:U / y1*y1+U % y1=U:=by rw [Nat.mul_comm];exact hd
 clear hd
 generalize U / y1=q at *
 generalize U % y1=r at *
 refine⟨hs,?_,?_,by omega⟩
 ·have h1:(U*4294967296+u1) / Y<q+1:=by
   rw [Nat.div_lt_iff_lt_mul (by omega),hY,Nat.add_mul,Nat.mul_add,Nat.one_mul,←Nat.mul_assoc]
   omega
  omega
 ·refine Nat.le_of_not_lt fun h=>?_
  have h2:=Nat.mul_le_mul_right y1 (show 4294967298≤q by omega)
  omega

theorem knuth_mul (hY:Y=y1*4294967296+y0)(h:q*y1+r=U):q*Y+r*4294967296=U*4294967296+q*y0:=by
 rw [hY,Nat.mul_add,←h,Nat.add_mul,←Nat.mul_assoc];omega

theorem knuth_lt (hu1:u1<4294967296)(hU:U<Y):(U*4294967296+u1) / Y<4294967296:=by
 rw [Nat.div_lt_iff_lt_mul (by omega)]
 omega

theorem knuth_down (hY:Y=y1*4294967296+y0)(hu1:u1<4294967296)(hU:U<Y)(k:Knuth U Y y1 u1 q r)
  (hc:4294967296≤q∨r*4294967296+u1<q*y0):1≤q∧(U*4294967296+u1) / Y≤q - 1∧(q - 1)*y1+(r+y1)=U:=by
 have hlt:(U*4294967296+u1) / Y<q:=by
  rcases hc with hc|hc
  ·have h9:=knuth_lt hu1 hU
   revert h9 hc
   generalize (U*4294967296+u1) / Y=z
   clear k hY hU hu1
   intro hc h9
   omega
  ·rw [Nat.div_lt_iff_lt_mul (by omega)]
   have:=knuth_mul hY k.sum
   refine Nat.lt_of_add_lt_add_right (n:=r*4294967296) ?_
   rw [this,Nat.add_assoc,Nat.add_comm u1]
   exact Nat.add_lt_add_left hc _
 have hge:1≤q:=Nat.lt_of_le_of_lt (Nat.zero_le _) hlt
 refine⟨hge,Nat.le_sub_one_of_lt hlt,?_⟩
 have hq:q - 1+1=q:=by omega
 have:=k.sum
 rw [←hq,Nat.add_mul,Nat.one_mul] at this
 omega

theorem knuth_stop (hY:Y=y1*4294967296+y0)(k:Knuth U Y y1 u1 q r)(hy:0<Y)(h:q*y0≤r*4294967296+u1):q=(U*4294967296+u1) / Y:=by
 have:=knuth_mul hY k.sum
 have h2:q≤(U*4294967296+u1) / Y:=by
  rw [Nat.le_div_iff_mul_le hy];omega
 exact Nat.le_antisymm h2 k.ge

theorem knuth_break (hY:Y=y1*4294967296+y0)(hy:0<Y)(hy0:y0<4294967296)(hs:q*y1+r=U)(hge:(U*4294967296+u1) / Y≤q)(hq:q≤4294967296)(hr:4294967296≤r) :
  q=(U*4294967296+u1) / Y:=by
 have:=knuth_mul hY hs
 have h1:q*y0≤4294967296*4294967296:=Nat.mul_le_mul hq (by omega)
 have h2:q≤(U*4294967296+u1) / Y:=by
  rw [Nat.le_div_iff_mul_le hy];omega
 exact Nat.le_antisymm h2 hge

theorem knuth_key (V t Y N u0 q1 q0 r1 r0:Nat)(hV:V*t=N*4294967296+u0)(d1:Y*q1+r1=N)(d0:Y*q0+r0=r1*4294967296+u0) :
  V*t=Y*(q1*4294967296+q0)+r0:=by
 rw [hV,←d1,Nat.mul_add Y,←Nat.mul_assoc]
 omega

theorem knuth_whole (V y s N u0 q1 q0:Nat)(hy:0<y)(hV:V*2 ^ s=N*4294967296+u0)
  (h1:q1=N / (y*2 ^ s)) (h0:q0=(N % (y*2 ^ s)*4294967296+u0) / (y*2 ^ s)) :
  q1*4294967296+q0=V / y∧(N % (y*2 ^ s)*4294967296+u0) % (y*2 ^ s) / 2 ^ s=V % y:=by
 have hp:=Nat.two_pow_pos s
 have hY:0<y*2 ^ s:=Nat.mul_pos hy hp
 have d1:=Nat.div_add_mod N (y*2 ^ s)
 have d0:=Nat.div_add_mod (N % (y*2 ^ s)*4294967296+u0) (y*2 ^ s)
 have l0:=Nat.mod_lt (N % (y*2 ^ s)*4294967296+u0) hY
 rw [←h1] at d1
 rw [←h0] at d0
 have key:=knuth_key V (2 ^ s) (y*2 ^ s) N u0 q1 q0 _ _ hV d1 d0
 have hq:V*2 ^ s / (y*2 ^ s)=q1*4294967296+q0:=by
  rw [key,Nat.mul_add_div hY,Nat.div_eq_of_lt l0,Nat.add_zero]
 have hr:V*2 ^ s % (y*2 ^ s)=(N % (y*2 ^ s)*4294967296+u0) % (y*2 ^ s):=by
  rw [key,Nat.mul_add_mod,Nat.mod_mod]
 rw [Nat.mul_div_mul_right _ _ hp] at hq
 rw [Nat.mul_mod_mul_right] at hr
 exact⟨hq.symm,by rw [←hr,Nat.mul_div_cancel _ hp]⟩

theorem shift_whole (hi lo s:Nat)(hs:s≤64) :
  (hi*18446744073709551616+lo)*2 ^ s=((hi*2 ^ s+lo / 2 ^ (64 - s))*4294967296+lo*2 ^ s % 18446744073709551616 / 4294967296)*4294967296+lo*2 ^ s % 18446744073709551616 % 4294967296:=by
 rw [shr_mul lo s hs,Nat.add_mul,Nat.mul_right_comm]
 generalize hi*2 ^ s=a
 generalize lo*2 ^ s=b
 omega

theorem norm_y (y:Nat)(h0:0<y)(hy:y<18446744073709551616):1≤Lib.bitLen y∧Lib.bitLen y≤64∧9223372036854775808≤y*2 ^ (64 - Lib.bitLen y)∧y*2 ^ (64 - Lib.bitLen y)<18446744073709551616:=by
 obtain⟨h1,h2,h3⟩:=Lib.bitLenAux_bounds 64 y hy (by omega)
 have h4:=Lib.bitLen_le y 64 (by omega) hy
 have h1':1≤Lib.bitLen y:=h1
 have h2':2 ^ (Lib.bitLen y - 1)≤y:=h2
 have h3':y<2 ^ Lib.bitLen y:=h3
 generalize Lib.bitLen y=k at *
 refine⟨h1',h4,?_,?_⟩
 ·have:=Nat.mul_le_mul_right (2 ^ (64 - k)) h2'
  rw [←Nat.pow_add,show k - 1+(64 - k)=63 by omega] at this
  exact this
 ·have:=(Nat.mul_lt_mul_right (Nat.two_pow_pos (64 - k))).2 h3'
  rw [←Nat.pow_add,show k+(64 - k)=64 by omega] at this
  exact this

end Lm
end Go.Proofs.YtdbjbbdhlpfhjaaGreatDoor
namespace Go.Proofs.YtdbjbbdhlpfhjaaGreatDoor
open Go.RowKit
open Lm

theorem qA (lo y:Nat)(w:World)(hy:y<18446744073709551616)(h0:0<y)(hlo:lo<18446744073709551616) :
  Calls Tryz.prog 204 #[.int .u64 0,.int .u64 lo,.int .u64 y] w fun e w'=>e=.returned (.tuple #[.int .u64 ((lo / y:Nat):Int),.int .u64 ((lo % y:Nat):Int)])∧ak w w':=by
 have hz:((y:Int) == 0)=false:=by rw [beq_eq_false_iff_ne];omega
 have hz2:decide ((y:Int)≤0)=false:=by simp;omega
 have e1:(lo:Int) / (y:Int)=((lo / y:Nat):Int):=(Int.natCast_ediv _ _).symm
 have e2:(lo:Int) % (y:Int)=((lo % y:Nat):Int):=(Int.natCast_emod _ _).symm
 have e3:(lo:Int).tdiv (y:Int)=((lo / y:Nat):Int):=rfl
 have e4:(lo:Int).tmod (y:Int)=((lo % y:Nat):Int):=rfl
 have b1:lo / y<18446744073709551616:=Nat.lt_of_le_of_lt (Nat.div_le_self _ _) hlo
 have b2:lo % y<18446744073709551616:=Nat.lt_of_le_of_lt (Nat.mod_le _ _) hlo
 generalize lo / y=a at *
 generalize lo % y=b at *
 have h1:(1:Int)≤(y:Int):=by omega
 go_enter Tryz.func204,Tryz.ntmps204
 go_wp2
 go_quiet (fail)
 go_wp2
 go_ret2
 exact⟨rfl,(ak.refl _).drewN _⟩

theorem cN (x s r:Nat)(h:x*2 ^ s % 18446744073709551616=r):IntKind.u64.wrap ((x:Int)*2 ^ s)=(r:Int):=by
 rw [IntKind.wrap_u64]
 have:((x:Int)*2 ^ s)=((x*2 ^ s:Nat):Int):=by rw [Int.natCast_mul,Int.natCast_pow];rfl
 rw [this];omega

theorem kj (a:Nat)(ha:a<18446744073709551616):bits BinOp.and IntKind.u64 (a:Int) 4294967295=((a % 4294967296:Nat):Int):=by
 have h:=bits_and_u64_nat a 4294967295 ha (by omega)
 rw [show a &&& 4294967295=a % 4294967296 from Nat.and_two_pow_sub_one_eq_mod a 32] at h
 exact h

theorem fO (h s l U:Nat)(hs:s≤64)(hl:l<2 ^ s)(hh:h*2 ^ s<18446744073709551616)(hU:U=h*2 ^ s+l):bits BinOp.or IntKind.u64 ((h*2 ^ s:Nat):Int) (l:Int)=(U:Int):=by
 have hll:l<18446744073709551616:=Nat.lt_of_lt_of_le hl (by rw [show (18446744073709551616:Nat)=2 ^ 64 from rfl];exact Nat.pow_le_pow_right (by omega) hs)
 rw [bits_or_u64_nat _ _ hh hll,hU,Nat.mul_comm h,Nat.two_pow_add_eq_or_of_lt hl]

theorem iz (a b y q r:Nat)(hd:q*y+r=a*4294967296+b)(hr:r<18446744073709551616) :
  ∃a1 a2 a3:Nat,a1<18446744073709551616∧a2<18446744073709551616∧a3<18446744073709551616∧IntKind.u64.wrap ((a:Int)*4294967296)=(a1:Int)∧IntKind.u64.wrap ((a1:Int)+(b:Int))=(a2:Int) ∧
   IntKind.u64.wrap ((q:Int)*(y:Int))=(a3:Int)∧IntKind.u64.wrap ((a2:Int) - (a3:Int))=(r:Int):=by
 refine⟨a*4294967296 % 18446744073709551616,(a*4294967296 % 18446744073709551616+b) % 18446744073709551616,q*y % 18446744073709551616,Nat.mod_lt _ (by omega),Nat.mod_lt _ (by omega),Nat.mod_lt _ (by omega),?_,?_,?_,?_⟩
 ·rw [IntKind.wrap_u64];omega
 ·rw [IntKind.wrap_u64];omega
 ·rw [IntKind.wrap_u64,←Int.natCast_mul];omega
 ·rw [IntKind.wrap_u64]
  omega

theorem mx (hi lo y:Nat)(w:World)(hy:y<18446744073709551616)(hhi0:0<hi)(hhi:hi<y)(hlo:lo<18446744073709551616) :
  Calls Tryz.prog 204 #[.int .u64 hi,.int .u64 lo,.int .u64 y] w fun e w'=>e=.returned (.tuple #[.int .u64 (((hi*18446744073709551616+lo) / y:Nat):Int),.int .u64 (((hi*18446744073709551616+lo) % y:Nat):Int)])∧ak w w':=by
 have hz:((y:Int) == 0)=false:=by rw [beq_eq_false_iff_ne];omega
 have hz1:((hi:Int) == 0)=false:=by rw [beq_eq_false_iff_ne];omega
 have hz2:decide ((y:Int)≤(hi:Int))=false:=by simp;omega
 have HLZ:=Tryz.bits_LeadingZeros64 (y:Int) w (by omega) (by omega)
 rw [Int.toNat_natCast] at HLZ
 obtain⟨n1,n2,n3,n4⟩:=norm_y y (by omega) hy
 obtain⟨s,hs⟩:∃s,s=64 - Lib.bitLen y:=⟨_,rfl⟩
 have hsI:(64:Int) - (Lib.bitLen y:Int)=(s:Int):=by omega
 rw [hsI] at HLZ
 rw [←hs] at n3 n4
 have hs63:s≤63:=by omega
 clear hs hsI n1 n2
 have hp:=Nat.two_pow_pos s
 have hhy:(hi+1)*2 ^ s≤y*2 ^ s:=Nat.mul_le_mul_right _ hhi
 rw [Nat.add_mul,Nat.one_mul] at hhy
 have hl1:=shr_lt lo s (by omega) hlo
 have HVV:=aa (shift_whole hi lo s (by omega))
 have r1:=cN y s (y*2 ^ s) (Nat.mod_eq_of_lt n4)
 have r4:=cN hi s (hi*2 ^ s) (Nat.mod_eq_of_lt (by omega))
 have r7:=fO hi s (lo / 2 ^ (64 - s)) (hi*2 ^ s+lo / 2 ^ (64 - s)) (by omega) hl1 (by omega) rfl
 have r8:=cN lo s (lo*2 ^ s % 18446744073709551616) rfl
 have r6:=walk_shr lo (64 - s)
 have HK:=aa (fun N u0 q1 q0=>knuth_whole (hi*18446744073709551616+lo) y s N u0 q1 q0 (by omega))
 have hUY:hi*2 ^ s+lo / 2 ^ (64 - s)<y*2 ^ s:=by omega
 have hu10:lo*2 ^ s % 18446744073709551616<18446744073709551616:=Nat.mod_lt _ (by omega)
 have r5:(64:Int) - (s:Int)=((64 - s:Nat):Int):=by omega
 have ht:64 - s≤64:=by omega
 have ht0:1≤64 - s:=by omega
 generalize lo*2 ^ s % 18446744073709551616=u10 at *
 generalize hU:hi*2 ^ s+lo / 2 ^ (64 - s)=U at *
 generalize lo / 2 ^ (64 - s)=l1 at *
 generalize 64 - s=t at *
 have hh1:hi*2 ^ s<18446744073709551616:=by omega
 generalize hi*2 ^ s=h1 at *
 have r3:=kj (y*2 ^ s) n4
 have r10:=kj u10 hu10
 generalize y*2 ^ s=Y at *
 have r2:(Y:Int) / 4294967296=((Y / 4294967296:Nat):Int):=by omega
 have r9:(u10:Int) / 4294967296=((u10 / 4294967296:Nat):Int):=by omega
 have hY:Y=Y / 4294967296*4294967296+Y % 4294967296:=by omega
 have k1:2147483648≤Y / 4294967296:=by omega
 have k2:Y / 4294967296<4294967296:=by omega
 have k3:Y % 4294967296<4294967296:=by omega
 have k4:u10 / 4294967296<4294967296:=by omega
 have k5:u10 % 4294967296<4294967296:=by omega
 generalize Y / 4294967296=y1 at *
 generalize Y % 4294967296=y0 at *
 generalize u10 / 4294967296=u1 at *
 generalize u10 % 4294967296=u0 at *
 have HY:=aa hY
 have hl1W:l1<18446744073709551616:=by omega
 have HU:Hid (h1+l1=U):=aa hU
 clear hU hY hl1 hp hhy
 have KS:=aa (knuth_start HY.out k1 k2 k3 k4 hUY)
 have r11:(U:Int) / (y1:Int)=((U / y1:Nat):Int):=(Int.natCast_ediv _ _).symm
 have r12:((U / y1:Nat):Int)*(y1:Int)=((U / y1*y1:Nat):Int):=(Int.natCast_mul _ _).symm
 have d1:U / y1*y1+U % y1=U:=KS.out.sum
 have hUW:U<18446744073709551616:=by omega
 have b1:U / y1<18446744073709551616:=Nat.lt_of_le_of_lt (Nat.div_le_self _ _) hUW
 generalize U / y1*y1=p1 at *
 generalize U / y1=q at *
 generalize U % y1=r at *
 have r13:(U:Int) - (p1:Int)=(r:Int):=by omega
 have hp1:p1≤U:=by omega
 have hy1p:(1:Int)≤(y1:Int):=by omega
 have D1:=aa d1
 clear d1
 go_enter Tryz.func204,Tryz.ntmps204
 go_wp2_with fail
 refine HLZ.mono ?_
 rintro e w1 ⟨rfl,rfl⟩
 clear HLZ
 go_upto_block 0 with fail
 clear r1 r2 r3 r4 r5 r6 r7 r8 r9 r10 r11 r12 r13 hz hz1 hz2
 go_cut [15,16] from 67 to 85 (fun a _ wc=>a=.int .u64 (((U*4294967296+u1) / Y:Nat):Int)∧wc=w1)
 case first=>
  go_wp2_with fail
  go_loop [15,16] (fun a b=>∃q r:Nat,a=.int .u64 q∧b=.int .u64 r∧Knuth U Y y1 u1 q r) (fun a _=>(intOf a).toNat)
  case atStart=>exact⟨_,_,rfl,rfl,KS.out⟩
  case round=>
   obtain⟨q,r,rfl,rfl,K⟩:=hrel
   have hq:=K.few
   have hr:=K.small
   obtain⟨r',hr'⟩:∃r',r'=r+y1:=⟨_,rfl⟩
   have hrI:(r:Int)+(y1:Int)=(r':Int):=by omega
   obtain⟨m0,hm0⟩:∃m0,m0=4294967296*r:=⟨_,rfl⟩
   have hmI0:(4294967296:Int)*(r:Int)=(m0:Int):=by omega
   obtain⟨m,hm⟩:∃m,m=m0+u1:=⟨_,rfl⟩
   have hmI:(m0:Int)+(u1:Int)=(m:Int):=by omega
   have hmW:m<18446744073709551616:=by omega
   have hmW0:m0<18446744073709551616:=by omega
   have hrW:r'<18446744073709551616:=by omega
   have HM:=aa (show m=r*4294967296+u1 by omega)
   have HR:=aa hr'
   have hrb:4294967296≤r'∨r'<4294967296:=by omega
   clear hr' hm0 hm
   by_cases c1:4294967296≤q
   ·obtain⟨g1,g2,g3⟩:=knuth_down HY.out k4 hUY K (.inl c1)
    rw [←HR.out] at g3
    have G2:=aa g2
    have G3:=aa g3
    have i1:(4294967296:Int)≤(q:Int):=by omega
    have i2:(q:Int)≤4294967297:=by omega
    rcases hrb with c2|c2
    ·have HQ:=aa (knuth_break HY.out (by omega) k3 G3.out G2.out (by omega) c2)
     have i4:(4294967296:Int)≤(r':Int):=by omega
     clear g1 g2 g3 K c1 c2 hq hr
     go_wp2
     go_meet
     case rel=>exact⟨by rw [←HQ.out];go_num,rfl⟩
    ·have i4:(r':Int)<4294967296:=by omega
     have hb2:decide ((4294967296:Int)≤(r':Int))=false:=decide_eq_false (by omega)
     clear g1 g2 g3 K c1 c2 hq hr
     go_wp2
     go_round
     case rel=>exact⟨q - 1,r',by go_num,rfl,G3.out,G2.out,by omega,by omega⟩
     case measure=>simp [intOf];omega
   ·obtain⟨p,hp⟩:∃p,p=q*y0:=⟨_,rfl⟩
    have hpI:(q:Int)*(y0:Int)=(p:Int):=by rw [hp];exact (Int.natCast_mul _ _).symm
    have hpW:p<18446744073709551616:=by
     rw [hp]
     have:=Nat.mul_le_mul (show q≤4294967295 by omega) (show y0≤4294967295 by omega)
     omega
    have HP:=aa hp
    clear hp
    have i1:(q:Int)<4294967296:=by omega
    have hb1:decide ((4294967296:Int)≤(q:Int))=false:=decide_eq_false (by omega)
    by_cases c3:m<p
    ·obtain⟨g1,g2,g3⟩:=knuth_down HY.out k4 hUY K (.inr (by rw [←HP.out,←HM.out];exact c3))
     rw [←HR.out] at g3
     have G2:=aa g2
     have G3:=aa g3
     have i2:(m:Int)<(p:Int):=by omega
     have i5:(1:Int)≤(q:Int):=by omega
     rcases hrb with c2|c2
     ·have HQ:=aa (knuth_break HY.out (by omega) k3 G3.out G2.out (by omega) c2)
      have i4:(4294967296:Int)≤(r':Int):=by omega
      clear g1 g2 g3 K c1 c2 c3 hq hr
      go_wp2
      go_meet
      case rel=>exact⟨by rw [←HQ.out];go_num,rfl⟩
     ·have i4:(r':Int)<4294967296:=by omega
      have hb2:decide ((4294967296:Int)≤(r':Int))=false:=decide_eq_false (by omega)
      clear g1 g2 g3 K c1 c2 c3 hq hr
      go_wp2
      go_round
      case rel=>exact⟨q - 1,r',by go_num,rfl,G3.out,G2.out,by omega,by omega⟩
      case measure=>simp [intOf];omega
    ·have HQ:=aa (knuth_stop HY.out K (by omega) (by rw [←HP.out,←HM.out];omega))
     have i2:(p:Int)≤(m:Int):=by omega
     have hb3:decide ((m:Int)<(p:Int))=false:=decide_eq_false (by omega)
     have hb4:decide (m<p)=false:=decide_eq_false c3
     clear K c1 c3 hq hr hrb
     go_wp2
     go_meet
     case rel=>exact⟨by rw [←HQ.out],rfl⟩
 case rest=>
  obtain⟨rfl,hwc⟩:=hcut
  have hwc':=hwc.symm
  subst hwc'
  clear hwc
  have hRY:(U*4294967296+u1) % Y<Y:=Nat.mod_lt _ (by omega)
  have hQ1b:=knuth_lt k4 hUY
  have hd1:=Nat.div_add_mod (U*4294967296+u1) Y
  rw [Nat.mul_comm] at hd1
  obtain⟨R1,hR1⟩:∃R1,R1=(U*4294967296+u1) % Y:=⟨_,rfl⟩
  obtain⟨Q1,hQ1⟩:∃Q1,Q1=(U*4294967296+u1) / Y:=⟨_,rfl⟩
  rw [←hR1] at hRY hd1
  rw [←hQ1] at hd1 hQ1b ⊢
  obtain⟨a1,a2,a3,t1,t2,t3,s1,s2,s3,s4⟩:=iz U u1 Y Q1 R1 hd1 (by omega)
  have HR1:=aa hR1
  have HQ1:=aa hQ1
  clear hR1 hQ1 hd1 KS D1
  have KS:=aa (knuth_start HY.out k1 k2 k3 k5 hRY)
  have r11:(R1:Int) / (y1:Int)=((R1 / y1:Nat):Int):=(Int.natCast_ediv _ _).symm
  have r12:((R1 / y1:Nat):Int)*(y1:Int)=((R1 / y1*y1:Nat):Int):=(Int.natCast_mul _ _).symm
  have d1:R1 / y1*y1+R1 % y1=R1:=KS.out.sum
  have hRW:R1<18446744073709551616:=by omega
  have b1':R1 / y1<18446744073709551616:=Nat.lt_of_le_of_lt (Nat.div_le_self _ _) hRW
  clear b1 hp1
  generalize R1 / y1*y1=p1' at *
  generalize R1 / y1=q' at *
  generalize R1 % y1=r' at *
  have r13:(R1:Int) - (p1':Int)=(r':Int):=by omega
  have hp1':p1'≤R1:=by omega
  clear d1
  go_upto_block 2 with fail
  clear r11 r12 r13 s1 s2 s3 s4 t1 t2 t3
  go_cut [18,16] from 102 to 120 (fun a _ wc=>a=.int .u64 (((R1*4294967296+u0) / Y:Nat):Int)∧wc=w1)
  case first=>
   go_wp2_with fail
   go_loop [18,16] (fun a b=>∃q r:Nat,a=.int .u64 q∧b=.int .u64 r∧Knuth R1 Y y1 u0 q r) (fun a _=>(intOf a).toNat)
   case atStart=>exact⟨_,_,rfl,rfl,KS.out⟩
   case round=>
    obtain⟨q,r,rfl,rfl,K⟩:=hrel
    have hq:=K.few
    have hr:=K.small
    obtain⟨r',hr'⟩:∃r',r'=r+y1:=⟨_,rfl⟩
    have hrI:(r:Int)+(y1:Int)=(r':Int):=by omega
    obtain⟨m0,hm0⟩:∃m0,m0=4294967296*r:=⟨_,rfl⟩
    have hmI0:(4294967296:Int)*(r:Int)=(m0:Int):=by omega
    obtain⟨m,hm⟩:∃m,m=m0+u0:=⟨_,rfl⟩
    have hmI:(m0:Int)+(u0:Int)=(m:Int):=by omega
    have hmW:m<18446744073709551616:=by omega
    have hmW0:m0<18446744073709551616:=by omega
    have hrW:r'<18446744073709551616:=by omega
    have HM:=aa (show m=r*4294967296+u0 by omega)
    have HR:=aa hr'
    have hrb:4294967296≤r'∨r'<4294967296:=by omega
    clear hr' hm0 hm
    by_cases c1:4294967296≤q
    ·obtain⟨g1,g2,g3⟩:=knuth_down HY.out k5 hRY K (.inl c1)
     rw [←HR.out] at g3
     have G2:=aa g2
     have G3:=aa g3
     have i1:(4294967296:Int)≤(q:Int):=by omega
     have i2:(q:Int)≤4294967297:=by omega
     rcases hrb with c2|c2
     ·have HQ:=aa (knuth_break HY.out (by omega) k3 G3.out G2.out (by omega) c2)
      have i4:(4294967296:Int)≤(r':Int):=by omega
      clear g1 g2 g3 K c1 c2 hq hr
      go_wp2
      go_meet
      case rel=>exact⟨by rw [←HQ.out];go_num,rfl⟩
     ·have i4:(r':Int)<4294967296:=by omega
      have hb2:decide ((4294967296:Int)≤(r':Int))=false:=decide_eq_false (by omega)
      clear g1 g2 g3 K c1 c2 hq hr
      go_wp2
      go_round
      case rel=>exact⟨q - 1,r',by go_num,rfl,G3.out,G2.out,by omega,by omega⟩
      case measure=>simp [intOf];omega
    ·obtain⟨p,hp⟩:∃p,p=q*y0:=⟨_,rfl⟩
     have hpI:(q:Int)*(y0:Int)=(p:Int):=by rw [hp];exact (Int.natCast_mul _ _).symm
     have hpW:p<18446744073709551616:=by
      rw [hp]
      have:=Nat.mul_le_mul (show q≤4294967295 by omega) (show y0≤4294967295 by omega)
      omega
     have HP:=aa hp
     clear hp
     have i1:(q:Int)<4294967296:=by omega
     have hb1:decide ((4294967296:Int)≤(q:Int))=false:=decide_eq_false (by omega)
     by_cases c3:m<p
     ·obtain⟨g1,g2,g3⟩:=knuth_down HY.out k5 hRY K (.inr (by rw [←HP.out,←HM.out];exact c3))
      rw [←HR.out] at g3
      have G2:=aa g2
      have G3:=aa g3
      have i2:(m:Int)<(p:Int):=by omega
      have i5:(1:Int)≤(q:Int):=by omega
      rcases hrb with c2|c2
      ·have HQ:=aa (knuth_break HY.out (by omega) k3 G3.out G2.out (by omega) c2)
       have i4:(4294967296:Int)≤(r':Int):=by omega
       clear g1 g2 g3 K c1 c2 c3 hq hr
       go_wp2
       go_meet
       case rel=>exact⟨by rw [←HQ.out];go_num,rfl⟩
      ·have i4:(r':Int)<4294967296:=by omega
       have hb2:decide ((4294967296:Int)≤(r':Int))=false:=decide_eq_false (by omega)
       clear g1 g2 g3 K c1 c2 c3 hq hr
       go_wp2
       go_round
       case rel=>exact⟨q - 1,r',by go_num,rfl,G3.out,G2.out,by omega,by omega⟩
       case measure=>simp [intOf];omega
     ·have HQ:=aa (knuth_stop HY.out K (by omega) (by rw [←HP.out,←HM.out];omega))
      have i2:(p:Int)≤(m:Int):=by omega
      have hb3:decide ((m:Int)<(p:Int))=false:=decide_eq_false (by omega)
      have hb4:decide (m<p)=false:=decide_eq_false c3
      clear K c1 c3 hq hr hrb
      go_wp2
      go_meet
      case rel=>exact⟨by rw [←HQ.out],rfl⟩
  case rest=>
   obtain⟨rfl,rfl⟩:=hcut
   have hRY0:(R1*4294967296+u0) % Y<Y:=Nat.mod_lt _ (by omega)
   have hQ0b:=knuth_lt k5 hRY
   have hd1:=Nat.div_add_mod (R1*4294967296+u0) Y
   rw [Nat.mul_comm] at hd1
   obtain⟨R0,hR0⟩:∃R0,R0=(R1*4294967296+u0) % Y:=⟨_,rfl⟩
   obtain⟨Q0,hQ0⟩:∃Q0,Q0=(R1*4294967296+u0) / Y:=⟨_,rfl⟩
   rw [←hR0] at hRY0 hd1
   rw [←hQ0] at hd1 hQ0b ⊢
   obtain⟨a1,a2,a3,t1,t2,t3,s1,s2,s3,s4⟩:=iz R1 u0 Y Q0 R0 hd1 (by omega)
   have hfin:=HK.out (U*4294967296+u1) u0 Q1 Q0 HVV.out HQ1.out (by rw [←HR1.out];exact hQ0)
   rw [←HR1.out,←hR0] at hfin
   have f1:(Q1:Int)*4294967296+(Q0:Int)=(((hi*18446744073709551616+lo) / y:Nat):Int):=by rw [←hfin.1];omega
   have f2:(R0:Int) / 2 ^ s=(((hi*18446744073709551616+lo) % y:Nat):Int):=by rw [←hfin.2];exact walk_shr R0 s
   have F1:=aa f1
   have F2:=aa f2
   have hQQ:((Q1:Int)*4294967296+(Q0:Int))<18446744073709551616:=by omega
   clear hR0 hQ0 hd1 KS hfin HK HVV f1 f2
   go_wp2
   go_ret2
   rw [←F1.out,←F2.out]
   exact⟨rfl,ak.refl _⟩



theorem Ans.stored {w:World}{base g cap:Nat}{zs:List Nat}(h:Ans w base (.slice (some ⟨g,0,none⟩) zs.length cap) zs)(j z:Nat)(hz:z<18446744073709551616):Ans (w.setCell ⟨g,j,none⟩ (.int .u64 (z:Int))) base (.slice (some ⟨g,0,none⟩) (zs.set j z).length cap) (zs.set j z):=by
 refine⟨?_,limbs_set h.limbs _ _ hz⟩
 have:=(h.own.stored j (.int .u64 (z:Int))).1
 rw [List.length_set,List.map_set]
 exact this

def over (rows:Nat→List Nat)(m:Nat):List Nat:=List.replicate (rows m).length (m % 251+1)




end Go.Proofs.YtdbjbbdhlpfhjaaGreatDoor
namespace Go.Proofs.YtdbjbbdhlpfhjaaGreatDoor
open Go.RowKit
open Lm
attribute [local go_sem ↓] Go.wp_at_zero Go.wp_at_succ

theorem Ans.cellAt5 {w:World}{base g cap:Nat}{zs:List Nat}(h:Ans w base (.slice (some ⟨g,0,none⟩) zs.length cap) zs):(zs.length≤cap∧cap≤9223372036854775807)∧(∀k,w.frozen? ⟨g,k,none⟩=false)∧∀k,k<zs.length→w.cell? ⟨g,k,none⟩=some (.int .u64 ((zs.getD k 0:Nat):Int)):=by
 rcases h.form with ⟨e,_⟩|⟨g',cap',e,_,_,h1,h2,h3,h4⟩
 ·cases e
 ·cases e
  exact⟨⟨h1,h2⟩,h3,h4⟩

theorem eD {w:World}{h k:Nat}{cs:Array Value}{t:TypeId}(e:w.heap[h]?=some (.cells cs t))(u:Value):(w.setCell ⟨h,k,none⟩ u).heap[h]?=some (.cells (cs.setIfInBounds k u) t):=by
 have hlt:=lt_of_block e
 have h':w.heap[h]=.cells cs t:=by simpa [Array.getElem?_eq_getElem hlt] using e
 show (w.heap.modify h _)[h]?=_
 rw [Array.getElem?_eq_getElem (by simpa using hlt),Array.getElem_modify_self,h']
 rfl

theorem kT (h:15<(ByteArray.mk #[48,49,50,51,52,53,54,55,56,57,97,98,99,100,101,102,103,104,105,106,107,108,109,110,111,112,113,114,115,116,117,118,119,120,121,122]).size):(ByteArray.mk #[48,49,50,51,52,53,54,55,56,57,97,98,99,100,101,102,103,104,105,106,107,108,109,110,111,112,113,114,115,116,117,118,119,120,121,122])[15]=102:=rfl

theorem mr (h:15<(ByteArray.mk #[48,49,50,51,52,53,54,55,56,57,97,98,99,100,101,102,103,104,105,106,107,108,109,110,111,112,113,114,115,116,117,118,119,120,121,122]).size):(ByteArray.mk #[48,49,50,51,52,53,54,55,56,57,97,98,99,100,101,102,103,104,105,106,107,108,109,110,111,112,113,114,115,116,117,118,119,120,121,122])[15].toNat=102:=rfl

attribute [local go_sem] kT mr
end Go.Proofs.YtdbjbbdhlpfhjaaGreatDoor
namespace Go.Proofs.YtdbjbbdhlpfhjaaGreatDoor
open Go.RowKit
open Lm
attribute [local go_sem ↓] Go.wp_at_zero Go.wp_at_succ

theorem Tryz.infoB:(Tryz.prog.info? 5).map (fun i=>(i.zero,i.size,i.bytes))=some (some (.int .u8 0),1,1):=by kernel_rfl

theorem fU {P:Program}(w:World)(a:Addr)(m:Mode)(f:Fn)(x y:Array Value):(store a (.func f x y) m).run P w=stored P w a (.func f x y) m:=run_store P w a _ m rfl

attribute [local go_sem] fU

theorem cY {w w':World}{g:Nat}{x:Obj}(hb:Below w.heap.size w w')(h:w.heap[g]?=some x):w'.heap[g]?=some x:=by
 rw [hb.block g (lt_of_block h)];exact h

theorem aL (w:World)(o:Obj):Below w.heap.size w (w.alloc o):=(Below.refl _ _).alloc (Nat.le_refl _) _

theorem oZ {w:World}{base n g:Nat}(h:w.ownsRow base 5 1 (.slice (some ⟨g,0,none⟩) n n) n (madeCells (Value.int .u8 0).cells (n*1)).toList):w.heap[g]?=some (.cells (List.replicate n (Value.int .u8 0)).toArray 5):=by
 obtain⟨_,h2⟩:=h
 rcases h2 with ⟨h2,_⟩|⟨g',cap,cur,hv,_,hh,_,_,hs,ht⟩
 ·cases h2
 ·cases hv
  rw [hh]
  have e:cur.toList=List.replicate n (Value.int .u8 0):=by
   have:cur.toList.take (n*1)=cur.toList:=List.take_of_length_le (by simp;omega)
   rw [←this,ht]
   show (madeCells #[Value.int .u8 0] (n*1)).toList=_
   rw [toList_madeCells_one,Nat.mul_one]
  rw [←e]
end Go.Proofs.YtdbjbbdhlpfhjaaGreatDoor
namespace Go.Proofs.YtdbjbbdhlpfhjaaGreatDoor
open Go.RowKit
open Lm
attribute [local go_sem ↓] Go.wp_at_zero Go.wp_at_succ

theorem bt {w:World}{h:Nat}{a b:Value}{t:TypeId}(e:w.heap[h]?=some (.cells #[a,b] t)):w.cell? ⟨h,0,none⟩=some a∧w.cell? ⟨h,1,none⟩=some b:=
 ⟨by simp [World.cell?,e],by simp [World.cell?,e]⟩

theorem fp {w:World}{h:Nat}{a b:Value}{t:TypeId}(e:w.heap[h]?=some (.cells #[a,b] t)):∀k,w.frozen? ⟨h,k,none⟩=false:=fun k=>by simp [World.frozen?,e]

theorem lz1 (w:World):Calls Tryz.prog 115 #[.int .u64 1] w fun e w'=>e=.returned (.int .i64 63)∧w'=w:=
 Tryz.bits_LeadingZeros64 1 w (by omega) (by omega)

theorem nf (w:World):Calls Tryz.prog 222 #[.int .u64 1] w fun e w'=>e=.returned (.agg #[.int .u64 9223372036854775808,.int .i64 (-63)])∧Below w.heap.size w w':=by
 have HB:=aa (aL w (.cells #[.int .u64 9223372036854775808,.int .i64 (-63)] 192))
 go_enter Tryz.func222,Tryz.ntmps222
 go_wp2_with fail
 refine (lz1 _).mono ?_
 rintro e wn ⟨rfl,hw⟩;rw [hw];clear hw wn
 go_wp2
 go_returns
 exact⟨rfl,HB.out⟩

def i6 (w:World)(g:Nat)(l:List (Nat × Value × Nat)):Prop:=∀(i d:Nat) (o:Value) (s:Nat),l[i]?=some (d,o,s)→w.cell? ⟨g,i*3,none⟩=some (.int .i64 d)∧w.cell? ⟨g,i*3+1,none⟩=some o∧w.cell? ⟨g,i*3+2,none⟩=some (.int .i64 s)∧d≤9223372036854775807∧s≤9223372036854775807∧∃a n c,o=.slice a n c

def cE (w:World)(v:Value)(l:List (Nat × Value × Nat)):Prop:=
 (v=.slice none 0 0∧l=[])∨∃g cap,v=.slice (some ⟨g,0,none⟩) l.length cap∧g<w.heap.size∧l.length≤cap∧cap≤9223372036854775807 ∧
  i6 w g l

def f8 (l:List (Nat × Value × Nat))(n:Nat)(w:World)(e:Ending)(w':World):Prop:=
 ((∃(i d:Nat) (o:Value) (s:Nat),l[i]?=some (d,o,s)∧d<n∧(∀(j d':Nat) (o':Value) (s':Nat),i<j→l[j]?=some (d',o',s')→n≤d')∧e=.returned (.tuple #[.agg #[.int .i64 d,o,.int .i64 s],.bool true])) ∨
  ((∀(j d':Nat) (o':Value) (s':Nat),l[j]?=some (d',o',s')→n≤d')∧e=.returned (.tuple #[.agg #[.int .i64 0,.slice none 0 0,.int .i64 0],.bool false])))∧Below w.heap.size w w'

theorem tri {w:World}{h:Nat}{a b c:Value}{t:TypeId}(e:w.heap[h]?=some (.cells #[a,b,c] t)):w.cell? ⟨h,0,none⟩=some a∧w.cell? ⟨h,1,none⟩=some b∧w.cell? ⟨h,2,none⟩=some c:=
 ⟨by simp [World.cell?,e],by simp [World.cell?,e],by simp [World.cell?,e]⟩

theorem iN {w:World}{h:Nat}{a b c:Value}{t:TypeId}(e:w.heap[h]?=some (.cells #[a,b,c] t)):∀k,w.frozen? ⟨h,k,none⟩=false:=fun k=>by simp [World.frozen?,e]

theorem iU {w:World}{h:Nat}{a b c u0 u1 u2:Value}{t:TypeId}(e:w.heap[h]?=some (.cells #[a,b,c] t)):(((w.setCell ⟨h,0,none⟩ u0).setCell ⟨h,1,none⟩ u1).setCell ⟨h,2,none⟩ u2).heap[h]?=some (.cells #[u0,u1,u2] t):=
 eD (eD (eD e u0) u1) u2

theorem iZ {B:Nat}{w0 w:World}{g:Nat}{u0 u1 u2:Value}(h:Below B w0 w)(hg:B≤g):Below B w0 (((w.setCell ⟨g,0,none⟩ u0).setCell ⟨g,1,none⟩ u1).setCell ⟨g,2,none⟩ u2):=
 ((h.setCell (p:=⟨g,0,none⟩) hg u0).setCell (p:=⟨g,1,none⟩) hg u1).setCell (p:=⟨g,2,none⟩) hg u2

theorem my (g cap n:Nat)(l:List (Nat × Value × Nat))(w:World)(hg:g<w.heap.size)(hc:l.length≤cap)(hcm:cap≤9223372036854775807)
  (hl:i6 w g l) :
  Calls Tryz.prog 148 #[.slice (some ⟨g,0,none⟩) l.length cap,.int .i64 n] w (f8 l n w):=by
 obtain⟨w0,hw0⟩:∃w0,w.alloc (.cells #[.int .i64 0,.slice none 0 0,.int .i64 0] 164)=w0:=⟨_,rfl⟩
 have hb0:Below w.heap.size w w0:=by rw [←hw0];exact aL _ _
 have h0:w0.heap[w.heap.size]?=some (.cells #[.int .i64 0,.slice none 0 0,.int .i64 0] 164):=by rw [←hw0];exact heap_alloc_new ..
 have HL:=aa hl
 have HB0:=aa hb0
 have H0:=aa h0
 have HW0:=aa hw0
 clear hl hb0 h0
 go_enter Tryz.func148,Tryz.ntmps148
 go_wp2
 clear hw0
 go_loop [6] (fun i=>∃k:Nat,k≤l.length∧i=.int .i64 ((k:Int) - 1)∧∀(j d':Nat) (o':Value) (s':Nat),k≤j→l[j]?=some (d',o',s')→n≤d') (fun i=>(intOf i+1).toNat)
 case atStart=>exact⟨l.length,Nat.le_refl _,rfl,fun j d' o' s' h1 h2=>by rw [List.getElem?_eq_none h1] at h2;cases h2⟩
 case round=>
  obtain⟨k,hk,rfl,hall⟩:=hrel
  have HA:=aa hall
  clear hall
  by_cases hk0:k=0
  ·subst hk0
   obtain⟨d0,d1,d2⟩:=tri H0.out
   have hf:=iN H0.out
   have R5:=iU H0.out (u0:=.int .i64 0) (u1:=.slice none 0 0) (u2:=.int .i64 0)
   have HD:=aa (iZ HB0.out (g:=w.heap.size) (u0:=.int .i64 0) (u1:=.slice none 0 0) (u2:=.int .i64 0) (Nat.le_refl _))
   go_wp2
   generalize ((w0.setCell ⟨w.heap.size,0,none⟩ (.int .i64 0)).setCell ⟨w.heap.size,1,none⟩ (.slice none 0 0)).setCell ⟨w.heap.size,2,none⟩ (.int .i64 0)=w5 at *
   obtain⟨q0,q1,q2⟩:=tri R5
   clear d0 d1 d2 hf
   refine bodyPost_ret (v:=.tuple #[.agg #[.int .i64 0,.slice none 0 0,.int .i64 0],.bool false]) (by simp [results,Tryz.results148,go_sem,q0,q1,q2]) rfl ?_
   exact⟨.inr ⟨fun j d' o' s' h=>HA.out j d' o' s' (Nat.zero_le _) h,rfl⟩,HD.out⟩
  ·obtain⟨j,rfl⟩:∃j,k=j+1:=⟨k - 1,by omega⟩
   have ej:(((j+1:Nat):Int) - 1)=(j:Int):=by omega
   rw [ej]
   have hjl:j<l.length:=by omega
   obtain⟨d,o,s,hd⟩:∃d o s,l[j]?=some (d,o,s):=⟨_,_,_,List.getElem?_eq_getElem hjl⟩
   obtain⟨c0,c1,c2,hdm,hsm,a,n',c',rfl⟩:=HL.out j d o s hd
   rw [←HB0.out.cell (p:=⟨g,j*3,none⟩) hg] at c0
   rw [←HB0.out.cell (p:=⟨g,j*3+1,none⟩) hg] at c1
   rw [←HB0.out.cell (p:=⟨g,j*3+2,none⟩) hg] at c2
   have hj0:(0:Int)≤(j:Int):=by omega
   have hjl':(j:Int)<(l.length:Int):=by omega
   by_cases hdn:d<n
   ·have hi:(d:Int)<(n:Int):=by omega
    obtain⟨d0,d1,d2⟩:=tri H0.out
    have hf:=iN H0.out
    have R5:=iU H0.out (u0:=.int .i64 d) (u1:=.slice a n' c') (u2:=.int .i64 s)
    have HD:=aa (iZ HB0.out (g:=w.heap.size) (u0:=.int .i64 d) (u1:=.slice a n' c') (u2:=.int .i64 s) (Nat.le_refl _))
    have HR:=aa hd
    clear hd
    go_wp2
    generalize ((w0.setCell ⟨w.heap.size,0,none⟩ (.int .i64 d)).setCell ⟨w.heap.size,1,none⟩ (.slice a n' c')).setCell ⟨w.heap.size,2,none⟩ (.int .i64 s)=w5 at *
    obtain⟨q0,q1,q2⟩:=tri R5
    clear d0 d1 d2 hf c0 c1 c2
    refine bodyPost_ret (v:=.tuple #[.agg #[.int .i64 d,.slice a n' c',.int .i64 s],.bool true]) (by simp [results,Tryz.results148,go_sem,q0,q1,q2]) rfl ?_
    exact⟨.inl ⟨j,d,_,s,HR.out,hdn,fun i d' o' s' h1 h2=>HA.out i d' o' s' (by omega) h2,rfl⟩,HD.out⟩
   ·have hi:¬((d:Int)<(n:Int)):=by omega
    go_wp2
    go_round
    case rel=>
     refine⟨j,by omega,rfl,fun i d' o' s' h1 h2=>?_⟩
     rcases Nat.lt_or_ge j i with h3|h3
     ·exact HA.out i d' o' s' (by omega) h2
     ·obtain rfl:i=j:=by omega
      rw [hd] at h2
      cases h2
      omega
    case measure=>simp [intOf]

theorem qD (n:Nat)(w:World):Calls Tryz.prog 148 #[.slice none 0 0,.int .i64 n] w (f8 [] n w):=by
 have HB:=aa (aL w (.cells #[.int .i64 0,.slice none 0 0,.int .i64 0] 164))
 go_enter Tryz.func148,Tryz.ntmps148
 go_wp2
 refine wp_loop_rounds 1 ?_
 rw [rounds_succ]
 go_wp2
 go_returns
 exact⟨.inr ⟨fun j d' o' s' h=>by simp at h,rfl⟩,HB.out⟩

theorem pv (v:Value)(n:Nat)(l:List (Nat × Value × Nat))(w:World)(h:cE w v l):Calls Tryz.prog 148 #[v,.int .i64 n] w (f8 l n w):=by
 rcases h with ⟨rfl,rfl⟩|⟨g,cap,rfl,hg,hc,hcm,hl⟩
 ·exact qD n w
 ·exact my g cap n l w hg hc hcm hl

theorem iR (n:Nat):(Builtin.zeroCells (Value.int .u64 0).cells n).size=n:=by
 simp [Builtin.zeroCells,Value.cells]

theorem rD (n:Nat)(w:World)(hn:0<n)(hm:n≤17592186044416) :
  Calls Tryz.prog 225 #[.slice none 0 0,.int .i64 n] w fun e w'=>(∃cap,e=.returned (.slice (some ⟨w.heap.size,0,none⟩) 0 cap)∧w'.ownsRow w.heap.size 61 1 (.slice (some ⟨w.heap.size,0,none⟩) 0 cap) 0 [])∧Below w.heap.size w w':=by
 obtain⟨i0,hi,hz0,hz1,hz2⟩:=info_parts Tryz.infoU
 have i1:¬((n:Int)<0):=by omega
 have i2:(0:Int)<(n:Int):=by omega
 have HR:=Lib.run_append_nil_zeros (P:=Tryz.prog) w 25 3 25 61 i0 (.int .u64 0) .i64 .i64 Tryz.underlying25 Tryz.underlying3 hi hz0 n hn (by omega) (by omega) (by rw [hz2];omega)
 have hge:=grownCap_ge w n 0 61
 have hml:=grownCap_le_maxLen w n 0 61 (by unfold maxLen;omega)
 obtain⟨cap,hcap⟩:∃cap,grownCap w n 0 61=cap:=⟨_,rfl⟩
 rw [hcap] at HR hge hml
 obtain⟨w1,hw1⟩:∃w1,w.drew.alloc (.cells (Builtin.zeroCells (Value.int .u64 0).cells n ++ Builtin.zeroCells (Value.int .u64 0).cells (cap - n)) 61)=w1:=⟨_,rfl⟩
 have HO:Hid (w1.ownsRow w.heap.size 61 1 (.slice (some ⟨w.heap.size,0,none⟩) 0 cap) 0 []):=by
  refine⟨rfl,.inr ⟨w.heap.size,cap,_,rfl,Nat.le_refl _,by rw [←hw1];exact heap_alloc_new _ _,Nat.zero_le _,hml,?_,by simp⟩⟩
  rw [Array.size_append,iR,iR]
  omega
 have HB:Hid (Below w.heap.size w w1):=by
  rw [←hw1]
  exact (Below.refl w.heap.size w).drew.alloc (Nat.le_refl _) _
 rw [hw1] at HR
 clear hw1 hi hz0 hz1 hz2 hcap hml
 go_enter Tryz.func225,Tryz.ntmps225
 go_wp2_with (at_builtin;refine Lib.wpList_append_run _ rfl _ _ _ _ rfl _ _ rfl rfl _ _ HR ?_)
 go_wp2
 go_ret
 exact⟨⟨cap,rfl,HO.out⟩,HB.out⟩

theorem qt (gs:Nat)(ad:Addr)(c:Nat)(X:List Nat)(w:World)(hg:w.heap[gs]?=some (.cells #[.slice (some ad) X.length c,.slice none 0 0] 25))(hA:Arg w (.slice (some ad) X.length c) X)(hX:0<X.length)(hm:X.length≤17592186044416) :
  Calls Tryz.prog 205 #[.slice (some ⟨gs,0,none⟩) 2 2] w fun e w'=>(∃v',e=.returned v'∧Ans w' w.heap.size v' X)∧Below w.heap.size w w':=by
 obtain⟨i0,hi,hz0,hz1,hz2⟩:=info_parts Tryz.infoU
 have HL:=aa hA.limbs
 have c0:w.cell? ⟨gs,0,none⟩=some (.slice (some ad) X.length c):=by simp [World.cell?,hg]
 have c1:w.cell? ⟨gs,1,none⟩=some (.slice none 0 0):=by simp [World.cell?,hg]
 have HG:=aa hg
 have HA:=aa hA
 have C:=rD X.length w hX hm
 have i1:¬((X.length:Int)<0):=by omega
 clear hg hA
 go_enter Tryz.func205,Tryz.ntmps205
 go_wp2
 refine wp_loop_rounds 3 ?_
 rw [rounds_succ]
 go_wp2
 rw [rounds_succ]
 go_wp2
 rw [rounds_succ]
 go_wp2_with fail
 refine C.mono ?_
 rintro e w1 ⟨⟨cap,rfl,hown⟩,hb⟩
 have hA1:=HA.out.below hb
 have hg1:=(hb.block gs (lt_of_block HG.out)).trans HG.out
 have d0:w1.cell? ⟨gs,0,none⟩=some (.slice (some ad) X.length c):=by simp [World.cell?,hg1]
 have hnews:∀j u,(X.map lv)[j]?=some u→w1.cell? (ad.add j)=some u:=by
  intro j u hj
  obtain⟨_,_,e,_,_,hl⟩:=hA1.form
  cases e
  rcases hl with rfl|⟨b,off,he,hc⟩
  ·simp at hj
  ·cases he
   rw [List.getElem?_map] at hj
   obtain⟨z,hz,rfl⟩:=Option.map_eq_some_iff.1 hj
   have hjl:j<X.length:=(List.getElem?_eq_some_iff.1 hz).1
   have:=hc j hjl
   simp only [List.getD,hz,Option.getD_some] at this
   rw [ku]
   exact this
 have HB:=aa hb
 have HG1:=aa hg1
 have HOW:=aa hown
 have hle:=hb.size
 clear C c0 c1 hA1 hg1 hb hown HA HG1
 go_wp2
 refine wp_loop_rounds 3 ?_
 rw [rounds_succ]
 go_wp2_with (at_builtin;refine wpList_append_own _ rfl _ _ 25 rfl w.heap.size 61 i0 (.int .u64 0) 1 8 Tryz.underlying25 hi hz0 hz1 hz2 rfl (by decide) _ 0 [] rfl HOW.out ad X.length c (X.map lv) rfl (by simp) hnews (fS X) (by unfold maxLen;omega) (by omega) hle ?_;intro v' w2 hown2 hgrow _)
 rw [Nat.zero_add,List.nil_append] at hown2
 have HB2:Hid (Below w.heap.size w w2):=(HB.out).grown hgrow hle (fun g hg=>(HOW.out.lt g hg).1)
 have HO2:=aa hown2
 clear hnews d0 hgrow HOW
 have d1:w2.cell? ⟨gs,1,none⟩=some (.slice none 0 0):=by
  have hg2:=(HB2.out.block gs (lt_of_block HG.out)).trans HG.out
  simp [World.cell?,hg2]
 rw [rounds_succ]
 go_wp2_with (at_builtin;refine wpList_append_own_none rfl _ _ 25 rfl w.heap.size 61 i0 1 Tryz.underlying25 hi _ X.length (X.map lv) rfl HO2.out rfl ?_)
 rw [rounds_succ]
 go_wp2
 go_ret
 exact⟨⟨_,rfl,HO2.out,HL.out⟩,HB2.out⟩
end Go.Proofs.YtdbjbbdhlpfhjaaGreatDoor
namespace Go.Proofs.YtdbjbbdhlpfhjaaGreatDoor
open Lm

def seg (Z:List Nat)(o n:Nat):List Nat:=(Z.drop o).take n

def sv (Z:List Nat)(o n:Nat):Nat:=val (seg Z o n)

structure Out (Z Z':List Nat)(lo hi:Nat):Prop where
 len:Z'.length=Z.length
 same:∀k,k<lo∨hi≤k→Z'.getD k 0=Z.getD k 0

theorem Out.refl (Z:List Nat)(lo hi:Nat):Out Z Z lo hi:=⟨rfl,fun _ _=>rfl⟩

theorem Out.trans {Z Z' Z'':List Nat}{lo hi:Nat}(h:Out Z Z' lo hi)(k:Out Z' Z'' lo hi):Out Z Z'' lo hi:=
 ⟨k.len.trans h.len,fun j hj=>(k.same j hj).trans (h.same j hj)⟩

theorem Out.wider {Z Z':List Nat}{lo hi lo' hi':Nat}(h:Out Z Z' lo hi)(h1:lo'≤lo)(h2:hi≤hi'):Out Z Z' lo' hi':=
 ⟨h.len,fun k hk=>h.same k (by omega)⟩

theorem cP (Z:List Nat)(j k z:Nat):(Z.set j z).getD k 0=if j=k∧k<Z.length then z else Z.getD k 0:=by
 by_cases h:j=k
 ·subst h
  by_cases hl:j<Z.length
  ·simp [List.getD,hl]
  ·simp [List.getD,hl]
 ·simp [List.getD,h]

theorem Out.set {Z Z':List Nat}{lo hi:Nat}(h:Out Z Z' lo hi)(j z:Nat)(h1:lo≤j)(h2:j<hi):Out Z (Z'.set j z) lo hi:=
 ⟨by simp [h.len],fun k hk=>by rw [cP,if_neg (by omega)];exact h.same k hk⟩

theorem bA (Z:List Nat)(o n:Nat)(h:o+n≤Z.length):(seg Z o n).length=n:=by
 simp [seg];omega

theorem dF (Z:List Nat)(o n k:Nat)(h:k<n):(seg Z o n).getD k 0=Z.getD (o+k) 0:=by
 simp [seg,List.getD,h]

theorem ii {a b:List Nat}(hl:a.length=b.length)(h:∀k,k<a.length→a.getD k 0=b.getD k 0):a=b:=by
 refine List.ext_getElem hl fun k h1 h2=>?_
 have:=h k h1
 simpa [List.getD,h1,h2] using this

theorem Out.seg {Z Z':List Nat}{lo hi:Nat}(h:Out Z Z' lo hi)(o n:Nat)(hd:o+n≤lo∨hi≤o):seg Z' o n=seg Z o n:=by
 have hl:(Go.Proofs.YtdbjbbdhlpfhjaaGreatDoor.seg Z' o n).length=(Go.Proofs.YtdbjbbdhlpfhjaaGreatDoor.seg Z o n).length:=by simp [Go.Proofs.YtdbjbbdhlpfhjaaGreatDoor.seg,h.len]
 refine ii hl fun k hk=>?_
 have hk':k<n:=by simp [Go.Proofs.YtdbjbbdhlpfhjaaGreatDoor.seg] at hk;omega
 rw [dF _ _ _ _ hk',dF _ _ _ _ hk',h.same _ (by omega)]

theorem Out.sv {Z Z':List Nat}{lo hi:Nat}(h:Out Z Z' lo hi)(o n:Nat)(hd:o+n≤lo∨hi≤o):sv Z' o n=sv Z o n:=by
 unfold Go.Proofs.YtdbjbbdhlpfhjaaGreatDoor.sv;rw [h.seg o n hd]

theorem aM (Z:List Nat)(o:Nat):sv Z o 0=0:=by simp [sv,seg,val]

theorem au (Z:List Nat)(o m n:Nat)(h:o+m≤Z.length):sv Z o (m+n)=sv Z o m+18446744073709551616 ^ m*sv Z (o+m) n:=by
 unfold sv
 have e:seg Z o (m+n)=seg Z o m ++ seg Z (o+m) n:=by
  unfold seg
  rw [List.take_add,List.drop_drop]
 rw [e,val_append,bA Z o m h]

theorem fe (Z:List Nat)(o:Nat)(h:o<Z.length):sv Z o 1=Z.getD o 0:=by
 unfold sv seg
 rw [List.drop_eq_getElem_cons h,List.take_succ_cons,List.take_zero,val,val]
 simp [List.getD,h]

theorem dE (Z:List Nat)(o i:Nat)(h:o+i<Z.length):sv Z o (i+1)=sv Z o i+18446744073709551616 ^ i*Z.getD (o+i) 0:=by
 rw [au Z o i 1 (by omega),fe _ _ h]

theorem du {Z:List Nat}(h:Limbs Z)(o n:Nat):Limbs (seg Z o n):=fun z hz=>h z (List.mem_of_mem_drop (List.mem_of_mem_take hz))

theorem bU {Z:List Nat}(h:Limbs Z)(o n:Nat):sv Z o n<18446744073709551616 ^ n:=by
 have h1:=val_lt (du h o n)
 refine Nat.lt_of_lt_of_le h1 (Nat.pow_le_pow_right (by omega) ?_)
 simp [seg];omega

theorem cM (Z:List Nat)(o i z:Nat)(h:o+i<Z.length):sv (Z.set (o+i) z) o (i+1)=sv Z o i+18446744073709551616 ^ i*z:=by
 rw [dE _ _ _ (by simpa using h),cP,if_pos ⟨rfl,h⟩]
 have e:Out Z (Z.set (o+i) z) (o+i) (o+i+1):=(Out.refl _ _ _).set _ _ (by omega) (by omega)
 rw [e.sv o i (by omega)]

theorem bC (Z:List Nat):sv Z 0 Z.length=val Z:=by simp [sv,seg]

theorem oy (Z Z' X:List Nat)(o i m cy hi lo:Nat)(hz:o+i<Z'.length)(h0:Z'.getD (o+i) 0=Z.getD (o+i) 0)(hZ:Z'.length=Z.length)
  (h:sv Z' o i+cy*18446744073709551616 ^ i=sv Z o i+val (X.take i)*m)
  (hs:lo+hi*18446744073709551616=X.getD i 0*m+Z.getD (o+i) 0+cy) :
  sv (Z'.set (o+i) lo) o (i+1)+hi*18446744073709551616 ^ (i+1)=sv Z o (i+1)+val (X.take (i+1))*m:=by
 have:=h0
 rw [cM _ _ _ _ hz,dE Z o i (by omega),val_take_next X i,show (18446744073709551616:Nat) ^ (i+1)=18446744073709551616 ^ i*18446744073709551616 from Nat.pow_succ ..]
 generalize sv Z' o i=V' at *
 generalize sv Z o i=V at *
 generalize val (X.take i)=U at *
 generalize Z.getD (o+i) 0=z at *
 generalize X.getD i 0=x at *
 generalize (18446744073709551616:Nat) ^ i=P at *
 generalize (18446744073709551616:Nat)=W at *
 grind

theorem pb (x m z cy:Nat)(hx:x<18446744073709551616)(hm:m<18446744073709551616)(hz:z<18446744073709551616)(hc:cy<18446744073709551616) :
  x*m+z+cy<18446744073709551616*18446744073709551616:=by
 have h:=Nat.mul_le_mul (Nat.le_sub_one_of_lt hx) (Nat.le_sub_one_of_lt hm)
 omega
end Go.Proofs.YtdbjbbdhlpfhjaaGreatDoor
namespace Go.Proofs.YtdbjbbdhlpfhjaaGreatDoor
open Go.RowKit
open Lm

theorem oE (b off cap:Nat)(zs:List Nat)(w:World)(hcap:zs.length≤cap)(hmax:cap≤9223372036854775807)
  (hc:∀k,k<zs.length→w.cell? ⟨b,off+k,none⟩=some (.int .u64 ((zs.getD k 0:Nat):Int))) :
  Calls Tryz.prog 174 #[.slice (some ⟨b,off,none⟩) zs.length cap] w fun e w'=>e=.returned (.slice (some ⟨b,off,none⟩) (tr zs).length cap)∧w'=w:=by
 go_enter Tryz.func174,Tryz.ntmps174
 go_wp2
 go_loop [3] (fun n=>∃k:Nat,k≤zs.length∧n=.int .i64 k∧tr (zs.take k)=tr zs) (fun n=>(intOf n).toNat)
 case atStart=>exact⟨zs.length,Nat.le_refl _,rfl,by rw [List.take_length]⟩
 case round=>
  obtain⟨k,hk,rfl,ht⟩:=hrel
  have HT:Hid (tr (zs.take k)=tr zs):=ht
  clear ht
  by_cases h0:k=0
  ·subst h0
   go_wp2
   go_ret
   have e:=HT.out
   simp only [List.take_zero,tr] at e
   rw [←e]
   exact⟨rfl,rfl⟩
  ·obtain⟨j,rfl⟩:∃j,k=j+1:=⟨k - 1,by omega⟩
   have hcj:=hc j (by omega)
   clear hc
   by_cases hz:zs.getD j 0=0
   ·have HZ:Hid (tr (zs.take j)=tr zs):=by rw [←tr_step zs j (by omega) hz];exact HT.out
    rw [hz] at hcj
    clear hz HT
    go_wp2
    go_round
    case rel=>exact⟨j,by omega,by go_num,HZ.out⟩
    case measure=>simp [intOf]
   ·have HZ:Hid (tr zs=zs.take (j+1)):=by rw [←HT.out];exact tr_stop zs j (by omega) hz
    clear HT
    generalize zs.getD j 0=z at hcj hz
    have hne:((z:Int) == 0)=false:=by rw [beq_eq_false_iff_ne];omega
    clear hz
    go_wp2
    go_ret
    rw [HZ.out]
    have e:(zs.take (j+1)).length=j+1:=by simp;omega
    rw [e]
    exact⟨rfl,rfl⟩

theorem rn (ao:Option Addr)(cap:Nat)(w:World)(_hmax:cap≤9223372036854775807) :
  Calls Tryz.prog 174 #[.slice ao 0 cap] w fun e w'=>e=.returned (.slice ao 0 cap)∧w'=w:=by
 go_enter Tryz.func174,Tryz.ntmps174
 go_wp2
 refine wp_loop_rounds 1 ?_
 rw [rounds_succ]
 go_wp2
 go_ret
 exact⟨rfl,rfl⟩

theorem ce (ao:Option Addr)(cap:Nat)(zs:List Nat)(w:World)(hcap:zs.length≤cap)(hmax:cap≤9223372036854775807)(hl:an w ao zs) :
  Calls Tryz.prog 174 #[.slice ao zs.length cap] w fun e w'=>e=.returned (.slice ao (tr zs).length cap)∧w'=w:=by
 rcases hl with rfl|⟨b,off,rfl,hc⟩
 ·exact rn ao cap w hmax
 ·exact oE b off cap zs w hcap hmax hc

structure Fr (bz:Nat)(w w':World):Prop where
 os:w'.os=w.os
 tape:w'.tape=w.tape
 output:w'.output=w.output
 size:w.heap.size≤w'.heap.size
 block:∀k,k<w.heap.size→k≠bz→w'.heap[k]?=w.heap[k]?

theorem Fr.refl (bz:Nat)(w:World):Fr bz w w:=⟨rfl,rfl,rfl,Nat.le_refl _,fun _ _ _=>rfl⟩

theorem Fr.trans {bz:Nat}{a b c:World}(h:Fr bz a b)(k:Fr bz b c):Fr bz a c:=
 ⟨k.os.trans h.os,k.tape.trans h.tape,k.output.trans h.output,Nat.le_trans h.size k.size,fun i h1 h2=>(k.block i (Nat.lt_of_lt_of_le h1 h.size) h2).trans (h.block i h1 h2)⟩

theorem Fr.setCell {bz:Nat}{a w:World}(h:Fr bz a w)(off:Nat)(u:Value):Fr bz a (w.setCell ⟨bz,off,none⟩ u):=
 ⟨h.os,h.tape,h.output,by simpa using h.size,fun k h1 h2=>(Below.heap_setCell w _ u k h2).trans (h.block k h1 h2)⟩

theorem Fr.drew {bz:Nat}{a w:World}(h:Fr bz a w):Fr bz a w.drew:=⟨h.os,h.tape,h.output,h.size,h.block⟩

theorem Fr.of_below {bz:Nat}{w w':World}(h:Below w.heap.size w w'):Fr bz w w':=⟨h.os,h.tape,h.output,h.size,fun k h1 _=>h.block k h1⟩

theorem Fr.below {bz base:Nat}{w w':World}(h:Fr bz w w')(h1:base≤bz)(h2:base≤w.heap.size):Below base w w':=
 ⟨h.os,h.tape,h.output,h.size,fun k hk=>h.block k (by omega) (by omega)⟩

def Off (v:Value)(bz lo hi:Nat):Prop:=∀b off n c,v=.slice (some ⟨b,off,none⟩) n c→b≠bz∨off+n≤lo∨hi≤off

theorem an.fr {w w':World}{ao:Option Addr}{X Z Z':List Nat}{bz lo hi:Nat}(h:an w ao X)(ho:∀b off,ao=some ⟨b,off,none⟩→b≠bz∨off+X.length≤lo∨hi≤off)
  (hf:Fr bz w w') (hb:Blk w bz Z) (hb':Blk w' bz Z') (hz:Out Z Z' lo hi):an w' ao X:=by
 rcases h with h|⟨b,off,rfl,hc⟩
 ·exact .inl h
 ·rcases Nat.eq_zero_or_pos X.length with h0|h0
  ·exact .inl (List.length_eq_zero_iff.1 h0)
  refine .inr ⟨b,off,rfl,fun k hk=>?_⟩
  have hlt:b<w.heap.size:=an.block (zs:=X) (.inr ⟨b,off,rfl,hc⟩) h0
  by_cases hbz:b=bz
  ·subst hbz
   have h1:=hc k hk
   have hin:off+k<Z.length:=by
    refine Nat.lt_of_not_le fun hle=>?_
    have:w.cell? ⟨b,off+k,none⟩=none:=by
     unfold Blk at hb
     simp [World.cell?,hb];omega
    rw [this] at h1;cases h1
   rw [hb.cell _ hin] at h1
   rw [hb'.cell _ (by rw [hz.len];exact hin),hz.same _ (by have:=ho b off rfl;omega)]
   exact h1
  ·have:=hf.block b hlt hbz
   rw [World.cell?_of_block (w:=w) this]
   exact hc k hk

theorem Arg.fr {w w':World}{v:Value}{X Z Z':List Nat}{bz lo hi:Nat}(h:Arg w v X)(ho:Off v bz lo hi)
  (hf:Fr bz w w') (hb:Blk w bz Z) (hb':Blk w' bz Z') (hz:Out Z Z' lo hi):Arg w' v X:=by
 obtain⟨ao,cap,h1,h2,h3,h4⟩:=h.form
 exact⟨⟨ao,cap,h1,h2,h3,h4.fr (fun b off e=>by subst e;exact ho b off _ _ h1) hf hb hb' hz⟩,h.limbs,h.few,h.nz⟩
end Go.Proofs.YtdbjbbdhlpfhjaaGreatDoor
namespace Go.Proofs.YtdbjbbdhlpfhjaaGreatDoor
open Go.RowKit
open Lm
attribute [local go_sem ↓] Go.wp_at_zero Go.wp_at_succ

theorem m7 (P z cy:Nat)(h:P+z+cy<340282366920938463463374607431768211456)(_hz:z<18446744073709551616)(_hc:cy<18446744073709551616) :
  ((P % 18446744073709551616+z) % 18446744073709551616+cy) % 18446744073709551616+(P / 18446744073709551616+(P % 18446744073709551616+z) / 18446744073709551616+((P % 18446744073709551616+z) % 18446744073709551616+cy) / 18446744073709551616)*18446744073709551616=P+z+cy ∧
  P / 18446744073709551616+(P % 18446744073709551616+z) / 18446744073709551616<18446744073709551616 ∧
  P / 18446744073709551616+(P % 18446744073709551616+z) / 18446744073709551616+((P % 18446744073709551616+z) % 18446744073709551616+cy) / 18446744073709551616<18446744073709551616 ∧
  ((P % 18446744073709551616+z) % 18446744073709551616+cy) % 18446744073709551616<18446744073709551616:=by
 omega

theorem iM (bz zo cap:Nat)(Z:List Nat)(v1:Value)(X:List Nat)(m:Nat)(w:World)(hB:Blk w bz Z)(hLZ:Limbs Z)(hA:Arg w v1 X)(ho:Off v1 bz zo (zo+X.length))
  (hzo:zo+X.length≤Z.length) (hc1:X.length≤cap) (hc2:cap≤9223372036854775807) (hm:m<18446744073709551616) :
  Calls Tryz.prog 212 #[.slice (some ⟨bz,zo,none⟩) X.length cap,v1,.int .u64 m] w fun e w'=>∃(cy:Nat) (Z':List Nat),e=.returned (.int .u64 (cy:Int))∧cy<18446744073709551616 ∧
   Out Z Z' zo (zo+X.length)∧Limbs Z'∧Blk w' bz Z'∧Fr bz w w'∧sv Z' zo X.length+cy*18446744073709551616 ^ X.length=sv Z zo X.length+val X*m:=by
 obtain⟨a1,c1,rfl,hcc1,hcm1,hl1⟩:=hA.form
 have M1:=hA.limbs
 have hX:=hA.few
 have hao:∀b off,a1=some ⟨b,off,none⟩→b≠bz∨off+X.length≤zo∨zo+X.length≤off:=fun b off e=>by subst e;exact ho b off _ _ rfl
 clear ho hA
 go_enter Tryz.func212,Tryz.ntmps212
 go_wp2
 go_loopw [7,16] (fun c i wr=>∃(k cy:Nat) (Z':List Nat),k≤X.length∧i=.int .i64 k∧c=.int .u64 cy∧cy<18446744073709551616∧Out Z Z' zo (zo+k)∧Limbs Z'∧Blk wr bz Z'∧Fr bz w wr ∧
   sv Z' zo k+cy*18446744073709551616 ^ k=sv Z zo k+val (X.take k)*m) (fun _ i _=>X.length - (intOf i).toNat)
 case atStart=>exact⟨0,0,Z,Nat.zero_le _,rfl,rfl,by omega,Out.refl _ _ _,hLZ,hB,Fr.refl _ _,by simp [aM,val]⟩
 case round=>
  obtain⟨k,cy,Z',hk,rfl,rfl,hcy,hout,hlz,hblk,hfr0,hval⟩:=hrel
  have HV:=aa hval
  have HB:=aa hblk
  have HF:=aa hfr0
  have HO:=aa hout
  have hl:=hout.len
  clear hval
  by_cases hkl:k<X.length
  ·rcases hl1.fr hao hfr0 hB hblk (hout.wider (Nat.le_refl _) (by omega)) with h0|⟨b,off,rfl,hcell⟩
   ·rw [h0] at hkl;simp at hkl
   ·have hck:=hcell k hkl
    have hfr:=hblk.free (zo+k)
    have hco:=hblk.cell (zo+k) (by omega)
    have z1:=limb_lt M1 k
    have z2:=limb_lt hlz (zo+k)
    have hsame:=hout.same (zo+k) (by omega)
    have hft:=pb (X.getD k 0) m (Z'.getD (zo+k) 0) cy z1 hm z2 hcy
    have hlm:=m7 (X.getD k 0*m) (Z'.getD (zo+k) 0) cy hft z2 hcy
    have HS:=aa (fun hi lo hs=>oy Z Z' X zo k m cy hi lo (by omega) hsame hl HV.out hs)
    rw [←hsame] at HS
    have ha1:=bk (X.getD k 0*m % 18446744073709551616) (Z'.getD (zo+k) 0)
    have ha2:=bk ((X.getD k 0*m % 18446744073709551616+Z'.getD (zo+k) 0) % 18446744073709551616) cy
    have hM:=Tryz.bits_Mul64 (X.getD k 0) m z1 hm wr
    generalize Z'.getD (zo+k) 0=z at *
    generalize X.getD k 0=x at *
    generalize hP:x*m=P at *
    clear hP hft hsame
    obtain⟨q1,q2,q3,q4⟩:=hlm
    have HS2:=aa (HS.out _ _ q1)
    clear HS q1
    generalize ((P % 18446744073709551616+z) % 18446744073709551616+cy) % 18446744073709551616=s at *
    generalize ((P % 18446744073709551616+z) % 18446744073709551616+cy) / 18446744073709551616=o2 at *
    generalize (P % 18446744073709551616+z) % 18446744073709551616=s1 at *
    generalize (P % 18446744073709551616+z) / 18446744073709551616=o1 at *
    generalize P / 18446744073709551616=h1 at *
    generalize P % 18446744073709551616=l1 at *
    have e1:(h1:Int)+(o1:Int)=((h1+o1:Nat):Int):=by omega
    generalize h1+o1=h2 at *
    have e2:(h2:Int)+(o2:Int)=((h2+o2:Nat):Int):=by omega
    generalize h2+o2=h3 at *
    clear hcell hblk hfr0 hout HV M1 hl1 hB hLZ
    go_wp2_with fail
    refine hM.mono ?_
    rintro e w2 ⟨rfl,rfl⟩
    clear hM
    go_wp2
    go_roundw
    case rel=>exact⟨k+1,h3,Z'.set (zo+k) s,by omega,by go_num,rfl,q3,(HO.out.wider (Nat.le_refl _) (by omega)).set _ _ (by omega) (by omega),limbs_set hlz _ _ q4,HB.out.set _ s,HF.out.setCell _ _,HS2.out⟩
    case measure=>simp [intOf];omega
  ·have ek:k=X.length:=by omega
   subst ek
   rw [List.take_length] at HV
   clear hblk hfr0 hout hl1 hB
   go_wp2
   go_ret
   exact⟨cy,Z',rfl,hcy,HO.out,hlz,HB.out,HF.out,HV.out⟩
end Go.Proofs.YtdbjbbdhlpfhjaaGreatDoor

