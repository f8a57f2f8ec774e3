/- The reference's numbers: Of. -/
import Derived.Test.YteehipcoeocojaaGreatDoorB01
import Derived.Laws.AppendOwnNone
import Derived.Deep.CutBlock
import Derived.Deep.DeepCutAuto
import Derived.Maps.AppendAt
import Derived.LoopN
import Derived.Handy
import Derived.Laws.IdiomStrings
set_option maxRecDepth 100000
set_option maxHeartbeats 1000000
namespace Go.Proofs.YteehipcoeocojaaGreatDoor
open Go.RowKit
open Lm

theorem fD {w:World}(l:List Nat)(j:Nat)(u:Value)(hj:(l.map lv)[j]?=some u):(w.alloc (.cells (l.map lv).toArray 63)).cell? ((⟨w.heap.size,0,none⟩:Addr).add j)=some u:=by
 have e:(⟨w.heap.size,0,none⟩:Addr).add j=⟨w.heap.size,j,none⟩:=by
  unfold Addr.add;split <;> simp_all
 rw [e]
 simp only [World.cell?,heap_alloc_new]
 simpa using hj

theorem cY (zs:List Nat):∀u ∈ zs.map lv,u.oneCell'=true:=by
 intro u hu
 obtain⟨z,_,rfl⟩:=List.mem_map.1 hu
 rfl

theorem cX (v:Value)(zs:List Nat)(w:World)(h:Arg w v zs)(hf:zs.length≤17592186044416) :
  Calls Tryz.prog 10 #[v] w fun e w'=>(∃v',e=.returned v'∧Num w' v' (val zs))∧Below w.heap.size w w':=by
 obtain⟨ao,cap,rfl,hcap,hmax,L1⟩:=h.form
 have M1:=h.limbs
 obtain⟨i0,hi,hz0,hz1,hz2⟩:=info_parts Tryz.infoU
 clear h
 go_enter Tryz.func10,Tryz.ntmps10
 go_wp2_with (at_make;refine wpList_make_own _ rfl _ _ 26 rfl w.heap.size 63 i0 (.int .u64 0) 1 Tryz.underlying26 hi hz0 hz1 .i64 .i64 _ (2*zs.length) rfl rfl (by omega) (by rw [hz2];omega) (by unfold maxLen;omega) (Nat.le_refl _) ?_;intro w1 hown hgrow)
 have hbel:Below w.heap.size w w1:=(Below.refl _ _).grown hgrow (Nat.le_refl _) (fun k hk=>by cases hk)
 have hsz:w.heap.size<w1.heap.size:=by
  have:=hown.lt w.heap.size rfl
  exact this.2
 clear hgrow hz0 hz2
 go_loopw [3,12] (fun o i wr=>∃k:Nat,k≤zs.length∧i=.int .i64 k∧o=.slice (some ⟨w.heap.size,0,none⟩) (2*k) (2*zs.length)∧wr.ownsRow w.heap.size 63 1 (.slice (some ⟨w.heap.size,0,none⟩) (2*k) (2*zs.length)) (2*k) ((halves (zs.take k)).map lv)∧Below w.heap.size w wr) (fun _ i _=>zs.length - (intOf i).toNat)
 case atStart=>exact⟨0,Nat.zero_le _,rfl,rfl,hown,hbel⟩
 case round=>
  obtain⟨k,hk,rfl,rfl,ho,hbl⟩:=hrel
  clear hown hbel
  by_cases hkl:k<zs.length
  ·rcases L1.below hbl with h0|⟨b,off,rfl,hcell⟩
   ·simp [h0] at hkl
   ·have hck:=hcell k hkl
    have z1:=limb_lt M1 k
    have HT:=aa (halves_take zs k hkl)
    generalize zs.getD k 0=z at *
    have e1:(z:Int) % 4294967296=((z % 4294967296:Nat):Int):=by omega
    have e2:(z:Int) / 4294967296=((z / 4294967296:Nat):Int):=by omega
    have b1:z % 4294967296<4294967296:=by omega
    have b2:z / 4294967296<4294967296:=by omega
    generalize z % 4294967296=lo at *
    generalize z / 4294967296=hh at *
    have HB:=aa hbl
    clear hcell L1 M1 hbl
    go_wp2_with (at_builtin;refine wpList_append_fits _ rfl _ _ 26 rfl w.heap.size 63 i0 1 Tryz.underlying26 hi hz1 w.heap.size (2*k) (2*zs.length) _ rfl (ho.alloc _) ⟨wr.heap.size,0,none⟩ 2 2 ([lo,hh].map lv) rfl rfl (fD [lo,hh]) (cY _) (by omega) ?_;intro w2 hown2 hgrow2)
    have HO:=aa hown2
    have HB2:=aa ((HB.out.alloc HB.out.size (.cells ([lo,hh].map lv).toArray 63)).grown hgrow2 (by have:=HB.out.size;simp;omega) (fun k hk=>by cases hk;exact Nat.le_refl _))
    clear hown2 hgrow2 ho hck
    go_wp2
    go_roundw
    case rel=>
     refine⟨k+1,by omega,by go_num,rfl,?_,HB2.out⟩
     rw [HT.out,List.map_append]
     exact HO.out
    case measure=>simp [intOf];omega
  ·have ek:k=zs.length:=by omega
   subst ek
   rw [List.take_length] at ho
   have el:=halves_length zs
   have hA:Ans wr w.heap.size (.slice (some ⟨w.heap.size,0,none⟩) (2*zs.length) (2*zs.length)) (halves zs):=⟨by rw [el];exact ho,digs_limbs (halves_digs M1)⟩
   have H:=dJ _ _ _ (hA.arg (by omega)) (halves_digs M1) (by omega)
   rw [halves_val] at H
   have HB:=aa hbl
   clear ho hA hbl L1 M1
   go_wp2_with fail
   refine H.mono ?_
   rintro e w2 ⟨⟨v',rfl,hnum⟩,rfl⟩
   have HN:=aa hnum
   clear hnum H
   go_wp2
   go_ret
   exact⟨⟨v',rfl,HN.out⟩,HB.out⟩
end Go.Proofs.YteehipcoeocojaaGreatDoor
namespace Go.Proofs.YteehipcoeocojaaGreatDoor
namespace Lm

theorem blen_half (v:Nat)(h:v≠0):blen v=blen (v / 2)+1:=by
 unfold blen
 rw [if_neg h]
 by_cases h2:v / 2=0
 ·rw [if_pos h2]
  have:v=1:=by omega
  subst this;rfl
 ·rw [if_neg h2]
  have:v.log2=(v / 2).log2+1:=by
   rw [Nat.log2_def];rw [if_pos (by omega)]
  omega

theorem B_pow (n:Nat):(4294967296:Nat) ^ n=2 ^ (32*n):=by rw [Nat.pow_mul]

theorem blen_top (p k d:Nat)(hp:p<2 ^ k)(hd:d≠0):blen (p+2 ^ k*d)=k+blen d:=by
 have h1:=Nat.log2_self_le hd
 have h2:=(Nat.log2_lt hd (k:=d.log2+1)).1 (by omega)
 have e:blen d=d.log2+1:=by unfold blen;rw [if_neg hd]
 rw [e,←Nat.add_assoc]
 refine blen_eq _ _ ?_ ?_
 ·rw [Nat.pow_add]
  exact Nat.le_trans (Nat.mul_le_mul_left _ h1) (Nat.le_add_left _ _)
 ·rw [Nat.add_assoc,Nat.pow_add]
  have:=Nat.mul_le_mul_left (2 ^ k) (Nat.succ_le_of_lt h2)
  rw [Nat.succ_eq_add_one,Nat.mul_add] at this
  omega

theorem tr_last' (ds:List Nat)(n:Nat)(ht:tr ds=ds)(h:ds.length=n+1):ds.getD n 0≠0:=by
 have:=tr_last ds n (by rw [ht];exact h)
 rwa [ht] at this

theorem vb_split (ds:List Nat)(n:Nat)(h:ds.length=n+1):vb 4294967296 ds=vb 4294967296 (ds.take n)+2 ^ (32*n)*ds.getD n 0:=by
 have:=vb_take_next (B:=4294967296) ds n
 rw [←h,List.take_length,B_pow] at this
 exact this

theorem vb_take_lt {ds:List Nat}(hd:Digs 4294967296 ds)(n:Nat):vb 4294967296 (ds.take n)<2 ^ (32*n):=by
 have h1:=vb_lt (B:=4294967296) (zs:=ds.take n) (fun z hz=>hd z (List.mem_of_mem_take hz))
 have h2:(ds.take n).length≤n:=List.length_take_le _ _
 rw [←B_pow]
 exact Nat.lt_of_lt_of_le h1 (Nat.pow_le_pow_right (by omega) h2)

theorem blen_vb {ds:List Nat}(hd:Digs 4294967296 ds)(ht:tr ds=ds)(n:Nat)(h:ds.length=n+1):blen (vb 4294967296 ds)=32*n+blen (ds.getD n 0):=by
 rw [vb_split ds n h]
 exact blen_top _ _ _ (vb_take_lt hd n) (tr_last' ds n ht h)

theorem vb_shorter {a b:List Nat}(ha:Digs 4294967296 a)(hb:tr b=b)(h:a.length<b.length):vb 4294967296 a<vb 4294967296 b:=by
 obtain⟨n,hn⟩:∃n,b.length=n+1:=⟨b.length - 1,by omega⟩
 have h1:=vb_take_lt ha n
 rw [List.take_of_length_le (by omega)] at h1
 have h2:=tr_last' b n hb hn
 rw [vb_split b n hn]
 have:=Nat.mul_le_mul_left (2 ^ (32*n)) (Nat.one_le_iff_ne_zero.2 h2)
 omega

theorem vcmp_same {Z Y:List Nat}(j:Nat)(he:Z.getD j 0=Y.getD j 0):cmpN (vb 4294967296 (Z.take (j+1))) (vb 4294967296 (Y.take (j+1)))=cmpN (vb 4294967296 (Z.take j)) (vb 4294967296 (Y.take j)):=by
 rw [vb_take_next,vb_take_next,he,cmpN_add]

theorem vcmp_top {Z Y:List Nat}(hZ:Digs 4294967296 Z)(hY:Digs 4294967296 Y)(j:Nat)(hne:Z.getD j 0≠Y.getD j 0):cmpN (vb 4294967296 (Z.take (j+1))) (vb 4294967296 (Y.take (j+1)))=cmpN (Z.getD j 0) (Y.getD j 0):=by
 rw [vb_take_next,vb_take_next,B_pow]
 exact cmpN_top _ _ _ _ _ (vb_take_lt hZ j) (vb_take_lt hY j) hne

theorem vb_sub_step (X S out:List Nat)(k bw:Nat)(hk:k<out.length)(hx:X.getD k 0<4294967296)(hy:S.getD k 0<4294967296)(hb:bw≤1)
  (h:vb 4294967296 (out.take k)+vb 4294967296 (S.take k)=vb 4294967296 (X.take k)+bw*4294967296 ^ k) :
  vb 4294967296 ((out.set k ((X.getD k 0+4294967296 - S.getD k 0 - bw) % 4294967296)).take (k+1))+vb 4294967296 (S.take (k+1))=vb 4294967296 (X.take (k+1))+(1 - (X.getD k 0+4294967296 - S.getD k 0 - bw) / 4294967296)*4294967296 ^ (k+1):=by
 rw [vb_set_succ _ _ _ hk,vb_take_next X,vb_take_next S,Nat.pow_succ]
 generalize X.getD k 0=x at *
 generalize S.getD k 0=y at *
 have hm:(x+4294967296 - y - bw) % 4294967296+y+bw=x+(1 - (x+4294967296 - y - bw) / 4294967296)*4294967296:=by omega
 generalize (x+4294967296 - y - bw) % 4294967296=m at *
 generalize 1 - (x+4294967296 - y - bw) / 4294967296=d at *
 generalize (4294967296:Nat) ^ k=p at *
 have e:p*(m+y+bw)=p*(x+d*4294967296):=by rw [hm]
 rw [Nat.mul_add,Nat.mul_add,Nat.mul_add] at e
 have e2:d*(p*4294967296)=p*(d*4294967296):=by rw [←Nat.mul_assoc,Nat.mul_comm d p,Nat.mul_assoc]
 have e3:bw*p=p*bw:=Nat.mul_comm _ _
 omega

end Lm
end Go.Proofs.YteehipcoeocojaaGreatDoor
namespace Go.Proofs.YteehipcoeocojaaGreatDoor
open Go.RowKit
open Lm
end Go.Proofs.YteehipcoeocojaaGreatDoor
namespace Go.Proofs.YteehipcoeocojaaGreatDoor
open Lm

theorem eZ (s:Nat)(hs:s≤32):(4294967296:Nat)=2 ^ (32 - s)*2 ^ s:=by
 rw [←Nat.pow_add,Nat.sub_add_cancel hs]

theorem lp (q s:Nat):2 ^ (q*32+s)=4294967296 ^ q*2 ^ s:=by
 rw [Nat.pow_add,Nat.mul_comm q 32,Nat.pow_mul]

theorem la (x s o:Nat)(hs:s≤32)(ho:o<2 ^ s):o+x*2 ^ s % 4294967296<4294967296:=by
 have e:x*2 ^ s % 4294967296=x % 2 ^ (32 - s)*2 ^ s:=by
  conv=>lhs;rw [eZ s hs,Nat.mul_mod_mul_right]
 have h1:x % 2 ^ (32 - s)<2 ^ (32 - s):=Nat.mod_lt _ (Nat.two_pow_pos _)
 have h2:(x % 2 ^ (32 - s)+1)*2 ^ s≤2 ^ (32 - s)*2 ^ s:=Nat.mul_le_mul_right _ h1
 rw [←eZ s hs,Nat.add_mul,Nat.one_mul] at h2
 omega

theorem ij (x s:Nat)(hx:x<4294967296):x*2 ^ s / 4294967296<2 ^ s:=by
 rw [Nat.div_lt_iff_lt_mul (by omega),Nat.mul_comm (2 ^ s)]
 exact Nat.mul_lt_mul_of_pos_right hx (Nat.two_pow_pos _)

theorem j6 (x s:Nat)(hx:x<4294967296)(hs:s<32):x*2 ^ s<18446744073709551616:=by
 have h:2 ^ s≤2 ^ 32:=Nat.pow_le_pow_right (by omega) (by omega)
 have:=Nat.mul_le_mul (Nat.le_sub_one_of_lt hx) h
 omega

theorem gE (X out:List Nat)(q s k n:Nat)(hn:n=q*32+s)(hk:q+k+1<out.length)(h:vb 4294967296 (out.take (q+k+1))=vb 4294967296 (X.take k)*2 ^ n) :
  vb 4294967296 (((out.set (q+k) (out.getD (q+k) 0+X.getD k 0*2 ^ s % 4294967296)).set (q+k+1) (X.getD k 0*2 ^ s / 4294967296)).take (q+k+1+1))=vb 4294967296 (X.take (k+1))*2 ^ n:=by
 rw [vb_set_succ _ _ _ (by simpa using hk),vb_set_succ _ _ _ (by omega),vb_take_next X k]
 rw [vb_take_next] at h
 have ht:=Nat.mod_add_div (X.getD k 0*2 ^ s) 4294967296
 have e:2 ^ n=4294967296 ^ q*2 ^ s:=by rw [hn,lp]
 have e2:4294967296 ^ (q+k)=4294967296 ^ q*4294967296 ^ k:=Nat.pow_add _ _ _
 have e3:4294967296 ^ (q+k+1)=4294967296 ^ (q+k)*4294967296:=Nat.pow_succ ..
 rw [e3]
 rw [e2] at h ⊢
 rw [e] at h ⊢
 generalize X.getD k 0*2 ^ s % 4294967296=r at *
 generalize X.getD k 0*2 ^ s / 4294967296=d at *
 generalize X.getD k 0=x at *
 generalize out.getD (q+k) 0=o at *
 generalize vb 4294967296 (out.take (q+k))=V at *
 generalize vb 4294967296 (X.take k)=U at *
 generalize 4294967296 ^ q=Q at *
 generalize 4294967296 ^ k=K at *
 generalize 2 ^ s=S at *
 generalize 4294967296=B at *
 grind
end Go.Proofs.YteehipcoeocojaaGreatDoor
namespace Go.Proofs.YteehipcoeocojaaGreatDoor
open Go.RowKit
open Lm
attribute [local go_sem ↓] Go.wp_at_zero Go.wp_at_succ

theorem gU {w:World}{b off:Nat}{X:List Nat}(hc:∀k,k<X.length→w.cell? ⟨b,off+k,none⟩=some (.int .u64 ((X.getD k 0:Nat):Int)))(j:Nat)(u:Value)(hj:(X.map lv)[j]?=some u):w.cell? ((⟨b,off,none⟩:Addr).add j)=some u:=by
 rw [List.getElem?_map] at hj
 have hl:j<X.length:=by
  refine Nat.lt_of_not_le fun h=>?_
  rw [List.getElem?_eq_none h] at hj
  cases hj
 have:=hc j hl
 have e:X.getD j 0=X[j]:=by simp [List.getD,hl]
 rw [List.getElem?_eq_getElem hl] at hj
 cases hj
 have ea:(⟨b,off,none⟩:Addr).add j=⟨b,off+j,none⟩:=by simp [Addr.add]
 rw [ea,this,e];rfl

theorem go (ao:Option Addr)(cap:Nat)(X:List Nat)(w:World)(hl:ah w ao X)(hX:Limbs X)(hf:X.length≤17592186044416) :
  Calls Tryz.prog 107 #[.slice ao X.length cap] w fun e w'=>(∃v,e=.returned v∧Ans w' w.heap.size v X)∧Below w.heap.size w w':=by
 obtain⟨i0,hi,hz0,hz1,hz2⟩:=info_parts Tryz.infoU
 have ho:w.ownsRow w.heap.size 63 1 (.slice none 0 0) 0 []:=World.ownsRow_nil _ _ _ _
 have key:∀ad:Addr,(∀j u,(X.map lv)[j]?=some u→w.cell? (ad.add j)=some u)→Calls Tryz.prog 107 #[.slice (some ad) X.length cap] w fun e w'=>(∃v,e=.returned v∧Ans w' w.heap.size v X)∧Below w.heap.size w w':=by
  intro ad hn
  have HX:=aa hX
  clear hX hl
  go_enter Tryz.func107,Tryz.ntmps107
  go_wp2_with (at_builtin;refine wpList_append_own _ rfl _ _ 23 rfl w.heap.size 63 i0 (.int .u64 0) 1 8 Tryz.underlying23 hi hz0 hz1 hz2 rfl (by decide) _ _ _ rfl ho ad X.length cap (X.map lv) rfl (by simp) hn (cY _) (by unfold maxLen;omega) (by omega) (Nat.le_refl _) ?_;intro v' w2 hown2 hgrow2 _)
  have HA:Hid (Ans w2 w.heap.size v' X):=by
   rw [Nat.zero_add,List.nil_append] at hown2
   exact⟨hown2,HX.out⟩
  have HB:Hid (Below w.heap.size w w2):=(Below.refl _ _).grown hgrow2 (Nat.le_refl _) (fun k hk=>by cases hk)
  clear hown2 hgrow2 ho hn
  go_wp2
  go_ret
  exact⟨⟨_,rfl,HA.out⟩,HB.out⟩
 rcases hl with h0|⟨b,off,rfl,hc⟩
 ·subst h0
  cases ao with
  | some ad=>exact key ad (fun j u h=>by simp at h)
  | none=>
   clear key ho hi hz0 hz1 hz2 hX
   go_enter Tryz.func107,Tryz.ntmps107
   go_wp2
   go_ret
   exact⟨⟨_,rfl,Ans.nil _ _⟩,Below.refl _ _⟩
 ·exact key _ (gU hc)

theorem cN (v:Value)(X:List Nat)(w:World)(hA:Arg w v X)(hf:X.length≤17592186044416) :
  Calls Tryz.prog 80 #[v] w fun e w'=>(∃v,e=.returned v∧Ans w' w.heap.size v (tr X))∧Below w.heap.size w w':=by
 obtain⟨a1,c1,rfl,hc1,hm1,hl1⟩:=hA.form
 have T1:=bd a1 c1 X w hc1 hm1 hl1
 have l1:=tr_length_le X
 have F:=go a1 c1 (tr X) w hl1.tr (limbs_tr hA.limbs) (by omega)
 clear hl1 hA
 go_enter Tryz.func80,Tryz.ntmps80
 go_wp2_with fail
 refine T1.mono ?_
 rintro e w2 ⟨rfl,rfl⟩
 clear T1
 go_wp2_with fail
 refine F.mono ?_
 rintro e w3 ⟨⟨v,rfl,ha⟩,hb⟩
 have HA:=aa (And.intro ha hb)
 clear ha hb F
 go_wp2
 go_ret
 exact⟨⟨v,rfl,HA.out.1⟩,HA.out.2⟩
end Go.Proofs.YteehipcoeocojaaGreatDoor
namespace Go.Proofs.YteehipcoeocojaaGreatDoor
namespace Lm

theorem through_step (X out:List Nat)(d j r:Nat)(hj:j<out.length)
  (h:val (out.drop (j+1))*d+r=val (X.drop (j+1))) (hxl:j<X.length) :
  val ((out.set j ((r*18446744073709551616+X.getD j 0) / d)).drop j)*d+(r*18446744073709551616+X.getD j 0) % d=val (X.drop j):=by
 have e1:(out.set j ((r*18446744073709551616+X.getD j 0) / d)).drop j=((r*18446744073709551616+X.getD j 0) / d) :: out.drop (j+1):=by
  rw [List.drop_eq_getElem_cons (by simpa using hj)]
  simp [List.drop_set]
 have e2:X.drop j=X.getD j 0 :: X.drop (j+1):=by
  rw [List.drop_eq_getElem_cons hxl];simp [List.getD,hxl]
 rw [e1,e2]
 simp only [val]
 rw [←h]
 generalize X.getD j 0=x
 generalize val (out.drop (j+1))=q
 have hdm:=Nat.div_add_mod (r*18446744073709551616+x) d
 generalize (r*18446744073709551616+x) / d=a at *
 generalize (r*18446744073709551616+x) % d=b at *
 have e3:(a+18446744073709551616*q)*d=d*a+18446744073709551616*(q*d):=by
  rw [Nat.add_mul,Nat.mul_comm a d,Nat.mul_assoc]
 rw [e3]
 omega

theorem quo_lt (r x d:Nat)(hr:r<d)(hx:x<18446744073709551616):(r*18446744073709551616+x) / d<18446744073709551616:=by
 rw [Nat.div_lt_iff_lt_mul (by omega)]
 have:=Nat.mul_le_mul_right 18446744073709551616 (Nat.succ_le_of_lt hr)
 rw [Nat.succ_eq_add_one,Nat.add_mul] at this
 rw [Nat.mul_comm]
 omega

end Lm
end Go.Proofs.YteehipcoeocojaaGreatDoor
namespace Go.Proofs.YteehipcoeocojaaGreatDoor
open Go.RowKit
open Lm

theorem cu (x:Nat)(w:World)(hx:x<18446744073709551616) :
  Calls Tryz.prog 77 #[.int .u64 x] w fun e w'=>(∃v,e=.returned v∧Ans w' w.heap.size v (tr [x]))∧Below w.heap.size w w':=by
 by_cases h:x=0
 ·subst h
  have hz:(((0:Nat):Int) == 0)=true:=rfl
  go_enter Tryz.func77,Tryz.ntmps77
  go_wp2
  go_ret
  exact⟨⟨_,rfl,Ans.nil _ _⟩,Below.refl _ _⟩
 ·have hz:((x:Int) == 0)=false:=by rw [beq_eq_false_iff_ne];omega
  have e:tr [x]=[x]:=by simp [tr,h]
  rw [e]
  clear e h
  have hb:Blk (w.alloc (.cells #[.int .u64 (x:Int)] 63)) w.heap.size [x]:=by
   unfold Blk;rw [heap_alloc_new];rfl
  have HA:=aa (Ans.of_blk (base:=w.heap.size) (zs:=[x]) (Nat.le_refl _) hb rfl (Nat.le_refl _) (by simp) (by intro y hy;simp at hy;omega))
  clear hb
  go_enter Tryz.func77,Tryz.ntmps77
  go_wp2
  go_ret
  exact⟨⟨_,rfl,HA.out⟩,(Below.refl _ _).alloc (Nat.le_refl _) _⟩
end Go.Proofs.YteehipcoeocojaaGreatDoor
namespace Go.Proofs.YteehipcoeocojaaGreatDoor
namespace Lm

structure Knuth (U Y y1 u1 q r:Nat):Prop where
 sum:q*y1+r=U
 ge:(U*4294967296+u1) / Y≤q
 few:q≤4294967297
 small:r<4294967296

variable {U Y y1 y0 u1 q r:Nat}

theorem knuth_start (hY:Y=y1*4294967296+y0)(hy1:2147483648≤y1)(hy2:y1<4294967296)(hy0:y0<4294967296)(hu1:u1<4294967296)(hU:U<Y):Knuth U Y y1 u1 (U / y1) (U % y1):=by
 have hd:=Nat.div_add_mod U y1
 have hm:U % y1<y1:=Nat.mod_lt _ (by omega)
 have hs:U / y1*y1+U % y1=U:=by rw [Nat.mul_comm];exact hd
 clear hd
 generalize U / y1=q at *
 generalize U % y1=r at *
 refine⟨hs,?_,?_,by omega⟩
 ·have h1:(U*4294967296+u1) / Y<q+1:=by
   rw [Nat.div_lt_iff_lt_mul (by omega),hY,Nat.add_mul,Nat.mul_add,Nat.one_mul,←Nat.mul_assoc]
   omega
  omega
 ·refine Nat.le_of_not_lt fun h=>?_
  have h2:=Nat.mul_le_mul_right y1 (show 4294967298≤q by omega)
  omega

theorem knuth_mul (hY:Y=y1*4294967296+y0)(h:q*y1+r=U):q*Y+r*4294967296=U*4294967296+q*y0:=by
 rw [hY,Nat.mul_add,←h,Nat.add_mul,←Nat.mul_assoc];omega

theorem knuth_lt (hu1:u1<4294967296)(hU:U<Y):(U*4294967296+u1) / Y<4294967296:=by
 rw [Nat.div_lt_iff_lt_mul (by omega)]
 omega

theorem knuth_down (hY:Y=y1*4294967296+y0)(hu1:u1<4294967296)(hU:U<Y)(k:Knuth U Y y1 u1 q r)
  (hc:4294967296≤q∨r*4294967296+u1<q*y0):1≤q∧(U*4294967296+u1) / Y≤q - 1∧(q - 1)*y1+(r+y1)=U:=by
 have hlt:(U*4294967296+u1) / Y<q:=by
  rcases hc with hc|hc
  ·have h9:=knuth_lt hu1 hU
   revert h9 hc
   generalize (U*4294967296+u1) / Y=z
   clear k hY hU hu1
   intro hc h9
   omega
  ·rw [Nat.div_lt_iff_lt_mul (by omega)]
   have:=knuth_mul hY k.sum
   refine Nat.lt_of_add_lt_add_right (n:=r*4294967296) ?_
   rw [this,Nat.add_assoc,Nat.add_comm u1]
   exact Nat.add_lt_add_left hc _
 have hge:1≤q:=Nat.lt_of_le_of_lt (Nat.zero_le _) hlt
 refine⟨hge,Nat.le_sub_one_of_lt hlt,?_⟩
 have hq:q - 1+1=q:=by omega
 have:=k.sum
 rw [←hq,Nat.add_mul,Nat.one_mul] at this
 omega

theorem knuth_stop (hY:Y=y1*4294967296+y0)(k:Knuth U Y y1 u1 q r)(hy:0<Y)(h:q*y0≤r*4294967296+u1):q=(U*4294967296+u1) / Y:=by
 have:=knuth_mul hY k.sum
 have h2:q≤(U*4294967296+u1) / Y:=by
  rw [Nat.le_div_iff_mul_le hy];omega
 exact Nat.le_antisymm h2 k.ge

theorem knuth_break (hY:Y=y1*4294967296+y0)(hy:0<Y)(hy0:y0<4294967296)(hs:q*y1+r=U)(hge:(U*4294967296+u1) / Y≤q)(hq:q≤4294967296)(hr:4294967296≤r) :
  q=(U*4294967296+u1) / Y:=by
 have:=knuth_mul hY hs
 have h1:q*y0≤4294967296*4294967296:=Nat.mul_le_mul hq (by omega)
 have h2:q≤(U*4294967296+u1) / Y:=by
  rw [Nat.le_div_iff_mul_le hy];omega
 exact Nat.le_antisymm h2 hge

theorem knuth_key (V t Y N u0 q1 q0 r1 r0:Nat)(hV:V*t=N*4294967296+u0)(d1:Y*q1+r1=N)(d0:Y*q0+r0=r1*4294967296+u0) :
  V*t=Y*(q1*4294967296+q0)+r0:=by
 rw [hV,←d1,Nat.mul_add Y,←Nat.mul_assoc]
 omega

theorem knuth_whole (V y s N u0 q1 q0:Nat)(hy:0<y)(hV:V*2 ^ s=N*4294967296+u0)
  (h1:q1=N / (y*2 ^ s)) (h0:q0=(N % (y*2 ^ s)*4294967296+u0) / (y*2 ^ s)) :
  q1*4294967296+q0=V / y∧(N % (y*2 ^ s)*4294967296+u0) % (y*2 ^ s) / 2 ^ s=V % y:=by
 have hp:=Nat.two_pow_pos s
 have hY:0<y*2 ^ s:=Nat.mul_pos hy hp
 have d1:=Nat.div_add_mod N (y*2 ^ s)
 have d0:=Nat.div_add_mod (N % (y*2 ^ s)*4294967296+u0) (y*2 ^ s)
 have l0:=Nat.mod_lt (N % (y*2 ^ s)*4294967296+u0) hY
 rw [←h1] at d1
 rw [←h0] at d0
 have key:=knuth_key V (2 ^ s) (y*2 ^ s) N u0 q1 q0 _ _ hV d1 d0
 have hq:V*2 ^ s / (y*2 ^ s)=q1*4294967296+q0:=by
  rw [key,Nat.mul_add_div hY,Nat.div_eq_of_lt l0,Nat.add_zero]
 have hr:V*2 ^ s % (y*2 ^ s)=(N % (y*2 ^ s)*4294967296+u0) % (y*2 ^ s):=by
  rw [key,Nat.mul_add_mod,Nat.mod_mod]
 rw [Nat.mul_div_mul_right _ _ hp] at hq
 rw [Nat.mul_mod_mul_right] at hr
 exact⟨hq.symm,by rw [←hr,Nat.mul_div_cancel _ hp]⟩

theorem shift_whole (hi lo s:Nat)(hs:s≤64) :
  (hi*18446744073709551616+lo)*2 ^ s=((hi*2 ^ s+lo / 2 ^ (64 - s))*4294967296+lo*2 ^ s % 18446744073709551616 / 4294967296)*4294967296+lo*2 ^ s % 18446744073709551616 % 4294967296:=by
 rw [shr_mul lo s hs,Nat.add_mul,Nat.mul_right_comm]
 generalize hi*2 ^ s=a
 generalize lo*2 ^ s=b
 omega

theorem norm_y (y:Nat)(h0:0<y)(hy:y<18446744073709551616):1≤Lib.bitLen y∧Lib.bitLen y≤64∧9223372036854775808≤y*2 ^ (64 - Lib.bitLen y)∧y*2 ^ (64 - Lib.bitLen y)<18446744073709551616:=by
 obtain⟨h1,h2,h3⟩:=Lib.bitLenAux_bounds 64 y hy (by omega)
 have h4:=Lib.bitLen_le y 64 (by omega) hy
 have h1':1≤Lib.bitLen y:=h1
 have h2':2 ^ (Lib.bitLen y - 1)≤y:=h2
 have h3':y<2 ^ Lib.bitLen y:=h3
 generalize Lib.bitLen y=k at *
 refine⟨h1',h4,?_,?_⟩
 ·have:=Nat.mul_le_mul_right (2 ^ (64 - k)) h2'
  rw [←Nat.pow_add,show k - 1+(64 - k)=63 by omega] at this
  exact this
 ·have:=(Nat.mul_lt_mul_right (Nat.two_pow_pos (64 - k))).2 h3'
  rw [←Nat.pow_add,show k+(64 - k)=64 by omega] at this
  exact this

end Lm
end Go.Proofs.YteehipcoeocojaaGreatDoor
namespace Go.Proofs.YteehipcoeocojaaGreatDoor
open Go.RowKit
open Lm

theorem ft (lo y:Nat)(w:World)(hy:y<18446744073709551616)(h0:0<y)(hlo:lo<18446744073709551616) :
  Calls Tryz.prog 108 #[.int .u64 0,.int .u64 lo,.int .u64 y] w fun e w'=>e=.returned (.tuple #[.int .u64 ((lo / y:Nat):Int),.int .u64 ((lo % y:Nat):Int)])∧af w w':=by
 have hz:((y:Int) == 0)=false:=by rw [beq_eq_false_iff_ne];omega
 have hz2:decide ((y:Int)≤0)=false:=by simp;omega
 have e1:(lo:Int) / (y:Int)=((lo / y:Nat):Int):=(Int.natCast_ediv _ _).symm
 have e2:(lo:Int) % (y:Int)=((lo % y:Nat):Int):=(Int.natCast_emod _ _).symm
 have e3:(lo:Int).tdiv (y:Int)=((lo / y:Nat):Int):=rfl
 have e4:(lo:Int).tmod (y:Int)=((lo % y:Nat):Int):=rfl
 have b1:lo / y<18446744073709551616:=Nat.lt_of_le_of_lt (Nat.div_le_self _ _) hlo
 have b2:lo % y<18446744073709551616:=Nat.lt_of_le_of_lt (Nat.mod_le _ _) hlo
 generalize lo / y=a at *
 generalize lo % y=b at *
 have h1:(1:Int)≤(y:Int):=by omega
 go_enter Tryz.func108,Tryz.ntmps108
 go_wp2
 go_quiet (fail)
 go_wp2
 go_ret2
 exact⟨rfl,(af.refl _).drewN _⟩

theorem b9 (x s r:Nat)(h:x*2 ^ s % 18446744073709551616=r):IntKind.u64.wrap ((x:Int)*2 ^ s)=(r:Int):=by
 rw [IntKind.wrap_u64]
 have:((x:Int)*2 ^ s)=((x*2 ^ s:Nat):Int):=by rw [Int.natCast_mul,Int.natCast_pow];rfl
 rw [this];omega

theorem dU (a:Nat)(ha:a<18446744073709551616):bits BinOp.and IntKind.u64 (a:Int) 4294967295=((a % 4294967296:Nat):Int):=by
 have h:=bits_and_u64_nat a 4294967295 ha (by omega)
 rw [show a &&& 4294967295=a % 4294967296 from Nat.and_two_pow_sub_one_eq_mod a 32] at h
 exact h

theorem fE (h s l U:Nat)(hs:s≤64)(hl:l<2 ^ s)(hh:h*2 ^ s<18446744073709551616)(hU:U=h*2 ^ s+l):bits BinOp.or IntKind.u64 ((h*2 ^ s:Nat):Int) (l:Int)=(U:Int):=by
 have hll:l<18446744073709551616:=Nat.lt_of_lt_of_le hl (by rw [show (18446744073709551616:Nat)=2 ^ 64 from rfl];exact Nat.pow_le_pow_right (by omega) hs)
 rw [bits_or_u64_nat _ _ hh hll,hU,Nat.mul_comm h,Nat.two_pow_add_eq_or_of_lt hl]

theorem fB (a b y q r:Nat)(hd:q*y+r=a*4294967296+b)(hr:r<18446744073709551616) :
  ∃a1 a2 a3:Nat,a1<18446744073709551616∧a2<18446744073709551616∧a3<18446744073709551616∧IntKind.u64.wrap ((a:Int)*4294967296)=(a1:Int)∧IntKind.u64.wrap ((a1:Int)+(b:Int))=(a2:Int) ∧
   IntKind.u64.wrap ((q:Int)*(y:Int))=(a3:Int)∧IntKind.u64.wrap ((a2:Int) - (a3:Int))=(r:Int):=by
 refine⟨a*4294967296 % 18446744073709551616,(a*4294967296 % 18446744073709551616+b) % 18446744073709551616,q*y % 18446744073709551616,Nat.mod_lt _ (by omega),Nat.mod_lt _ (by omega),Nat.mod_lt _ (by omega),?_,?_,?_,?_⟩
 ·rw [IntKind.wrap_u64];omega
 ·rw [IntKind.wrap_u64];omega
 ·rw [IntKind.wrap_u64,←Int.natCast_mul];omega
 ·rw [IntKind.wrap_u64]
  omega

theorem js (hi lo y:Nat)(w:World)(hy:y<18446744073709551616)(hhi0:0<hi)(hhi:hi<y)(hlo:lo<18446744073709551616) :
  Calls Tryz.prog 108 #[.int .u64 hi,.int .u64 lo,.int .u64 y] w fun e w'=>e=.returned (.tuple #[.int .u64 (((hi*18446744073709551616+lo) / y:Nat):Int),.int .u64 (((hi*18446744073709551616+lo) % y:Nat):Int)])∧af w w':=by
 have hz:((y:Int) == 0)=false:=by rw [beq_eq_false_iff_ne];omega
 have hz1:((hi:Int) == 0)=false:=by rw [beq_eq_false_iff_ne];omega
 have hz2:decide ((y:Int)≤(hi:Int))=false:=by simp;omega
 have HLZ:=Tryz.bits_LeadingZeros64 (y:Int) w (by omega) (by omega)
 rw [Int.toNat_natCast] at HLZ
 obtain⟨n1,n2,n3,n4⟩:=norm_y y (by omega) hy
 obtain⟨s,hs⟩:∃s,s=64 - Lib.bitLen y:=⟨_,rfl⟩
 have hsI:(64:Int) - (Lib.bitLen y:Int)=(s:Int):=by omega
 rw [hsI] at HLZ
 rw [←hs] at n3 n4
 have hs63:s≤63:=by omega
 clear hs hsI n1 n2
 have hp:=Nat.two_pow_pos s
 have hhy:(hi+1)*2 ^ s≤y*2 ^ s:=Nat.mul_le_mul_right _ hhi
 rw [Nat.add_mul,Nat.one_mul] at hhy
 have hl1:=shr_lt lo s (by omega) hlo
 have HVV:=aa (shift_whole hi lo s (by omega))
 have r1:=b9 y s (y*2 ^ s) (Nat.mod_eq_of_lt n4)
 have r4:=b9 hi s (hi*2 ^ s) (Nat.mod_eq_of_lt (by omega))
 have r7:=fE hi s (lo / 2 ^ (64 - s)) (hi*2 ^ s+lo / 2 ^ (64 - s)) (by omega) hl1 (by omega) rfl
 have r8:=b9 lo s (lo*2 ^ s % 18446744073709551616) rfl
 have r6:=walk_shr lo (64 - s)
 have HK:=aa (fun N u0 q1 q0=>knuth_whole (hi*18446744073709551616+lo) y s N u0 q1 q0 (by omega))
 have hUY:hi*2 ^ s+lo / 2 ^ (64 - s)<y*2 ^ s:=by omega
 have hu10:lo*2 ^ s % 18446744073709551616<18446744073709551616:=Nat.mod_lt _ (by omega)
 have r5:(64:Int) - (s:Int)=((64 - s:Nat):Int):=by omega
 have ht:64 - s≤64:=by omega
 have ht0:1≤64 - s:=by omega
 generalize lo*2 ^ s % 18446744073709551616=u10 at *
 generalize hU:hi*2 ^ s+lo / 2 ^ (64 - s)=U at *
 generalize lo / 2 ^ (64 - s)=l1 at *
 generalize 64 - s=t at *
 have hh1:hi*2 ^ s<18446744073709551616:=by omega
 generalize hi*2 ^ s=h1 at *
 have r3:=dU (y*2 ^ s) n4
 have r10:=dU u10 hu10
 generalize y*2 ^ s=Y at *
 have r2:(Y:Int) / 4294967296=((Y / 4294967296:Nat):Int):=by omega
 have r9:(u10:Int) / 4294967296=((u10 / 4294967296:Nat):Int):=by omega
 have hY:Y=Y / 4294967296*4294967296+Y % 4294967296:=by omega
 have k1:2147483648≤Y / 4294967296:=by omega
 have k2:Y / 4294967296<4294967296:=by omega
 have k3:Y % 4294967296<4294967296:=by omega
 have k4:u10 / 4294967296<4294967296:=by omega
 have k5:u10 % 4294967296<4294967296:=by omega
 generalize Y / 4294967296=y1 at *
 generalize Y % 4294967296=y0 at *
 generalize u10 / 4294967296=u1 at *
 generalize u10 % 4294967296=u0 at *
 have HY:=aa hY
 have hl1W:l1<18446744073709551616:=by omega
 have HU:Hid (h1+l1=U):=aa hU
 clear hU hY hl1 hp hhy
 have KS:=aa (knuth_start HY.out k1 k2 k3 k4 hUY)
 have r11:(U:Int) / (y1:Int)=((U / y1:Nat):Int):=(Int.natCast_ediv _ _).symm
 have r12:((U / y1:Nat):Int)*(y1:Int)=((U / y1*y1:Nat):Int):=(Int.natCast_mul _ _).symm
 have d1:U / y1*y1+U % y1=U:=KS.out.sum
 have hUW:U<18446744073709551616:=by omega
 have b1:U / y1<18446744073709551616:=Nat.lt_of_le_of_lt (Nat.div_le_self _ _) hUW
 generalize U / y1*y1=p1 at *
 generalize U / y1=q at *
 generalize U % y1=r at *
 have r13:(U:Int) - (p1:Int)=(r:Int):=by omega
 have hp1:p1≤U:=by omega
 have hy1p:(1:Int)≤(y1:Int):=by omega
 have D1:=aa d1
 clear d1
 go_enter Tryz.func108,Tryz.ntmps108
 go_wp2_with fail
 refine HLZ.mono ?_
 rintro e w1 ⟨rfl,rfl⟩
 clear HLZ
 go_upto_block 0 with fail
 clear r1 r2 r3 r4 r5 r6 r7 r8 r9 r10 r11 r12 r13 hz hz1 hz2
 go_cut [15,16] from 67 to 85 (fun a _ wc=>a=.int .u64 (((U*4294967296+u1) / Y:Nat):Int)∧wc=w1)
 case first=>
  go_wp2_with fail
  go_loop [15,16] (fun a b=>∃q r:Nat,a=.int .u64 q∧b=.int .u64 r∧Knuth U Y y1 u1 q r) (fun a _=>(intOf a).toNat)
  case atStart=>exact⟨_,_,rfl,rfl,KS.out⟩
  case round=>
   obtain⟨q,r,rfl,rfl,K⟩:=hrel
   have hq:=K.few
   have hr:=K.small
   obtain⟨r',hr'⟩:∃r',r'=r+y1:=⟨_,rfl⟩
   have hrI:(r:Int)+(y1:Int)=(r':Int):=by omega
   obtain⟨m0,hm0⟩:∃m0,m0=4294967296*r:=⟨_,rfl⟩
   have hmI0:(4294967296:Int)*(r:Int)=(m0:Int):=by omega
   obtain⟨m,hm⟩:∃m,m=m0+u1:=⟨_,rfl⟩
   have hmI:(m0:Int)+(u1:Int)=(m:Int):=by omega
   have hmW:m<18446744073709551616:=by omega
   have hmW0:m0<18446744073709551616:=by omega
   have hrW:r'<18446744073709551616:=by omega
   have HM:=aa (show m=r*4294967296+u1 by omega)
   have HR:=aa hr'
   have hrb:4294967296≤r'∨r'<4294967296:=by omega
   clear hr' hm0 hm
   by_cases c1:4294967296≤q
   ·obtain⟨g1,g2,g3⟩:=knuth_down HY.out k4 hUY K (.inl c1)
    rw [←HR.out] at g3
    have G2:=aa g2
    have G3:=aa g3
    have i1:(4294967296:Int)≤(q:Int):=by omega
    have i2:(q:Int)≤4294967297:=by omega
    rcases hrb with c2|c2
    ·have HQ:=aa (knuth_break HY.out (by omega) k3 G3.out G2.out (by omega) c2)
     have i4:(4294967296:Int)≤(r':Int):=by omega
     clear g1 g2 g3 K c1 c2 hq hr
     go_wp2
     go_meet
     case rel=>exact⟨by rw [←HQ.out];go_num,rfl⟩
    ·have i4:(r':Int)<4294967296:=by omega
     have hb2:decide ((4294967296:Int)≤(r':Int))=false:=decide_eq_false (by omega)
     clear g1 g2 g3 K c1 c2 hq hr
     go_wp2
     go_round
     case rel=>exact⟨q - 1,r',by go_num,rfl,G3.out,G2.out,by omega,by omega⟩
     case measure=>simp [intOf];omega
   ·obtain⟨p,hp⟩:∃p,p=q*y0:=⟨_,rfl⟩
    have hpI:(q:Int)*(y0:Int)=(p:Int):=by rw [hp];exact (Int.natCast_mul _ _).symm
    have hpW:p<18446744073709551616:=by
     rw [hp]
     have:=Nat.mul_le_mul (show q≤4294967295 by omega) (show y0≤4294967295 by omega)
     omega
    have HP:=aa hp
    clear hp
    have i1:(q:Int)<4294967296:=by omega
    have hb1:decide ((4294967296:Int)≤(q:Int))=false:=decide_eq_false (by omega)
    by_cases c3:m<p
    ·obtain⟨g1,g2,g3⟩:=knuth_down HY.out k4 hUY K (.inr (by rw [←HP.out,←HM.out];exact c3))
     rw [←HR.out] at g3
     have G2:=aa g2
     have G3:=aa g3
     have i2:(m:Int)<(p:Int):=by omega
     have i5:(1:Int)≤(q:Int):=by omega
     rcases hrb with c2|c2
     ·have HQ:=aa (knuth_break HY.out (by omega) k3 G3.out G2.out (by omega) c2)
      have i4:(4294967296:Int)≤(r':Int):=by omega
      clear g1 g2 g3 K c1 c2 c3 hq hr
      go_wp2
      go_meet
      case rel=>exact⟨by rw [←HQ.out];go_num,rfl⟩
     ·have i4:(r':Int)<4294967296:=by omega
      have hb2:decide ((4294967296:Int)≤(r':Int))=false:=decide_eq_false (by omega)
      clear g1 g2 g3 K c1 c2 c3 hq hr
      go_wp2
      go_round
      case rel=>exact⟨q - 1,r',by go_num,rfl,G3.out,G2.out,by omega,by omega⟩
      case measure=>simp [intOf];omega
    ·have HQ:=aa (knuth_stop HY.out K (by omega) (by rw [←HP.out,←HM.out];omega))
     have i2:(p:Int)≤(m:Int):=by omega
     have hb3:decide ((m:Int)<(p:Int))=false:=decide_eq_false (by omega)
     have hb4:decide (m<p)=false:=decide_eq_false c3
     clear K c1 c3 hq hr hrb
     go_wp2
     go_meet
     case rel=>exact⟨by rw [←HQ.out],rfl⟩
 case rest=>
  obtain⟨rfl,hwc⟩:=hcut
  have hwc':=hwc.symm
  subst hwc'
  clear hwc
  have hRY:(U*4294967296+u1) % Y<Y:=Nat.mod_lt _ (by omega)
  have hQ1b:=knuth_lt k4 hUY
  have hd1:=Nat.div_add_mod (U*4294967296+u1) Y
  rw [Nat.mul_comm] at hd1
  obtain⟨R1,hR1⟩:∃R1,R1=(U*4294967296+u1) % Y:=⟨_,rfl⟩
  obtain⟨Q1,hQ1⟩:∃Q1,Q1=(U*4294967296+u1) / Y:=⟨_,rfl⟩
  rw [←hR1] at hRY hd1
  rw [←hQ1] at hd1 hQ1b ⊢
  obtain⟨a1,a2,a3,t1,t2,t3,s1,s2,s3,s4⟩:=fB U u1 Y Q1 R1 hd1 (by omega)
  have HR1:=aa hR1
  have HQ1:=aa hQ1
  clear hR1 hQ1 hd1 KS D1
  have KS:=aa (knuth_start HY.out k1 k2 k3 k5 hRY)
  have r11:(R1:Int) / (y1:Int)=((R1 / y1:Nat):Int):=(Int.natCast_ediv _ _).symm
  have r12:((R1 / y1:Nat):Int)*(y1:Int)=((R1 / y1*y1:Nat):Int):=(Int.natCast_mul _ _).symm
  have d1:R1 / y1*y1+R1 % y1=R1:=KS.out.sum
  have hRW:R1<18446744073709551616:=by omega
  have b1':R1 / y1<18446744073709551616:=Nat.lt_of_le_of_lt (Nat.div_le_self _ _) hRW
  clear b1 hp1
  generalize R1 / y1*y1=p1' at *
  generalize R1 / y1=q' at *
  generalize R1 % y1=r' at *
  have r13:(R1:Int) - (p1':Int)=(r':Int):=by omega
  have hp1':p1'≤R1:=by omega
  clear d1
  go_upto_block 2 with fail
  clear r11 r12 r13 s1 s2 s3 s4 t1 t2 t3
  go_cut [18,16] from 102 to 120 (fun a _ wc=>a=.int .u64 (((R1*4294967296+u0) / Y:Nat):Int)∧wc=w1)
  case first=>
   go_wp2_with fail
   go_loop [18,16] (fun a b=>∃q r:Nat,a=.int .u64 q∧b=.int .u64 r∧Knuth R1 Y y1 u0 q r) (fun a _=>(intOf a).toNat)
   case atStart=>exact⟨_,_,rfl,rfl,KS.out⟩
   case round=>
    obtain⟨q,r,rfl,rfl,K⟩:=hrel
    have hq:=K.few
    have hr:=K.small
    obtain⟨r',hr'⟩:∃r',r'=r+y1:=⟨_,rfl⟩
    have hrI:(r:Int)+(y1:Int)=(r':Int):=by omega
    obtain⟨m0,hm0⟩:∃m0,m0=4294967296*r:=⟨_,rfl⟩
    have hmI0:(4294967296:Int)*(r:Int)=(m0:Int):=by omega
    obtain⟨m,hm⟩:∃m,m=m0+u0:=⟨_,rfl⟩
    have hmI:(m0:Int)+(u0:Int)=(m:Int):=by omega
    have hmW:m<18446744073709551616:=by omega
    have hmW0:m0<18446744073709551616:=by omega
    have hrW:r'<18446744073709551616:=by omega
    have HM:=aa (show m=r*4294967296+u0 by omega)
    have HR:=aa hr'
    have hrb:4294967296≤r'∨r'<4294967296:=by omega
    clear hr' hm0 hm
    by_cases c1:4294967296≤q
    ·obtain⟨g1,g2,g3⟩:=knuth_down HY.out k5 hRY K (.inl c1)
     rw [←HR.out] at g3
     have G2:=aa g2
     have G3:=aa g3
     have i1:(4294967296:Int)≤(q:Int):=by omega
     have i2:(q:Int)≤4294967297:=by omega
     rcases hrb with c2|c2
     ·have HQ:=aa (knuth_break HY.out (by omega) k3 G3.out G2.out (by omega) c2)
      have i4:(4294967296:Int)≤(r':Int):=by omega
      clear g1 g2 g3 K c1 c2 hq hr
      go_wp2
      go_meet
      case rel=>exact⟨by rw [←HQ.out];go_num,rfl⟩
     ·have i4:(r':Int)<4294967296:=by omega
      have hb2:decide ((4294967296:Int)≤(r':Int))=false:=decide_eq_false (by omega)
      clear g1 g2 g3 K c1 c2 hq hr
      go_wp2
      go_round
      case rel=>exact⟨q - 1,r',by go_num,rfl,G3.out,G2.out,by omega,by omega⟩
      case measure=>simp [intOf];omega
    ·obtain⟨p,hp⟩:∃p,p=q*y0:=⟨_,rfl⟩
     have hpI:(q:Int)*(y0:Int)=(p:Int):=by rw [hp];exact (Int.natCast_mul _ _).symm
     have hpW:p<18446744073709551616:=by
      rw [hp]
      have:=Nat.mul_le_mul (show q≤4294967295 by omega) (show y0≤4294967295 by omega)
      omega
     have HP:=aa hp
     clear hp
     have i1:(q:Int)<4294967296:=by omega
     have hb1:decide ((4294967296:Int)≤(q:Int))=false:=decide_eq_false (by omega)
     by_cases c3:m<p
     ·obtain⟨g1,g2,g3⟩:=knuth_down HY.out k5 hRY K (.inr (by rw [←HP.out,←HM.out];exact c3))
      rw [←HR.out] at g3
      have G2:=aa g2
      have G3:=aa g3
      have i2:(m:Int)<(p:Int):=by omega
      have i5:(1:Int)≤(q:Int):=by omega
      rcases hrb with c2|c2
      ·have HQ:=aa (knuth_break HY.out (by omega) k3 G3.out G2.out (by omega) c2)
       have i4:(4294967296:Int)≤(r':Int):=by omega
       clear g1 g2 g3 K c1 c2 c3 hq hr
       go_wp2
       go_meet
       case rel=>exact⟨by rw [←HQ.out];go_num,rfl⟩
      ·have i4:(r':Int)<4294967296:=by omega
       have hb2:decide ((4294967296:Int)≤(r':Int))=false:=decide_eq_false (by omega)
       clear g1 g2 g3 K c1 c2 c3 hq hr
       go_wp2
       go_round
       case rel=>exact⟨q - 1,r',by go_num,rfl,G3.out,G2.out,by omega,by omega⟩
       case measure=>simp [intOf];omega
     ·have HQ:=aa (knuth_stop HY.out K (by omega) (by rw [←HP.out,←HM.out];omega))
      have i2:(p:Int)≤(m:Int):=by omega
      have hb3:decide ((m:Int)<(p:Int))=false:=decide_eq_false (by omega)
      have hb4:decide (m<p)=false:=decide_eq_false c3
      clear K c1 c3 hq hr hrb
      go_wp2
      go_meet
      case rel=>exact⟨by rw [←HQ.out],rfl⟩
  case rest=>
   obtain⟨rfl,rfl⟩:=hcut
   have hRY0:(R1*4294967296+u0) % Y<Y:=Nat.mod_lt _ (by omega)
   have hQ0b:=knuth_lt k5 hRY
   have hd1:=Nat.div_add_mod (R1*4294967296+u0) Y
   rw [Nat.mul_comm] at hd1
   obtain⟨R0,hR0⟩:∃R0,R0=(R1*4294967296+u0) % Y:=⟨_,rfl⟩
   obtain⟨Q0,hQ0⟩:∃Q0,Q0=(R1*4294967296+u0) / Y:=⟨_,rfl⟩
   rw [←hR0] at hRY0 hd1
   rw [←hQ0] at hd1 hQ0b ⊢
   obtain⟨a1,a2,a3,t1,t2,t3,s1,s2,s3,s4⟩:=fB R1 u0 Y Q0 R0 hd1 (by omega)
   have hfin:=HK.out (U*4294967296+u1) u0 Q1 Q0 HVV.out HQ1.out (by rw [←HR1.out];exact hQ0)
   rw [←HR1.out,←hR0] at hfin
   have f1:(Q1:Int)*4294967296+(Q0:Int)=(((hi*18446744073709551616+lo) / y:Nat):Int):=by rw [←hfin.1];omega
   have f2:(R0:Int) / 2 ^ s=(((hi*18446744073709551616+lo) % y:Nat):Int):=by rw [←hfin.2];exact walk_shr R0 s
   have F1:=aa f1
   have F2:=aa f2
   have hQQ:((Q1:Int)*4294967296+(Q0:Int))<18446744073709551616:=by omega
   clear hR0 hQ0 hd1 KS hfin HK HVV f1 f2
   go_wp2
   go_ret2
   rw [←F1.out,←F2.out]
   exact⟨rfl,af.refl _⟩



theorem Ans.stored {w:World}{base g cap:Nat}{zs:List Nat}(h:Ans w base (.slice (some ⟨g,0,none⟩) zs.length cap) zs)(j z:Nat)(hz:z<18446744073709551616):Ans (w.setCell ⟨g,j,none⟩ (.int .u64 (z:Int))) base (.slice (some ⟨g,0,none⟩) (zs.set j z).length cap) (zs.set j z):=by
 refine⟨?_,limbs_set h.limbs _ _ hz⟩
 have:=(h.own.stored j (.int .u64 (z:Int))).1
 rw [List.length_set,List.map_set]
 exact this

def over (rows:Nat→List Nat)(m:Nat):List Nat:=List.replicate (rows m).length (m % 251+1)



theorem Ans.slice {w:World}{base:Nat}{v:Value}{zs:List Nat}(h:Ans w base v zs):∃ao n cap,v=.slice ao n cap:=by
 rcases h.form with ⟨rfl,_⟩|⟨g,cap,rfl,_⟩
 ·exact⟨_,_,_,rfl⟩
 ·exact⟨_,_,_,rfl⟩

theorem bk {w a b:World}(h:Hid (Below w.heap.size w a))(hb:Below a.heap.size a b):Hid (Below w.heap.size w b):=h.out.trans (hb.mono h.out.size)
end Go.Proofs.YteehipcoeocojaaGreatDoor
namespace Go.Proofs.YteehipcoeocojaaGreatDoor
open Go.RowKit
open Lm
attribute [local go_sem ↓] Go.wp_at_zero Go.wp_at_succ

theorem dQ (w:World):Calls Tryz.prog 31 #[.int .i64 16] w fun e w'=>e=.returned (.bool true)∧w'=w:=by
 go_enter Tryz.func31,Tryz.ntmps31
 go_wp2
 go_ret
 exact⟨rfl,rfl⟩

theorem fs (w:World)(hT:Tab w):Calls Tryz.prog 56 #[.int .u64 16] w fun e w'=>e=.returned (.int .i64 4)∧w'=w:=by
 have H:=du 16 4 w (by omega) ⟨by decide,by decide⟩ hT
 clear hT
 go_enter Tryz.func56,Tryz.ntmps56
 go_wp2_with fail
 refine H.mono ?_
 rintro e wn ⟨rfl,hw⟩;rw [hw];clear hw wn H
 go_wp2
 go_ret
 exact⟨rfl,rfl⟩

theorem lO (w:World):Calls Tryz.prog 58 #[.int .u64 255,.int .u64 16] w fun e w'=>e=.returned (.int .i64 2)∧w'=w:=by
 go_enter Tryz.func58,Tryz.ntmps58
 go_wp2
 refine wp_loop_rounds 2 ?_
 rw [rounds_succ]
 go_wp2
 rw [rounds_succ]
 go_wp2
 go_ret
 exact⟨rfl,rfl⟩

theorem dY (w:World):Calls Tryz.prog 79 #[.int .i64 16] w fun e w'=>e=.returned (.tuple #[.int .i64 15,.int .u64 1152921504606846976])∧w'=w:=by
 go_enter Tryz.func79,Tryz.ntmps79
 go_wp2
 refine wp_loop_rounds 16 ?_
 iterate 16
  rw [rounds_succ]
  go_wp2
 go_returns
 exact⟨rfl,rfl⟩

theorem kM (va:Value)(X:List Nat)(w:World)(hA:Arg w va X)(hT:Tab w)(hX:val X=255)(hl:X.length=1) :
  Calls Tryz.prog 34 #[va,.int .i64 16] w fun e w'=>e=.returned (.int .i64 2)∧w'=w:=by
 have L1:=az va X w hA
 rw [hX,show blen 255=8 from rfl] at L1
 have T1:=fs w hT
 have S1:=fg va X w hA
 have ht:(tr X).length≤1:=Nat.le_trans (tr_length_le X) (by omega)
 rw [if_pos ht,decide_eq_true ht] at S1
 have hg:(tr X).getD 0 0=255:=by
  have h2:=val_tr X
  rw [hX] at h2
  match h:tr X,ht,h2 with
  | [],_,h2=>simp [val] at h2
  | [a],_,h2=>simpa [val] using h2
  | a :: b :: c,h1,_=>simp at h1
 rw [hg] at S1
 have C1:=lO w
 clear hA hT hX hl ht hg
 go_enter Tryz.func34,Tryz.ntmps34
 go_wp2_with fail
 refine L1.mono ?_
 rintro e wn ⟨rfl,hw⟩;rw [hw];clear hw wn L1
 go_wp2_with fail
 refine T1.mono ?_
 rintro e wn ⟨rfl,hw⟩;rw [hw];clear hw wn T1
 go_wp2_with fail
 refine S1.mono ?_
 rintro e wn ⟨rfl,hw⟩;rw [hw];clear hw wn S1
 go_wp2_with fail
 refine C1.mono ?_
 rintro e wn ⟨rfl,hw⟩;rw [hw];clear hw wn C1
 go_wp2
 go_ret
 exact⟨rfl,rfl⟩

theorem Ans.cellAt5 {w:World}{base g cap:Nat}{zs:List Nat}(h:Ans w base (.slice (some ⟨g,0,none⟩) zs.length cap) zs):(zs.length≤cap∧cap≤9223372036854775807)∧(∀k,w.frozen? ⟨g,k,none⟩=false)∧∀k,k<zs.length→w.cell? ⟨g,k,none⟩=some (.int .u64 ((zs.getD k 0:Nat):Int)):=by
 rcases h.form with ⟨e,_⟩|⟨g',cap',e,_,_,h1,h2,h3,h4⟩
 ·cases e
 ·cases e
  exact⟨⟨h1,h2⟩,h3,h4⟩

theorem aL {w:World}{h k:Nat}{cs:Array Value}{t:TypeId}(e:w.heap[h]?=some (.cells cs t))(u:Value):(w.setCell ⟨h,k,none⟩ u).heap[h]?=some (.cells (cs.setIfInBounds k u) t):=by
 have hlt:=lt_of_block e
 have h':w.heap[h]=.cells cs t:=by simpa [Array.getElem?_eq_getElem hlt] using e
 show (w.heap.modify h _)[h]?=_
 rw [Array.getElem?_eq_getElem (by simpa using hlt),Array.getElem_modify_self,h']
 rfl

theorem iL {w:World}{g k:Nat}{u v:Value}(h:w.cell? ⟨g,k,none⟩=some v):(w.setCell ⟨g,k,none⟩ u).cell? ⟨g,k,none⟩=some u:=by
 simp only [World.cell?] at h ⊢
 rcases hh:w.heap[g]? with _|o
 ·simp [hh] at h
 ·cases o with
  | cells cs t fz=>
   have hlt:=lt_of_block hh
   have h':w.heap[g]=.cells cs t fz:=by simpa [Array.getElem?_eq_getElem hlt] using hh
   have:(w.setCell ⟨g,k,none⟩ u).heap[g]?=some (.cells (cs.setIfInBounds k u) t fz):=by
    show (w.heap.modify g _)[g]?=_
    rw [Array.getElem?_eq_getElem (by simpa using hlt),Array.getElem_modify_self,h']
    rfl
   simp [this]
   simp [hh] at h
   have hk:k<cs.size:=by
    rcases Nat.lt_or_ge k cs.size with h2|h2
    ·exact h2
    ·simp [Array.getElem?_eq_none h2] at h
   simp [hk]
  | _=>simp [hh] at h

theorem l8 (w:World):Calls Tryz.prog 108 #[.int .u64 0,.int .u64 255,.int .u64 1152921504606846976] w fun e w'=>e=.returned (.tuple #[.int .u64 0,.int .u64 255])∧af w w':=
 ft 255 1152921504606846976 w (by omega) (by omega) (by omega)

theorem gF (base g cap:Nat)(w:World)(hA:Ans w base (.slice (some ⟨g,0,none⟩) 1 cap) [255]) :
  Calls Tryz.prog 81 #[.slice (some ⟨g,0,none⟩) 1 cap,.int .u64 1152921504606846976] w fun e w'=>e=.returned (.tuple #[.slice (some ⟨g,0,none⟩) 0 cap,.int .u64 255])∧Below base w w':=by
 have HA:=aa hA
 obtain⟨⟨hc1,hc2⟩,hf,hc⟩:=Ans.cellAt5 (zs:=[255]) hA
 have hc0:=hc 0 (by simp)
 rw [show ((([255]:List Nat).getD 0 0:Nat):Int)=255 from rfl] at hc0
 have hbg:base≤g:=(hA.own.lt g rfl).1
 simp only [List.length_singleton] at hc1
 have HD:=l8 w
 clear hA hc hf
 go_enter Tryz.func81,Tryz.ntmps81
 go_wp2
 refine wp_loop_rounds 2 ?_
 rw [rounds_succ]
 go_wp2_with fail
 refine HD.mono ?_
 rintro e w1 ⟨rfl,hsm⟩
 have A1:=HA.out.below (hsm.below w.heap.size)
 obtain⟨_,hf1,hc1'⟩:=Ans.cellAt5 (zs:=[255]) A1
 have hc0':=hc1' 0 (by simp)
 rw [show ((([255]:List Nat).getD 0 0:Nat):Int)=255 from rfl] at hc0'
 have HB:=aa ((hsm.below base).setCell (p:=⟨g,0,none⟩) hbg (.int .u64 0))
 have hc2':=iL (u:=.int .u64 0) hc0'
 clear HD A1 hsm hc1' hc0
 go_wp2
 rw [rounds_succ]
 go_wp2
 go_returns
 exact⟨rfl,HB.out⟩

theorem ju (gd:Nat)(va:Value)(X:List Nat)(w:World)(hA:Arg w va X)(hX:tr X=[255])(hl:X.length≤1000)(hd:w.heap[gd]?=some (.cells #[.int .u8 0,.int .u8 0] 5)) :
  Calls Tryz.prog 54 #[.slice (some ⟨gd,0,none⟩) 2 2,va,.int .i64 16] w fun e w'=>e=.returned (.tuple #[])∧w'.heap[gd]?=some (.cells #[.int .u8 15,.int .u8 15] 5)∧Below gd w w':=by
 have HU:=dY w
 have HN:=cN va X w hA (by omega)
 rw [hX] at HN
 have HD:=aa hd
 have hlt:=lt_of_block hd
 clear hA hX hd
 go_enter Tryz.func54,Tryz.ntmps54
 go_wp2_with fail
 refine HU.mono ?_
 rintro e wn ⟨rfl,hw⟩;rw [hw];clear hw wn HU
 go_wp2_with fail
 refine HN.mono ?_
 rintro e w1 ⟨⟨v1,rfl,A1⟩,hb1⟩
 obtain⟨g,cap,rfl⟩:∃g cap,v1=.slice (some ⟨g,0,none⟩) 1 cap:=by
  rcases A1.form with ⟨_,e⟩|⟨g,cap,e,_⟩
  ·cases e
  ·exact⟨g,cap,e⟩
 have HS:=gF w.heap.size g cap w1 A1
 have HB1:=aa hb1
 clear HN A1 hb1
 go_wp2
 refine wp_loop_rounds 2 ?_
 rw [rounds_succ]
 go_wp2_with fail
 refine HS.mono ?_
 rintro e w2 ⟨rfl,hb2⟩
 have hb:=HB1.out.trans hb2
 have hd2:w2.heap[gd]?=some (.cells #[.int .u8 0,.int .u8 0] 5):=by rw [hb.block gd hlt];exact HD.out
 have c0:w2.cell? ⟨gd,0,none⟩=some (.int .u8 0):=by simp [World.cell?,hd2]
 have c1:w2.cell? ⟨gd,1,none⟩=some (.int .u8 0):=by simp [World.cell?,hd2]
 have hf:∀k,w2.frozen? ⟨gd,k,none⟩=false:=fun k=>by simp [World.frozen?,hd2]
 have HB2:=aa (hb.mono (Nat.le_of_lt hlt))
 have HD2:=aa hd2
 clear HS hb hb2 hd2
 go_wp2
 refine wp_loop_rounds 3 ?_
 rw [rounds_succ]
 go_wp2
 rw [rounds_succ]
 go_wp2
 rw [rounds_succ]
 go_wp2
 rw [rounds_succ]
 go_wp2
 go_end0
 have s1:=aL (k:=1) HD2.out (.int .u8 15)
 have s0:=aL (k:=0) s1 (.int .u8 15)
 exact⟨rfl,s0,(HB2.out.setCell (p:=⟨gd,1,none⟩) (Nat.le_refl _) _).setCell (p:=⟨gd,0,none⟩) (Nat.le_refl _) _⟩

theorem ke (h:15<(ByteArray.mk #[48,49,50,51,52,53,54,55,56,57,97,98,99,100,101,102,103,104,105,106,107,108,109,110,111,112,113,114,115,116,117,118,119,120,121,122]).size):(ByteArray.mk #[48,49,50,51,52,53,54,55,56,57,97,98,99,100,101,102,103,104,105,106,107,108,109,110,111,112,113,114,115,116,117,118,119,120,121,122])[15]=102:=rfl

theorem iu (h:15<(ByteArray.mk #[48,49,50,51,52,53,54,55,56,57,97,98,99,100,101,102,103,104,105,106,107,108,109,110,111,112,113,114,115,116,117,118,119,120,121,122]).size):(ByteArray.mk #[48,49,50,51,52,53,54,55,56,57,97,98,99,100,101,102,103,104,105,106,107,108,109,110,111,112,113,114,115,116,117,118,119,120,121,122])[15].toNat=102:=rfl

attribute [local go_sem] ke iu

theorem iK (gd:Nat)(w:World)(hd:w.heap[gd]?=some (.cells #[.int .u8 102,.int .u8 102] 5)) :
  (convert 67 9 (.slice (some ⟨gd,0,none⟩) 2 2)).run Tryz.prog w=.ok (.string ⟨#[102,102]⟩) w:=by
 have c0:w.cell? ⟨gd,0,none⟩=some (.int .u8 102):=by simp [World.cell?,hd]
 have c1:w.cell? ⟨gd,1,none⟩=some (.int .u8 102):=by simp [World.cell?,hd]
 rw [run_convert_bytes_string w 67 9 5 _ _ _ Tryz.underlying67 Tryz.underlying5 Tryz.underlying9]
 rw [run_bytesToString w _ 2 2 [102,102] (by simp [go_sem,loadCells,loadCellsFrom,c0,c1,Addr.add])]
 rfl

theorem lT (gd:Nat)(w:World)(hd:w.heap[gd]?=some (.cells #[.int .u8 15,.int .u8 15] 5)) :
  Calls Tryz.prog 32 #[.slice (some ⟨gd,0,none⟩) 2 2] w fun e w'=>e=.returned (.string ⟨#[102,102]⟩)∧Below gd w w':=by
 have c0:w.cell? ⟨gd,0,none⟩=some (.int .u8 15):=by simp [World.cell?,hd]
 have c1:w.cell? ⟨gd,1,none⟩=some (.int .u8 15):=by simp [World.cell?,hd]
 have hf:∀k,w.frozen? ⟨gd,k,none⟩=false:=fun k=>by simp [World.frozen?,hd]
 have s1:=aL (k:=0) hd (.int .u8 102)
 have s0:=aL (k:=1) s1 (.int .u8 102)
 have hconv:=iK gd _ s0
 have HB:=aa (((Below.refl gd w).setCell (p:=⟨gd,0,none⟩) (Nat.le_refl _) (.int .u8 102)).setCell (p:=⟨gd,1,none⟩) (Nat.le_refl _) (.int .u8 102))
 clear hd s0 s1
 go_enter Tryz.func32,Tryz.ntmps32
 go_wp2
 refine wp_loop_rounds 3 ?_
 rw [rounds_succ]
 go_wp2
 rw [rounds_succ]
 go_wp2
 rw [rounds_succ]
 go_wp2
 go_ret
 exact⟨rfl,HB.out⟩
end Go.Proofs.YteehipcoeocojaaGreatDoor
namespace Go.Proofs.YteehipcoeocojaaGreatDoor
open Go.RowKit
open Lm

theorem d6 (hi lo y:Nat)(w:World)(hy:y<18446744073709551616)(hhi:hi<y)(hlo:lo<18446744073709551616) :
  Calls Tryz.prog 108 #[.int .u64 hi,.int .u64 lo,.int .u64 y] w fun e w'=>e=.returned (.tuple #[.int .u64 (((hi*18446744073709551616+lo) / y:Nat):Int),.int .u64 (((hi*18446744073709551616+lo) % y:Nat):Int)])∧af w w':=by
 by_cases h:hi=0
 ·subst h
  have:=ft lo y w hy hhi hlo
  rw [Nat.zero_mul,Nat.zero_add]
  exact this
 ·exact js hi lo y w hy (by omega) hhi hlo
end Go.Proofs.YteehipcoeocojaaGreatDoor
namespace Go.Proofs.YteehipcoeocojaaGreatDoor
open Go.RowKit
open Lm
attribute [local go_sem ↓] Go.wp_at_zero Go.wp_at_succ

theorem fM (b:Nat)(w:World)(h1:2≤b)(h2:b≤36):Calls Tryz.prog 31 #[.int .i64 b] w fun e w'=>e=.returned (.bool true)∧w'=w:=by
 have i0:(2:Int)≤(b:Int):=by omega
 have i1:(b:Int)≤36:=by omega
 have i2:decide ((b:Int)≤36)=true:=decide_eq_true i1
 go_enter Tryz.func31,Tryz.ntmps31
 go_wp2
 go_ret
 exact⟨rfl,rfl⟩

theorem iQ (b:Int)(w:World)(h:b<2∨36<b):Calls Tryz.prog 31 #[.int .i64 b] w fun e w'=>e=.returned (.bool false)∧w'=w:=by
 by_cases h0:b<2
 ·have i0:¬(2≤b):=by omega
  clear h
  go_enter Tryz.func31,Tryz.ntmps31
  go_wp2
  go_ret
  exact⟨rfl,rfl⟩
 ·have i0:2≤b:=by omega
  have i1:¬(b≤36):=by omega
  have i2:decide (b≤36)=false:=decide_eq_false i1
  clear h h0
  go_enter Tryz.func31,Tryz.ntmps31
  go_wp2
  go_ret
  exact⟨rfl,rfl⟩

def aq (b v n:Nat):Prop:=1≤n∧v<b ^ n∧(n=1∨b ^ (n - 1)≤v)

theorem aq.unique {b v m n:Nat}(hb:2≤b)(h:aq b v m)(h':aq b v n):m=n:=by
 have key:∀ {m n:Nat},aq b v m→aq b v n→m≤n:=by
  intro m n h h'
  rcases h.2.2 with e|e
  ·have:=h'.1;omega
  ·have h1:=(Nat.pow_lt_pow_iff_right (show 1<b by omega)).1 (Nat.lt_of_le_of_lt e h'.2.1)
   omega
 exact Nat.le_antisymm (key h h') (key h' h)

theorem aq.few {b v n k:Nat}(hb:2≤b)(h:aq b v n)(hk:1≤k)(hv:v<2 ^ k):n≤k:=by
 rcases h.2.2 with e|e
 ·omega
 ·have h1:2 ^ (n - 1)≤b ^ (n - 1):=Nat.pow_le_pow_left hb _
  have h2:=(Nat.pow_lt_pow_iff_right (show 1<2 by omega)).1 (Nat.lt_of_le_of_lt (Nat.le_trans h1 e) hv)
  omega

def Cs (b v c n:Nat):Prop:=1≤n∧c=v / b ^ (n - 1)∧(n=1∨b ^ (n - 1)≤v)

theorem Cs.next {b v c n:Nat}(hb:2≤b)(h:Cs b v c n)(hc:b≤c):Cs b v (c / b) (n+1):=by
 obtain⟨h1,h2,_⟩:=h
 have e:b ^ (n+1 - 1)=b ^ (n - 1)*b:=by rw [←Nat.pow_succ];congr 1;omega
 have hp:0<b ^ (n - 1):=Nat.pow_pos (by omega)
 refine⟨by omega,by rw [e,←Nat.div_div_eq_div_mul,h2],.inr ?_⟩
 rw [e,Nat.mul_comm]
 exact (Nat.le_div_iff_mul_le hp).1 (by rw [←h2];exact hc)

theorem Cs.done {b v c n:Nat}(hb:2≤b)(h:Cs b v c n)(hc:c<b):aq b v n:=by
 obtain⟨h1,h2,h3⟩:=h
 have hp:0<b ^ (n - 1):=Nat.pow_pos (by omega)
 refine⟨h1,?_,h3⟩
 have e:b ^ n=b*b ^ (n - 1):=by rw [Nat.mul_comm,←Nat.pow_succ];congr 1;omega
 rw [e]
 exact (Nat.div_lt_iff_lt_mul hp).1 (by rw [←h2];exact hc)

theorem Cs.few {b v c n:Nat}(hb:2≤b)(h:Cs b v c n)(hv:v<18446744073709551616):n≤64:=by
 rcases h.2.2 with e|e
 ·omega
 ·have h1:2 ^ (n - 1)≤b ^ (n - 1):=Nat.pow_le_pow_left hb _
  have h2:=(Nat.pow_lt_pow_iff_right (show 1<2 by omega)).1 (Nat.lt_of_le_of_lt (Nat.le_trans h1 e) (show v<2 ^ 64 by omega))
  omega

theorem iM (v b:Nat)(w:World)(hb:2≤b)(hb2:b≤36)(hv:v<18446744073709551616) :
  Calls Tryz.prog 58 #[.int .u64 v,.int .u64 b] w fun e w'=>∃n:Nat,e=.returned (.int .i64 n)∧aq b v n∧w'=w:=by
 have hbz:((b:Int) == 0)=false:=by rw [beq_eq_false_iff_ne];omega
 go_enter Tryz.func58,Tryz.ntmps58
 go_wp2
 go_loop [0,5] (fun x y=>∃c n:Nat,x=.int .u64 c∧y=.int .i64 n∧c≤v∧Cs b v c n) (fun x _=>(intOf x).toNat)
 case atStart=>exact⟨v,1,rfl,rfl,Nat.le_refl _,Nat.le_refl _,by simp,.inl rfl⟩
 case round=>
  obtain⟨c,n,rfl,rfl,hcv,hcs⟩:=hrel
  have hn:=hcs.few hb hv
  have HC:=aa hcs
  by_cases hc:b≤c
  ·have i1:(b:Int)≤(c:Int):=by omega
   have hdl:c / b<c:=Nat.div_lt_self (by omega) (by omega)
   have hde:(c:Int) / (b:Int)=((c / b:Nat):Int):=by omega
   have HN:=aa (HC.out.next hb hc)
   generalize c / b=q at *
   clear hcs
   go_wp2
   go_round
   case rel=>exact⟨q,n+1,rfl,by go_num,by omega,HN.out⟩
   case measure=>simp [intOf];omega
  ·have i1:¬((b:Int)≤(c:Int)):=by omega
   clear hcs
   go_wp2
   go_ret
   exact⟨n,rfl,HC.out.done hb (by omega),rfl⟩

structure gL (b d p:Nat):Prop where
 pow:p=b ^ d
 fits:p<18446744073709551616
 most:18446744073709551616≤p*b
 some:1≤d
 few:d≤63

theorem ks (b:Nat)(w:World)(hb:2≤b)(hb2:b≤36) :
  Calls Tryz.prog 79 #[.int .i64 b] w fun e w'=>∃d p:Nat,e=.returned (.tuple #[.int .i64 d,.int .u64 p])∧gL b d p∧w'=w:=by
 have hbz:((b:Int) == 0)=false:=by rw [beq_eq_false_iff_ne];omega
 obtain⟨m,hm⟩:∃m,18446744073709551615 / b=m:=⟨_,rfl⟩
 have hmi:(18446744073709551615:Int) / (b:Int)=(m:Int):=by rw [←hm,Int.natCast_ediv];rfl
 have hm1:m*b≤18446744073709551615:=by rw [←hm];exact Nat.div_mul_le_self _ _
 have hm2:18446744073709551615<(m+1)*b:=by rw [←hm,Nat.mul_comm];exact Nat.lt_mul_div_succ _ (by omega)
 have hm3:1≤m:=by rw [←hm];exact (Nat.le_div_iff_mul_le (by omega)).2 (by omega)
 have HM:=aa (And.intro hm1 hm2)
 clear hm hm1 hm2
 go_enter Tryz.func79,Tryz.ntmps79
 go_wp2
 go_loop [2,3] (fun x y=>∃d p:Nat,x=.int .i64 d∧y=.int .u64 p∧p=b ^ d∧p<18446744073709551616∧d≤63) (fun x _=>64 - (intOf x).toNat)
 case atStart=>exact⟨0,1,rfl,rfl,by simp,by omega,by omega⟩
 case round=>
  obtain⟨d,p,rfl,rfl,hp,hpl,hd⟩:=hrel
  have HP:=aa hp
  by_cases hc:p≤m
  ·have i1:(p:Int)≤(m:Int):=by omega
   have hpb:p*b<18446744073709551616:=by
    have:=Nat.mul_le_mul_right b hc
    have:=HM.out.1
    omega
   have hpi:(p:Int)*(b:Int)=((p*b:Nat):Int):=by simp
   have hq:p*b=b ^ (d+1):=by rw [hp,Nat.pow_succ]
   have hd2:d+1≤63:=by
    have h1:2 ^ (d+1)≤b ^ (d+1):=Nat.pow_le_pow_left hb _
    have h2:=(Nat.pow_lt_pow_iff_right (show 1<2 by omega)).1 (Nat.lt_of_le_of_lt h1 (show b ^ (d+1)<2 ^ 64 by omega))
    omega
   have HQ:=aa hq
   generalize p*b=q at *
   clear hp hq
   go_wp2
   go_round
   case rel=>exact⟨d+1,q,by go_num,rfl,HQ.out,hpb,hd2⟩
   case measure=>simp [intOf];omega
  ·have i1:¬((p:Int)≤(m:Int)):=by omega
   clear hp
   go_wp2
   go_returns
   refine⟨d,p,rfl,⟨HP.out,hpl,?_,?_,hd⟩,rfl⟩
   ·have:=Nat.mul_le_mul_right b (show m+1≤p by omega)
    have:=HM.out.2
    omega
   ·rcases Nat.eq_zero_or_pos d with h|h
    ·have:=HP.out;rw [h] at this;simp at this;omega
    ·exact h

theorem Ans.front5 {w:World}{base g cap:Nat}{zs:List Nat}(h:Ans w base (.slice (some ⟨g,0,none⟩) zs.length cap) zs)(n:Nat)(hn:n≤zs.length):Ans w base (.slice (some ⟨g,0,none⟩) n cap) (zs.take n):=by
 refine⟨?_,fun z hz=>h.limbs z (List.mem_of_mem_take hz)⟩
 obtain⟨_,h2⟩:=h.own
 have e:(zs.take n).length=n:=by simp;omega
 refine⟨by simp,?_⟩
 rcases h2 with ⟨h1,_⟩|⟨g',cap',cur,hv,hg,hh,hnn,hcm,hs,ht⟩
 ·cases h1
 ·cases hv
  refine .inr ⟨g,cap,cur,by rw [e],hg,hh,by rw [e];omega,hcm,hs,?_⟩
  rw [e]
  have e2:cur.toList.take (n*1)=(cur.toList.take (zs.length*1)).take n:=by
   rw [List.take_take,Nat.mul_one,Nat.mul_one,Nat.min_eq_left hn]
  rw [e2,ht,List.map_take]

theorem mf (X out:List Nat)(j q:Nat)(h:out.take (j+1)=X.take (j+1)):(out.set j q).take j=X.take j:=by
 have e:(out.set j q).take j=out.take j:=by
  apply List.ext_getElem?
  intro n
  simp only [List.getElem?_take]
  split
  ·rw [List.getElem?_set_ne (by omega)]
  ·rfl
 rw [e]
 have h2:=congrArg (List.take j) h
 simpa [List.take_take,Nat.min_eq_left (Nat.le_succ j)] using h2

theorem lF (X out:List Nat)(j:Nat)(h:out.take (j+1)=X.take (j+1)):out.getD j 0=X.getD j 0:=by
 have h2:=congrArg (fun l=>l.getD j 0) h
 simpa [List.getD,List.getElem?_take] using h2

def di (base x d:Nat)(w:World)(e:Ending)(w':World):Prop:=
 ∃v Y,e=.returned (.tuple #[v,.int .u64 ((x % d:Nat):Int)])∧Ans w' base v Y∧val Y=x / d∧Below base w w'

theorem jd (base g cap d:Nat)(X:List Nat)(w:World)(hA:Ans w base (.slice (some ⟨g,0,none⟩) X.length cap) X)(hd:d<18446744073709551616)(hd0:0<d) :
  Calls Tryz.prog 81 #[.slice (some ⟨g,0,none⟩) X.length cap,.int .u64 d] w (di base (val X) d w):=by
 obtain⟨⟨hc1,hc2⟩,_,_⟩:=Ans.cellAt5 hA
 have hbg:base≤g:=(hA.own.lt g rfl).1
 have M1:=hA.limbs
 have HA:=aa hA
 clear hA
 go_enter Tryz.func81,Tryz.ntmps81
 go_wp2
 go_loopw [6,8] (fun c i wr=>∃(k r:Nat) (out:List Nat),k≤X.length∧i=.int .i64 ((k:Int) - 1)∧c=.int .u64 r∧r<d∧out.length=X.length∧Ans wr base (.slice (some ⟨g,0,none⟩) out.length cap) out∧Below base w wr ∧
   val (out.drop k)*d+r=val (X.drop k)∧out.take k=X.take k) (fun _ i _=>(intOf i+1).toNat)
 case atStart=>exact⟨X.length,0,X,Nat.le_refl _,by go_num,rfl,hd0,rfl,HA.out,Below.refl _ _,by simp [val],rfl⟩
 case round=>
  obtain⟨k,r,out,hk,rfl,rfl,hr,hlen,hans,hbl,hval,htk⟩:=hrel
  clear HA
  obtain⟨_,hfz,hcell⟩:=Ans.cellAt5 hans
  rcases Nat.eq_zero_or_pos k with rfl|hk0
  ·rw [List.drop_zero,List.drop_zero] at hval
   have hq:val out=val X / d:=by
    rw [←hval,Nat.mul_comm,Nat.mul_add_div hd0,Nat.div_eq_of_lt hr,Nat.add_zero]
   have hm:r=val X % d:=by
    rw [←hval,Nat.mul_comm,Nat.mul_add_mod,Nat.mod_eq_of_lt hr]
   have hrW:r<18446744073709551616:=by omega
   have HX:=aa hans
   have HL:=aa hbl
   have HQ:=aa (And.intro hq hm)
   rcases Nat.eq_zero_or_pos X.length with hx|hx
   ·obtain rfl:=List.eq_nil_of_length_eq_zero hx
    obtain rfl:=List.eq_nil_of_length_eq_zero hlen
    clear hans hbl hcell htk hval hq hm hfz
    go_wp2
    go_returns
    exact⟨_,[],by rw [←HQ.out.2];rfl,HX.out,HQ.out.1,HL.out⟩
   ·obtain⟨j,hj⟩:∃j,X.length=j+1:=⟨X.length - 1,by omega⟩
    have hji:(X.length:Int) - 1=(j:Int):=by omega
    have hck:=hcell j (by omega)
    have hlast:=val_take_next out j
    rw [show j+1=out.length by omega,List.take_length] at hlast
    have HF:=aa (HX.out.front5 j (by omega))
    have HT:=aa hlast
    have hjl:j<X.length:=by omega
    generalize out.getD j 0=o at *
    clear hans hbl hcell htk hval hq hm hlast hfz
    by_cases ho:o=0
    ·subst ho
     have hjc:j≤cap:=by omega
     go_wp2
     go_returns
     refine⟨_,out.take j,by rw [←HQ.out.2];rfl,HF.out,?_,HL.out⟩
     have:=HT.out;rw [Nat.mul_zero,Nat.add_zero] at this
     rw [←this];exact HQ.out.1
    ·have hoz:((o:Int) == 0)=false:=by rw [beq_eq_false_iff_ne];omega
     go_wp2
     go_returns
     refine⟨_,out,by rw [←HQ.out.2];rfl,?_,HQ.out.1,HL.out⟩
     have:=HX.out;rw [hlen] at this;exact this
  ·obtain⟨j,rfl⟩:∃j,k=j+1:=⟨k - 1,by omega⟩
   have hje:(((j+1:Nat):Int)) - 1=(j:Int):=by omega
   rw [hje]
   have hck:=hcell j (by omega)
   have hjl:j<X.length:=by omega
   have hst:=through_step X out d j r (by omega) hval hjl
   have hts:=mf X out j ((r*18446744073709551616+X.getD j 0) / d) htk
   rw [lF X out j htk] at hck
   have z1:=limb_lt M1 j
   have HV:=aa (And.intro hst hts)
   have HD:=d6 r (X.getD j 0) d wr hd hr z1
   have hql:=quo_lt r (X.getD j 0) d hr z1
   have hrl:(r*18446744073709551616+X.getD j 0) % d<d:=Nat.mod_lt _ hd0
   generalize (r*18446744073709551616+X.getD j 0) / d=qq at *
   generalize (r*18446744073709551616+X.getD j 0) % d=rr at *
   generalize X.getD j 0=x at *
   have HX:=aa hans
   have HL:=aa hbl
   have hi1:(0:Int)≤(j:Int):=by omega
   have hi2:(j:Int)<(X.length:Int):=by omega
   clear hst hts hval hcell hans hbl htk hfz hje M1
   go_wp2_with fail
   refine HD.mono ?_
   rintro e w2 ⟨rfl,hs⟩
   have HX2:=aa (HX.out.below (hs.below _))
   have HL2:=aa (HL.out.trans (hs.below _))
   obtain⟨_,hfz,hcell⟩:=Ans.cellAt5 HX2.out
   have hfr:=hfz j
   have hco:=hcell j (by omega)
   generalize out.getD j 0=o at *
   clear HD hs hck hfz hcell
   go_wp2
   go_roundw
   case rel=>
    exact⟨j,rr,out.set j qq,by omega,by go_num,rfl,hrl,by simp;omega,HX2.out.stored j qq hql,HL2.out.setCell hbg _,HV.out.1,HV.out.2⟩
   case measure=>simp [intOf]

theorem g7 (base d:Nat)(w:World) :
  Calls Tryz.prog 81 #[.slice none 0 0,.int .u64 d] w (di base 0 d w):=by
 go_enter Tryz.func81,Tryz.ntmps81
 go_wp2
 refine wp_loop_rounds 1 ?_
 rw [rounds_succ]
 go_wp2
 go_returns
 exact⟨_,[],by rw [Nat.zero_mod];rfl,Ans.nil _ _,by simp [val],Below.refl _ _⟩

theorem g9 (base d:Nat)(v:Value)(X:List Nat)(w:World)(hA:Ans w base v X)(hd:d<18446744073709551616)(hd0:0<d) :
  Calls Tryz.prog 81 #[v,.int .u64 d] w (di base (val X) d w):=by
 rcases hA.form with ⟨rfl,rfl⟩|⟨g,cap,rfl,_⟩
 ·exact g7 base d w
 ·exact jd base g cap d X w hA hd hd0
end Go.Proofs.YteehipcoeocojaaGreatDoor
namespace Go.Proofs.YteehipcoeocojaaGreatDoor
open Lm

def seg (Z:List Nat)(o n:Nat):List Nat:=(Z.drop o).take n

def sv (Z:List Nat)(o n:Nat):Nat:=val (seg Z o n)

structure Out (Z Z':List Nat)(lo hi:Nat):Prop where
 len:Z'.length=Z.length
 same:∀k,k<lo∨hi≤k→Z'.getD k 0=Z.getD k 0

theorem Out.refl (Z:List Nat)(lo hi:Nat):Out Z Z lo hi:=⟨rfl,fun _ _=>rfl⟩

theorem Out.trans {Z Z' Z'':List Nat}{lo hi:Nat}(h:Out Z Z' lo hi)(k:Out Z' Z'' lo hi):Out Z Z'' lo hi:=
 ⟨k.len.trans h.len,fun j hj=>(k.same j hj).trans (h.same j hj)⟩

theorem Out.wider {Z Z':List Nat}{lo hi lo' hi':Nat}(h:Out Z Z' lo hi)(h1:lo'≤lo)(h2:hi≤hi'):Out Z Z' lo' hi':=
 ⟨h.len,fun k hk=>h.same k (by omega)⟩

theorem bI (Z:List Nat)(j k z:Nat):(Z.set j z).getD k 0=if j=k∧k<Z.length then z else Z.getD k 0:=by
 by_cases h:j=k
 ·subst h
  by_cases hl:j<Z.length
  ·simp [List.getD,hl]
  ·simp [List.getD,hl]
 ·simp [List.getD,h]

theorem Out.set {Z Z':List Nat}{lo hi:Nat}(h:Out Z Z' lo hi)(j z:Nat)(h1:lo≤j)(h2:j<hi):Out Z (Z'.set j z) lo hi:=
 ⟨by simp [h.len],fun k hk=>by rw [bI,if_neg (by omega)];exact h.same k hk⟩

theorem aA (Z:List Nat)(o n:Nat)(h:o+n≤Z.length):(seg Z o n).length=n:=by
 simp [seg];omega

theorem bT (Z:List Nat)(o n k:Nat)(h:k<n):(seg Z o n).getD k 0=Z.getD (o+k) 0:=by
 simp [seg,List.getD,h]

theorem fd {a b:List Nat}(hl:a.length=b.length)(h:∀k,k<a.length→a.getD k 0=b.getD k 0):a=b:=by
 refine List.ext_getElem hl fun k h1 h2=>?_
 have:=h k h1
 simpa [List.getD,h1,h2] using this

theorem Out.seg {Z Z':List Nat}{lo hi:Nat}(h:Out Z Z' lo hi)(o n:Nat)(hd:o+n≤lo∨hi≤o):seg Z' o n=seg Z o n:=by
 have hl:(Go.Proofs.YteehipcoeocojaaGreatDoor.seg Z' o n).length=(Go.Proofs.YteehipcoeocojaaGreatDoor.seg Z o n).length:=by simp [Go.Proofs.YteehipcoeocojaaGreatDoor.seg,h.len]
 refine fd hl fun k hk=>?_
 have hk':k<n:=by simp [Go.Proofs.YteehipcoeocojaaGreatDoor.seg] at hk;omega
 rw [bT _ _ _ _ hk',bT _ _ _ _ hk',h.same _ (by omega)]

theorem Out.sv {Z Z':List Nat}{lo hi:Nat}(h:Out Z Z' lo hi)(o n:Nat)(hd:o+n≤lo∨hi≤o):sv Z' o n=sv Z o n:=by
 unfold Go.Proofs.YteehipcoeocojaaGreatDoor.sv;rw [h.seg o n hd]

theorem aj (Z:List Nat)(o:Nat):sv Z o 0=0:=by simp [sv,seg,val]

theorem ae (Z:List Nat)(o m n:Nat)(h:o+m≤Z.length):sv Z o (m+n)=sv Z o m+18446744073709551616 ^ m*sv Z (o+m) n:=by
 unfold sv
 have e:seg Z o (m+n)=seg Z o m ++ seg Z (o+m) n:=by
  unfold seg
  rw [List.take_add,List.drop_drop]
 rw [e,val_append,aA Z o m h]

theorem cG (Z:List Nat)(o:Nat)(h:o<Z.length):sv Z o 1=Z.getD o 0:=by
 unfold sv seg
 rw [List.drop_eq_getElem_cons h,List.take_succ_cons,List.take_zero,val,val]
 simp [List.getD,h]

theorem bU (Z:List Nat)(o i:Nat)(h:o+i<Z.length):sv Z o (i+1)=sv Z o i+18446744073709551616 ^ i*Z.getD (o+i) 0:=by
 rw [ae Z o i 1 (by omega),cG _ _ h]

theorem bZ {Z:List Nat}(h:Limbs Z)(o n:Nat):Limbs (seg Z o n):=fun z hz=>h z (List.mem_of_mem_drop (List.mem_of_mem_take hz))

theorem aN {Z:List Nat}(h:Limbs Z)(o n:Nat):sv Z o n<18446744073709551616 ^ n:=by
 have h1:=val_lt (bZ h o n)
 refine Nat.lt_of_lt_of_le h1 (Nat.pow_le_pow_right (by omega) ?_)
 simp [seg];omega

theorem bs (Z:List Nat)(o i z:Nat)(h:o+i<Z.length):sv (Z.set (o+i) z) o (i+1)=sv Z o i+18446744073709551616 ^ i*z:=by
 rw [bU _ _ _ (by simpa using h),bI,if_pos ⟨rfl,h⟩]
 have e:Out Z (Z.set (o+i) z) (o+i) (o+i+1):=(Out.refl _ _ _).set _ _ (by omega) (by omega)
 rw [e.sv o i (by omega)]

theorem aZ (Z:List Nat):sv Z 0 Z.length=val Z:=by simp [sv,seg]

theorem mm (Z Z' X:List Nat)(o i m cy hi lo:Nat)(hz:o+i<Z'.length)(h0:Z'.getD (o+i) 0=Z.getD (o+i) 0)(hZ:Z'.length=Z.length)
  (h:sv Z' o i+cy*18446744073709551616 ^ i=sv Z o i+val (X.take i)*m)
  (hs:lo+hi*18446744073709551616=X.getD i 0*m+Z.getD (o+i) 0+cy) :
  sv (Z'.set (o+i) lo) o (i+1)+hi*18446744073709551616 ^ (i+1)=sv Z o (i+1)+val (X.take (i+1))*m:=by
 have:=h0
 rw [bs _ _ _ _ hz,bU Z o i (by omega),val_take_next X i,show (18446744073709551616:Nat) ^ (i+1)=18446744073709551616 ^ i*18446744073709551616 from Nat.pow_succ ..]
 generalize sv Z' o i=V' at *
 generalize sv Z o i=V at *
 generalize val (X.take i)=U at *
 generalize Z.getD (o+i) 0=z at *
 generalize X.getD i 0=x at *
 generalize (18446744073709551616:Nat) ^ i=P at *
 generalize (18446744073709551616:Nat)=W at *
 grind

theorem lb (x m z cy:Nat)(hx:x<18446744073709551616)(hm:m<18446744073709551616)(hz:z<18446744073709551616)(hc:cy<18446744073709551616) :
  x*m+z+cy<18446744073709551616*18446744073709551616:=by
 have h:=Nat.mul_le_mul (Nat.le_sub_one_of_lt hx) (Nat.le_sub_one_of_lt hm)
 omega
end Go.Proofs.YteehipcoeocojaaGreatDoor
namespace Go.Proofs.YteehipcoeocojaaGreatDoor
open Go.RowKit
open Lm

theorem ip (b off cap:Nat)(zs:List Nat)(w:World)(hcap:zs.length≤cap)(hmax:cap≤9223372036854775807)
  (hc:∀k,k<zs.length→w.cell? ⟨b,off+k,none⟩=some (.int .u64 ((zs.getD k 0:Nat):Int))) :
  Calls Tryz.prog 136 #[.slice (some ⟨b,off,none⟩) zs.length cap] w fun e w'=>e=.returned (.slice (some ⟨b,off,none⟩) (tr zs).length cap)∧w'=w:=by
 go_enter Tryz.func136,Tryz.ntmps136
 go_wp2
 go_loop [3] (fun n=>∃k:Nat,k≤zs.length∧n=.int .i64 k∧tr (zs.take k)=tr zs) (fun n=>(intOf n).toNat)
 case atStart=>exact⟨zs.length,Nat.le_refl _,rfl,by rw [List.take_length]⟩
 case round=>
  obtain⟨k,hk,rfl,ht⟩:=hrel
  have HT:Hid (tr (zs.take k)=tr zs):=ht
  clear ht
  by_cases h0:k=0
  ·subst h0
   go_wp2
   go_ret
   have e:=HT.out
   simp only [List.take_zero,tr] at e
   rw [←e]
   exact⟨rfl,rfl⟩
  ·obtain⟨j,rfl⟩:∃j,k=j+1:=⟨k - 1,by omega⟩
   have hcj:=hc j (by omega)
   clear hc
   by_cases hz:zs.getD j 0=0
   ·have HZ:Hid (tr (zs.take j)=tr zs):=by rw [←tr_step zs j (by omega) hz];exact HT.out
    rw [hz] at hcj
    clear hz HT
    go_wp2
    go_round
    case rel=>exact⟨j,by omega,by go_num,HZ.out⟩
    case measure=>simp [intOf]
   ·have HZ:Hid (tr zs=zs.take (j+1)):=by rw [←HT.out];exact tr_stop zs j (by omega) hz
    clear HT
    generalize zs.getD j 0=z at hcj hz
    have hne:((z:Int) == 0)=false:=by rw [beq_eq_false_iff_ne];omega
    clear hz
    go_wp2
    go_ret
    rw [HZ.out]
    have e:(zs.take (j+1)).length=j+1:=by simp;omega
    rw [e]
    exact⟨rfl,rfl⟩

theorem i6 (ao:Option Addr)(cap:Nat)(w:World)(_hmax:cap≤9223372036854775807) :
  Calls Tryz.prog 136 #[.slice ao 0 cap] w fun e w'=>e=.returned (.slice ao 0 cap)∧w'=w:=by
 go_enter Tryz.func136,Tryz.ntmps136
 go_wp2
 refine wp_loop_rounds 1 ?_
 rw [rounds_succ]
 go_wp2
 go_ret
 exact⟨rfl,rfl⟩

theorem aR (ao:Option Addr)(cap:Nat)(zs:List Nat)(w:World)(hcap:zs.length≤cap)(hmax:cap≤9223372036854775807)(hl:ah w ao zs) :
  Calls Tryz.prog 136 #[.slice ao zs.length cap] w fun e w'=>e=.returned (.slice ao (tr zs).length cap)∧w'=w:=by
 rcases hl with rfl|⟨b,off,rfl,hc⟩
 ·exact i6 ao cap w hmax
 ·exact ip b off cap zs w hcap hmax hc

structure Fr (bz:Nat)(w w':World):Prop where
 os:w'.os=w.os
 tape:w'.tape=w.tape
 output:w'.output=w.output
 size:w.heap.size≤w'.heap.size
 block:∀k,k<w.heap.size→k≠bz→w'.heap[k]?=w.heap[k]?

theorem Fr.refl (bz:Nat)(w:World):Fr bz w w:=⟨rfl,rfl,rfl,Nat.le_refl _,fun _ _ _=>rfl⟩

theorem Fr.trans {bz:Nat}{a b c:World}(h:Fr bz a b)(k:Fr bz b c):Fr bz a c:=
 ⟨k.os.trans h.os,k.tape.trans h.tape,k.output.trans h.output,Nat.le_trans h.size k.size,fun i h1 h2=>(k.block i (Nat.lt_of_lt_of_le h1 h.size) h2).trans (h.block i h1 h2)⟩

theorem Fr.setCell {bz:Nat}{a w:World}(h:Fr bz a w)(off:Nat)(u:Value):Fr bz a (w.setCell ⟨bz,off,none⟩ u):=
 ⟨h.os,h.tape,h.output,by simpa using h.size,fun k h1 h2=>(Below.heap_setCell w _ u k h2).trans (h.block k h1 h2)⟩

theorem Fr.drew {bz:Nat}{a w:World}(h:Fr bz a w):Fr bz a w.drew:=⟨h.os,h.tape,h.output,h.size,h.block⟩

theorem Fr.of_below {bz:Nat}{w w':World}(h:Below w.heap.size w w'):Fr bz w w':=⟨h.os,h.tape,h.output,h.size,fun k h1 _=>h.block k h1⟩

theorem Fr.below {bz base:Nat}{w w':World}(h:Fr bz w w')(h1:base≤bz)(h2:base≤w.heap.size):Below base w w':=
 ⟨h.os,h.tape,h.output,h.size,fun k hk=>h.block k (by omega) (by omega)⟩

def Off (v:Value)(bz lo hi:Nat):Prop:=∀b off n c,v=.slice (some ⟨b,off,none⟩) n c→b≠bz∨off+n≤lo∨hi≤off

theorem ah.fr {w w':World}{ao:Option Addr}{X Z Z':List Nat}{bz lo hi:Nat}(h:ah w ao X)(ho:∀b off,ao=some ⟨b,off,none⟩→b≠bz∨off+X.length≤lo∨hi≤off)
  (hf:Fr bz w w') (hb:Blk w bz Z) (hb':Blk w' bz Z') (hz:Out Z Z' lo hi):ah w' ao X:=by
 rcases h with h|⟨b,off,rfl,hc⟩
 ·exact .inl h
 ·rcases Nat.eq_zero_or_pos X.length with h0|h0
  ·exact .inl (List.length_eq_zero_iff.1 h0)
  refine .inr ⟨b,off,rfl,fun k hk=>?_⟩
  have hlt:b<w.heap.size:=ah.block (zs:=X) (.inr ⟨b,off,rfl,hc⟩) h0
  by_cases hbz:b=bz
  ·subst hbz
   have h1:=hc k hk
   have hin:off+k<Z.length:=by
    refine Nat.lt_of_not_le fun hle=>?_
    have:w.cell? ⟨b,off+k,none⟩=none:=by
     unfold Blk at hb
     simp [World.cell?,hb];omega
    rw [this] at h1;cases h1
   rw [hb.cell _ hin] at h1
   rw [hb'.cell _ (by rw [hz.len];exact hin),hz.same _ (by have:=ho b off rfl;omega)]
   exact h1
  ·have:=hf.block b hlt hbz
   rw [World.cell?_of_block (w:=w) this]
   exact hc k hk

theorem Arg.fr {w w':World}{v:Value}{X Z Z':List Nat}{bz lo hi:Nat}(h:Arg w v X)(ho:Off v bz lo hi)
  (hf:Fr bz w w') (hb:Blk w bz Z) (hb':Blk w' bz Z') (hz:Out Z Z' lo hi):Arg w' v X:=by
 obtain⟨ao,cap,h1,h2,h3,h4⟩:=h.form
 exact⟨⟨ao,cap,h1,h2,h3,h4.fr (fun b off e=>by subst e;exact ho b off _ _ h1) hf hb hb' hz⟩,h.limbs,h.few,h.nz⟩
end Go.Proofs.YteehipcoeocojaaGreatDoor

