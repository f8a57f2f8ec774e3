/- Plain facts: digits of 32 bits taken in pairs; bits of a number by its digits; the order by its digits. -/
import Derived.Test.YtcbpdngogkbndaaGreatDoorB01
import Derived.Laws.AppendOwnNone
import Derived.Handy
set_option maxRecDepth 20000
set_option maxHeartbeats 1000000
namespace Go.Proofs.YtcbpdngogkbndaaGreatDoor
namespace Lm

def pairsB (B:Nat):List Nat→List Nat
 | []=>[]
 | [a]=>[a]
 | a :: b :: r=>(a+b*B) :: pairsB B r

def pairs (ds:List Nat):List Nat:=pairsB 4294967296 ds

theorem pairsB_length (B:Nat):∀ds:List Nat,(pairsB B ds).length=(ds.length+1) / 2
 | []=>by simp [pairsB]
 | [_]=>by simp [pairsB]
 | a :: b :: r=>by simp only [pairsB,List.length_cons,pairsB_length B r];omega

theorem pairsB_getD (B:Nat):∀(ds:List Nat) (k:Nat),(pairsB B ds).getD k 0=ds.getD (2*k) 0+ds.getD (2*k+1) 0*B
 | [],k=>by simp [pairsB,List.getD]
 | [a],0=>by simp [pairsB,List.getD]
 | [a],k+1=>by simp [pairsB,List.getD,Nat.mul_add]
 | a :: b :: r,0=>by simp [pairsB,List.getD]
 | a :: b :: r,k+1=>by
  have:=pairsB_getD B r k
  rw [show 2*(k+1)=2*k+1+1 by omega]
  simp only [pairsB,List.getD_cons_succ]
  exact this

theorem pairs_length (ds:List Nat):(pairs ds).length=(ds.length+1) / 2:=pairsB_length _ ds

theorem pairs_getD (ds:List Nat)(k:Nat):(pairs ds).getD k 0=ds.getD (2*k) 0+ds.getD (2*k+1) 0*4294967296:=pairsB_getD _ ds k

theorem pairs_val:∀ds:List Nat,val (pairs ds)=vb 4294967296 ds
 | []=>rfl
 | [a]=>by simp [pairs,pairsB,val,vb]
 | a :: b :: r=>by
  have ih:=pairs_val r
  unfold pairs at ih ⊢
  simp only [pairsB,val,vb,ih];omega

theorem pairs_limbs:∀ds:List Nat,Digs 4294967296 ds→Limbs (pairs ds)
 | [],_=>by intro z hz;cases hz
 | [a],h=>by
  intro z hz
  have:=h a (by simp)
  simp [pairs,pairsB] at hz
  omega
 | a :: b :: r,h=>by
  intro z hz
  have ha:=h a (by simp)
  have hb:=h b (by simp)
  simp only [pairs,pairsB,List.mem_cons] at hz
  rcases hz with rfl|hz
  ·omega
  ·exact pairs_limbs r (fun y hy=>h y (by simp [hy])) z hz

theorem pairs_nil:∀ds:List Nat,pairs ds=[]→ds=[]
 | [],_=>rfl
 | [a],h=>by simp [pairs,pairsB] at h
 | a :: b :: r,h=>by simp [pairs,pairsB] at h

theorem pairs_tr:∀ds:List Nat,tr ds=ds→tr (pairs ds)=pairs ds
 | [],_=>rfl
 | [a],h=>h
 | a :: b :: r,h=>by
  have h1:=tr_tail h
  have h2:=tr_tail h1
  have ih:=pairs_tr r h2
  unfold pairs at ih ⊢
  simp only [pairsB,tr,ih]
  split
  ·rename_i hc
   exfalso
   have hr:=pairs_nil r hc.2
   have hb:b=0:=by omega
   subst hr hb
   simp [tr] at h1
  ·rfl

theorem blen_half (v:Nat)(h:v≠0):blen v=blen (v / 2)+1:=by
 unfold blen
 rw [if_neg h]
 by_cases h2:v / 2=0
 ·rw [if_pos h2]
  have:v=1:=by omega
  subst this;rfl
 ·rw [if_neg h2]
  have:v.log2=(v / 2).log2+1:=by
   rw [Nat.log2_def];rw [if_pos (by omega)]
  omega

theorem B_pow (n:Nat):(4294967296:Nat) ^ n=2 ^ (32*n):=by rw [Nat.pow_mul]

theorem blen_top (p k d:Nat)(hp:p<2 ^ k)(hd:d≠0):blen (p+2 ^ k*d)=k+blen d:=by
 have h1:=Nat.log2_self_le hd
 have h2:=(Nat.log2_lt hd (k:=d.log2+1)).1 (by omega)
 have e:blen d=d.log2+1:=by unfold blen;rw [if_neg hd]
 rw [e,←Nat.add_assoc]
 refine blen_eq _ _ ?_ ?_
 ·rw [Nat.pow_add]
  exact Nat.le_trans (Nat.mul_le_mul_left _ h1) (Nat.le_add_left _ _)
 ·rw [Nat.add_assoc,Nat.pow_add]
  have:=Nat.mul_le_mul_left (2 ^ k) (Nat.succ_le_of_lt h2)
  rw [Nat.succ_eq_add_one,Nat.mul_add] at this
  omega

theorem tr_last' (ds:List Nat)(n:Nat)(ht:tr ds=ds)(h:ds.length=n+1):ds.getD n 0≠0:=by
 have:=tr_last ds n (by rw [ht];exact h)
 rwa [ht] at this

theorem vb_split (ds:List Nat)(n:Nat)(h:ds.length=n+1):vb 4294967296 ds=vb 4294967296 (ds.take n)+2 ^ (32*n)*ds.getD n 0:=by
 have:=vb_take_next (B:=4294967296) ds n
 rw [←h,List.take_length,B_pow] at this
 exact this

theorem vb_take_lt {ds:List Nat}(hd:Digs 4294967296 ds)(n:Nat):vb 4294967296 (ds.take n)<2 ^ (32*n):=by
 have h1:=vb_lt (B:=4294967296) (zs:=ds.take n) (fun z hz=>hd z (List.mem_of_mem_take hz))
 have h2:(ds.take n).length≤n:=List.length_take_le _ _
 rw [←B_pow]
 exact Nat.lt_of_lt_of_le h1 (Nat.pow_le_pow_right (by omega) h2)

theorem blen_vb {ds:List Nat}(hd:Digs 4294967296 ds)(ht:tr ds=ds)(n:Nat)(h:ds.length=n+1):blen (vb 4294967296 ds)=32*n+blen (ds.getD n 0):=by
 rw [vb_split ds n h]
 exact blen_top _ _ _ (vb_take_lt hd n) (tr_last' ds n ht h)

theorem vb_shorter {a b:List Nat}(ha:Digs 4294967296 a)(hb:tr b=b)(h:a.length<b.length):vb 4294967296 a<vb 4294967296 b:=by
 obtain⟨n,hn⟩:∃n,b.length=n+1:=⟨b.length - 1,by omega⟩
 have h1:=vb_take_lt ha n
 rw [List.take_of_length_le (by omega)] at h1
 have h2:=tr_last' b n hb hn
 rw [vb_split b n hn]
 have:=Nat.mul_le_mul_left (2 ^ (32*n)) (Nat.one_le_iff_ne_zero.2 h2)
 omega

theorem vcmp_same {Z Y:List Nat}(j:Nat)(he:Z.getD j 0=Y.getD j 0):cmpN (vb 4294967296 (Z.take (j+1))) (vb 4294967296 (Y.take (j+1)))=cmpN (vb 4294967296 (Z.take j)) (vb 4294967296 (Y.take j)):=by
 rw [vb_take_next,vb_take_next,he,cmpN_add]

theorem vcmp_top {Z Y:List Nat}(hZ:Digs 4294967296 Z)(hY:Digs 4294967296 Y)(j:Nat)(hne:Z.getD j 0≠Y.getD j 0):cmpN (vb 4294967296 (Z.take (j+1))) (vb 4294967296 (Y.take (j+1)))=cmpN (Z.getD j 0) (Y.getD j 0):=by
 rw [vb_take_next,vb_take_next,B_pow]
 exact cmpN_top _ _ _ _ _ (vb_take_lt hZ j) (vb_take_lt hY j) hne

theorem vb_sub_step (X S out:List Nat)(k bw:Nat)(hk:k<out.length)(hx:X.getD k 0<4294967296)(hy:S.getD k 0<4294967296)(hb:bw≤1)
  (h:vb 4294967296 (out.take k)+vb 4294967296 (S.take k)=vb 4294967296 (X.take k)+bw*4294967296 ^ k) :
  vb 4294967296 ((out.set k ((X.getD k 0+4294967296 - S.getD k 0 - bw) % 4294967296)).take (k+1))+vb 4294967296 (S.take (k+1))=vb 4294967296 (X.take (k+1))+(1 - (X.getD k 0+4294967296 - S.getD k 0 - bw) / 4294967296)*4294967296 ^ (k+1):=by
 rw [vb_set_succ _ _ _ hk,vb_take_next X,vb_take_next S,Nat.pow_succ]
 generalize X.getD k 0=x at *
 generalize S.getD k 0=y at *
 have hm:(x+4294967296 - y - bw) % 4294967296+y+bw=x+(1 - (x+4294967296 - y - bw) / 4294967296)*4294967296:=by omega
 generalize (x+4294967296 - y - bw) % 4294967296=m at *
 generalize 1 - (x+4294967296 - y - bw) / 4294967296=d at *
 generalize (4294967296:Nat) ^ k=p at *
 have e:p*(m+y+bw)=p*(x+d*4294967296):=by rw [hm]
 rw [Nat.mul_add,Nat.mul_add,Nat.mul_add] at e
 have e2:d*(p*4294967296)=p*(d*4294967296):=by rw [←Nat.mul_assoc,Nat.mul_comm d p,Nat.mul_assoc]
 have e3:bw*p=p*bw:=Nat.mul_comm _ _
 omega

end Lm
end Go.Proofs.YtcbpdngogkbndaaGreatDoor
namespace Go.Proofs.YtcbpdngogkbndaaGreatDoor
open Go.RowKit
open Lm

theorem mR (v:Value)(ds:List Nat)(w:World)(h:Arg w v ds)(hd:Digs 4294967296 ds)(hf:ds.length≤35184372088832) :
  Calls Tryz.prog 87 #[v] w fun e w'=>(∃v',e=.returned v'∧Ans w' w.heap.size v' (pairs ds))∧Below w.heap.size w w':=by
 obtain⟨ao,cap,rfl,hcap,hmax,L1⟩:=h.form
 obtain⟨i0,hi,hz0,hz1,hz2⟩:=info_parts Tryz.infoU
 have hpl:=pairs_length ds
 clear h
 go_enter Tryz.func87,Tryz.ntmps87
 go_wp2
 go_loopw [3,4] (fun o i wr=>∃k:Nat,k≤(pairs ds).length∧i=.int .i64 ((2*k:Nat):Int)∧wr.ownsRow w.heap.size 60 1 o ((pairs ds).take k).length (((pairs ds).take k).map lv)∧Below w.heap.size w wr) (fun _ i _=>ds.length+2 - (intOf i).toNat)
 case atStart=>exact⟨0,Nat.zero_le _,rfl,World.ownsRow_nil _ _ _ _,Below.refl _ _⟩
 case round=>
  obtain⟨k,hk,rfl,ho,hbl⟩:=hrel
  have HB:=aa hbl
  by_cases hkl:2*k<ds.length
  ·rcases L1.below hbl with h0|⟨b,off,rfl,hcell⟩
   ·simp [h0] at hkl
   ·have hck:=hcell (2*k) hkl
    have HT:=aa (take_snoc (pairs ds) k (by omega))
    have hpg:=pairs_getD ds k
    have z1:=dig_lt (by omega) hd (2*k)
    have z2:=dig_lt (by omega) hd (2*k+1)
    by_cases hk2:2*k+1<ds.length
    ·have hck2:=hcell (2*k+1) hk2
     rw [hpg] at HT
     generalize ds.getD (2*k) 0=x at *
     generalize ds.getD (2*k+1) 0=y at *
     have i1:(2:Int)*(k:Int)+1<(ds.length:Int):=by omega
     have e1:(x:Int)+(y:Int)*4294967296=((x+y*4294967296:Nat):Int):=by omega
     have b1:x+y*4294967296<18446744073709551616:=by omega
     generalize x+y*4294967296=z at *
     clear hcell L1 hbl hd hpg
     go_wp2_with (at_builtin;refine wpList_append_own _ rfl _ _ 22 rfl w.heap.size 60 i0 (.int .u64 0) 1 8 Tryz.underlying22 hi hz0 hz1 hz2 rfl (by decide) _ _ _ rfl (ho.alloc _) ⟨wr.heap.size,0,none⟩ 1 1 ([z].map lv) rfl rfl (dK [z]) (dn _) (by simp only [List.length_take];unfold maxLen;omega) (by simp only [List.length_take];omega) (by have:=HB.out.size;simp;omega) ?_;intro v' w2 hown2 hgrow2 _)
     have HO:=aa hown2
     have HB2:=aa ((HB.out.alloc HB.out.size (.cells ([z].map lv).toArray 60)).grown hgrow2 (by have:=HB.out.size;simp;omega) (fun k hk=>(ho.lt k hk).1))
     clear hown2 hgrow2 ho
     go_wp2
     go_roundw
     case rel=>
      refine⟨k+1,by omega,by go_num,?_,HB2.out⟩
      rw [HT.out,List.length_append,List.map_append]
      exact HO.out
     case measure=>simp [intOf];omega
    ·have e0:ds.getD (2*k+1) 0=0:=by simp [List.getD,Nat.le_of_not_lt hk2]
     rw [hpg,e0,Nat.zero_mul,Nat.add_zero] at HT
     generalize ds.getD (2*k) 0=x at *
     have hd1:decide ((2:Int)*(k:Int)+1<(ds.length:Int))=false:=decide_eq_false (by omega)
     clear hcell L1 hbl hd hpg e0
     go_wp2_with (at_builtin;refine wpList_append_own _ rfl _ _ 22 rfl w.heap.size 60 i0 (.int .u64 0) 1 8 Tryz.underlying22 hi hz0 hz1 hz2 rfl (by decide) _ _ _ rfl (ho.alloc _) ⟨wr.heap.size,0,none⟩ 1 1 ([x].map lv) rfl rfl (dK [x]) (dn _) (by simp only [List.length_take];unfold maxLen;omega) (by simp only [List.length_take];omega) (by have:=HB.out.size;simp;omega) ?_;intro v' w2 hown2 hgrow2 _)
     have HO:=aa hown2
     have HB2:=aa ((HB.out.alloc HB.out.size (.cells ([x].map lv).toArray 60)).grown hgrow2 (by have:=HB.out.size;simp;omega) (fun k hk=>(ho.lt k hk).1))
     clear hown2 hgrow2 ho
     go_wp2
     go_roundw
     case rel=>
      refine⟨k+1,by omega,by go_num,?_,HB2.out⟩
      rw [HT.out,List.length_append,List.map_append]
      exact HO.out
     case measure=>simp [intOf];omega
  ·have ek:k=(pairs ds).length:=by omega
   rw [ek,List.take_length] at ho
   have HA:Hid (Ans wr w.heap.size u3 (pairs ds)):=⟨ho,pairs_limbs ds hd⟩
   clear ho hbl L1 hd
   go_wp2
   go_ret
   exact⟨⟨_,rfl,HA.out⟩,HB.out⟩

theorem iX (v u:Value)(x:Nat)(rs:List Nat)(w:World)(hn:Num w v x)(ha:Arg w u rs)(ht:tr rs=rs)(hv:val rs=x)(hf:blen x≤1125899906842624) :
  Calls Tryz.prog 77 #[v,u] w fun e w'=>e=.returned (.bool true)∧Below w.heap.size w w':=by
 obtain⟨ds,hd1,hd2,hd3,hd4,hd5⟩:=hn
 have hf2:ds.length≤35184372088832:=by
  refine Nat.le_of_not_lt fun hlt=>?_
  obtain⟨n,hn⟩:∃n,ds.length=n+1:=⟨ds.length - 1,by omega⟩
  have h1:=blen_vb hd2 hd3 n hn
  have h2:=tr_last' ds n hd3 hn
  have h3:=blen_half _ h2
  rw [hd4] at h1
  omega
 clear hf
 have HL:=mR v ds w hd1 hd2 hf2
 have he:pairs ds=rs:=norm_inj _ _ (pairs_limbs ds hd2) ha.limbs (pairs_tr ds hd3) ht (by rw [pairs_val,hd4,hv])
 rw [he] at HL
 have hfew:=ha.few
 clear he ht hv hd1 hd2 hd3 hd4 hd5 hf2
 go_enter Tryz.func77,Tryz.ntmps77
 go_wp2_with fail
 refine HL.mono ?_
 rintro e w1 ⟨⟨v',rfl,hans⟩,hb⟩
 have A1:=hans.arg hfew
 have A2:=ha.below hb
 have HB:=aa hb
 clear HL hans hb ha
 obtain⟨a1,c1,rfl,hc1,hm1,L1⟩:=A1.form
 obtain⟨a2,c2,rfl,hc2,hm2,L2⟩:=A2.form
 have hne:((rs.length:Int) != (rs.length:Int))=false:=by simp
 clear A1 A2
 go_wp2
 go_loopw [16] (fun i wr=>∃k:Nat,k≤rs.length∧i=.int .i64 k∧ai w1 wr) (fun i _=>rs.length - (intOf i).toNat)
 case atStart=>exact⟨0,Nat.zero_le _,rfl,ai.refl _⟩
 case round=>
  obtain⟨k,hk,rfl,hs⟩:=hrel
  by_cases hkl:k<rs.length
  ·rcases L1.below (hs.below _) with h0|⟨b,off,rfl,hcell⟩
   ·simp [h0] at hkl
   ·rcases L2.below (hs.below _) with h0|⟨b',off',rfl,hcell'⟩
    ·simp [h0] at hkl
    ·have hck:=hcell k hkl
     have hck':=hcell' k hkl
     generalize rs.getD k 0=z at *
     have hne2:((z:Int) != (z:Int))=false:=by simp
     have hi1:(0:Int)≤(k:Int):=by omega
     have hi2:(k:Int)<(rs.length:Int):=by omega
     have HS:=aa hs
     clear hcell hcell' L1 L2 hs
     go_wp2
     go_quiet (fail)
     go_wp2
     go_roundw
     case rel=>exact⟨k+1,by omega,by go_num,HS.out.drewN _⟩
     case measure=>simp [intOf];omega
  ·have HS:=aa hs
   clear L1 L2 hs
   go_wp2
   go_ret
   exact⟨rfl,HB.out.trans (HS.out.below _)⟩

theorem fo {k:IntKind}{a b:Int}(h:a=b):Ending.returned (.int k a)=.returned (.int k b):=by rw [h]

theorem fi (v:Value)(x:Nat)(w:World)(hn:Num w v x) :
  Calls Tryz.prog 47 #[v] w fun e w'=>e=.returned (.int .i64 ((blen x:Nat):Int))∧w'=w:=by
 obtain⟨ds,hd1,hd2,hd3,rfl,hd5⟩:=hn
 obtain⟨ao,cap,rfl,hcap,hmax,L1⟩:=hd1.form
 clear hd1
 by_cases h0:ds.length=0
 ·have hz:ds=[]:=List.length_eq_zero_iff.1 h0
  subst hz
  have e:blen (vb 4294967296 [])=0:=rfl
  rw [e]
  clear L1 hd2 hd3 hd5 h0
  go_enter Tryz.func47,Tryz.ntmps47
  go_wp2
  go_ret
  exact⟨rfl,rfl⟩
 ·obtain⟨n,hn⟩:∃n,ds.length=n+1:=⟨ds.length - 1,by omega⟩
  rcases L1 with hz|⟨b,off,rfl,hcell⟩
  ·simp [hz] at h0
  ·have hcn:=hcell n (by omega)
   rw [blen_vb hd2 hd3 n hn]
   have hdl:=dig_lt (by omega) hd2 n
   rw [hn] at hd5 ⊢
   have hz:(((n+1:Nat):Int) == 0)=false:=by rw [beq_eq_false_iff_ne];omega
   have hz':((n:Int)+1 == 0)=false:=by rw [beq_eq_false_iff_ne];omega
   generalize ds.getD n 0=d at *
   have hbd:blen d≤32:=(blen_le_iff d 32).2 hdl
   clear hcell hd2 hd3 h0 hn hcap
   go_enter Tryz.func47,Tryz.ntmps47
   go_wp2
   go_loop [3,4] (fun a b=>∃m y:Nat,a=.int .i64 m∧b=.int .u64 y∧m+blen y=32*n+blen d∧y<4294967296) (fun _ b=>(intOf b).toNat)
   case atStart=>exact⟨32*n,d,by go_num,rfl,rfl,hdl⟩
   case round=>
    obtain⟨m,y,rfl,rfl,hm,hy⟩:=hrel
    by_cases hy0:y=0
    ·subst hy0
     have HM:=aa hm
     have e0:blen 0=0:=rfl
     have HM2:Hid (m=32*n+blen d):=aa (by have:=HM.out;rw [e0] at this;exact this)
     clear hm HM e0
     go_wp2
     go_ret
     exact⟨fo (by have:=HM2.out;omega),rfl⟩
    ·have hb2:=blen_half y hy0
     have HM:Hid (m+1+blen (y / 2)=32*n+blen d):=aa (by omega)
     have hmb:m≤32*n+32:=by omega
     have e1:(y:Int) / 2=((y / 2:Nat):Int):=by omega
     have i1:(0:Int)<(y:Int):=by omega
     have i2:y / 2<y:=by omega
     clear hm hb2
     generalize y / 2=y2 at *
     go_wp2
     go_round
     case rel=>exact⟨m+1,y2,by go_num,rfl,HM.out,by omega⟩
     case measure=>simp [intOf];omega
end Go.Proofs.YtcbpdngogkbndaaGreatDoor
namespace Go.Proofs.YtcbpdngogkbndaaGreatDoor
open Lm

theorem ir (s:Nat)(hs:s≤32):(4294967296:Nat)=2 ^ (32 - s)*2 ^ s:=by
 rw [←Nat.pow_add,Nat.sub_add_cancel hs]

theorem ja (q s:Nat):2 ^ (q*32+s)=4294967296 ^ q*2 ^ s:=by
 rw [Nat.pow_add,Nat.mul_comm q 32,Nat.pow_mul]

theorem nW (x s o:Nat)(hs:s≤32)(ho:o<2 ^ s):o+x*2 ^ s % 4294967296<4294967296:=by
 have e:x*2 ^ s % 4294967296=x % 2 ^ (32 - s)*2 ^ s:=by
  conv=>lhs;rw [ir s hs,Nat.mul_mod_mul_right]
 have h1:x % 2 ^ (32 - s)<2 ^ (32 - s):=Nat.mod_lt _ (Nat.two_pow_pos _)
 have h2:(x % 2 ^ (32 - s)+1)*2 ^ s≤2 ^ (32 - s)*2 ^ s:=Nat.mul_le_mul_right _ h1
 rw [←ir s hs,Nat.add_mul,Nat.one_mul] at h2
 omega

theorem kR (x s:Nat)(hx:x<4294967296):x*2 ^ s / 4294967296<2 ^ s:=by
 rw [Nat.div_lt_iff_lt_mul (by omega),Nat.mul_comm (2 ^ s)]
 exact Nat.mul_lt_mul_of_pos_right hx (Nat.two_pow_pos _)

theorem mB (x s:Nat)(hx:x<4294967296)(hs:s<32):x*2 ^ s<18446744073709551616:=by
 have h:2 ^ s≤2 ^ 32:=Nat.pow_le_pow_right (by omega) (by omega)
 have:=Nat.mul_le_mul (Nat.le_sub_one_of_lt hx) h
 omega

theorem jS (X out:List Nat)(q s k n:Nat)(hn:n=q*32+s)(hk:q+k+1<out.length)(h:vb 4294967296 (out.take (q+k+1))=vb 4294967296 (X.take k)*2 ^ n) :
  vb 4294967296 (((out.set (q+k) (out.getD (q+k) 0+X.getD k 0*2 ^ s % 4294967296)).set (q+k+1) (X.getD k 0*2 ^ s / 4294967296)).take (q+k+1+1))=vb 4294967296 (X.take (k+1))*2 ^ n:=by
 rw [vb_set_succ _ _ _ (by simpa using hk),vb_set_succ _ _ _ (by omega),vb_take_next X k]
 rw [vb_take_next] at h
 have ht:=Nat.mod_add_div (X.getD k 0*2 ^ s) 4294967296
 have e:2 ^ n=4294967296 ^ q*2 ^ s:=by rw [hn,ja]
 have e2:4294967296 ^ (q+k)=4294967296 ^ q*4294967296 ^ k:=Nat.pow_add _ _ _
 have e3:4294967296 ^ (q+k+1)=4294967296 ^ (q+k)*4294967296:=Nat.pow_succ ..
 rw [e3]
 rw [e2] at h ⊢
 rw [e] at h ⊢
 generalize X.getD k 0*2 ^ s % 4294967296=r at *
 generalize X.getD k 0*2 ^ s / 4294967296=d at *
 generalize X.getD k 0=x at *
 generalize out.getD (q+k) 0=o at *
 generalize vb 4294967296 (out.take (q+k))=V at *
 generalize vb 4294967296 (X.take k)=U at *
 generalize 4294967296 ^ q=Q at *
 generalize 4294967296 ^ k=K at *
 generalize 2 ^ s=S at *
 generalize 4294967296=B at *
 grind

theorem nZ (r:List Nat)(h:Digs 4294967296 r):vb 4294967296 r % 4294967296=r.getD 0 0:=by
 cases r with
 | nil=>rfl
 | cons a r=>
  show (a+4294967296*vb 4294967296 r) % 4294967296=a
  rw [Nat.add_mul_mod_self_left]
  exact Nat.mod_eq_of_lt (h a (List.mem_cons_self ..))

theorem iW (X:List Nat)(q:Nat)(h:Digs 4294967296 X)(hq:q≤X.length):vb 4294967296 (X.drop q)=vb 4294967296 X / 4294967296 ^ q:=by
 have e:vb 4294967296 X=vb 4294967296 (X.take q)+4294967296 ^ q*vb 4294967296 (X.drop q):=by
  conv=>lhs;rw [←List.take_append_drop q X,vb_append]
  rw [List.length_take,Nat.min_eq_left hq]
 have hlt:=vb_take_lt h q
 rw [B_pow] at e ⊢
 rw [e,Nat.add_mul_div_left _ _ (Nat.two_pow_pos _),Nat.div_eq_of_lt hlt,Nat.zero_add]
end Go.Proofs.YtcbpdngogkbndaaGreatDoor
namespace Go.Proofs.YtcbpdngogkbndaaGreatDoor
open Go.RowKit
open Lm
attribute [local go_sem ↓] Go.wp_at_zero Go.wp_at_succ

theorem eE (x k:Nat):((x:Int) / 2 ^ k)=((x / 2 ^ k:Nat):Int):=by
 rw [Int.natCast_ediv,Int.natCast_pow];rfl

theorem mc (ds:List Nat)(q s:Nat)(h:Digs 4294967296 ds)(hq:q<ds.length)(hs:s<32):vb 4294967296 ds / 2 ^ (32*q+s) % 2=ds.getD q 0 / 2 ^ s % 2:=by
 have h1:=iW ds q h (by omega)
 have h2:=nZ (ds.drop q) (fun z hz=>h z (List.mem_of_mem_drop hz))
 have h3:(ds.drop q).getD 0 0=ds.getD q 0:=by simp [List.getD]
 rw [h3,h1] at h2
 have e1:(4294967296:Nat) ^ q=2 ^ (32*q):=by rw [Nat.pow_mul]
 rw [e1] at h2
 rw [dQ,dQ,←h2,show (4294967296:Nat)=2 ^ 32 from rfl,Nat.testBit_mod_two_pow,Nat.testBit_div_two_pow]
 simp [hs,Nat.add_comm]

theorem jY (ds:List Nat)(q s:Nat)(h:Digs 4294967296 ds)(hq:ds.length≤q):vb 4294967296 ds / 2 ^ (32*q+s) % 2=0:=by
 have h1:=vb_lt h
 have e1:(4294967296:Nat) ^ ds.length=2 ^ (32*ds.length):=by rw [Nat.pow_mul]
 rw [e1] at h1
 have h2:2 ^ (32*ds.length)≤2 ^ (32*q+s):=Nat.pow_le_pow_right (by omega) (by omega)
 rw [Nat.div_eq_of_lt (by omega)]

theorem gt (x:Nat)(h:x<18446744073709551616):wrap64 (bits BinOp.and IntKind.u64 (x:Int) 1)=((x % 2:Nat):Int):=by
 have:=bits_and_u64_nat x 1 h (by omega)
 rw [show ((1:Nat):Int)=1 from rfl] at this
 rw [this,Nat.and_one_is_mod]
 unfold wrap64
 omega

theorem eT (v:Value)(x i:Nat)(w:World)(hn:Num w v x)(hi:i≤9223372036854775807) :
  Calls Tryz.prog 43 #[v,.int .i64 i] w fun e w'=>e=.returned (.int .i64 ((x / 2 ^ i % 2:Nat):Int))∧w'=w:=by
 obtain⟨ds,hd1,hd2,hd3,rfl,hd5⟩:=hn
 obtain⟨ao,cap,rfl,hcap,hmax,L1⟩:=hd1.form
 clear hd1
 obtain⟨q,s,hq,hs,hqs⟩:∃q s:Nat,i=32*q+s∧s<32∧True:=⟨i / 32,i % 32,by omega,by omega,trivial⟩
 have i1:¬(i:Int)<0:=by omega
 have i2:(i:Int) / 32=(q:Int):=by omega
 have i3:(i:Int) % 32=(s:Int):=by omega
 by_cases h0:ds.length≤q
 ·have hr:=jY ds q s hd2 h0
  rw [←hq] at hr
  rw [hr]
  have i4:(ds.length:Int)≤(q:Int):=by omega
  have HQ:=aa hq
  clear hd2 hd3 hr hq L1
  go_enter Tryz.func43,Tryz.ntmps43
  go_wp2
  go_ret
  exact⟨rfl,rfl⟩
 ·rcases L1 with hz|⟨b,off,rfl,hcell⟩
  ·simp [hz] at h0
  ·have hcn:=hcell q (by omega)
   have hdl:=dig_lt (by omega) hd2 q
   have i4:(q:Int)<(ds.length:Int):=by omega
   have hr:(vb 4294967296 ds / 2 ^ i % 2:Nat)=ds.getD q 0 / 2 ^ s % 2:=by rw [hq];exact mc ds q s hd2 (by omega) hs
   rw [hr]
   generalize ds.getD q 0=d at *
   have HQ:=aa hq
   clear hcell hd2 hd3 hr hq
   go_enter Tryz.func43,Tryz.ntmps43
   go_wp2
   go_ret
   refine⟨fo ?_,rfl⟩
   have hd3:d / 2 ^ s≤d:=Nat.div_le_self _ _
   have:=gt (d / 2 ^ s) (by omega)
   rw [←eE] at this
   rw [this]
   norm_cast

theorem nI {w:World}{b off:Nat}{X:List Nat}(hc:∀k,k<X.length→w.cell? ⟨b,off+k,none⟩=some (.int .u64 ((X.getD k 0:Nat):Int)))(j:Nat)(u:Value)(hj:(X.map lv)[j]?=some u):w.cell? ((⟨b,off,none⟩:Addr).add j)=some u:=by
 rw [List.getElem?_map] at hj
 have hl:j<X.length:=by
  refine Nat.lt_of_not_le fun h=>?_
  rw [List.getElem?_eq_none h] at hj
  cases hj
 have:=hc j hl
 have e:X.getD j 0=X[j]:=by simp [List.getD,hl]
 rw [List.getElem?_eq_getElem hl] at hj
 cases hj
 have ea:(⟨b,off,none⟩:Addr).add j=⟨b,off+j,none⟩:=by simp [Addr.add]
 rw [ea,this,e];rfl

theorem kk (ao:Option Addr)(cap:Nat)(X:List Nat)(w:World)(hl:ak w ao X)(hX:Limbs X)(hf:X.length≤17592186044416) :
  Calls Tryz.prog 118 #[.slice ao X.length cap] w fun e w'=>(∃v,e=.returned v∧Ans w' w.heap.size v X)∧Below w.heap.size w w':=by
 obtain⟨i0,hi,hz0,hz1,hz2⟩:=info_parts Tryz.infoU
 have ho:w.ownsRow w.heap.size 60 1 (.slice none 0 0) 0 []:=World.ownsRow_nil _ _ _ _
 have key:∀ad:Addr,(∀j u,(X.map lv)[j]?=some u→w.cell? (ad.add j)=some u)→Calls Tryz.prog 118 #[.slice (some ad) X.length cap] w fun e w'=>(∃v,e=.returned v∧Ans w' w.heap.size v X)∧Below w.heap.size w w':=by
  intro ad hn
  have HX:=aa hX
  clear hX hl
  go_enter Tryz.func118,Tryz.ntmps118
  go_wp2_with (at_builtin;refine wpList_append_own _ rfl _ _ 25 rfl w.heap.size 60 i0 (.int .u64 0) 1 8 Tryz.underlying25 hi hz0 hz1 hz2 rfl (by decide) _ _ _ rfl ho ad X.length cap (X.map lv) rfl (by simp) hn (dn _) (by unfold maxLen;omega) (by omega) (Nat.le_refl _) ?_;intro v' w2 hown2 hgrow2 _)
  have HA:Hid (Ans w2 w.heap.size v' X):=by
   rw [Nat.zero_add,List.nil_append] at hown2
   exact⟨hown2,HX.out⟩
  have HB:Hid (Below w.heap.size w w2):=(Below.refl _ _).grown hgrow2 (Nat.le_refl _) (fun k hk=>by cases hk)
  clear hown2 hgrow2 ho hn
  go_wp2
  go_ret
  exact⟨⟨_,rfl,HA.out⟩,HB.out⟩
 rcases hl with h0|⟨b,off,rfl,hc⟩
 ·subst h0
  cases ao with
  | some ad=>exact key ad (fun j u h=>by simp at h)
  | none=>
   clear key ho hi hz0 hz1 hz2 hX
   go_enter Tryz.func118,Tryz.ntmps118
   go_wp2
   go_ret
   exact⟨⟨_,rfl,Ans.nil _ _⟩,Below.refl _ _⟩
 ·exact key _ (nI hc)

theorem iZ (v:Value)(X:List Nat)(w:World)(hA:Arg w v X)(hf:X.length≤17592186044416) :
  Calls Tryz.prog 113 #[v] w fun e w'=>(∃v,e=.returned v∧Ans w' w.heap.size v (tr X))∧Below w.heap.size w w':=by
 obtain⟨a1,c1,rfl,hc1,hm1,hl1⟩:=hA.form
 have T1:=bS a1 c1 X w hc1 hm1 hl1
 have l1:=tr_length_le X
 have F:=kk a1 c1 (tr X) w hl1.tr (limbs_tr hA.limbs) (by omega)
 clear hl1 hA
 go_enter Tryz.func113,Tryz.ntmps113
 go_wp2_with fail
 refine T1.mono ?_
 rintro e w2 ⟨rfl,rfl⟩
 clear T1
 go_wp2_with fail
 refine F.mono ?_
 rintro e w3 ⟨⟨v,rfl,ha⟩,hb⟩
 have HA:=aa (And.intro ha hb)
 clear ha hb F
 go_wp2
 go_ret
 exact⟨⟨v,rfl,HA.out.1⟩,HA.out.2⟩

theorem js (X:List Nat)(q s:Nat)(h:Limbs X)(hs:s<64):val X / 2 ^ (64*q+s) % 2=X.getD q 0 / 2 ^ s % 2:=by
 induction q generalizing X with
 | zero=>
  have h1:=dM X
  have h2:val X % 2 ^ 64=X.getD 0 0:=by
   have:=limb_lt h 0
   rw [show (2:Nat) ^ 64=18446744073709551616 from rfl]
   omega
  rw [Nat.mul_zero,Nat.zero_add,dQ,dQ,←h2,Nat.testBit_mod_two_pow]
  simp [hs]
 | succ q ih=>
  have h1:=dM X
  have h3:=limb_lt h 0
  have h2:val X / 2 ^ 64=val X.tail:=by
   rw [show (2:Nat) ^ 64=18446744073709551616 from rfl]
   omega
  have e:64*(q+1)+s=64+(64*q+s):=by omega
  rw [e,Nat.pow_add,←Nat.div_div_eq_div_mul,h2,ih X.tail (fd h),fa]

def cF (x:Nat)(i:Int):Nat:=if i<0 then 0 else x / 2 ^ i.toNat % 2

theorem jg (v:Value)(X:List Nat)(i:Int)(w:World)(hA:Arg w v X)(h1:-9223372036854775808≤i)(h2:i≤9223372036854775807) :
  Calls Tryz.prog 40 #[v,.int .i64 i] w fun e w'=>e=.returned (.int .i64 ((cF (val X) i:Nat):Int))∧w'=w:=by
 by_cases h0:i<0
 ·have e:cF (val X) i=0:=if_pos h0
  rw [e]
  clear hA
  go_enter Tryz.func40,Tryz.ntmps40
  go_wp2
  go_ret
  exact⟨rfl,rfl⟩
 ·obtain⟨n,rfl⟩:∃n:Nat,i=(n:Int):=⟨i.toNat,by omega⟩
  obtain⟨q,s,hq,hs⟩:∃q s:Nat,n=64*q+s∧s<64:=⟨n / 64,n % 64,by omega,by omega⟩
  have e:cF (val X) (n:Int)=X.getD q 0 / 2 ^ s % 2:=by
   unfold cF
   rw [if_neg h0,Int.toNat_natCast,hq]
   exact js X q s hA.limbs hs
  rw [e]
  have i2:(n:Int) / 64=(q:Int):=by omega
  have i3:(n:Int) % 64=(s:Int):=by omega
  obtain⟨a1,c1,rfl,hc1,hm1,hl1⟩:=hA.form
  have L:=dJ a1 c1 X q w hc1 hm1 hl1
  have z:=limb_lt hA.limbs q
  generalize X.getD q 0=d at *
  have HQ:=aa hq
  clear hl1 hA hq e
  go_enter Tryz.func40,Tryz.ntmps40
  go_wp2_with fail
  refine L.mono ?_
  rintro e w2 ⟨rfl,rfl⟩
  clear L
  go_wp2
  go_ret
  refine⟨fo ?_,rfl⟩
  have hd3:d / 2 ^ s≤d:=Nat.div_le_self _ _
  have:=gt (d / 2 ^ s) (by omega)
  rw [←eE] at this
  rw [this]
end Go.Proofs.YtcbpdngogkbndaaGreatDoor
namespace Go.Proofs.YtcbpdngogkbndaaGreatDoor
namespace Lm

end Lm
end Go.Proofs.YtcbpdngogkbndaaGreatDoor
namespace Go.Proofs.YtcbpdngogkbndaaGreatDoor
open Go.RowKit
open Lm

theorem ip (x:Nat)(w:World)(hx:x<18446744073709551616) :
  Calls Tryz.prog 81 #[.int .u64 x] w fun e w'=>(∃v,e=.returned v∧Ans w' w.heap.size v (tr [x]))∧Below w.heap.size w w':=by
 by_cases h:x=0
 ·subst h
  have hz:(((0:Nat):Int) == 0)=true:=rfl
  go_enter Tryz.func81,Tryz.ntmps81
  go_wp2
  go_ret
  exact⟨⟨_,rfl,Ans.nil _ _⟩,Below.refl _ _⟩
 ·have hz:((x:Int) == 0)=false:=by rw [beq_eq_false_iff_ne];omega
  have e:tr [x]=[x]:=by simp [tr,h]
  rw [e]
  clear e h
  have hb:Blk (w.alloc (.cells #[.int .u64 (x:Int)] 60)) w.heap.size [x]:=by
   unfold Blk;rw [heap_alloc_new];rfl
  have HA:=aa (Ans.of_blk (base:=w.heap.size) (zs:=[x]) (Nat.le_refl _) hb rfl (Nat.le_refl _) (by simp) (by intro y hy;simp at hy;omega))
  clear hb
  go_enter Tryz.func81,Tryz.ntmps81
  go_wp2
  go_ret
  exact⟨⟨_,rfl,HA.out⟩,(Below.refl _ _).alloc (Nat.le_refl _) _⟩
end Go.Proofs.YtcbpdngogkbndaaGreatDoor
namespace Go.Proofs.YtcbpdngogkbndaaGreatDoor
open Go.RowKit
open Lm
attribute [local go_sem ↓] Go.wp_at_zero Go.wp_at_succ

theorem kV (x y b:Nat)(hb:b≤1)(w:World) :
  (callFunc 69 #[.int .u64 x,.int .u64 y,.int .u64 b]).run Tryz.prog w =
   .ok (.value (.tuple #[.int .u64 (((x+18446744073709551616 - y - b) % 18446744073709551616:Nat):Int),.int .u64 ((bor x y b:Nat):Int)])) w:=by
 rw [run_callFunc_extern Tryz.func69 (by kernel_rfl) (by kernel_rfl) (by kernel_rfl) (e:=sub64Entry) (by kernel_rfl),run_sub64 x y b hb]
 rfl

theorem oz (x y b:Nat):bor x y b≤1:=by unfold bor;split <;> omega

theorem nf {Z Y out:List Nat}(ho:Limbs out)(hl:out.length=Z.length)(hyl:Y.length≤Z.length)(hle:val Y≤val Z)(bw:Nat)(_hbw:bw≤1)
  (h:val (out.take Z.length)+val (Y.take Z.length)=val (Z.take Z.length)+bw*18446744073709551616 ^ Z.length):val out=val Z - val Y:=by
 rw [List.take_of_length_le (by omega),List.take_of_length_le (by omega),List.take_length] at h
 have h1:=val_lt ho
 rw [hl] at h1
 rcases Nat.eq_zero_or_pos bw with h0|h0
 ·subst h0;omega
 ·have e:bw=1:=by omega
  subst e
  omega

theorem j3 (v1 v2:Value)(zs ys:List Nat)(w:World)(h1:Arg w v1 zs)(h2:Arg w v2 ys)(f1:zs.length≤35184372088831) :
  Calls Tryz.prog 37 #[v1,v2] w fun e w'=>Below w.heap.size w w' ∧
   ((val zs<val ys∧e=.returned (.tuple #[.slice none 0 0,.int .i64 10]))∨(val ys≤val zs∧Res w' w.heap.size e (val zs - val ys))):=by
 have HC:=f7 v1 v2 zs ys w h1 h2
 by_cases hlt:val zs<val ys
 ·rw [cmpN_lt hlt] at HC
  obtain⟨a1,c1,rfl,hc1,hm1,hl1⟩:=h1.form
  obtain⟨a2,c2,rfl,hc2,hm2,hl2⟩:=h2.form
  clear hl1 hl2 h1 h2
  have HX:Hid (val zs<val ys):=hlt
  clear hlt
  go_enter Tryz.func37,Tryz.ntmps37
  go_wp2_with fail
  refine HC.mono ?_
  rintro e w1 ⟨rfl,hs⟩
  go_wp2
  go_ret2
  exact⟨hs.below _,.inl ⟨HX.out,rfl⟩⟩
 ·have hcm:(0:Int)≤cmpN (val zs) (val ys):=by
   rcases cmpN_range (val zs) (val ys) with h|h|h <;> omega
  have hcr:cmpN (val zs) (val ys)≤1:=by
   rcases cmpN_range (val zs) (val ys) with h|h|h <;> omega
  have HX:Hid (val ys≤val zs):=Nat.le_of_not_lt hlt
  have HLen:Hid ((tr ys).length≤(tr zs).length):=by
   refine Nat.le_of_not_lt fun h=>?_
   have:=shorter_lt h1.limbs h
   rw [val_tr,val_tr] at this
   exact hlt this
  clear hlt
  generalize cmpN (val zs) (val ys)=cc at *
  obtain⟨i0,hi,hz0,hz1,hz2⟩:=info_parts Tryz.infoU
  obtain⟨a1,c1,rfl,hc1,hm1,hl1⟩:=h1.form
  obtain⟨a2,c2,rfl,hc2,hm2,hl2⟩:=h2.form
  have M1:=limbs_tr h1.limbs
  have M2:=limbs_tr h2.limbs
  have l1:=tr_length_le zs
  have l2:=tr_length_le ys
  go_enter Tryz.func37,Tryz.ntmps37
  go_wp2_with fail
  refine HC.mono ?_
  rintro e w1 ⟨rfl,hs⟩
  have H1:=bS a1 c1 zs w1 hc1 hm1 (hl1.below (hs.below _))
  have H2:=bS a2 c2 ys w1 hc2 hm2 (hl2.below (hs.below _))
  have L1:=(hl1.below (hs.below _)).tr
  have L2:=(hl2.below (hs.below _)).tr
  have HS:Hid (Below w.heap.size w w1∧w1.heap.size=w.heap.size):=⟨hs.below _,hs.size⟩
  clear hs HC
  go_wp2_with fail
  refine H1.mono ?_
  rintro e w' ⟨rfl,rfl⟩
  go_wp2_with fail
  refine H2.mono ?_
  rintro e w' ⟨rfl,rfl⟩
  clear H1 H2
  go_wp2_with (at_make;refine wpList_make_full _ rfl _ _ 25 rfl w'.heap.size 60 i0 (.int .u64 0) 1 Tryz.underlying25 hi hz0 hz1 .i64 .i64 _ _ (tr zs).length rfl rfl (by omega) (by omega) (by rw [hz2];omega) (by unfold maxLen;omega) (Nat.le_refl _) ?_;intro wm hown hgrow)
  have hb1:=Blk.made hown
  have hbel:Below w'.heap.size w' wm:=(Below.refl _ _).grown hgrow (Nat.le_refl _) (fun k hk=>by cases hk)
  clear hown hgrow hi hz0 hz1 hz2
  go_loopw [7,22] (fun c i wr=>∃(k cy:Nat) (out:List Nat),k≤(tr zs).length∧i=.int .i64 k∧c=.int .u64 cy∧cy≤1∧out.length=(tr zs).length∧Limbs out∧Blk wr w'.heap.size out∧Below w'.heap.size w' wr ∧
    val (out.take k)+val ((tr ys).take k)=val ((tr zs).take k)+cy*18446744073709551616 ^ k) (fun _ i _=>(tr zs).length - (intOf i).toNat)
  case atStart=>exact⟨0,0,_,Nat.zero_le _,rfl,rfl,by omega,by simp,limbs_replicate _,hb1,hbel,by simp [val]⟩
  case round=>
   obtain⟨k,cy,out,hk,rfl,rfl,hcy,hlen,hlo,hblk,hbl,hval⟩:=hrel
   clear hb1 hbel
   have HV:Hid (val (out.take k)+val ((tr ys).take k)=val ((tr zs).take k)+cy*18446744073709551616 ^ k):=hval
   clear hval
   have HB:Hid (Blk wr w'.heap.size out):=hblk
   have HL:Hid (Below w'.heap.size w' wr):=hbl
   by_cases hkl:k<(tr zs).length
   ·rcases L1.below hbl with h0|⟨b,off,rfl,hcell⟩
    ·simp [h0] at hkl
    ·have H42:=dJ a2 c2 (tr ys) k wr.drew (by omega) hm2 (L2.below hbl.drew)
     have hck:=hcell k hkl
     have hbw:=ak.block (L1:ak w' (some ⟨b,off,none⟩) (tr zs)) (by omega)
     have hne1:¬b=w'.heap.size:=by omega
     have hne2:¬w'.heap.size=b:=by omega
     have hfr:=hblk.free k
     have hco:=hblk.cell k (by omega)
     have ha:=kV ((tr zs).getD k 0) ((tr ys).getD k 0) cy hcy
     have z1:=limb_lt M1 k
     have z2:=limb_lt M2 k
     have hst:=sub_step (tr zs) (tr ys) out k cy (by omega) z1 z2 hcy HV.out
     have hd1:=oz ((tr zs).getD k 0) ((tr ys).getD k 0) cy
     generalize bor ((tr zs).getD k 0) ((tr ys).getD k 0) cy=d at *
     generalize (tr zs).getD k 0=x at *
     generalize (tr ys).getD k 0=y at *
     generalize out.getD k 0=o at *
     have hs1:(x+18446744073709551616 - y - cy) % 18446744073709551616<18446744073709551616:=Nat.mod_lt _ (by omega)
     generalize (x+18446744073709551616 - y - cy) % 18446744073709551616=s at *
     have HS':Hid (val ((out.set k s).take (k+1))+val ((tr ys).take (k+1))=val ((tr zs).take (k+1))+d*18446744073709551616 ^ (k+1)):=hst
     clear hst hcell hblk hbl HV L1 L2 M1 M2 hl1 hl2 h1 h2
     have hi1:(0:Int)≤(k:Int):=by omega
     have hi2:(k:Int)<((tr zs).length:Int):=by omega
     go_wp2
     go_region_held3 (fun w'=>w'.cell? ⟨b,off+k,none⟩=some (.int .u64 x)) (go_keep) (first | (go_at_call 70;refine H42.mono ?_;rintro e w2 ⟨rfl,rfl⟩))
     go_wp2
     go_roundw
     case rel=>exact⟨k+1,d,out.set k s,by omega,by go_num,rfl,hd1,by simp;omega,limbs_set hlo _ _ hs1,HB.out.set k s,(HL.out.setCell (Nat.le_refl _) _).drew,HS'.out⟩
     case measure=>simp [intOf];omega
   ·have ek:k=(tr zs).length:=by omega
    subst ek
    have HA:=eF _ w'.heap.size _ _ hblk hlo (Nat.le_refl _) (by omega)
    have hvl:val out=val zs - val ys:=by
     have:=nf hlo hlen HLen.out (by rw [val_tr,val_tr];exact HX.out) cy hcy HV.out
     rw [val_tr,val_tr] at this;exact this
    rw [hlen,hvl] at HA
    clear hvl hblk hbl HV L1 L2 M1 M2 hl1 hl2 h1 h2 HB hlo
    go_wp2_with fail
    refine HA.mono ?_
    rintro e w2 ⟨rfl,hres⟩
    unfold Res at hres
    obtain⟨v,c,rs,rfl,hans,hcase⟩:=hres
    rw [HS.out.2] at hans
    have HX2:Hid (Ans _ w.heap.size v rs∧((c=0∧val rs=val zs - val ys∧tr rs=rs∧blen (val zs - val ys)≤67108864)∨(c=3∧rs=[]∧67108864<blen (val zs - val ys)))):=⟨hans,hcase⟩
    clear hans hcase
    go_wp2
    go_ret2
    refine⟨HS.out.1.trans ?_,.inr ⟨HX.out,v,c,rs,rfl,HX2.out⟩⟩
    have:=HL.out
    rw [HS.out.2] at this
    exact this

def zz (b:Bool)(x:Nat):Int:=if b then -(x:Int) else (x:Int)

theorem aD (b:Bool)(x:Nat):(zz b x).natAbs=x:=by cases b <;> simp [zz]

theorem od (b:Bool)(x:Nat):zz (!b) x=-(zz b x):=by cases b <;> simp [zz]

theorem jT (z:Int):zz (decide (z<0)) z.natAbs=z:=by
 unfold zz
 by_cases h:z<0
 ·rw [if_pos (by simpa using h)];omega
 ·rw [if_neg (by simpa using h)];omega

theorem fZ {rs:List Nat}(ht:tr rs=rs):0<rs.length ↔ val rs≠0:=by
 constructor
 ·intro h h0
  have:=aG rs 0 (by rw [h0];simp)
  rw [ht] at this
  omega
 ·intro h
  rcases Nat.eq_zero_or_pos rs.length with h0|h0
  ·rw [List.eq_nil_of_length_eq_zero h0] at h
   exact absurd rfl h
  ·exact h0

theorem bQ {rs:List Nat}{x:Nat}(b:Bool)(ht:tr rs=rs)(hv:val rs=x):(b && decide (0<rs.length))=decide (zz b x<0):=by
 have h:=fZ ht
 rw [hv] at h
 cases b
 ·simp [zz]
 ·simp only [Bool.true_and,zz,if_true]
  rw [decide_eq_decide]
  omega

def ZR (w:World)(base:Nat)(b:Bool)(va:Value)(c z:Int):Prop:=
 ∃rs,Ans w base va rs∧((c=0∧b=decide (z<0)∧val rs=z.natAbs∧tr rs=rs∧blen z.natAbs≤67108864)∨(c=3∧b=false∧va=.slice none 0 0∧rs=[]∧67108864<blen z.natAbs))

def ct (w:World)(base:Nat)(e:Ending)(z:Int):Prop:=∃b a n k c,e=.returned (.tuple #[.agg #[.bool b,.slice a n k],.int .i64 c])∧ZR w base b (.slice a n k) c z

theorem ZR.below {w w':World}{base:Nat}{b:Bool}{va:Value}{c z:Int}(h:ZR w base b va c z)(hb:Below w.heap.size w w'):ZR w' base b va c z:=by
 obtain⟨rs,h1,h2⟩:=h
 exact⟨rs,h1.below hb,h2⟩

theorem ZR.base {w:World}{base base':Nat}{b:Bool}{va:Value}{c z:Int}(h:ZR w base b va c z)(hb:base'≤base):ZR w base' b va c z:=by
 obtain⟨rs,h1,h2⟩:=h
 exact⟨rs,h1.base hb,h2⟩

theorem aB (w:World)(o1:Obj):∃w0,w.alloc o1=w0∧Below w.heap.size w w0∧w0.heap[w.heap.size]?=some o1:=⟨_,rfl,(Below.refl _ _).alloc (Nat.le_refl _) _,heap_alloc_new ..⟩

theorem cu (w:World)(o1 o2:Obj):∃w0,(w.alloc o1).alloc o2=w0∧Below w.heap.size w w0∧w0.heap[w.heap.size]?=some o1∧w0.heap[w.heap.size+1]?=some o2:=by
 obtain⟨w1,h1,b1,c1⟩:=aB w o1
 obtain⟨w2,h2,b2,c2⟩:=aB w1 o2
 have hs:w1.heap.size=w.heap.size+1:=by rw [←h1];exact World.size_alloc _ _
 refine⟨w2,by rw [h1];exact h2,b1.trans (b2.mono b1.size),?_,by rw [←hs];exact c2⟩
 rw [b2.block w.heap.size (lt_of_block c1)];exact c1

theorem bP (w:World)(o1 o2 o3:Obj):∃w0,((w.alloc o1).alloc o2).alloc o3=w0∧Below w.heap.size w w0∧w0.heap[w.heap.size]?=some o1∧w0.heap[w.heap.size+1]?=some o2∧w0.heap[w.heap.size+2]?=some o3:=by
 obtain⟨w1,h1,b1,c1,c2⟩:=cu w o1 o2
 obtain⟨w2,h2,b2,c3⟩:=aB w1 o3
 have hs:w1.heap.size=w.heap.size+2:=by rw [←h1,World.size_alloc,World.size_alloc]
 refine⟨w2,by rw [h1];exact h2,b1.trans (b2.mono b1.size),?_,?_,by rw [←hs];exact c3⟩
 ·rw [b2.block _ (lt_of_block c1)];exact c1
 ·rw [b2.block _ (lt_of_block c2)];exact c2

theorem ab {w w':World}{g:Nat}{x:Obj}(hb:Below w.heap.size w w')(h:w.heap[g]?=some x):w'.heap[g]?=some x:=by
 rw [hb.block g (lt_of_block h)];exact h

theorem duo {w:World}{h:Nat}{a b:Value}{t:TypeId}(e:w.heap[h]?=some (.cells #[a,b] t)):w.cell? ⟨h,0,none⟩=some a∧w.cell? ⟨h,1,none⟩=some b:=⟨by simp [World.cell?,e],by simp [World.cell?,e]⟩

theorem aI (w:World)(o:Obj):Below w.heap.size w (w.alloc o):=(Below.refl _ _).alloc (Nat.le_refl _) _

theorem jy (x:Nat):blen x=0 ↔ x=0:=by
 have h:=blen_le_iff x 0
 rw [Nat.pow_zero] at h
 omega

theorem dD (v:Value)(X:List Nat)(w:World)(hA:Arg w v X) :
  Calls Tryz.prog 42 #[v] w fun e w'=>e=.returned (.bool (decide (val X=0)))∧w'=w:=by
 have L:=aQ v X w hA
 obtain⟨a,c,rfl,_,_,_⟩:=hA.form
 have hz:=jy (val X)
 clear hA
 generalize blen (val X)=l at *
 by_cases h0:l=0
 ·have h2:((l:Int) == 0)=true:=by rw [beq_iff_eq];omega
  rw [decide_eq_true (hz.1 h0)]
  go_enter Tryz.func42,Tryz.ntmps42
  go_wp2_with fail
  refine L.mono ?_
  rintro e wn ⟨rfl,hw⟩;rw [hw];clear hw wn L
  go_wp2
  go_ret
  exact⟨rfl,rfl⟩
 ·have h1:¬val X=0:=fun h=>h0 (hz.2 h)
  have h2:((l:Int) == 0)=false:=by rw [beq_eq_false_iff_ne];omega
  rw [decide_eq_false h1]
  go_enter Tryz.func42,Tryz.ntmps42
  go_wp2_with fail
  refine L.mono ?_
  rintro e wn ⟨rfl,hw⟩;rw [hw];clear hw wn L
  go_wp2
  go_ret
  exact⟨rfl,rfl⟩

def sg (b:Bool)(x:Nat):Int:=if x=0 then 0 else if b then -1 else 1

theorem iO (b:Bool)(x:Nat):sg b x=(zz b x).sign:=by
 unfold sg zz
 by_cases h:x=0
 ·subst h;cases b <;> rfl
 ·rw [if_neg h]
  cases b
  ·simp only [Bool.false_eq_true,if_false]
   exact (Int.sign_eq_one_of_pos (by omega)).symm
  ·simp only [if_true]
   exact (Int.sign_eq_neg_one_of_neg (by omega)).symm

theorem nu (b:Bool)(v:Value)(X:List Nat)(w:World)(hA:Arg w v X) :
  Calls Tryz.prog 66 #[.agg #[.bool b,v]] w fun e w'=>e=.returned (.int .i64 (sg b (val X)))∧Below w.heap.size w w':=by
 obtain⟨a,c,rfl,_,_,_⟩:=hA.form
 obtain⟨w0,hw0⟩:∃w0,w.alloc (.cells #[.bool b,.slice a X.length c] 27)=w0:=⟨_,rfl⟩
 have hb0:Below w.heap.size w w0:=by rw [←hw0];exact aI _ _
 have h0:w0.heap[w.heap.size]?=some (.cells #[.bool b,.slice a X.length c] 27):=by rw [←hw0];exact heap_alloc_new ..
 obtain⟨k0,k1⟩:=duo h0
 have HZ:=dD _ X w0 (hA.below hb0)
 have HB:=aa hb0
 unfold sg
 clear hA h0 hb0
 by_cases hx:val X=0
 ·rw [if_pos hx]
  rw [decide_eq_true hx] at HZ
  go_enter Tryz.func66,Tryz.ntmps66
  go_wp2_with fail
  refine HZ.mono ?_
  rintro e wn ⟨rfl,hw⟩;rw [hw];clear hw wn HZ
  go_wp2
  go_ret
  exact⟨rfl,HB.out⟩
 ·rw [if_neg hx]
  rw [decide_eq_false hx] at HZ
  cases b
  ·go_enter Tryz.func66,Tryz.ntmps66
   go_wp2_with fail
   refine HZ.mono ?_
   rintro e wn ⟨rfl,hw⟩;rw [hw];clear hw wn HZ
   go_wp2
   go_ret
   exact⟨rfl,HB.out⟩
  ·go_enter Tryz.func66,Tryz.ntmps66
   go_wp2_with fail
   refine HZ.mono ?_
   rintro e wn ⟨rfl,hw⟩;rw [hw];clear hw wn HZ
   go_wp2
   go_ret
   exact⟨rfl,HB.out⟩

theorem gJ (b:Bool)(v:Value)(X:List Nat)(w:World)(hA:Arg w v X) :
  Calls Tryz.prog 36 #[.agg #[.bool b,v]] w fun e w'=>e=.returned (.bool (decide (zz b (val X)<0)))∧Below w.heap.size w w':=by
 obtain⟨a,c,rfl,_,_,_⟩:=hA.form
 obtain⟨w0,hw0⟩:∃w0,w.alloc (.cells #[.bool b,.slice a X.length c] 27)=w0:=⟨_,rfl⟩
 have hb0:Below w.heap.size w w0:=by rw [←hw0];exact aI _ _
 have h0:w0.heap[w.heap.size]?=some (.cells #[.bool b,.slice a X.length c] 27):=by rw [←hw0];exact heap_alloc_new ..
 obtain⟨k0,k1⟩:=duo h0
 have HZ:=nu b _ X w0 (hA.below hb0)
 have HB:=aa hb0
 rw [iO] at HZ
 generalize zz b (val X)=z at *
 clear hA h0 hb0
 by_cases hz:z<0
 ·rw [Int.sign_eq_neg_one_of_neg hz] at HZ
  rw [decide_eq_true hz]
  go_enter Tryz.func36,Tryz.ntmps36
  go_wp2_with fail
  refine HZ.mono ?_
  rintro e w1 ⟨rfl,hb1⟩
  have HB1:=aa (HB.out.trans (hb1.mono HB.out.size))
  clear hb1 HZ
  go_wp2
  go_ret
  exact⟨rfl,HB1.out⟩
 ·have h1:¬z.sign<0:=fun h=>hz (Int.sign_neg_iff.1 h)
  rw [decide_eq_false hz]
  generalize z.sign=s at *
  have hds:decide (s<0)=false:=decide_eq_false h1
  go_enter Tryz.func36,Tryz.ntmps36
  go_wp2_with fail
  refine HZ.mono ?_
  rintro e w1 ⟨rfl,hb1⟩
  have HB1:=aa (HB.out.trans (hb1.mono HB.out.size))
  clear hb1 HZ
  go_wp2
  go_ret
  exact⟨rfl,HB1.out⟩

theorem bO (b:Bool)(v:Value)(rs:List Nat)(base:Nat)(w:World)(hA:Ans w base v rs) :
  Calls Tryz.prog 65 #[.bool b,v] w fun e w'=>e=.returned (.agg #[.bool (b && decide (0<rs.length)),v])∧Below w.heap.size w w':=by
 obtain⟨a,c,rfl⟩:∃a c,v=.slice a rs.length c:=by
  rcases hA.form with ⟨rfl,h⟩|⟨g,cap,rfl,_⟩
  ·exact⟨none,0,by rw [h];rfl⟩
  ·exact⟨_,_,rfl⟩
 clear hA
 generalize rs.length=n at *
 cases b
 ·have HB:=aa (aI w (.cells #[.bool false,.slice a n c] 27))
  go_enter Tryz.func65,Tryz.ntmps65
  go_wp2
  go_returns
  exact⟨rfl,HB.out⟩
 ·by_cases hn:0<n
  ·have i1:(0:Int)<(n:Int):=by omega
   have HB:=aa (aI w (.cells #[.bool true,.slice a n c] 27))
   rw [decide_eq_true hn]
   go_enter Tryz.func65,Tryz.ntmps65
   go_wp2
   go_returns
   exact⟨rfl,HB.out⟩
  ·have i1:¬(0:Int)<(n:Int):=by omega
   have HB:=aa (aI w (.cells #[.bool false,.slice a n c] 27))
   rw [decide_eq_false hn]
   go_enter Tryz.func65,Tryz.ntmps65
   go_wp2
   go_returns
   exact⟨rfl,HB.out⟩

theorem gG (b:Bool)(x y:Nat):zz b x+zz b y=zz b (x+y):=by cases b <;> simp [zz] <;> omega

theorem gF (b:Bool){x y:Nat}(h:y≤x):zz b x+zz (!b) y=zz b (x - y):=by cases b <;> simp [zz] <;> omega

theorem fB (b:Bool){x y:Nat}(h:x≤y):zz b x+zz (!b) y=zz (!b) (y - x):=by cases b <;> simp [zz] <;> omega

theorem af {w:World}{h:Nat}{a b:Value}{t:TypeId}(e:w.heap[h]?=some (.cells #[a,b] t)):∀k,w.frozen? ⟨h,k,none⟩=false:=fun k=>by simp [World.frozen?,e]

theorem av {w:World}{h:Nat}{a b a' b':Value}{t:TypeId}(e:w.heap[h]?=some (.cells #[a,b] t)):((w.setCell ⟨h,0,none⟩ a').setCell ⟨h,1,none⟩ b').heap[h]?=some (.cells #[a',b'] t):=
 bF (bF e a') b'

theorem az {B:Nat}{w0 w:World}{g:Nat}{u0 u1:Value}(h:Below B w0 w)(hg:B≤g):Below B w0 ((w.setCell ⟨g,0,none⟩ u0).setCell ⟨g,1,none⟩ u1):=
 (h.setCell (p:=⟨g,0,none⟩) hg u0).setCell (p:=⟨g,1,none⟩) hg u1

theorem Ans.off1 {w:World}{base g o:Nat}{v u:Value}{zs:List Nat}{vs:Array Value}(h:Ans w base v zs)(hl:w.heap[g]?=some (.cells vs 27)):Ans (w.setCell ⟨g,o,none⟩ u) base v zs:=by
 have hne:v.ownBlock≠some g:=by
  obtain⟨_,h2⟩:=h.own
  rcases h2 with ⟨rfl,_⟩|⟨g',cap,cur,rfl,_,hh,_⟩
  ·simp [Value.ownBlock]
  ·intro e
   simp [Value.ownBlock] at e
   subst e
   rw [hl] at hh
   simp at hh
 exact⟨ownsRow_setCell_other h.own hne _,h.limbs⟩

theorem Ans.duo {w:World}{base g:Nat}{v u0 u1 a b:Value}{zs:List Nat}(h:Ans w base v zs)(hl:w.heap[g]?=some (.cells #[a,b] 27)):Ans ((w.setCell ⟨g,0,none⟩ u0).setCell ⟨g,1,none⟩ u1) base v zs:=
 (h.off1 hl).off1 (bF hl u0)

theorem ZR.duo {w:World}{base g:Nat}{b:Bool}{va u0 u1 a1 b1:Value}{c z:Int}(h:ZR w base b va c z)(hl:w.heap[g]?=some (.cells #[a1,b1] 27)):ZR ((w.setCell ⟨g,0,none⟩ u0).setCell ⟨g,1,none⟩ u1) base b va c z:=by
 obtain⟨rs,h1,h2⟩:=h
 exact⟨rs,h1.duo hl,h2⟩

theorem Ans.shape {w:World}{base:Nat}{v:Value}{rs:List Nat}(h:Ans w base v rs):∃a c,v=.slice a rs.length c:=by
 rcases h.form with ⟨rfl,h⟩|⟨g,cap,rfl,_⟩
 ·exact⟨none,0,by simp_all⟩
 ·exact⟨_,_,rfl⟩

theorem gg (b:Bool)(v:Value)(rs:List Nat)(c:Int)(s base:Nat)(w:World)(hA:Ans w base v rs)
  (h:(c=0∧val rs=s∧tr rs=rs∧blen s≤67108864)∨(c=3∧rs=[]∧67108864<blen s)) :
  Calls Tryz.prog 38 #[.bool b,v,.int .i64 c] w fun e w'=>ct w' base e (zz b s)∧Below w.heap.size w w':=by
 obtain⟨w0,hw0⟩:∃w0,w.alloc (.cells #[.bool false,.slice none 0 0] 27)=w0:=⟨_,rfl⟩
 have hb0:Below w.heap.size w w0:=by rw [←hw0];exact aI _ _
 have h0:w0.heap[w.heap.size]?=some (.cells #[.bool false,.slice none 0 0] 27):=by rw [←hw0];exact heap_alloc_new ..
 have hf0:=af h0
 obtain⟨k0,k1⟩:=duo h0
 rcases h with ⟨rfl,h1,h2,h3⟩|⟨rfl,h1,h2⟩
 ·have HS:=bO b v rs base w0 (hA.below hb0)
  have hsg:=bQ b h2 h1
  rw [hsg] at HS
  have hv:val rs=(zz b s).natAbs:=by rw [aD];exact h1
  have hbl:blen (zz b s).natAbs≤67108864:=by rw [aD];exact h3
  obtain⟨a,cc,rfl⟩:=hA.shape
  have HA:=aa (hA.below hb0)
  have HV:=aa (And.intro hv (And.intro h2 hbl))
  have HB0:=aa hb0
  have H0:=aa h0
  generalize zz b s=z at *
  clear hA hb0 h0 h1 h2 h3 hsg hv hbl
  go_enter Tryz.func38,Tryz.ntmps38
  go_wp2_with fail
  refine HS.mono ?_
  rintro e w1 ⟨rfl,hb1⟩
  have h1:w1.heap[w.heap.size]?=some (.cells #[.bool false,.slice none 0 0] 27):=by rw [hb1.block w.heap.size (lt_of_block H0.out)];exact H0.out
  have HBX:=aa h1
  have HAN:=aa (HA.out.below hb1)
  have HBE:=aa (HB0.out.trans (hb1.mono HB0.out.size))
  have hf1:=af h1
  obtain⟨l0,l1⟩:=duo h1
  clear h1 hb1 HS k0 k1 hf0 hw0 H0 HA
  go_wp2
  have R5:=av HBX.out (a':=.bool (decide (z<0))) (b':=.slice a rs.length cc)
  have HD:=aa (And.intro (HAN.out.duo (u0:=.bool (decide (z<0))) (u1:=.slice a rs.length cc) HBX.out) (az HBE.out (g:=w.heap.size) (u0:=.bool (decide (z<0))) (u1:=.slice a rs.length cc) (Nat.le_refl _)))
  generalize (w1.setCell ⟨w.heap.size,0,none⟩ (.bool (decide (z<0)))).setCell ⟨w.heap.size,1,none⟩ (.slice a rs.length cc)=w5 at *
  obtain⟨q0,q1⟩:=duo R5
  refine bodyPost_ret (v:=.tuple #[.agg #[.bool (decide (z<0)),.slice a rs.length cc],.int .i64 0]) (by simp [results,Tryz.results38,go_sem,q0,q1]) rfl ?_
  exact⟨⟨_,_,_,_,0,rfl,rs,HD.out.1,.inl ⟨rfl,rfl,HV.out⟩⟩,HD.out.2⟩
 ·subst h1
  obtain⟨a,cc,rfl⟩:=hA.shape
  have hbl:67108864<blen (zz b s).natAbs:=by rw [aD];exact h2
  have HB0:=aa hb0
  have HBX:=aa h0
  have HV:=aa hbl
  generalize zz b s=z at *
  clear hA hb0 h0 h2 hbl
  go_enter Tryz.func38,Tryz.ntmps38
  go_wp2
  have R5:=av HBX.out (a':=.bool false) (b':=.slice none 0 0)
  have HD:=aa (az HB0.out (g:=w.heap.size) (u0:=.bool false) (u1:=.slice none 0 0) (Nat.le_refl _))
  generalize (w0.setCell ⟨w.heap.size,0,none⟩ (.bool false)).setCell ⟨w.heap.size,1,none⟩ (.slice none 0 0)=w5 at *
  obtain⟨q0,q1⟩:=duo R5
  refine bodyPost_ret (v:=.tuple #[.agg #[.bool false,.slice none 0 0],.int .i64 3]) (by simp [results,Tryz.results38,go_sem,q0,q1]) rfl ?_
  exact⟨⟨_,_,_,_,3,rfl,[],Ans.nil _ _,.inr ⟨rfl,rfl,rfl,rfl,HV.out⟩⟩,HD.out⟩

theorem dA {w:World}{g h:Nat}{u0 u1:Value}{x:Obj}(e:w.heap[h]?=some x)(hne:h≠g):((w.setCell ⟨g,0,none⟩ u0).setCell ⟨g,1,none⟩ u1).heap[h]?=some x:=by
 rw [Below.heap_setCell _ _ _ _ hne,Below.heap_setCell _ _ _ _ hne];exact e

def ZA (w:World)(base:Nat)(b:Bool)(u:Value)(z:Int):Prop:=∃rs,Ans w base u rs∧b=decide (z<0)∧val rs=z.natAbs∧tr rs=rs

theorem ic (n:Int)(w:World)(h1:-9223372036854775808≤n)(h2:n≤9223372036854775807) :
  Calls Tryz.prog 56 #[.int .i64 n] w fun e w'=>(∃b a l k,e=.returned (.agg #[.bool b,.slice a l k])∧ZA w' w.heap.size b (.slice a l k) n)∧Below w.heap.size w w':=by
 obtain⟨w0,hw0,hb0,hx0⟩:=aB w (.cells #[.bool false,.slice none 0 0] 27)
 by_cases hn:n<0
 ·obtain⟨m,hm⟩:∃m,IntKind.i64.wrap (-n)=m:=⟨_,rfl⟩
  have hm2:IntKind.u64.wrap m=((n.natAbs:Nat):Int):=by rw [←hm,IntKind.wrap_i64,IntKind.wrap_u64];omega
  have hm3:IntKind.u64.wrap ((n.natAbs:Nat):Int)=((n.natAbs:Nat):Int):=by rw [IntKind.wrap_u64];omega
  have HM:=ip n.natAbs w0 (by omega)
  have HB0:=aa hb0
  have HX0:=aa hx0
  clear hb0 hx0
  go_enter Tryz.func56,Tryz.ntmps56
  go_wp2_with fail
  refine HM.mono ?_
  rintro e w1 ⟨⟨v1,rfl,A1⟩,hb1⟩
  have HS:=bO true v1 _ _ w1 A1
  rw [bQ true (tr_tr _) (val_tr _)] at HS
  have e1:zz true (val [n.natAbs])=n:=by simp [zz,val];omega
  rw [e1] at HS
  have hv:val (tr [n.natAbs])=n.natAbs:=by rw [val_tr];simp [val]
  have ht:=tr_tr [n.natAbs]
  generalize tr [n.natAbs]=rs at *
  obtain⟨a1,k1,rfl⟩:=A1.shape
  have HA1:=aa A1
  have HW1:=aa hb1
  have HV:=aa (And.intro hv ht)
  clear A1 hb1 HM e1 hv ht
  go_wp2_with fail
  refine HS.mono ?_
  rintro e w2 ⟨rfl,hb2⟩
  have HW:=aa (HW1.out.trans (hb2.mono HW1.out.size))
  have HAN:=aa ((HA1.out.below hb2).base HB0.out.size)
  have hbx:=ab HW.out HX0.out
  have hf1:=af hbx
  obtain⟨l0,l1⟩:=duo hbx
  have HBX:=aa hbx
  have HBE:=aa (HB0.out.trans (HW.out.mono HB0.out.size))
  clear hbx hb2 HS hw0
  obtain⟨ub,hub⟩:∃ub,decide (n<0)=ub:=⟨_,rfl⟩
  rw [hub]
  go_wp2
  have R5:=av HBX.out (a':=.bool ub) (b':=.slice a1 rs.length k1)
  have HD:=aa (And.intro (HAN.out.duo (u0:=.bool ub) (u1:=.slice a1 rs.length k1) HBX.out) (az HBE.out (g:=w.heap.size) (u0:=.bool ub) (u1:=.slice a1 rs.length k1) (Nat.le_refl _)))
  generalize (w2.setCell ⟨w.heap.size,0,none⟩ (.bool ub)).setCell ⟨w.heap.size,1,none⟩ (.slice a1 rs.length k1)=w5 at *
  obtain⟨q0,q1⟩:=duo R5
  refine bodyPost_ret (v:=.agg #[.bool ub,.slice a1 rs.length k1]) (by simp [results,Tryz.results56,go_sem,q0,q1]) rfl ?_
  exact⟨⟨_,_,_,_,rfl,rs,HD.out.1,hub.symm,HV.out⟩,HD.out.2⟩
 ·have hm2:IntKind.u64.wrap n=((n.natAbs:Nat):Int):=by rw [IntKind.wrap_u64];omega
  have hm3:IntKind.u64.wrap ((n.natAbs:Nat):Int)=((n.natAbs:Nat):Int):=by rw [IntKind.wrap_u64];omega
  have HM:=ip n.natAbs w0 (by omega)
  have HB0:=aa hb0
  have HX0:=aa hx0
  clear hb0 hx0
  go_enter Tryz.func56,Tryz.ntmps56
  go_wp2_with fail
  refine HM.mono ?_
  rintro e w1 ⟨⟨v1,rfl,A1⟩,hb1⟩
  have HS:=bO false v1 _ _ w1 A1
  rw [bQ false (tr_tr _) (val_tr _)] at HS
  have e1:zz false (val [n.natAbs])=n:=by simp [zz,val];omega
  rw [e1] at HS
  have hv:val (tr [n.natAbs])=n.natAbs:=by rw [val_tr];simp [val]
  have ht:=tr_tr [n.natAbs]
  generalize tr [n.natAbs]=rs at *
  obtain⟨a1,k1,rfl⟩:=A1.shape
  have HA1:=aa A1
  have HW1:=aa hb1
  have HV:=aa (And.intro hv ht)
  clear A1 hb1 HM e1 hv ht
  go_wp2_with fail
  refine HS.mono ?_
  rintro e w2 ⟨rfl,hb2⟩
  have HW:=aa (HW1.out.trans (hb2.mono HW1.out.size))
  have HAN:=aa ((HA1.out.below hb2).base HB0.out.size)
  have hbx:=ab HW.out HX0.out
  have hf1:=af hbx
  obtain⟨l0,l1⟩:=duo hbx
  have HBX:=aa hbx
  have HBE:=aa (HB0.out.trans (HW.out.mono HB0.out.size))
  clear hbx hb2 HS hw0
  obtain⟨ub,hub⟩:∃ub,decide (n<0)=ub:=⟨_,rfl⟩
  rw [hub]
  go_wp2
  have R5:=av HBX.out (a':=.bool ub) (b':=.slice a1 rs.length k1)
  have HD:=aa (And.intro (HAN.out.duo (u0:=.bool ub) (u1:=.slice a1 rs.length k1) HBX.out) (az HBE.out (g:=w.heap.size) (u0:=.bool ub) (u1:=.slice a1 rs.length k1) (Nat.le_refl _)))
  generalize (w2.setCell ⟨w.heap.size,0,none⟩ (.bool ub)).setCell ⟨w.heap.size,1,none⟩ (.slice a1 rs.length k1)=w5 at *
  obtain⟨q0,q1⟩:=duo R5
  refine bodyPost_ret (v:=.agg #[.bool ub,.slice a1 rs.length k1]) (by simp [results,Tryz.results56,go_sem,q0,q1]) rfl ?_
  exact⟨⟨_,_,_,_,rfl,rs,HD.out.1,hub.symm,HV.out⟩,HD.out.2⟩

theorem fx (L:Nat)(v1 v2:Value)(X Y:List Nat)(w:World)(hL:w.heap[L]?=some (.cells #[v1,v2] 25))(hA:Arg w v1 X)(hB:Arg w v2 Y) :
  Calls Tryz.prog 64 #[.slice (some ⟨L,0,none⟩) 2 2] w fun e w'=>e=.returned (.bool (decide (67108864<blen (val X)∨67108864<blen (val Y))))∧w'=w:=by
 obtain⟨c0,c1⟩:=duo hL
 have L1:=aQ v1 X w hA
 have L2:=aQ v2 Y w hB
 obtain⟨a1,n1,rfl,_,_,_⟩:=hA.form
 obtain⟨a2,n2,rfl,_,_,_⟩:=hB.form
 clear hA hB hL
 generalize blen (val X)=lx at *
 generalize blen (val Y)=ly at *
 by_cases h1:67108864<lx
 ·have i1:(67108864:Int)<(lx:Int):=by omega
  rw [decide_eq_true (.inl h1)]
  go_enter Tryz.func64,Tryz.ntmps64
  go_wp2
  refine wp_loop_rounds 1 ?_
  rw [rounds_succ]
  go_wp2_with fail
  refine L1.mono ?_
  rintro e wn ⟨rfl,hw⟩;rw [hw];clear hw wn L1
  go_wp2
  go_ret
  exact⟨rfl,rfl⟩
 ·have i1:¬(67108864:Int)<(lx:Int):=by omega
  by_cases h2:67108864<ly
  ·have i2:(67108864:Int)<(ly:Int):=by omega
   rw [decide_eq_true (.inr h2)]
   go_enter Tryz.func64,Tryz.ntmps64
   go_wp2
   refine wp_loop_rounds 2 ?_
   rw [rounds_succ]
   go_wp2_with fail
   refine L1.mono ?_
   rintro e wn ⟨rfl,hw⟩;rw [hw];clear hw wn L1
   go_wp2
   rw [rounds_succ]
   go_wp2_with fail
   refine L2.mono ?_
   rintro e wn ⟨rfl,hw⟩;rw [hw];clear hw wn L2
   go_wp2
   go_ret
   exact⟨rfl,rfl⟩
  ·have i2:¬(67108864:Int)<(ly:Int):=by omega
   rw [decide_eq_false (by omega)]
   go_enter Tryz.func64,Tryz.ntmps64
   go_wp2
   refine wp_loop_rounds 3 ?_
   rw [rounds_succ]
   go_wp2_with fail
   refine L1.mono ?_
   rintro e wn ⟨rfl,hw⟩;rw [hw];clear hw wn L1
   go_wp2
   rw [rounds_succ]
   go_wp2_with fail
   refine L2.mono ?_
   rintro e wn ⟨rfl,hw⟩;rw [hw];clear hw wn L2
   go_wp2
   rw [rounds_succ]
   go_wp2
   go_ret
   exact⟨rfl,rfl⟩

def gK:Value:=.agg #[.func (.func 98) #[] #[],.func (.func 99) #[] #[],.func (.func 100) #[] #[],.func (.func 101) #[] #[],.func (.func 102) #[] #[]]

theorem jd {P:Program}(w:World)(a:Addr)(m:Mode)(f:Fn)(x y:Array Value):(store a (.func f x y) m).run P w=stored P w a (.func f x y) m:=run_store P w a _ m rfl

attribute [local go_sem] jd in
theorem wdivs_any (w:World):Calls Tryz.prog 90 #[] w fun e w'=>e=.returned gK∧Below w.heap.size w w':=by
 have HB:=aa (aI w (.cells #[.func (.func 98) #[] #[],.func (.func 99) #[] #[],.func (.func 100) #[] #[],.func (.func 101) #[] #[],.func (.func 102) #[] #[]] 117))
 go_enter Tryz.func90,Tryz.ntmps90
 go_wp2
 go_returns
 exact⟨rfl,HB.out⟩

def eu (q r l:Value)(bl ap:Bool):Value:=.agg #[q,r,l,.bool bl,.bool ap]

theorem mj (a1 a2 a3:Option Addr)(n1 k1 n2 k2 n3 k3:Nat)(bl ap:Bool)(w:World):Calls Tryz.prog 99 #[eu (.slice a1 n1 k1) (.slice a2 n2 k2) (.slice a3 n3 k3) bl ap] w fun e w'=>e=.returned (.bool ap)∧Below w.heap.size w w':=by
 obtain⟨w0,hw0,hb0,hx0⟩:=aB w (.cells #[.slice a1 n1 k1,.slice a2 n2 k2,.slice a3 n3 k3,.bool bl,.bool ap] 120)
 have c3:w0.cell? ⟨w.heap.size,3,none⟩=some (.bool bl):=by simp [World.cell?,hx0]
 have c4:w0.cell? ⟨w.heap.size,4,none⟩=some (.bool ap):=by simp [World.cell?,hx0]
 have HB0:=aa hb0
 clear hb0 hx0
 unfold eu
 go_enter Tryz.func99,Tryz.ntmps99
 go_wp2
 go_ret
 exact⟨rfl,HB0.out⟩

theorem m9 (w:World):(Instr.index 117 gK (.int .i64 1)).run Tryz.prog w=.ok (.agg #[.func (.func 99) #[] #[]]) w:=by kernel_rfl

theorem ng (w:World):(Instr.field 116 (.agg #[.func (.func 99) #[] #[]]) 0).run Tryz.prog w=.ok (.func (.func 99) #[] #[]) w:=by kernel_rfl
end Go.Proofs.YtcbpdngogkbndaaGreatDoor
namespace Go.Proofs.YtcbpdngogkbndaaGreatDoor
open Go.RowKit
open Lm

theorem il (w:World)(o1 o2 o3 o4:Obj):∃w0,(((w.alloc o1).alloc o2).alloc o3).alloc o4=w0∧Below w.heap.size w w0∧w0.heap[w.heap.size]?=some o1∧w0.heap[w.heap.size+1]?=some o2∧w0.heap[w.heap.size+2]?=some o3∧w0.heap[w.heap.size+3]?=some o4:=by
 obtain⟨w1,h1,b1,c1,c2,c3⟩:=bP w o1 o2 o3
 obtain⟨w2,h2,b2,c4⟩:=aB w1 o4
 have hs:w1.heap.size=w.heap.size+3:=by rw [←h1,World.size_alloc,World.size_alloc,World.size_alloc]
 refine⟨w2,by rw [h1];exact h2,b1.trans (b2.mono b1.size),?_,?_,?_,by rw [←hs];exact c4⟩
 ·rw [b2.block _ (lt_of_block c1)];exact c1
 ·rw [b2.block _ (lt_of_block c2)];exact c2
 ·rw [b2.block _ (lt_of_block c3)];exact c3

theorem cf {B:Nat}{w0 w:World}{g:Nat}{u0 u1 u2 u3:Value}(h:Below B w0 w)(hg:B≤g):Below B w0 ((((w.setCell ⟨g,0,none⟩ u0).setCell ⟨g,1,none⟩ u1).setCell ⟨g+1,0,none⟩ u2).setCell ⟨g+1,1,none⟩ u3):=
 az (az h hg) (by omega)
end Go.Proofs.YtcbpdngogkbndaaGreatDoor
namespace Go.Proofs.YtcbpdngogkbndaaGreatDoor
open Lm

def seg (Z:List Nat)(o n:Nat):List Nat:=(Z.drop o).take n

def sv (Z:List Nat)(o n:Nat):Nat:=val (seg Z o n)

structure Out (Z Z':List Nat)(lo hi:Nat):Prop where
 len:Z'.length=Z.length
 same:∀k,k<lo∨hi≤k→Z'.getD k 0=Z.getD k 0

theorem Out.refl (Z:List Nat)(lo hi:Nat):Out Z Z lo hi:=⟨rfl,fun _ _=>rfl⟩

theorem Out.trans {Z Z' Z'':List Nat}{lo hi:Nat}(h:Out Z Z' lo hi)(k:Out Z' Z'' lo hi):Out Z Z'' lo hi:=
 ⟨k.len.trans h.len,fun j hj=>(k.same j hj).trans (h.same j hj)⟩

theorem Out.wider {Z Z':List Nat}{lo hi lo' hi':Nat}(h:Out Z Z' lo hi)(h1:lo'≤lo)(h2:hi≤hi'):Out Z Z' lo' hi':=
 ⟨h.len,fun k hk=>h.same k (by omega)⟩

theorem cE (Z:List Nat)(j k z:Nat):(Z.set j z).getD k 0=if j=k∧k<Z.length then z else Z.getD k 0:=by
 by_cases h:j=k
 ·subst h
  by_cases hl:j<Z.length
  ·simp [List.getD,hl]
  ·simp [List.getD,hl]
 ·simp [List.getD,h]

theorem Out.set {Z Z':List Nat}{lo hi:Nat}(h:Out Z Z' lo hi)(j z:Nat)(h1:lo≤j)(h2:j<hi):Out Z (Z'.set j z) lo hi:=
 ⟨by simp [h.len],fun k hk=>by rw [cE,if_neg (by omega)];exact h.same k hk⟩

theorem aT (Z:List Nat)(o n:Nat)(h:o+n≤Z.length):(seg Z o n).length=n:=by
 simp [seg];omega

theorem cN (Z:List Nat)(o n k:Nat)(h:k<n):(seg Z o n).getD k 0=Z.getD (o+k) 0:=by
 simp [seg,List.getD,h]

theorem gB {a b:List Nat}(hl:a.length=b.length)(h:∀k,k<a.length→a.getD k 0=b.getD k 0):a=b:=by
 refine List.ext_getElem hl fun k h1 h2=>?_
 have:=h k h1
 simpa [List.getD,h1,h2] using this

theorem Out.seg {Z Z':List Nat}{lo hi:Nat}(h:Out Z Z' lo hi)(o n:Nat)(hd:o+n≤lo∨hi≤o):seg Z' o n=seg Z o n:=by
 have hl:(Go.Proofs.YtcbpdngogkbndaaGreatDoor.seg Z' o n).length=(Go.Proofs.YtcbpdngogkbndaaGreatDoor.seg Z o n).length:=by simp [Go.Proofs.YtcbpdngogkbndaaGreatDoor.seg,h.len]
 refine gB hl fun k hk=>?_
 have hk':k<n:=by simp [Go.Proofs.YtcbpdngogkbndaaGreatDoor.seg] at hk;omega
 rw [cN _ _ _ _ hk',cN _ _ _ _ hk',h.same _ (by omega)]

theorem Out.sv {Z Z':List Nat}{lo hi:Nat}(h:Out Z Z' lo hi)(o n:Nat)(hd:o+n≤lo∨hi≤o):sv Z' o n=sv Z o n:=by
 unfold Go.Proofs.YtcbpdngogkbndaaGreatDoor.sv;rw [h.seg o n hd]

theorem aH (Z:List Nat)(o:Nat):sv Z o 0=0:=by simp [sv,seg,val]

theorem ag (Z:List Nat)(o m n:Nat)(h:o+m≤Z.length):sv Z o (m+n)=sv Z o m+18446744073709551616 ^ m*sv Z (o+m) n:=by
 unfold sv
 have e:seg Z o (m+n)=seg Z o m ++ seg Z (o+m) n:=by
  unfold seg
  rw [List.take_add,List.drop_drop]
 rw [e,val_append,aT Z o m h]

theorem dX (Z:List Nat)(o:Nat)(h:o<Z.length):sv Z o 1=Z.getD o 0:=by
 unfold sv seg
 rw [List.drop_eq_getElem_cons h,List.take_succ_cons,List.take_zero,val,val]
 simp [List.getD,h]

theorem cn (Z:List Nat)(o i:Nat)(h:o+i<Z.length):sv Z o (i+1)=sv Z o i+18446744073709551616 ^ i*Z.getD (o+i) 0:=by
 rw [ag Z o i 1 (by omega),dX _ _ h]

theorem cV {Z:List Nat}(h:Limbs Z)(o n:Nat):Limbs (seg Z o n):=fun z hz=>h z (List.mem_of_mem_drop (List.mem_of_mem_take hz))

theorem bj {Z:List Nat}(h:Limbs Z)(o n:Nat):sv Z o n<18446744073709551616 ^ n:=by
 have h1:=val_lt (cV h o n)
 refine Nat.lt_of_lt_of_le h1 (Nat.pow_le_pow_right (by omega) ?_)
 simp [seg];omega

theorem bZ (Z:List Nat)(o i z:Nat)(h:o+i<Z.length):sv (Z.set (o+i) z) o (i+1)=sv Z o i+18446744073709551616 ^ i*z:=by
 rw [cn _ _ _ (by simpa using h),cE,if_pos ⟨rfl,h⟩]
 have e:Out Z (Z.set (o+i) z) (o+i) (o+i+1):=(Out.refl _ _ _).set _ _ (by omega) (by omega)
 rw [e.sv o i (by omega)]

theorem aR (Z:List Nat):sv Z 0 Z.length=val Z:=by simp [sv,seg]

theorem jm (Z Z' X:List Nat)(o i m cy hi lo:Nat)(hz:o+i<Z'.length)(h0:Z'.getD (o+i) 0=Z.getD (o+i) 0)(hZ:Z'.length=Z.length)
  (h:sv Z' o i+cy*18446744073709551616 ^ i=sv Z o i+val (X.take i)*m)
  (hs:lo+hi*18446744073709551616=X.getD i 0*m+Z.getD (o+i) 0+cy) :
  sv (Z'.set (o+i) lo) o (i+1)+hi*18446744073709551616 ^ (i+1)=sv Z o (i+1)+val (X.take (i+1))*m:=by
 have:=h0
 rw [bZ _ _ _ _ hz,cn Z o i (by omega),val_take_next X i,show (18446744073709551616:Nat) ^ (i+1)=18446744073709551616 ^ i*18446744073709551616 from Nat.pow_succ ..]
 generalize sv Z' o i=V' at *
 generalize sv Z o i=V at *
 generalize val (X.take i)=U at *
 generalize Z.getD (o+i) 0=z at *
 generalize X.getD i 0=x at *
 generalize (18446744073709551616:Nat) ^ i=P at *
 generalize (18446744073709551616:Nat)=W at *
 grind

theorem iY (x m z cy:Nat)(hx:x<18446744073709551616)(hm:m<18446744073709551616)(hz:z<18446744073709551616)(hc:cy<18446744073709551616) :
  x*m+z+cy<18446744073709551616*18446744073709551616:=by
 have h:=Nat.mul_le_mul (Nat.le_sub_one_of_lt hx) (Nat.le_sub_one_of_lt hm)
 omega
end Go.Proofs.YtcbpdngogkbndaaGreatDoor
namespace Go.Proofs.YtcbpdngogkbndaaGreatDoor
open Go.RowKit
open Lm

theorem jX (b off cap:Nat)(zs:List Nat)(w:World)(hcap:zs.length≤cap)(hmax:cap≤9223372036854775807)
  (hc:∀k,k<zs.length→w.cell? ⟨b,off+k,none⟩=some (.int .u64 ((zs.getD k 0:Nat):Int))) :
  Calls Tryz.prog 130 #[.slice (some ⟨b,off,none⟩) zs.length cap] w fun e w'=>e=.returned (.slice (some ⟨b,off,none⟩) (tr zs).length cap)∧w'=w:=by
 go_enter Tryz.func130,Tryz.ntmps130
 go_wp2
 go_loop [3] (fun n=>∃k:Nat,k≤zs.length∧n=.int .i64 k∧tr (zs.take k)=tr zs) (fun n=>(intOf n).toNat)
 case atStart=>exact⟨zs.length,Nat.le_refl _,rfl,by rw [List.take_length]⟩
 case round=>
  obtain⟨k,hk,rfl,ht⟩:=hrel
  have HT:Hid (tr (zs.take k)=tr zs):=ht
  clear ht
  by_cases h0:k=0
  ·subst h0
   go_wp2
   go_ret
   have e:=HT.out
   simp only [List.take_zero,tr] at e
   rw [←e]
   exact⟨rfl,rfl⟩
  ·obtain⟨j,rfl⟩:∃j,k=j+1:=⟨k - 1,by omega⟩
   have hcj:=hc j (by omega)
   clear hc
   by_cases hz:zs.getD j 0=0
   ·have HZ:Hid (tr (zs.take j)=tr zs):=by rw [←tr_step zs j (by omega) hz];exact HT.out
    rw [hz] at hcj
    clear hz HT
    go_wp2
    go_round
    case rel=>exact⟨j,by omega,by go_num,HZ.out⟩
    case measure=>simp [intOf]
   ·have HZ:Hid (tr zs=zs.take (j+1)):=by rw [←HT.out];exact tr_stop zs j (by omega) hz
    clear HT
    generalize zs.getD j 0=z at hcj hz
    have hne:((z:Int) == 0)=false:=by rw [beq_eq_false_iff_ne];omega
    clear hz
    go_wp2
    go_ret
    rw [HZ.out]
    have e:(zs.take (j+1)).length=j+1:=by simp;omega
    rw [e]
    exact⟨rfl,rfl⟩

theorem jO (ao:Option Addr)(cap:Nat)(w:World)(_hmax:cap≤9223372036854775807) :
  Calls Tryz.prog 130 #[.slice ao 0 cap] w fun e w'=>e=.returned (.slice ao 0 cap)∧w'=w:=by
 go_enter Tryz.func130,Tryz.ntmps130
 go_wp2
 refine wp_loop_rounds 1 ?_
 rw [rounds_succ]
 go_wp2
 go_ret
 exact⟨rfl,rfl⟩

theorem bD (ao:Option Addr)(cap:Nat)(zs:List Nat)(w:World)(hcap:zs.length≤cap)(hmax:cap≤9223372036854775807)(hl:ak w ao zs) :
  Calls Tryz.prog 130 #[.slice ao zs.length cap] w fun e w'=>e=.returned (.slice ao (tr zs).length cap)∧w'=w:=by
 rcases hl with rfl|⟨b,off,rfl,hc⟩
 ·exact jO ao cap w hmax
 ·exact jX b off cap zs w hcap hmax hc

structure Fr (bz:Nat)(w w':World):Prop where
 os:w'.os=w.os
 tape:w'.tape=w.tape
 output:w'.output=w.output
 size:w.heap.size≤w'.heap.size
 block:∀k,k<w.heap.size→k≠bz→w'.heap[k]?=w.heap[k]?

theorem Fr.refl (bz:Nat)(w:World):Fr bz w w:=⟨rfl,rfl,rfl,Nat.le_refl _,fun _ _ _=>rfl⟩

theorem Fr.trans {bz:Nat}{a b c:World}(h:Fr bz a b)(k:Fr bz b c):Fr bz a c:=
 ⟨k.os.trans h.os,k.tape.trans h.tape,k.output.trans h.output,Nat.le_trans h.size k.size,fun i h1 h2=>(k.block i (Nat.lt_of_lt_of_le h1 h.size) h2).trans (h.block i h1 h2)⟩

theorem Fr.setCell {bz:Nat}{a w:World}(h:Fr bz a w)(off:Nat)(u:Value):Fr bz a (w.setCell ⟨bz,off,none⟩ u):=
 ⟨h.os,h.tape,h.output,by simpa using h.size,fun k h1 h2=>(Below.heap_setCell w _ u k h2).trans (h.block k h1 h2)⟩

theorem Fr.drew {bz:Nat}{a w:World}(h:Fr bz a w):Fr bz a w.drew:=⟨h.os,h.tape,h.output,h.size,h.block⟩

theorem Fr.of_below {bz:Nat}{w w':World}(h:Below w.heap.size w w'):Fr bz w w':=⟨h.os,h.tape,h.output,h.size,fun k h1 _=>h.block k h1⟩

theorem Fr.below {bz base:Nat}{w w':World}(h:Fr bz w w')(h1:base≤bz)(h2:base≤w.heap.size):Below base w w':=
 ⟨h.os,h.tape,h.output,h.size,fun k hk=>h.block k (by omega) (by omega)⟩

def Off (v:Value)(bz lo hi:Nat):Prop:=∀b off n c,v=.slice (some ⟨b,off,none⟩) n c→b≠bz∨off+n≤lo∨hi≤off

theorem ak.fr {w w':World}{ao:Option Addr}{X Z Z':List Nat}{bz lo hi:Nat}(h:ak w ao X)(ho:∀b off,ao=some ⟨b,off,none⟩→b≠bz∨off+X.length≤lo∨hi≤off)
  (hf:Fr bz w w') (hb:Blk w bz Z) (hb':Blk w' bz Z') (hz:Out Z Z' lo hi):ak w' ao X:=by
 rcases h with h|⟨b,off,rfl,hc⟩
 ·exact .inl h
 ·rcases Nat.eq_zero_or_pos X.length with h0|h0
  ·exact .inl (List.length_eq_zero_iff.1 h0)
  refine .inr ⟨b,off,rfl,fun k hk=>?_⟩
  have hlt:b<w.heap.size:=ak.block (zs:=X) (.inr ⟨b,off,rfl,hc⟩) h0
  by_cases hbz:b=bz
  ·subst hbz
   have h1:=hc k hk
   have hin:off+k<Z.length:=by
    refine Nat.lt_of_not_le fun hle=>?_
    have:w.cell? ⟨b,off+k,none⟩=none:=by
     unfold Blk at hb
     simp [World.cell?,hb];omega
    rw [this] at h1;cases h1
   rw [hb.cell _ hin] at h1
   rw [hb'.cell _ (by rw [hz.len];exact hin),hz.same _ (by have:=ho b off rfl;omega)]
   exact h1
  ·have:=hf.block b hlt hbz
   rw [World.cell?_of_block (w:=w) this]
   exact hc k hk

theorem Arg.fr {w w':World}{v:Value}{X Z Z':List Nat}{bz lo hi:Nat}(h:Arg w v X)(ho:Off v bz lo hi)
  (hf:Fr bz w w') (hb:Blk w bz Z) (hb':Blk w' bz Z') (hz:Out Z Z' lo hi):Arg w' v X:=by
 obtain⟨ao,cap,h1,h2,h3,h4⟩:=h.form
 exact⟨⟨ao,cap,h1,h2,h3,h4.fr (fun b off e=>by subst e;exact ho b off _ _ h1) hf hb hb' hz⟩,h.limbs,h.few,h.nz⟩
end Go.Proofs.YtcbpdngogkbndaaGreatDoor
namespace Go.Proofs.YtcbpdngogkbndaaGreatDoor
open Go.RowKit
open Lm
attribute [local go_sem ↓] Go.wp_at_zero Go.wp_at_succ

theorem mE (P z cy:Nat)(h:P+z+cy<340282366920938463463374607431768211456)(_hz:z<18446744073709551616)(_hc:cy<18446744073709551616) :
  ((P % 18446744073709551616+z) % 18446744073709551616+cy) % 18446744073709551616+(P / 18446744073709551616+(P % 18446744073709551616+z) / 18446744073709551616+((P % 18446744073709551616+z) % 18446744073709551616+cy) / 18446744073709551616)*18446744073709551616=P+z+cy ∧
  P / 18446744073709551616+(P % 18446744073709551616+z) / 18446744073709551616<18446744073709551616 ∧
  P / 18446744073709551616+(P % 18446744073709551616+z) / 18446744073709551616+((P % 18446744073709551616+z) % 18446744073709551616+cy) / 18446744073709551616<18446744073709551616 ∧
  ((P % 18446744073709551616+z) % 18446744073709551616+cy) % 18446744073709551616<18446744073709551616:=by
 omega

theorem gQ (bz zo cap:Nat)(Z:List Nat)(v1:Value)(X:List Nat)(m:Nat)(w:World)(hB:Blk w bz Z)(hLZ:Limbs Z)(hA:Arg w v1 X)(ho:Off v1 bz zo (zo+X.length))
  (hzo:zo+X.length≤Z.length) (hc1:X.length≤cap) (hc2:cap≤9223372036854775807) (hm:m<18446744073709551616) :
  Calls Tryz.prog 140 #[.slice (some ⟨bz,zo,none⟩) X.length cap,v1,.int .u64 m] w fun e w'=>∃(cy:Nat) (Z':List Nat),e=.returned (.int .u64 (cy:Int))∧cy<18446744073709551616 ∧
   Out Z Z' zo (zo+X.length)∧Limbs Z'∧Blk w' bz Z'∧Fr bz w w'∧sv Z' zo X.length+cy*18446744073709551616 ^ X.length=sv Z zo X.length+val X*m:=by
 obtain⟨a1,c1,rfl,hcc1,hcm1,hl1⟩:=hA.form
 have M1:=hA.limbs
 have hX:=hA.few
 have hao:∀b off,a1=some ⟨b,off,none⟩→b≠bz∨off+X.length≤zo∨zo+X.length≤off:=fun b off e=>by subst e;exact ho b off _ _ rfl
 clear ho hA
 go_enter Tryz.func140,Tryz.ntmps140
 go_wp2
 go_loopw [7,16] (fun c i wr=>∃(k cy:Nat) (Z':List Nat),k≤X.length∧i=.int .i64 k∧c=.int .u64 cy∧cy<18446744073709551616∧Out Z Z' zo (zo+k)∧Limbs Z'∧Blk wr bz Z'∧Fr bz w wr ∧
   sv Z' zo k+cy*18446744073709551616 ^ k=sv Z zo k+val (X.take k)*m) (fun _ i _=>X.length - (intOf i).toNat)
 case atStart=>exact⟨0,0,Z,Nat.zero_le _,rfl,rfl,by omega,Out.refl _ _ _,hLZ,hB,Fr.refl _ _,by simp [aH,val]⟩
 case round=>
  obtain⟨k,cy,Z',hk,rfl,rfl,hcy,hout,hlz,hblk,hfr0,hval⟩:=hrel
  have HV:=aa hval
  have HB:=aa hblk
  have HF:=aa hfr0
  have HO:=aa hout
  have hl:=hout.len
  clear hval
  by_cases hkl:k<X.length
  ·rcases hl1.fr hao hfr0 hB hblk (hout.wider (Nat.le_refl _) (by omega)) with h0|⟨b,off,rfl,hcell⟩
   ·rw [h0] at hkl;simp at hkl
   ·have hck:=hcell k hkl
    have hfr:=hblk.free (zo+k)
    have hco:=hblk.cell (zo+k) (by omega)
    have z1:=limb_lt M1 k
    have z2:=limb_lt hlz (zo+k)
    have hsame:=hout.same (zo+k) (by omega)
    have hft:=iY (X.getD k 0) m (Z'.getD (zo+k) 0) cy z1 hm z2 hcy
    have hlm:=mE (X.getD k 0*m) (Z'.getD (zo+k) 0) cy hft z2 hcy
    have HS:=aa (fun hi lo hs=>jm Z Z' X zo k m cy hi lo (by omega) hsame hl HV.out hs)
    rw [←hsame] at HS
    have ha1:=bK (X.getD k 0*m % 18446744073709551616) (Z'.getD (zo+k) 0)
    have ha2:=bK ((X.getD k 0*m % 18446744073709551616+Z'.getD (zo+k) 0) % 18446744073709551616) cy
    have hM:=Tryz.bits_Mul64 (X.getD k 0) m z1 hm wr
    generalize Z'.getD (zo+k) 0=z at *
    generalize X.getD k 0=x at *
    generalize hP:x*m=P at *
    clear hP hft hsame
    obtain⟨q1,q2,q3,q4⟩:=hlm
    have HS2:=aa (HS.out _ _ q1)
    clear HS q1
    generalize ((P % 18446744073709551616+z) % 18446744073709551616+cy) % 18446744073709551616=s at *
    generalize ((P % 18446744073709551616+z) % 18446744073709551616+cy) / 18446744073709551616=o2 at *
    generalize (P % 18446744073709551616+z) % 18446744073709551616=s1 at *
    generalize (P % 18446744073709551616+z) / 18446744073709551616=o1 at *
    generalize P / 18446744073709551616=h1 at *
    generalize P % 18446744073709551616=l1 at *
    have e1:(h1:Int)+(o1:Int)=((h1+o1:Nat):Int):=by omega
    generalize h1+o1=h2 at *
    have e2:(h2:Int)+(o2:Int)=((h2+o2:Nat):Int):=by omega
    generalize h2+o2=h3 at *
    clear hcell hblk hfr0 hout HV M1 hl1 hB hLZ
    go_wp2_with fail
    refine hM.mono ?_
    rintro e w2 ⟨rfl,rfl⟩
    clear hM
    go_wp2
    go_roundw
    case rel=>exact⟨k+1,h3,Z'.set (zo+k) s,by omega,by go_num,rfl,q3,(HO.out.wider (Nat.le_refl _) (by omega)).set _ _ (by omega) (by omega),limbs_set hlz _ _ q4,HB.out.set _ s,HF.out.setCell _ _,HS2.out⟩
    case measure=>simp [intOf];omega
  ·have ek:k=X.length:=by omega
   subst ek
   rw [List.take_length] at HV
   clear hblk hfr0 hout hl1 hB
   go_wp2
   go_ret
   exact⟨cy,Z',rfl,hcy,HO.out,hlz,HB.out,HF.out,HV.out⟩
end Go.Proofs.YtcbpdngogkbndaaGreatDoor

