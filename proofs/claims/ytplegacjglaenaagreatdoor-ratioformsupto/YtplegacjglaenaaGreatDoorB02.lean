/- Plain facts: digits of 32 bits taken in pairs; bits of a number by its digits; the order by its digits. -/
import Derived.Test.YtplegacjglaenaaGreatDoorB01
import Derived.Laws.AppendOwnNone
import Derived.Handy
import Derived.Tactics2
import Derived.Defers
import Derived.Recover
import Derived.Laws.Pointers
import Derived.Lib.SliceRun
set_option maxRecDepth 20000
set_option maxHeartbeats 1000000
namespace Go.Proofs.YtplegacjglaenaaGreatDoor
namespace Lm

def pairsB (B:Nat):List Nat→List Nat
 | []=>[]
 | [a]=>[a]
 | a :: b :: r=>(a+b*B) :: pairsB B r

def pairs (ds:List Nat):List Nat:=pairsB 4294967296 ds

theorem pairsB_length (B:Nat):∀ds:List Nat,(pairsB B ds).length=(ds.length+1) / 2
 | []=>by simp [pairsB]
 | [_]=>by simp [pairsB]
 | a :: b :: r=>by simp only [pairsB,List.length_cons,pairsB_length B r];omega

theorem pairsB_getD (B:Nat):∀(ds:List Nat) (k:Nat),(pairsB B ds).getD k 0=ds.getD (2*k) 0+ds.getD (2*k+1) 0*B
 | [],k=>by simp [pairsB,List.getD]
 | [a],0=>by simp [pairsB,List.getD]
 | [a],k+1=>by simp [pairsB,List.getD,Nat.mul_add]
 | a :: b :: r,0=>by simp [pairsB,List.getD]
 | a :: b :: r,k+1=>by
  have:=pairsB_getD B r k
  rw [show 2*(k+1)=2*k+1+1 by omega]
  simp only [pairsB,List.getD_cons_succ]
  exact this

theorem pairs_length (ds:List Nat):(pairs ds).length=(ds.length+1) / 2:=pairsB_length _ ds

theorem pairs_getD (ds:List Nat)(k:Nat):(pairs ds).getD k 0=ds.getD (2*k) 0+ds.getD (2*k+1) 0*4294967296:=pairsB_getD _ ds k

theorem pairs_val:∀ds:List Nat,val (pairs ds)=vb 4294967296 ds
 | []=>rfl
 | [a]=>by simp [pairs,pairsB,val,vb]
 | a :: b :: r=>by
  have ih:=pairs_val r
  unfold pairs at ih ⊢
  simp only [pairsB,val,vb,ih];omega

theorem pairs_limbs:∀ds:List Nat,Digs 4294967296 ds→Limbs (pairs ds)
 | [],_=>by intro z hz;cases hz
 | [a],h=>by
  intro z hz
  have:=h a (by simp)
  simp [pairs,pairsB] at hz
  omega
 | a :: b :: r,h=>by
  intro z hz
  have ha:=h a (by simp)
  have hb:=h b (by simp)
  simp only [pairs,pairsB,List.mem_cons] at hz
  rcases hz with rfl|hz
  ·omega
  ·exact pairs_limbs r (fun y hy=>h y (by simp [hy])) z hz

theorem pairs_nil:∀ds:List Nat,pairs ds=[]→ds=[]
 | [],_=>rfl
 | [a],h=>by simp [pairs,pairsB] at h
 | a :: b :: r,h=>by simp [pairs,pairsB] at h

theorem pairs_tr:∀ds:List Nat,tr ds=ds→tr (pairs ds)=pairs ds
 | [],_=>rfl
 | [a],h=>h
 | a :: b :: r,h=>by
  have h1:=tr_tail h
  have h2:=tr_tail h1
  have ih:=pairs_tr r h2
  unfold pairs at ih ⊢
  simp only [pairsB,tr,ih]
  split
  ·rename_i hc
   exfalso
   have hr:=pairs_nil r hc.2
   have hb:b=0:=by omega
   subst hr hb
   simp [tr] at h1
  ·rfl

theorem blen_half (v:Nat)(h:v≠0):blen v=blen (v / 2)+1:=by
 unfold blen
 rw [if_neg h]
 by_cases h2:v / 2=0
 ·rw [if_pos h2]
  have:v=1:=by omega
  subst this;rfl
 ·rw [if_neg h2]
  have:v.log2=(v / 2).log2+1:=by
   rw [Nat.log2_def];rw [if_pos (by omega)]
  omega

theorem B_pow (n:Nat):(4294967296:Nat) ^ n=2 ^ (32*n):=by rw [Nat.pow_mul]

theorem blen_top (p k d:Nat)(hp:p<2 ^ k)(hd:d≠0):blen (p+2 ^ k*d)=k+blen d:=by
 have h1:=Nat.log2_self_le hd
 have h2:=(Nat.log2_lt hd (k:=d.log2+1)).1 (by omega)
 have e:blen d=d.log2+1:=by unfold blen;rw [if_neg hd]
 rw [e,←Nat.add_assoc]
 refine blen_eq _ _ ?_ ?_
 ·rw [Nat.pow_add]
  exact Nat.le_trans (Nat.mul_le_mul_left _ h1) (Nat.le_add_left _ _)
 ·rw [Nat.add_assoc,Nat.pow_add]
  have:=Nat.mul_le_mul_left (2 ^ k) (Nat.succ_le_of_lt h2)
  rw [Nat.succ_eq_add_one,Nat.mul_add] at this
  omega

theorem tr_last' (ds:List Nat)(n:Nat)(ht:tr ds=ds)(h:ds.length=n+1):ds.getD n 0≠0:=by
 have:=tr_last ds n (by rw [ht];exact h)
 rwa [ht] at this

theorem vb_split (ds:List Nat)(n:Nat)(h:ds.length=n+1):vb 4294967296 ds=vb 4294967296 (ds.take n)+2 ^ (32*n)*ds.getD n 0:=by
 have:=vb_take_next (B:=4294967296) ds n
 rw [←h,List.take_length,B_pow] at this
 exact this

theorem vb_take_lt {ds:List Nat}(hd:Digs 4294967296 ds)(n:Nat):vb 4294967296 (ds.take n)<2 ^ (32*n):=by
 have h1:=vb_lt (B:=4294967296) (zs:=ds.take n) (fun z hz=>hd z (List.mem_of_mem_take hz))
 have h2:(ds.take n).length≤n:=List.length_take_le _ _
 rw [←B_pow]
 exact Nat.lt_of_lt_of_le h1 (Nat.pow_le_pow_right (by omega) h2)

theorem blen_vb {ds:List Nat}(hd:Digs 4294967296 ds)(ht:tr ds=ds)(n:Nat)(h:ds.length=n+1):blen (vb 4294967296 ds)=32*n+blen (ds.getD n 0):=by
 rw [vb_split ds n h]
 exact blen_top _ _ _ (vb_take_lt hd n) (tr_last' ds n ht h)

theorem vb_shorter {a b:List Nat}(ha:Digs 4294967296 a)(hb:tr b=b)(h:a.length<b.length):vb 4294967296 a<vb 4294967296 b:=by
 obtain⟨n,hn⟩:∃n,b.length=n+1:=⟨b.length - 1,by omega⟩
 have h1:=vb_take_lt ha n
 rw [List.take_of_length_le (by omega)] at h1
 have h2:=tr_last' b n hb hn
 rw [vb_split b n hn]
 have:=Nat.mul_le_mul_left (2 ^ (32*n)) (Nat.one_le_iff_ne_zero.2 h2)
 omega

theorem vcmp_same {Z Y:List Nat}(j:Nat)(he:Z.getD j 0=Y.getD j 0):cmpN (vb 4294967296 (Z.take (j+1))) (vb 4294967296 (Y.take (j+1)))=cmpN (vb 4294967296 (Z.take j)) (vb 4294967296 (Y.take j)):=by
 rw [vb_take_next,vb_take_next,he,cmpN_add]

theorem vcmp_top {Z Y:List Nat}(hZ:Digs 4294967296 Z)(hY:Digs 4294967296 Y)(j:Nat)(hne:Z.getD j 0≠Y.getD j 0):cmpN (vb 4294967296 (Z.take (j+1))) (vb 4294967296 (Y.take (j+1)))=cmpN (Z.getD j 0) (Y.getD j 0):=by
 rw [vb_take_next,vb_take_next,B_pow]
 exact cmpN_top _ _ _ _ _ (vb_take_lt hZ j) (vb_take_lt hY j) hne

theorem vb_sub_step (X S out:List Nat)(k bw:Nat)(hk:k<out.length)(hx:X.getD k 0<4294967296)(hy:S.getD k 0<4294967296)(hb:bw≤1)
  (h:vb 4294967296 (out.take k)+vb 4294967296 (S.take k)=vb 4294967296 (X.take k)+bw*4294967296 ^ k) :
  vb 4294967296 ((out.set k ((X.getD k 0+4294967296 - S.getD k 0 - bw) % 4294967296)).take (k+1))+vb 4294967296 (S.take (k+1))=vb 4294967296 (X.take (k+1))+(1 - (X.getD k 0+4294967296 - S.getD k 0 - bw) / 4294967296)*4294967296 ^ (k+1):=by
 rw [vb_set_succ _ _ _ hk,vb_take_next X,vb_take_next S,Nat.pow_succ]
 generalize X.getD k 0=x at *
 generalize S.getD k 0=y at *
 have hm:(x+4294967296 - y - bw) % 4294967296+y+bw=x+(1 - (x+4294967296 - y - bw) / 4294967296)*4294967296:=by omega
 generalize (x+4294967296 - y - bw) % 4294967296=m at *
 generalize 1 - (x+4294967296 - y - bw) / 4294967296=d at *
 generalize (4294967296:Nat) ^ k=p at *
 have e:p*(m+y+bw)=p*(x+d*4294967296):=by rw [hm]
 rw [Nat.mul_add,Nat.mul_add,Nat.mul_add] at e
 have e2:d*(p*4294967296)=p*(d*4294967296):=by rw [←Nat.mul_assoc,Nat.mul_comm d p,Nat.mul_assoc]
 have e3:bw*p=p*bw:=Nat.mul_comm _ _
 omega

end Lm
end Go.Proofs.YtplegacjglaenaaGreatDoor
namespace Go.Proofs.YtplegacjglaenaaGreatDoor
open Go.RowKit
open Lm

theorem oC (v:Value)(ds:List Nat)(w:World)(h:Arg w v ds)(hd:Digs 4294967296 ds)(hf:ds.length≤35184372088832) :
  Calls Tryz.prog 59 #[v] w fun e w'=>(∃v',e=.returned v'∧Ans w' w.heap.size v' (pairs ds))∧Below w.heap.size w w':=by
 obtain⟨ao,cap,rfl,hcap,hmax,L1⟩:=h.form
 obtain⟨i0,hi,hz0,hz1,hz2⟩:=info_parts Tryz.infoU
 have hpl:=pairs_length ds
 clear h
 go_enter Tryz.func59,Tryz.ntmps59
 go_wp2
 go_loopw [3,4] (fun o i wr=>∃k:Nat,k≤(pairs ds).length∧i=.int .i64 ((2*k:Nat):Int)∧wr.ownsRow w.heap.size 51 1 o ((pairs ds).take k).length (((pairs ds).take k).map lv)∧Below w.heap.size w wr) (fun _ i _=>ds.length+2 - (intOf i).toNat)
 case atStart=>exact⟨0,Nat.zero_le _,rfl,World.ownsRow_nil _ _ _ _,Below.refl _ _⟩
 case round=>
  obtain⟨k,hk,rfl,ho,hbl⟩:=hrel
  have HB:=ac hbl
  by_cases hkl:2*k<ds.length
  ·rcases L1.below hbl with h0|⟨b,off,rfl,hcell⟩
   ·simp [h0] at hkl
   ·have hck:=hcell (2*k) hkl
    have HT:=ac (take_snoc (pairs ds) k (by omega))
    have hpg:=pairs_getD ds k
    have z1:=dig_lt (by omega) hd (2*k)
    have z2:=dig_lt (by omega) hd (2*k+1)
    by_cases hk2:2*k+1<ds.length
    ·have hck2:=hcell (2*k+1) hk2
     rw [hpg] at HT
     generalize ds.getD (2*k) 0=x at *
     generalize ds.getD (2*k+1) 0=y at *
     have i1:(2:Int)*(k:Int)+1<(ds.length:Int):=by omega
     have e1:(x:Int)+(y:Int)*4294967296=((x+y*4294967296:Nat):Int):=by omega
     have b1:x+y*4294967296<18446744073709551616:=by omega
     generalize x+y*4294967296=z at *
     clear hcell L1 hbl hd hpg
     go_wp2_with (at_builtin;refine wpList_append_own _ rfl _ _ 23 rfl w.heap.size 51 i0 (.int .u64 0) 1 8 Tryz.underlying23 hi hz0 hz1 hz2 rfl (by decide) _ _ _ rfl (ho.alloc _) ⟨wr.heap.size,0,none⟩ 1 1 ([z].map lv) rfl rfl (d5 [z]) (dg _) (by simp only [List.length_take];unfold maxLen;omega) (by simp only [List.length_take];omega) (by have:=HB.out.size;simp;omega) ?_;intro v' w2 hown2 hgrow2 _)
     have HO:=ac hown2
     have HB2:=ac ((HB.out.alloc HB.out.size (.cells ([z].map lv).toArray 51)).grown hgrow2 (by have:=HB.out.size;simp;omega) (fun k hk=>(ho.lt k hk).1))
     clear hown2 hgrow2 ho
     go_wp2
     go_roundw
     case rel=>
      refine⟨k+1,by omega,by go_num,?_,HB2.out⟩
      rw [HT.out,List.length_append,List.map_append]
      exact HO.out
     case measure=>simp [intOf];omega
    ·have e0:ds.getD (2*k+1) 0=0:=by simp [List.getD,Nat.le_of_not_lt hk2]
     rw [hpg,e0,Nat.zero_mul,Nat.add_zero] at HT
     generalize ds.getD (2*k) 0=x at *
     have hd1:decide ((2:Int)*(k:Int)+1<(ds.length:Int))=false:=decide_eq_false (by omega)
     clear hcell L1 hbl hd hpg e0
     go_wp2_with (at_builtin;refine wpList_append_own _ rfl _ _ 23 rfl w.heap.size 51 i0 (.int .u64 0) 1 8 Tryz.underlying23 hi hz0 hz1 hz2 rfl (by decide) _ _ _ rfl (ho.alloc _) ⟨wr.heap.size,0,none⟩ 1 1 ([x].map lv) rfl rfl (d5 [x]) (dg _) (by simp only [List.length_take];unfold maxLen;omega) (by simp only [List.length_take];omega) (by have:=HB.out.size;simp;omega) ?_;intro v' w2 hown2 hgrow2 _)
     have HO:=ac hown2
     have HB2:=ac ((HB.out.alloc HB.out.size (.cells ([x].map lv).toArray 51)).grown hgrow2 (by have:=HB.out.size;simp;omega) (fun k hk=>(ho.lt k hk).1))
     clear hown2 hgrow2 ho
     go_wp2
     go_roundw
     case rel=>
      refine⟨k+1,by omega,by go_num,?_,HB2.out⟩
      rw [HT.out,List.length_append,List.map_append]
      exact HO.out
     case measure=>simp [intOf];omega
  ·have ek:k=(pairs ds).length:=by omega
   rw [ek,List.take_length] at ho
   have HA:Hid (Ans wr w.heap.size u3 (pairs ds)):=⟨ho,pairs_limbs ds hd⟩
   clear ho hbl L1 hd
   go_wp2
   go_ret
   exact⟨⟨_,rfl,HA.out⟩,HB.out⟩

theorem j8 (v u:Value)(x:Nat)(rs:List Nat)(w:World)(hn:Num w v x)(ha:Arg w u rs)(ht:tr rs=rs)(hv:val rs=x)(hf:blen x≤1125899906842624) :
  Calls Tryz.prog 32 #[v,u] w fun e w'=>e=.returned (.bool true)∧Below w.heap.size w w':=by
 obtain⟨ds,hd1,hd2,hd3,hd4,hd5⟩:=hn
 have hf2:ds.length≤35184372088832:=by
  refine Nat.le_of_not_lt fun hlt=>?_
  obtain⟨n,hn⟩:∃n,ds.length=n+1:=⟨ds.length - 1,by omega⟩
  have h1:=blen_vb hd2 hd3 n hn
  have h2:=tr_last' ds n hd3 hn
  have h3:=blen_half _ h2
  rw [hd4] at h1
  omega
 clear hf
 have HL:=oC v ds w hd1 hd2 hf2
 have he:pairs ds=rs:=norm_inj _ _ (pairs_limbs ds hd2) ha.limbs (pairs_tr ds hd3) ht (by rw [pairs_val,hd4,hv])
 rw [he] at HL
 have hfew:=ha.few
 clear he ht hv hd1 hd2 hd3 hd4 hd5 hf2
 go_enter Tryz.func32,Tryz.ntmps32
 go_wp2_with fail
 refine HL.mono ?_
 rintro e w1 ⟨⟨v',rfl,hans⟩,hb⟩
 have A1:=hans.arg hfew
 have A2:=ha.below hb
 have HB:=ac hb
 clear HL hans hb ha
 obtain⟨a1,c1,rfl,hc1,hm1,L1⟩:=A1.form
 obtain⟨a2,c2,rfl,hc2,hm2,L2⟩:=A2.form
 have hne:((rs.length:Int) != (rs.length:Int))=false:=by simp
 clear A1 A2
 go_wp2
 go_loopw [16] (fun i wr=>∃k:Nat,k≤rs.length∧i=.int .i64 k∧aj w1 wr) (fun i _=>rs.length - (intOf i).toNat)
 case atStart=>exact⟨0,Nat.zero_le _,rfl,aj.refl _⟩
 case round=>
  obtain⟨k,hk,rfl,hs⟩:=hrel
  by_cases hkl:k<rs.length
  ·rcases L1.below (hs.below _) with h0|⟨b,off,rfl,hcell⟩
   ·simp [h0] at hkl
   ·rcases L2.below (hs.below _) with h0|⟨b',off',rfl,hcell'⟩
    ·simp [h0] at hkl
    ·have hck:=hcell k hkl
     have hck':=hcell' k hkl
     generalize rs.getD k 0=z at *
     have hne2:((z:Int) != (z:Int))=false:=by simp
     have hi1:(0:Int)≤(k:Int):=by omega
     have hi2:(k:Int)<(rs.length:Int):=by omega
     have HS:=ac hs
     clear hcell hcell' L1 L2 hs
     go_wp2
     go_quiet (fail)
     go_wp2
     go_roundw
     case rel=>exact⟨k+1,by omega,by go_num,HS.out.drewN _⟩
     case measure=>simp [intOf];omega
  ·have HS:=ac hs
   clear L1 L2 hs
   go_wp2
   go_ret
   exact⟨rfl,HB.out.trans (HS.out.below _)⟩

theorem rh {k:IntKind}{a b:Int}(h:a=b):Ending.returned (.int k a)=.returned (.int k b):=by rw [h]

theorem gY (v:Value)(x:Nat)(w:World)(hn:Num w v x) :
  Calls Tryz.prog 29 #[v] w fun e w'=>e=.returned (.int .i64 ((blen x:Nat):Int))∧w'=w:=by
 obtain⟨ds,hd1,hd2,hd3,rfl,hd5⟩:=hn
 obtain⟨ao,cap,rfl,hcap,hmax,L1⟩:=hd1.form
 clear hd1
 by_cases h0:ds.length=0
 ·have hz:ds=[]:=List.length_eq_zero_iff.1 h0
  subst hz
  have e:blen (vb 4294967296 [])=0:=rfl
  rw [e]
  clear L1 hd2 hd3 hd5 h0
  go_enter Tryz.func29,Tryz.ntmps29
  go_wp2
  go_ret
  exact⟨rfl,rfl⟩
 ·obtain⟨n,hn⟩:∃n,ds.length=n+1:=⟨ds.length - 1,by omega⟩
  rcases L1 with hz|⟨b,off,rfl,hcell⟩
  ·simp [hz] at h0
  ·have hcn:=hcell n (by omega)
   rw [blen_vb hd2 hd3 n hn]
   have hdl:=dig_lt (by omega) hd2 n
   rw [hn] at hd5 ⊢
   have hz:(((n+1:Nat):Int) == 0)=false:=by rw [beq_eq_false_iff_ne];omega
   have hz':((n:Int)+1 == 0)=false:=by rw [beq_eq_false_iff_ne];omega
   generalize ds.getD n 0=d at *
   have hbd:blen d≤32:=(blen_le_iff d 32).2 hdl
   clear hcell hd2 hd3 h0 hn hcap
   go_enter Tryz.func29,Tryz.ntmps29
   go_wp2
   go_loop [3,4] (fun a b=>∃m y:Nat,a=.int .i64 m∧b=.int .u64 y∧m+blen y=32*n+blen d∧y<4294967296) (fun _ b=>(intOf b).toNat)
   case atStart=>exact⟨32*n,d,by go_num,rfl,rfl,hdl⟩
   case round=>
    obtain⟨m,y,rfl,rfl,hm,hy⟩:=hrel
    by_cases hy0:y=0
    ·subst hy0
     have HM:=ac hm
     have e0:blen 0=0:=rfl
     have HM2:Hid (m=32*n+blen d):=ac (by have:=HM.out;rw [e0] at this;exact this)
     clear hm HM e0
     go_wp2
     go_ret
     exact⟨rh (by have:=HM2.out;omega),rfl⟩
    ·have hb2:=blen_half y hy0
     have HM:Hid (m+1+blen (y / 2)=32*n+blen d):=ac (by omega)
     have hmb:m≤32*n+32:=by omega
     have e1:(y:Int) / 2=((y / 2:Nat):Int):=by omega
     have i1:(0:Int)<(y:Int):=by omega
     have i2:y / 2<y:=by omega
     clear hm hb2
     generalize y / 2=y2 at *
     go_wp2
     go_round
     case rel=>exact⟨m+1,y2,by go_num,rfl,HM.out,by omega⟩
     case measure=>simp [intOf];omega
end Go.Proofs.YtplegacjglaenaaGreatDoor
namespace Go.Proofs.YtplegacjglaenaaGreatDoor
open Lm

theorem jf (s:Nat)(hs:s≤32):(4294967296:Nat)=2 ^ (32 - s)*2 ^ s:=by
 rw [←Nat.pow_add,Nat.sub_add_cancel hs]

theorem nV (q s:Nat):2 ^ (q*32+s)=4294967296 ^ q*2 ^ s:=by
 rw [Nat.pow_add,Nat.mul_comm q 32,Nat.pow_mul]

theorem nP (x s o:Nat)(hs:s≤32)(ho:o<2 ^ s):o+x*2 ^ s % 4294967296<4294967296:=by
 have e:x*2 ^ s % 4294967296=x % 2 ^ (32 - s)*2 ^ s:=by
  conv=>lhs;rw [jf s hs,Nat.mul_mod_mul_right]
 have h1:x % 2 ^ (32 - s)<2 ^ (32 - s):=Nat.mod_lt _ (Nat.two_pow_pos _)
 have h2:(x % 2 ^ (32 - s)+1)*2 ^ s≤2 ^ (32 - s)*2 ^ s:=Nat.mul_le_mul_right _ h1
 rw [←jf s hs,Nat.add_mul,Nat.one_mul] at h2
 omega

theorem kZ (x s:Nat)(hx:x<4294967296):x*2 ^ s / 4294967296<2 ^ s:=by
 rw [Nat.div_lt_iff_lt_mul (by omega),Nat.mul_comm (2 ^ s)]
 exact Nat.mul_lt_mul_of_pos_right hx (Nat.two_pow_pos _)

theorem oj (x s:Nat)(hx:x<4294967296)(hs:s<32):x*2 ^ s<18446744073709551616:=by
 have h:2 ^ s≤2 ^ 32:=Nat.pow_le_pow_right (by omega) (by omega)
 have:=Nat.mul_le_mul (Nat.le_sub_one_of_lt hx) h
 omega

theorem mQ (X out:List Nat)(q s k n:Nat)(hn:n=q*32+s)(hk:q+k+1<out.length)(h:vb 4294967296 (out.take (q+k+1))=vb 4294967296 (X.take k)*2 ^ n) :
  vb 4294967296 (((out.set (q+k) (out.getD (q+k) 0+X.getD k 0*2 ^ s % 4294967296)).set (q+k+1) (X.getD k 0*2 ^ s / 4294967296)).take (q+k+1+1))=vb 4294967296 (X.take (k+1))*2 ^ n:=by
 rw [vb_set_succ _ _ _ (by simpa using hk),vb_set_succ _ _ _ (by omega),vb_take_next X k]
 rw [vb_take_next] at h
 have ht:=Nat.mod_add_div (X.getD k 0*2 ^ s) 4294967296
 have e:2 ^ n=4294967296 ^ q*2 ^ s:=by rw [hn,nV]
 have e2:4294967296 ^ (q+k)=4294967296 ^ q*4294967296 ^ k:=Nat.pow_add _ _ _
 have e3:4294967296 ^ (q+k+1)=4294967296 ^ (q+k)*4294967296:=Nat.pow_succ ..
 rw [e3]
 rw [e2] at h ⊢
 rw [e] at h ⊢
 generalize X.getD k 0*2 ^ s % 4294967296=r at *
 generalize X.getD k 0*2 ^ s / 4294967296=d at *
 generalize X.getD k 0=x at *
 generalize out.getD (q+k) 0=o at *
 generalize vb 4294967296 (out.take (q+k))=V at *
 generalize vb 4294967296 (X.take k)=U at *
 generalize 4294967296 ^ q=Q at *
 generalize 4294967296 ^ k=K at *
 generalize 2 ^ s=S at *
 generalize 4294967296=B at *
 grind
end Go.Proofs.YtplegacjglaenaaGreatDoor
namespace Go.Proofs.YtplegacjglaenaaGreatDoor
open Go.RowKit
open Lm
attribute [local go_sem ↓] Go.wp_at_zero Go.wp_at_succ

theorem o8 {w:World}{b off:Nat}{X:List Nat}(hc:∀k,k<X.length→w.cell? ⟨b,off+k,none⟩=some (.int .u64 ((X.getD k 0:Nat):Int)))(j:Nat)(u:Value)(hj:(X.map lv)[j]?=some u):w.cell? ((⟨b,off,none⟩:Addr).add j)=some u:=by
 rw [List.getElem?_map] at hj
 have hl:j<X.length:=by
  refine Nat.lt_of_not_le fun h=>?_
  rw [List.getElem?_eq_none h] at hj
  cases hj
 have:=hc j hl
 have e:X.getD j 0=X[j]:=by simp [List.getD,hl]
 rw [List.getElem?_eq_getElem hl] at hj
 cases hj
 have ea:(⟨b,off,none⟩:Addr).add j=⟨b,off+j,none⟩:=by simp [Addr.add]
 rw [ea,this,e];rfl

theorem qT (ao:Option Addr)(cap:Nat)(X:List Nat)(w:World)(hl:au w ao X)(hX:Limbs X)(hf:X.length≤17592186044416) :
  Calls Tryz.prog 96 #[.slice ao X.length cap] w fun e w'=>(∃v,e=.returned v∧Ans w' w.heap.size v X)∧Below w.heap.size w w':=by
 obtain⟨i0,hi,hz0,hz1,hz2⟩:=info_parts Tryz.infoU
 have ho:w.ownsRow w.heap.size 51 1 (.slice none 0 0) 0 []:=World.ownsRow_nil _ _ _ _
 have key:∀ad:Addr,(∀j u,(X.map lv)[j]?=some u→w.cell? (ad.add j)=some u)→Calls Tryz.prog 96 #[.slice (some ad) X.length cap] w fun e w'=>(∃v,e=.returned v∧Ans w' w.heap.size v X)∧Below w.heap.size w w':=by
  intro ad hn
  have HX:=ac hX
  clear hX hl
  go_enter Tryz.func96,Tryz.ntmps96
  go_wp2_with (at_builtin;refine wpList_append_own _ rfl _ _ 24 rfl w.heap.size 51 i0 (.int .u64 0) 1 8 Tryz.underlying24 hi hz0 hz1 hz2 rfl (by decide) _ _ _ rfl ho ad X.length cap (X.map lv) rfl (by simp) hn (dg _) (by unfold maxLen;omega) (by omega) (Nat.le_refl _) ?_;intro v' w2 hown2 hgrow2 _)
  have HA:Hid (Ans w2 w.heap.size v' X):=by
   rw [Nat.zero_add,List.nil_append] at hown2
   exact⟨hown2,HX.out⟩
  have HB:Hid (Below w.heap.size w w2):=(Below.refl _ _).grown hgrow2 (Nat.le_refl _) (fun k hk=>by cases hk)
  clear hown2 hgrow2 ho hn
  go_wp2
  go_ret
  exact⟨⟨_,rfl,HA.out⟩,HB.out⟩
 rcases hl with h0|⟨b,off,rfl,hc⟩
 ·subst h0
  cases ao with
  | some ad=>exact key ad (fun j u h=>by simp at h)
  | none=>
   clear key ho hi hz0 hz1 hz2 hX
   go_enter Tryz.func96,Tryz.ntmps96
   go_wp2
   go_ret
   exact⟨⟨_,rfl,Ans.nil _ _⟩,Below.refl _ _⟩
 ·exact key _ (o8 hc)

theorem dj (v:Value)(X:List Nat)(w:World)(hA:Arg w v X)(hf:X.length≤17592186044416) :
  Calls Tryz.prog 81 #[v] w fun e w'=>(∃v,e=.returned v∧Ans w' w.heap.size v (tr X))∧Below w.heap.size w w':=by
 obtain⟨a1,c1,rfl,hc1,hm1,hl1⟩:=hA.form
 have T1:=bT a1 c1 X w hc1 hm1 hl1
 have l1:=tr_length_le X
 have F:=qT a1 c1 (tr X) w hl1.tr (limbs_tr hA.limbs) (by omega)
 clear hl1 hA
 go_enter Tryz.func81,Tryz.ntmps81
 go_wp2_with fail
 refine T1.mono ?_
 rintro e w2 ⟨rfl,rfl⟩
 clear T1
 go_wp2_with fail
 refine F.mono ?_
 rintro e w3 ⟨⟨v,rfl,ha⟩,hb⟩
 have HA:=ac (And.intro ha hb)
 clear ha hb F
 go_wp2
 go_ret
 exact⟨⟨v,rfl,HA.out.1⟩,HA.out.2⟩
end Go.Proofs.YtplegacjglaenaaGreatDoor
namespace Go.Proofs.YtplegacjglaenaaGreatDoor
namespace Lm

theorem through_step (X out:List Nat)(d j r:Nat)(hj:j<out.length)
  (h:val (out.drop (j+1))*d+r=val (X.drop (j+1))) (hxl:j<X.length) :
  val ((out.set j ((r*18446744073709551616+X.getD j 0) / d)).drop j)*d+(r*18446744073709551616+X.getD j 0) % d=val (X.drop j):=by
 have e1:(out.set j ((r*18446744073709551616+X.getD j 0) / d)).drop j=((r*18446744073709551616+X.getD j 0) / d) :: out.drop (j+1):=by
  rw [List.drop_eq_getElem_cons (by simpa using hj)]
  simp [List.drop_set]
 have e2:X.drop j=X.getD j 0 :: X.drop (j+1):=by
  rw [List.drop_eq_getElem_cons hxl];simp [List.getD,hxl]
 rw [e1,e2]
 simp only [val]
 rw [←h]
 generalize X.getD j 0=x
 generalize val (out.drop (j+1))=q
 have hdm:=Nat.div_add_mod (r*18446744073709551616+x) d
 generalize (r*18446744073709551616+x) / d=a at *
 generalize (r*18446744073709551616+x) % d=b at *
 have e3:(a+18446744073709551616*q)*d=d*a+18446744073709551616*(q*d):=by
  rw [Nat.add_mul,Nat.mul_comm a d,Nat.mul_assoc]
 rw [e3]
 omega

theorem quo_lt (r x d:Nat)(hr:r<d)(hx:x<18446744073709551616):(r*18446744073709551616+x) / d<18446744073709551616:=by
 rw [Nat.div_lt_iff_lt_mul (by omega)]
 have:=Nat.mul_le_mul_right 18446744073709551616 (Nat.succ_le_of_lt hr)
 rw [Nat.succ_eq_add_one,Nat.add_mul] at this
 rw [Nat.mul_comm]
 omega

end Lm
end Go.Proofs.YtplegacjglaenaaGreatDoor
namespace Go.Proofs.YtplegacjglaenaaGreatDoor
open Go.RowKit
open Lm

theorem cC (x:Nat)(w:World)(hx:x<18446744073709551616) :
  Calls Tryz.prog 42 #[.int .u64 x] w fun e w'=>(∃v,e=.returned v∧Ans w' w.heap.size v (tr [x]))∧Below w.heap.size w w':=by
 by_cases h:x=0
 ·subst h
  have hz:(((0:Nat):Int) == 0)=true:=rfl
  go_enter Tryz.func42,Tryz.ntmps42
  go_wp2
  go_ret
  exact⟨⟨_,rfl,Ans.nil _ _⟩,Below.refl _ _⟩
 ·have hz:((x:Int) == 0)=false:=by rw [beq_eq_false_iff_ne];omega
  have e:tr [x]=[x]:=by simp [tr,h]
  rw [e]
  clear e h
  have hb:Blk (w.alloc (.cells #[.int .u64 (x:Int)] 51)) w.heap.size [x]:=by
   unfold Blk;rw [heap_alloc_new];rfl
  have HA:=ac (Ans.of_blk (base:=w.heap.size) (zs:=[x]) (Nat.le_refl _) hb rfl (Nat.le_refl _) (by simp) (by intro y hy;simp at hy;omega))
  clear hb
  go_enter Tryz.func42,Tryz.ntmps42
  go_wp2
  go_ret
  exact⟨⟨_,rfl,HA.out⟩,(Below.refl _ _).alloc (Nat.le_refl _) _⟩
end Go.Proofs.YtplegacjglaenaaGreatDoor
namespace Go.Proofs.YtplegacjglaenaaGreatDoor
open Go.RowKit
open Lm
attribute [local go_sem ↓] Go.wp_at_zero Go.wp_at_succ

def zz (b:Bool)(x:Nat):Int:=if b then -(x:Int) else (x:Int)

theorem aY (b:Bool)(x:Nat):(zz b x).natAbs=x:=by cases b <;> simp [zz]

theorem kX (b:Bool)(x:Nat):zz (!b) x=-(zz b x):=by cases b <;> simp [zz]

theorem ku (b:Bool):zz b 0=0:=by cases b <;> simp [zz]

theorem jB (z:Int):zz (decide (z<0)) z.natAbs=z:=by
 unfold zz
 by_cases h:z<0
 ·rw [if_pos (by simpa using h)];omega
 ·rw [if_neg (by simpa using h)];omega

theorem pe {rs:List Nat}(ht:tr rs=rs):0<rs.length ↔ val rs≠0:=by
 constructor
 ·intro h h0
  have:=aO rs 0 (by rw [h0];simp)
  rw [ht] at this
  omega
 ·intro h
  rcases Nat.eq_zero_or_pos rs.length with h0|h0
  ·rw [List.eq_nil_of_length_eq_zero h0] at h
   exact absurd rfl h
  ·exact h0

theorem gF {rs:List Nat}{x:Nat}(b:Bool)(ht:tr rs=rs)(hv:val rs=x):(b && decide (0<rs.length))=decide (zz b x<0):=by
 have h:=pe ht
 rw [hv] at h
 cases b
 ·simp [zz]
 ·simp only [Bool.true_and,zz,if_true]
  rw [decide_eq_decide]
  omega

theorem am (w:World)(o1:Obj):∃w0,w.alloc o1=w0∧Below w.heap.size w w0∧w0.heap[w.heap.size]?=some o1:=⟨_,rfl,(Below.refl _ _).alloc (Nat.le_refl _) _,heap_alloc_new ..⟩

theorem aJ (w:World)(o1 o2:Obj):∃w0,(w.alloc o1).alloc o2=w0∧Below w.heap.size w w0∧w0.heap[w.heap.size]?=some o1∧w0.heap[w.heap.size+1]?=some o2:=by
 obtain⟨w1,h1,b1,c1⟩:=am w o1
 obtain⟨w2,h2,b2,c2⟩:=am w1 o2
 have hs:w1.heap.size=w.heap.size+1:=by rw [←h1];exact World.size_alloc _ _
 refine⟨w2,by rw [h1];exact h2,b1.trans (b2.mono b1.size),?_,by rw [←hs];exact c2⟩
 rw [b2.block w.heap.size (lt_of_block c1)];exact c1

theorem gh (w:World)(o1 o2 o3:Obj):∃w0,((w.alloc o1).alloc o2).alloc o3=w0∧Below w.heap.size w w0∧w0.heap[w.heap.size]?=some o1∧w0.heap[w.heap.size+1]?=some o2∧w0.heap[w.heap.size+2]?=some o3:=by
 obtain⟨w1,h1,b1,c1,c2⟩:=aJ w o1 o2
 obtain⟨w2,h2,b2,c3⟩:=am w1 o3
 have hs:w1.heap.size=w.heap.size+2:=by rw [←h1,World.size_alloc,World.size_alloc]
 refine⟨w2,by rw [h1];exact h2,b1.trans (b2.mono b1.size),?_,?_,by rw [←hs];exact c3⟩
 ·rw [b2.block _ (lt_of_block c1)];exact c1
 ·rw [b2.block _ (lt_of_block c2)];exact c2

theorem ai {w w':World}{g:Nat}{x:Obj}(hb:Below w.heap.size w w')(h:w.heap[g]?=some x):w'.heap[g]?=some x:=by
 rw [hb.block g (lt_of_block h)];exact h

theorem duo {w:World}{h:Nat}{a b:Value}{t:TypeId}(e:w.heap[h]?=some (.cells #[a,b] t)):w.cell? ⟨h,0,none⟩=some a∧w.cell? ⟨h,1,none⟩=some b:=⟨by simp [World.cell?,e],by simp [World.cell?,e]⟩

theorem bI (w:World)(o:Obj):Below w.heap.size w (w.alloc o):=(Below.refl _ _).alloc (Nat.le_refl _) _

theorem ke (x:Nat):blen x=0 ↔ x=0:=by
 have h:=blen_le_iff x 0
 rw [Nat.pow_zero] at h
 omega

theorem qP (v:Value)(X:List Nat)(w:World)(hA:Arg w v X) :
  Calls Tryz.prog 61 #[v] w fun e w'=>e=.returned (.bool (decide (val X=0)))∧w'=w:=by
 have L:=aM v X w hA
 obtain⟨a,c,rfl,_,_,_⟩:=hA.form
 have hz:=ke (val X)
 clear hA
 generalize blen (val X)=l at *
 by_cases h0:l=0
 ·have h2:((l:Int) == 0)=true:=by rw [beq_iff_eq];omega
  rw [decide_eq_true (hz.1 h0)]
  go_enter Tryz.func61,Tryz.ntmps61
  go_wp2_with fail
  refine L.mono ?_
  rintro e wn ⟨rfl,hw⟩;rw [hw];clear hw wn L
  go_wp2
  go_ret
  exact⟨rfl,rfl⟩
 ·have h1:¬val X=0:=fun h=>h0 (hz.2 h)
  have h2:((l:Int) == 0)=false:=by rw [beq_eq_false_iff_ne];omega
  rw [decide_eq_false h1]
  go_enter Tryz.func61,Tryz.ntmps61
  go_wp2_with fail
  refine L.mono ?_
  rintro e wn ⟨rfl,hw⟩;rw [hw];clear hw wn L
  go_wp2
  go_ret
  exact⟨rfl,rfl⟩

def sg (b:Bool)(x:Nat):Int:=if x=0 then 0 else if b then -1 else 1

theorem gk (b:Bool)(x:Nat):sg b x=(zz b x).sign:=by
 unfold sg zz
 by_cases h:x=0
 ·subst h;cases b <;> rfl
 ·rw [if_neg h]
  cases b
  ·simp only [Bool.false_eq_true,if_false]
   exact (Int.sign_eq_one_of_pos (by omega)).symm
  ·simp only [if_true]
   exact (Int.sign_eq_neg_one_of_neg (by omega)).symm

theorem jL (b:Bool)(v:Value)(X:List Nat)(w:World)(hA:Arg w v X) :
  Calls Tryz.prog 37 #[.agg #[.bool b,v]] w fun e w'=>e=.returned (.int .i64 (sg b (val X)))∧Below w.heap.size w w':=by
 obtain⟨a,c,rfl,_,_,_⟩:=hA.form
 obtain⟨w0,hw0⟩:∃w0,w.alloc (.cells #[.bool b,.slice a X.length c] 26)=w0:=⟨_,rfl⟩
 have hb0:Below w.heap.size w w0:=by rw [←hw0];exact bI _ _
 have h0:w0.heap[w.heap.size]?=some (.cells #[.bool b,.slice a X.length c] 26):=by rw [←hw0];exact heap_alloc_new ..
 obtain⟨k0,k1⟩:=duo h0
 have HZ:=qP _ X w0 (hA.below hb0)
 have HB:=ac hb0
 unfold sg
 clear hA h0 hb0
 by_cases hx:val X=0
 ·rw [if_pos hx]
  rw [decide_eq_true hx] at HZ
  go_enter Tryz.func37,Tryz.ntmps37
  go_wp2_with fail
  refine HZ.mono ?_
  rintro e wn ⟨rfl,hw⟩;rw [hw];clear hw wn HZ
  go_wp2
  go_ret
  exact⟨rfl,HB.out⟩
 ·rw [if_neg hx]
  rw [decide_eq_false hx] at HZ
  cases b
  ·go_enter Tryz.func37,Tryz.ntmps37
   go_wp2_with fail
   refine HZ.mono ?_
   rintro e wn ⟨rfl,hw⟩;rw [hw];clear hw wn HZ
   go_wp2
   go_ret
   exact⟨rfl,HB.out⟩
  ·go_enter Tryz.func37,Tryz.ntmps37
   go_wp2_with fail
   refine HZ.mono ?_
   rintro e wn ⟨rfl,hw⟩;rw [hw];clear hw wn HZ
   go_wp2
   go_ret
   exact⟨rfl,HB.out⟩

theorem mz (b:Bool)(v:Value)(X:List Nat)(w:World)(hA:Arg w v X) :
  Calls Tryz.prog 70 #[.agg #[.bool b,v]] w fun e w'=>e=.returned (.bool (decide (zz b (val X)<0)))∧Below w.heap.size w w':=by
 obtain⟨a,c,rfl,_,_,_⟩:=hA.form
 obtain⟨w0,hw0⟩:∃w0,w.alloc (.cells #[.bool b,.slice a X.length c] 26)=w0:=⟨_,rfl⟩
 have hb0:Below w.heap.size w w0:=by rw [←hw0];exact bI _ _
 have h0:w0.heap[w.heap.size]?=some (.cells #[.bool b,.slice a X.length c] 26):=by rw [←hw0];exact heap_alloc_new ..
 obtain⟨k0,k1⟩:=duo h0
 have HZ:=jL b _ X w0 (hA.below hb0)
 have HB:=ac hb0
 rw [gk] at HZ
 generalize zz b (val X)=z at *
 clear hA h0 hb0
 by_cases hz:z<0
 ·rw [Int.sign_eq_neg_one_of_neg hz] at HZ
  rw [decide_eq_true hz]
  go_enter Tryz.func70,Tryz.ntmps70
  go_wp2_with fail
  refine HZ.mono ?_
  rintro e w1 ⟨rfl,hb1⟩
  have HB1:=ac (HB.out.trans (hb1.mono HB.out.size))
  clear hb1 HZ
  go_wp2
  go_ret
  exact⟨rfl,HB1.out⟩
 ·have h1:¬z.sign<0:=fun h=>hz (Int.sign_neg_iff.1 h)
  rw [decide_eq_false hz]
  generalize z.sign=s at *
  have hds:decide (s<0)=false:=decide_eq_false h1
  go_enter Tryz.func70,Tryz.ntmps70
  go_wp2_with fail
  refine HZ.mono ?_
  rintro e w1 ⟨rfl,hb1⟩
  have HB1:=ac (HB.out.trans (hb1.mono HB.out.size))
  clear hb1 HZ
  go_wp2
  go_ret
  exact⟨rfl,HB1.out⟩

theorem jl (b:Bool)(v:Value)(rs:List Nat)(base:Nat)(w:World)(hA:Ans w base v rs) :
  Calls Tryz.prog 66 #[.bool b,v] w fun e w'=>e=.returned (.agg #[.bool (b && decide (0<rs.length)),v])∧Below w.heap.size w w':=by
 obtain⟨a,c,rfl⟩:∃a c,v=.slice a rs.length c:=by
  rcases hA.form with ⟨rfl,h⟩|⟨g,cap,rfl,_⟩
  ·exact⟨none,0,by rw [h];rfl⟩
  ·exact⟨_,_,rfl⟩
 clear hA
 generalize rs.length=n at *
 cases b
 ·have HB:=ac (bI w (.cells #[.bool false,.slice a n c] 26))
  go_enter Tryz.func66,Tryz.ntmps66
  go_wp2
  go_returns
  exact⟨rfl,HB.out⟩
 ·by_cases hn:0<n
  ·have i1:(0:Int)<(n:Int):=by omega
   have HB:=ac (bI w (.cells #[.bool true,.slice a n c] 26))
   rw [decide_eq_true hn]
   go_enter Tryz.func66,Tryz.ntmps66
   go_wp2
   go_returns
   exact⟨rfl,HB.out⟩
  ·have i1:¬(0:Int)<(n:Int):=by omega
   have HB:=ac (bI w (.cells #[.bool false,.slice a n c] 26))
   rw [decide_eq_false hn]
   go_enter Tryz.func66,Tryz.ntmps66
   go_wp2
   go_returns
   exact⟨rfl,HB.out⟩
end Go.Proofs.YtplegacjglaenaaGreatDoor
namespace Go.Proofs.YtplegacjglaenaaGreatDoor
open Go.RowKit
open Lm

def aS (c:Int)(e:Ending):Prop:=e=.panicked [{ v:=.iface 34 (.int .i64 c),recovered:=false }]

theorem dV (c:Int)(w:World):Calls Tryz.prog 54 #[.bool false,.int .i64 c] w fun e w'=>e=.returned (.tuple #[])∧w'=w:=by
 go_enter Tryz.func54,Tryz.ntmps54
 go_wp2
 go_end0
 exact⟨rfl,rfl⟩

theorem mw (c:Int)(w:World):(Instr.typeAssert (.iface 34 (.int .i64 c)) 20 34 true).run Tryz.prog w=.ok (.tuple #[.int .i64 c,.bool true]) w:=by kernel_rfl

theorem iD (c:Int)(w:World):Calls Tryz.prog 53 #[.iface 34 (.int .i64 c)] w fun e w'=>e=.returned (.int .i64 c)∧w'=w:=by
 go_enter Tryz.func53,Tryz.ntmps53
 have H:=mw c
 go_wp2
 go_ret
 exact⟨rfl,rfl⟩

theorem jo (c:Int)(w:World):Calls Tryz.prog 54 #[.bool true,.int .i64 c] w fun e w'=>aS c e∧w'=w:=by
 go_enter Tryz.func54,Tryz.ntmps54
 go_wp2
 simp [bodyPost,aS]

theorem ka (p:Addr)(c x:Int)(older:List PanicEntry)(w:World)(hc:w.cell? p=some (.int .i64 x))(hz:w.frozen? p=false) :
  CallsD Tryz.prog 52 #[.pointer (some p)] (.panicking ({ v:=.iface 34 (.int .i64 c),recovered:=false } :: older)) w fun e u' w'=>
   e=.returned (.tuple #[])∧u'=.panicking ({ v:=.iface 34 (.int .i64 c),recovered:=true } :: older)∧w'=w.setCell p (.int .i64 c):=by
 have HR:=iD c w
 refine callsD_of_wpS Tryz.func52 rfl fun c₀ cs hu=>?_
 apply wpS_seq
 apply wpS_region
 simp [wpOpsS,go_sem,recoverD,hu,Tryz.ntmps52,Exit.thenS]
 refine wpS_of_wp ?_
 go_wp2_with fail
 refine HR.mono ?_
 rintro e wn ⟨rfl,hw⟩;rw [hw];clear hw wn HR
 go_wp2
 simp [bodyPostS,results,Tryz.results52]

theorem kD (p:Addr)(w:World) :
  CallsD Tryz.prog 52 #[.pointer (some p)] .returning w fun e u' w'=>e=.returned (.tuple #[])∧u'=.returning∧w'=w:=by
 refine callsD_of_wpS Tryz.func52 rfl fun c₀ cs hu=>?_
 apply wpS_seq
 apply wpS_region
 simp [wpOpsS,go_sem,recoverD,hu,Tryz.ntmps52,Exit.thenS]
 refine wpS_of_wp ?_
 go_wp2
 cases c₀
 simp_all [bodyPostS,results,Tryz.results52]

theorem cj {w:World}{g k g' k':Nat}{u:Value}(h:g≠g'):(w.setCell ⟨g,k,none⟩ u).cell? ⟨g',k',none⟩=w.cell? ⟨g',k',none⟩:=by
 simp only [World.cell?]
 rw [Below.heap_setCell _ _ _ _ (by exact Ne.symm h)]

theorem mC (p:Addr)(c:Int)(w:World)
  (hw:∀W,Below w.heap.size w W→Calls Tryz.prog 26 #[.pointer (some p)] W (fun e w'=>aS c e∧Below W.heap.size W w')) :
  Calls Tryz.prog 25 #[.func (.func 26) #[] #[.pointer (some p)]] w fun e w'=>e=.returned (.tuple #[.agg #[.bool false,.slice none 0 0,.slice none 0 0],.int .i64 c])∧Below w.heap.size w w':=by
 have hmf:∀(fn:Fn) (first cap:Array Value) (w:World),(Instr.makeFunc fn first cap).run Tryz.prog w=.ok (.func fn first cap) w:=fun _ _ _ _=>rfl
 obtain⟨w0,hw0,hb0,h0,h1⟩:=aJ w (.cells #[.bool false,.slice none 0 0,.slice none 0 0] 28) (.cells #[.int .i64 0] 34)
 have HW:=hw w0 hb0
 have HB0:=ac hb0
 have H0:=ac h0
 have H1:=ac h1
 clear hw hb0 h0 h1
 go_enter_defers Tryz.func25,Tryz.ntmps25
 go_wp2_with fail
 refine HW.mono ?_
 rintro e w1 ⟨he,hb1⟩
 unfold aS at he
 subst he
 have k0:=ai hb1 H0.out
 have k1:=ai hb1 H1.out
 have c3:w1.cell? ⟨w.heap.size+1,0,none⟩=some (.int .i64 0):=by simp [World.cell?,k1]
 have f3:w1.frozen? ⟨w.heap.size+1,0,none⟩=false:=by simp [World.frozen?,k1]
 refine leaves_cons (f:=52) (args:=#[.pointer (some ⟨w.heap.size+1,0,none⟩)]) (by simp) (by simp [go_sem]) ?_
 refine (ka ⟨w.heap.size+1,0,none⟩ c 0 [] w1 c3 f3).mono ?_
 rintro e u' w'' ⟨rfl,rfl,rfl⟩
 have m0:∀k,(w1.setCell ⟨w.heap.size+1,0,none⟩ (.int .i64 c)).cell? ⟨w.heap.size,k,none⟩=w1.cell? ⟨w.heap.size,k,none⟩:=fun k=>cj (by omega)
 have m1:w1.cell? ⟨w.heap.size,0,none⟩=some (.bool false):=by simp [World.cell?,k0]
 have m2:w1.cell? ⟨w.heap.size,1,none⟩=some (.slice none 0 0):=by simp [World.cell?,k0]
 have m3:w1.cell? ⟨w.heap.size,2,none⟩=some (.slice none 0 0):=by simp [World.cell?,k0]
 have m4:(w1.setCell ⟨w.heap.size+1,0,none⟩ (.int .i64 c)).cell? ⟨w.heap.size+1,0,none⟩=some (.int .i64 c):=by simp [go_sem,c3]
 have HFIN:=ac ((HB0.out.trans (hb1.mono HB0.out.size)).setCell (p:=⟨w.heap.size+1,0,none⟩) (by show w.heap.size≤w.heap.size+1;omega) (.int .i64 c))
 simp [Leaves,settle,results,Tryz.results25,go_sem,m0,m1,m2,m3,m4]
 exact HFIN.out

def oN (w:World)(G:World→Bool→Value→Value→Prop)(e:Ending)(w':World):Prop:=
 (∃(b:Bool) (a1:Option Addr) (n1 k1:Nat) (a2:Option Addr) (n2 k2:Nat),e=.returned (.tuple #[.agg #[.bool b,.slice a1 n1 k1,.slice a2 n2 k2],.int .i64 0])∧G w' b (.slice a1 n1 k1) (.slice a2 n2 k2))∧Below w.heap.size w w'

theorem pD (p:Addr)(w:World)(G:World→Bool→Value→Value→Prop)(hG:∀(W:World) (g k:Nat) (u:Value) (t:TypeId) (cs:Array Value) (b:Bool) (x y:Value),W.heap[g]?=some (.cells cs t)→(t=28∨t=34)→G W b x y→G (W.setCell ⟨g,k,none⟩ u) b x y)
  (hw:∀W,Below w.heap.size w W→Calls Tryz.prog 26 #[.pointer (some p)] W (fun e w'=>(∃(b:Bool) (a1:Option Addr) (n1 k1:Nat) (a2:Option Addr) (n2 k2:Nat),e=.returned (.agg #[.bool b,.slice a1 n1 k1,.slice a2 n2 k2])∧G w' b (.slice a1 n1 k1) (.slice a2 n2 k2))∧Below W.heap.size W w')) :
  Calls Tryz.prog 25 #[.func (.func 26) #[] #[.pointer (some p)]] w (oN w G):=by
 have hmf:∀(fn:Fn) (first cap:Array Value) (w:World),(Instr.makeFunc fn first cap).run Tryz.prog w=.ok (.func fn first cap) w:=fun _ _ _ _=>rfl
 obtain⟨w0,hw0,hb0,h0,h1⟩:=aJ w (.cells #[.bool false,.slice none 0 0,.slice none 0 0] 28) (.cells #[.int .i64 0] 34)
 have HW:=hw w0 hb0
 have HB0:=ac hb0
 have H0:=ac h0
 have H1:=ac h1
 have HG:=ac hG
 clear hw hb0 h0 h1 hG
 go_enter_defers Tryz.func25,Tryz.ntmps25
 go_wp2_with fail
 refine HW.mono ?_
 rintro e w1 ⟨⟨b,a1,n1,k1,a2,n2,k2,rfl,hg⟩,hb1⟩
 have q0:=ai hb1 H0.out
 have q1:=ai hb1 H1.out
 have hne:¬w.heap.size=w.heap.size+1:=by omega
 have hne2:¬w.heap.size+1=w.heap.size:=by omega
 have c0:w1.cell? ⟨w.heap.size,0,none⟩=some (.bool false):=by simp [World.cell?,q0]
 have c1:w1.cell? ⟨w.heap.size,1,none⟩=some (.slice none 0 0):=by simp [World.cell?,q0]
 have c2:w1.cell? ⟨w.heap.size,2,none⟩=some (.slice none 0 0):=by simp [World.cell?,q0]
 have c3:w1.cell? ⟨w.heap.size+1,0,none⟩=some (.int .i64 0):=by simp [World.cell?,q1]
 have f0:∀k,w1.frozen? ⟨w.heap.size,k,none⟩=false:=fun k=>by simp [World.frozen?,q0]
 have f3:w1.frozen? ⟨w.heap.size+1,0,none⟩=false:=by simp [World.frozen?,q1]
 have so:∀(W:World) (k:Nat) (u:Value) (k':Nat),(W.setCell ⟨w.heap.size,k,none⟩ u).cell? ⟨w.heap.size+1,k',none⟩=W.cell? ⟨w.heap.size+1,k',none⟩:=fun W k u k'=>cj hne
 have sp:∀(W:World) (k:Nat) (u:Value) (k':Nat),(W.setCell ⟨w.heap.size+1,k,none⟩ u).cell? ⟨w.heap.size,k',none⟩=W.cell? ⟨w.heap.size,k',none⟩:=fun W k u k'=>cj hne2
 go_wp2
 have e0:=aB (k:=0) q0 (.bool b)
 have e1:=aB (k:=1) e0 (.slice a1 n1 k1)
 have e2:=aB (k:=2) e1 (.slice a2 n2 k2)
 have x1:(((w1.setCell ⟨w.heap.size,0,none⟩ (.bool b)).setCell ⟨w.heap.size,1,none⟩ (.slice a1 n1 k1)).setCell ⟨w.heap.size,2,none⟩ (.slice a2 n2 k2)).heap[w.heap.size+1]?=some (.cells #[.int .i64 0] 34):=by
  rw [Below.heap_setCell _ _ _ _ hne2,Below.heap_setCell _ _ _ _ hne2,Below.heap_setCell _ _ _ _ hne2]
  exact q1
 have x2:=aB (k:=0) x1 (.int .i64 0)
 have y2:((((w1.setCell ⟨w.heap.size,0,none⟩ (.bool b)).setCell ⟨w.heap.size,1,none⟩ (.slice a1 n1 k1)).setCell ⟨w.heap.size,2,none⟩ (.slice a2 n2 k2)).setCell ⟨w.heap.size+1,0,none⟩ (.int .i64 0)).heap[w.heap.size]?=some (.cells #[.bool b,.slice a1 n1 k1,.slice a2 n2 k2] 28):=by
  rw [Below.heap_setCell _ _ _ _ hne]
  exact e2
 have g1:=HG.out _ _ 0 (.bool b) _ _ _ _ _ q0 (.inl rfl) hg
 have g2:=HG.out _ _ 1 (.slice a1 n1 k1) _ _ _ _ _ e0 (.inl rfl) g1
 have g3:=HG.out _ _ 2 (.slice a2 n2 k2) _ _ _ _ _ e1 (.inl rfl) g2
 have g4:=HG.out _ _ 0 (.int .i64 0) _ _ _ _ _ x1 (.inr rfl) g3
 have b1:=((((HB0.out.trans (hb1.mono HB0.out.size)).setCell (p:=⟨w.heap.size,0,none⟩) (Nat.le_refl _) (.bool b)).setCell (p:=⟨w.heap.size,1,none⟩) (Nat.le_refl _) (.slice a1 n1 k1)).setCell (p:=⟨w.heap.size,2,none⟩) (Nat.le_refl _) (.slice a2 n2 k2)).setCell (p:=⟨w.heap.size+1,0,none⟩) (Nat.le_succ _) (.int .i64 0)
 have HE:=ac (And.intro g4 b1)
 clear so sp c0 c1 c2 c3 f0 f3 e0 e1 e2 x1 g1 g2 g3 g4 b1 q0 q1 hg hb1
 generalize (((w1.setCell ⟨w.heap.size,0,none⟩ (.bool b)).setCell ⟨w.heap.size,1,none⟩ (.slice a1 n1 k1)).setCell ⟨w.heap.size,2,none⟩ (.slice a2 n2 k2)).setCell ⟨w.heap.size+1,0,none⟩ (.int .i64 0)=w5 at *
 have m0:w5.cell? ⟨w.heap.size,0,none⟩=some (.bool b):=by simp [World.cell?,y2]
 have m1:w5.cell? ⟨w.heap.size,1,none⟩=some (.slice a1 n1 k1):=by simp [World.cell?,y2]
 have m2:w5.cell? ⟨w.heap.size,2,none⟩=some (.slice a2 n2 k2):=by simp [World.cell?,y2]
 have m3:w5.cell? ⟨w.heap.size+1,0,none⟩=some (.int .i64 0):=by simp [World.cell?,x2]
 refine leaves_cons (f:=52) (args:=#[.pointer (some ⟨w.heap.size+1,0,none⟩)]) (by simp) (by simp [go_sem]) ?_
 refine (kD ⟨w.heap.size+1,0,none⟩ w5).mono ?_
 rintro e u' w'' ⟨rfl,rfl,rfl⟩
 simp [Leaves,settle,results,Tryz.results25,go_sem,m0,m1,m2,m3]
 exact⟨⟨b,a1,n1,k1,a2,n2,k2,rfl,HE.out.1⟩,HE.out.2⟩
end Go.Proofs.YtplegacjglaenaaGreatDoor
namespace Go.Proofs.YtplegacjglaenaaGreatDoor
open Go.RowKit
open Lm
attribute [local go_sem ↓] Go.wp_at_zero Go.wp_at_succ

theorem dm (v:Value)(X:List Nat)(w:World)(hA:Arg w v X) :
  Calls Tryz.prog 55 #[v] w fun e w'=>e=.returned (.bool (decide (val X=0)))∧w'=w:=by
 have L:=aM v X w hA
 obtain⟨a,c,rfl,_,_,_⟩:=hA.form
 have hz:=ke (val X)
 clear hA
 generalize blen (val X)=l at *
 by_cases h0:l=0
 ·have h2:((l:Int) == 0)=true:=by rw [beq_iff_eq];omega
  rw [decide_eq_true (hz.1 h0)]
  go_enter Tryz.func55,Tryz.ntmps55
  go_wp2_with fail
  refine L.mono ?_
  rintro e wn ⟨rfl,hw⟩;rw [hw];clear hw wn L
  go_wp2
  go_ret
  exact⟨rfl,rfl⟩
 ·have h1:¬val X=0:=fun h=>h0 (hz.2 h)
  have h2:((l:Int) == 0)=false:=by rw [beq_eq_false_iff_ne];omega
  rw [decide_eq_false h1]
  go_enter Tryz.func55,Tryz.ntmps55
  go_wp2_with fail
  refine L.mono ?_
  rintro e wn ⟨rfl,hw⟩;rw [hw];clear hw wn L
  go_wp2
  go_ret
  exact⟨rfl,rfl⟩

theorem lT (b:Bool)(v:Value)(rs:List Nat)(base:Nat)(w:World)(hA:Ans w base v rs) :
  Calls Tryz.prog 75 #[.bool b,v] w fun e w'=>e=.returned (.agg #[.bool (b && decide (0<rs.length)),v])∧Below w.heap.size w w':=by
 obtain⟨a,c,rfl⟩:∃a c,v=.slice a rs.length c:=by
  rcases hA.form with ⟨rfl,h⟩|⟨g,cap,rfl,_⟩
  ·exact⟨none,0,by rw [h];rfl⟩
  ·exact⟨_,_,rfl⟩
 clear hA
 generalize rs.length=n at *
 cases b
 ·have HB:=ac (bI w (.cells #[.bool false,.slice a n c] 26))
  go_enter Tryz.func75,Tryz.ntmps75
  go_wp2
  go_returns
  exact⟨rfl,HB.out⟩
 ·by_cases hn:0<n
  ·have i1:(0:Int)<(n:Int):=by omega
   have HB:=ac (bI w (.cells #[.bool true,.slice a n c] 26))
   rw [decide_eq_true hn]
   go_enter Tryz.func75,Tryz.ntmps75
   go_wp2
   go_returns
   exact⟨rfl,HB.out⟩
  ·have i1:¬(0:Int)<(n:Int):=by omega
   have HB:=ac (bI w (.cells #[.bool false,.slice a n c] 26))
   rw [decide_eq_false hn]
   go_enter Tryz.func75,Tryz.ntmps75
   go_wp2
   go_returns
   exact⟨rfl,HB.out⟩

theorem im (v:Value)(X:List Nat)(w:World)(hA:Arg w v X) :
  Calls Tryz.prog 47 #[v] w fun e w'=>e=.returned (.bool (decide (val X=1)))∧w'=w:=by
 have L1:=aM v X w hA
 obtain⟨a,n,rfl,_,_,_⟩:=hA.form
 have hd:decide (val X=1)=((blen (val X):Nat) == 1):=by
  have h1:=blen_le_iff (val X) 1
  have h2:=blen_le_iff (val X) 0
  have e1:(2:Nat) ^ 1=2:=rfl
  have e2:(2:Nat) ^ 0=1:=rfl
  rw [e1] at h1
  rw [e2] at h2
  rw [Bool.eq_iff_iff,decide_eq_true_iff,beq_iff_eq]
  omega
 rw [hd]
 generalize blen (val X)=l at *
 by_cases h:l=1
 ·subst h
  go_enter Tryz.func47,Tryz.ntmps47
  go_wp2_with fail
  refine L1.mono ?_
  rintro e wn ⟨rfl,hw⟩;rw [hw];clear hw wn L1
  go_wp2
  go_ret
  exact⟨rfl,rfl⟩
 ·have i1:¬(l:Int)=1:=by omega
  have i2:((l:Int) == 1)=false:=by simpa using i1
  have i3:(l == 1)=false:=by simpa using h
  rw [i3]
  go_enter Tryz.func47,Tryz.ntmps47
  go_wp2_with fail
  refine L1.mono ?_
  rintro e wn ⟨rfl,hw⟩;rw [hw];clear hw wn L1
  go_wp2
  go_ret
  exact⟨rfl,rfl⟩
end Go.Proofs.YtplegacjglaenaaGreatDoor
namespace Go.Proofs.YtplegacjglaenaaGreatDoor
open Lm

def seg (Z:List Nat)(o n:Nat):List Nat:=(Z.drop o).take n

def sv (Z:List Nat)(o n:Nat):Nat:=val (seg Z o n)

structure Out (Z Z':List Nat)(lo hi:Nat):Prop where
 len:Z'.length=Z.length
 same:∀k,k<lo∨hi≤k→Z'.getD k 0=Z.getD k 0

theorem Out.refl (Z:List Nat)(lo hi:Nat):Out Z Z lo hi:=⟨rfl,fun _ _=>rfl⟩

theorem Out.trans {Z Z' Z'':List Nat}{lo hi:Nat}(h:Out Z Z' lo hi)(k:Out Z' Z'' lo hi):Out Z Z'' lo hi:=
 ⟨k.len.trans h.len,fun j hj=>(k.same j hj).trans (h.same j hj)⟩

theorem Out.wider {Z Z':List Nat}{lo hi lo' hi':Nat}(h:Out Z Z' lo hi)(h1:lo'≤lo)(h2:hi≤hi'):Out Z Z' lo' hi':=
 ⟨h.len,fun k hk=>h.same k (by omega)⟩

theorem cP (Z:List Nat)(j k z:Nat):(Z.set j z).getD k 0=if j=k∧k<Z.length then z else Z.getD k 0:=by
 by_cases h:j=k
 ·subst h
  by_cases hl:j<Z.length
  ·simp [List.getD,hl]
  ·simp [List.getD,hl]
 ·simp [List.getD,h]

theorem Out.set {Z Z':List Nat}{lo hi:Nat}(h:Out Z Z' lo hi)(j z:Nat)(h1:lo≤j)(h2:j<hi):Out Z (Z'.set j z) lo hi:=
 ⟨by simp [h.len],fun k hk=>by rw [cP,if_neg (by omega)];exact h.same k hk⟩

theorem aW (Z:List Nat)(o n:Nat)(h:o+n≤Z.length):(seg Z o n).length=n:=by
 simp [seg];omega

theorem cX (Z:List Nat)(o n k:Nat)(h:k<n):(seg Z o n).getD k 0=Z.getD (o+k) 0:=by
 simp [seg,List.getD,h]

theorem js {a b:List Nat}(hl:a.length=b.length)(h:∀k,k<a.length→a.getD k 0=b.getD k 0):a=b:=by
 refine List.ext_getElem hl fun k h1 h2=>?_
 have:=h k h1
 simpa [List.getD,h1,h2] using this

theorem Out.seg {Z Z':List Nat}{lo hi:Nat}(h:Out Z Z' lo hi)(o n:Nat)(hd:o+n≤lo∨hi≤o):seg Z' o n=seg Z o n:=by
 have hl:(Go.Proofs.YtplegacjglaenaaGreatDoor.seg Z' o n).length=(Go.Proofs.YtplegacjglaenaaGreatDoor.seg Z o n).length:=by simp [Go.Proofs.YtplegacjglaenaaGreatDoor.seg,h.len]
 refine js hl fun k hk=>?_
 have hk':k<n:=by simp [Go.Proofs.YtplegacjglaenaaGreatDoor.seg] at hk;omega
 rw [cX _ _ _ _ hk',cX _ _ _ _ hk',h.same _ (by omega)]

theorem Out.sv {Z Z':List Nat}{lo hi:Nat}(h:Out Z Z' lo hi)(o n:Nat)(hd:o+n≤lo∨hi≤o):sv Z' o n=sv Z o n:=by
 unfold Go.Proofs.YtplegacjglaenaaGreatDoor.sv;rw [h.seg o n hd]

theorem aI (Z:List Nat)(o:Nat):sv Z o 0=0:=by simp [sv,seg,val]

theorem an (Z:List Nat)(o m n:Nat)(h:o+m≤Z.length):sv Z o (m+n)=sv Z o m+18446744073709551616 ^ m*sv Z (o+m) n:=by
 unfold sv
 have e:seg Z o (m+n)=seg Z o m ++ seg Z (o+m) n:=by
  unfold seg
  rw [List.take_add,List.drop_drop]
 rw [e,val_append,aW Z o m h]

theorem eZ (Z:List Nat)(o:Nat)(h:o<Z.length):sv Z o 1=Z.getD o 0:=by
 unfold sv seg
 rw [List.drop_eq_getElem_cons h,List.take_succ_cons,List.take_zero,val,val]
 simp [List.getD,h]

theorem dt (Z:List Nat)(o i:Nat)(h:o+i<Z.length):sv Z o (i+1)=sv Z o i+18446744073709551616 ^ i*Z.getD (o+i) 0:=by
 rw [an Z o i 1 (by omega),eZ _ _ h]

theorem dk {Z:List Nat}(h:Limbs Z)(o n:Nat):Limbs (seg Z o n):=fun z hz=>h z (List.mem_of_mem_drop (List.mem_of_mem_take hz))

theorem bB {Z:List Nat}(h:Limbs Z)(o n:Nat):sv Z o n<18446744073709551616 ^ n:=by
 have h1:=val_lt (dk h o n)
 refine Nat.lt_of_lt_of_le h1 (Nat.pow_le_pow_right (by omega) ?_)
 simp [seg];omega

theorem ch (Z:List Nat)(o i z:Nat)(h:o+i<Z.length):sv (Z.set (o+i) z) o (i+1)=sv Z o i+18446744073709551616 ^ i*z:=by
 rw [dt _ _ _ (by simpa using h),cP,if_pos ⟨rfl,h⟩]
 have e:Out Z (Z.set (o+i) z) (o+i) (o+i+1):=(Out.refl _ _ _).set _ _ (by omega) (by omega)
 rw [e.sv o i (by omega)]

theorem bY (Z:List Nat):sv Z 0 Z.length=val Z:=by simp [sv,seg]

theorem qM (Z Z' X:List Nat)(o i m cy hi lo:Nat)(hz:o+i<Z'.length)(h0:Z'.getD (o+i) 0=Z.getD (o+i) 0)(hZ:Z'.length=Z.length)
  (h:sv Z' o i+cy*18446744073709551616 ^ i=sv Z o i+val (X.take i)*m)
  (hs:lo+hi*18446744073709551616=X.getD i 0*m+Z.getD (o+i) 0+cy) :
  sv (Z'.set (o+i) lo) o (i+1)+hi*18446744073709551616 ^ (i+1)=sv Z o (i+1)+val (X.take (i+1))*m:=by
 have:=h0
 rw [ch _ _ _ _ hz,dt Z o i (by omega),val_take_next X i,show (18446744073709551616:Nat) ^ (i+1)=18446744073709551616 ^ i*18446744073709551616 from Nat.pow_succ ..]
 generalize sv Z' o i=V' at *
 generalize sv Z o i=V at *
 generalize val (X.take i)=U at *
 generalize Z.getD (o+i) 0=z at *
 generalize X.getD i 0=x at *
 generalize (18446744073709551616:Nat) ^ i=P at *
 generalize (18446744073709551616:Nat)=W at *
 grind

theorem kM (x m z cy:Nat)(hx:x<18446744073709551616)(hm:m<18446744073709551616)(hz:z<18446744073709551616)(hc:cy<18446744073709551616) :
  x*m+z+cy<18446744073709551616*18446744073709551616:=by
 have h:=Nat.mul_le_mul (Nat.le_sub_one_of_lt hx) (Nat.le_sub_one_of_lt hm)
 omega
end Go.Proofs.YtplegacjglaenaaGreatDoor
namespace Go.Proofs.YtplegacjglaenaaGreatDoor
open Go.RowKit
open Lm

theorem lI (b off cap:Nat)(zs:List Nat)(w:World)(hcap:zs.length≤cap)(hmax:cap≤9223372036854775807)
  (hc:∀k,k<zs.length→w.cell? ⟨b,off+k,none⟩=some (.int .u64 ((zs.getD k 0:Nat):Int))) :
  Calls Tryz.prog 162 #[.slice (some ⟨b,off,none⟩) zs.length cap] w fun e w'=>e=.returned (.slice (some ⟨b,off,none⟩) (tr zs).length cap)∧w'=w:=by
 go_enter Tryz.func162,Tryz.ntmps162
 go_wp2
 go_loop [3] (fun n=>∃k:Nat,k≤zs.length∧n=.int .i64 k∧tr (zs.take k)=tr zs) (fun n=>(intOf n).toNat)
 case atStart=>exact⟨zs.length,Nat.le_refl _,rfl,by rw [List.take_length]⟩
 case round=>
  obtain⟨k,hk,rfl,ht⟩:=hrel
  have HT:Hid (tr (zs.take k)=tr zs):=ht
  clear ht
  by_cases h0:k=0
  ·subst h0
   go_wp2
   go_ret
   have e:=HT.out
   simp only [List.take_zero,tr] at e
   rw [←e]
   exact⟨rfl,rfl⟩
  ·obtain⟨j,rfl⟩:∃j,k=j+1:=⟨k - 1,by omega⟩
   have hcj:=hc j (by omega)
   clear hc
   by_cases hz:zs.getD j 0=0
   ·have HZ:Hid (tr (zs.take j)=tr zs):=by rw [←tr_step zs j (by omega) hz];exact HT.out
    rw [hz] at hcj
    clear hz HT
    go_wp2
    go_round
    case rel=>exact⟨j,by omega,by go_num,HZ.out⟩
    case measure=>simp [intOf]
   ·have HZ:Hid (tr zs=zs.take (j+1)):=by rw [←HT.out];exact tr_stop zs j (by omega) hz
    clear HT
    generalize zs.getD j 0=z at hcj hz
    have hne:((z:Int) == 0)=false:=by rw [beq_eq_false_iff_ne];omega
    clear hz
    go_wp2
    go_ret
    rw [HZ.out]
    have e:(zs.take (j+1)).length=j+1:=by simp;omega
    rw [e]
    exact⟨rfl,rfl⟩

theorem qg (ao:Option Addr)(cap:Nat)(w:World)(_hmax:cap≤9223372036854775807) :
  Calls Tryz.prog 162 #[.slice ao 0 cap] w fun e w'=>e=.returned (.slice ao 0 cap)∧w'=w:=by
 go_enter Tryz.func162,Tryz.ntmps162
 go_wp2
 refine wp_loop_rounds 1 ?_
 rw [rounds_succ]
 go_wp2
 go_ret
 exact⟨rfl,rfl⟩

theorem bC (ao:Option Addr)(cap:Nat)(zs:List Nat)(w:World)(hcap:zs.length≤cap)(hmax:cap≤9223372036854775807)(hl:au w ao zs) :
  Calls Tryz.prog 162 #[.slice ao zs.length cap] w fun e w'=>e=.returned (.slice ao (tr zs).length cap)∧w'=w:=by
 rcases hl with rfl|⟨b,off,rfl,hc⟩
 ·exact qg ao cap w hmax
 ·exact lI b off cap zs w hcap hmax hc

structure Fr (bz:Nat)(w w':World):Prop where
 os:w'.os=w.os
 tape:w'.tape=w.tape
 output:w'.output=w.output
 size:w.heap.size≤w'.heap.size
 block:∀k,k<w.heap.size→k≠bz→w'.heap[k]?=w.heap[k]?

theorem Fr.refl (bz:Nat)(w:World):Fr bz w w:=⟨rfl,rfl,rfl,Nat.le_refl _,fun _ _ _=>rfl⟩

theorem Fr.trans {bz:Nat}{a b c:World}(h:Fr bz a b)(k:Fr bz b c):Fr bz a c:=
 ⟨k.os.trans h.os,k.tape.trans h.tape,k.output.trans h.output,Nat.le_trans h.size k.size,fun i h1 h2=>(k.block i (Nat.lt_of_lt_of_le h1 h.size) h2).trans (h.block i h1 h2)⟩

theorem Fr.setCell {bz:Nat}{a w:World}(h:Fr bz a w)(off:Nat)(u:Value):Fr bz a (w.setCell ⟨bz,off,none⟩ u):=
 ⟨h.os,h.tape,h.output,by simpa using h.size,fun k h1 h2=>(Below.heap_setCell w _ u k h2).trans (h.block k h1 h2)⟩

theorem Fr.drew {bz:Nat}{a w:World}(h:Fr bz a w):Fr bz a w.drew:=⟨h.os,h.tape,h.output,h.size,h.block⟩

theorem Fr.of_below {bz:Nat}{w w':World}(h:Below w.heap.size w w'):Fr bz w w':=⟨h.os,h.tape,h.output,h.size,fun k h1 _=>h.block k h1⟩

theorem Fr.below {bz base:Nat}{w w':World}(h:Fr bz w w')(h1:base≤bz)(h2:base≤w.heap.size):Below base w w':=
 ⟨h.os,h.tape,h.output,h.size,fun k hk=>h.block k (by omega) (by omega)⟩

def Off (v:Value)(bz lo hi:Nat):Prop:=∀b off n c,v=.slice (some ⟨b,off,none⟩) n c→b≠bz∨off+n≤lo∨hi≤off

theorem au.fr {w w':World}{ao:Option Addr}{X Z Z':List Nat}{bz lo hi:Nat}(h:au w ao X)(ho:∀b off,ao=some ⟨b,off,none⟩→b≠bz∨off+X.length≤lo∨hi≤off)
  (hf:Fr bz w w') (hb:Blk w bz Z) (hb':Blk w' bz Z') (hz:Out Z Z' lo hi):au w' ao X:=by
 rcases h with h|⟨b,off,rfl,hc⟩
 ·exact .inl h
 ·rcases Nat.eq_zero_or_pos X.length with h0|h0
  ·exact .inl (List.length_eq_zero_iff.1 h0)
  refine .inr ⟨b,off,rfl,fun k hk=>?_⟩
  have hlt:b<w.heap.size:=au.block (zs:=X) (.inr ⟨b,off,rfl,hc⟩) h0
  by_cases hbz:b=bz
  ·subst hbz
   have h1:=hc k hk
   have hin:off+k<Z.length:=by
    refine Nat.lt_of_not_le fun hle=>?_
    have:w.cell? ⟨b,off+k,none⟩=none:=by
     unfold Blk at hb
     simp [World.cell?,hb];omega
    rw [this] at h1;cases h1
   rw [hb.cell _ hin] at h1
   rw [hb'.cell _ (by rw [hz.len];exact hin),hz.same _ (by have:=ho b off rfl;omega)]
   exact h1
  ·have:=hf.block b hlt hbz
   rw [World.cell?_of_block (w:=w) this]
   exact hc k hk

theorem Arg.fr {w w':World}{v:Value}{X Z Z':List Nat}{bz lo hi:Nat}(h:Arg w v X)(ho:Off v bz lo hi)
  (hf:Fr bz w w') (hb:Blk w bz Z) (hb':Blk w' bz Z') (hz:Out Z Z' lo hi):Arg w' v X:=by
 obtain⟨ao,cap,h1,h2,h3,h4⟩:=h.form
 exact⟨⟨ao,cap,h1,h2,h3,h4.fr (fun b off e=>by subst e;exact ho b off _ _ h1) hf hb hb' hz⟩,h.limbs,h.few,h.nz⟩
end Go.Proofs.YtplegacjglaenaaGreatDoor
namespace Go.Proofs.YtplegacjglaenaaGreatDoor
open Go.RowKit
open Lm
attribute [local go_sem ↓] Go.wp_at_zero Go.wp_at_succ

theorem oR (P z cy:Nat)(h:P+z+cy<340282366920938463463374607431768211456)(_hz:z<18446744073709551616)(_hc:cy<18446744073709551616) :
  ((P % 18446744073709551616+z) % 18446744073709551616+cy) % 18446744073709551616+(P / 18446744073709551616+(P % 18446744073709551616+z) / 18446744073709551616+((P % 18446744073709551616+z) % 18446744073709551616+cy) / 18446744073709551616)*18446744073709551616=P+z+cy ∧
  P / 18446744073709551616+(P % 18446744073709551616+z) / 18446744073709551616<18446744073709551616 ∧
  P / 18446744073709551616+(P % 18446744073709551616+z) / 18446744073709551616+((P % 18446744073709551616+z) % 18446744073709551616+cy) / 18446744073709551616<18446744073709551616 ∧
  ((P % 18446744073709551616+z) % 18446744073709551616+cy) % 18446744073709551616<18446744073709551616:=by
 omega

theorem jD (bz zo cap:Nat)(Z:List Nat)(v1:Value)(X:List Nat)(m:Nat)(w:World)(hB:Blk w bz Z)(hLZ:Limbs Z)(hA:Arg w v1 X)(ho:Off v1 bz zo (zo+X.length))
  (hzo:zo+X.length≤Z.length) (hc1:X.length≤cap) (hc2:cap≤9223372036854775807) (hm:m<18446744073709551616) :
  Calls Tryz.prog 176 #[.slice (some ⟨bz,zo,none⟩) X.length cap,v1,.int .u64 m] w fun e w'=>∃(cy:Nat) (Z':List Nat),e=.returned (.int .u64 (cy:Int))∧cy<18446744073709551616 ∧
   Out Z Z' zo (zo+X.length)∧Limbs Z'∧Blk w' bz Z'∧Fr bz w w'∧sv Z' zo X.length+cy*18446744073709551616 ^ X.length=sv Z zo X.length+val X*m:=by
 obtain⟨a1,c1,rfl,hcc1,hcm1,hl1⟩:=hA.form
 have M1:=hA.limbs
 have hX:=hA.few
 have hao:∀b off,a1=some ⟨b,off,none⟩→b≠bz∨off+X.length≤zo∨zo+X.length≤off:=fun b off e=>by subst e;exact ho b off _ _ rfl
 clear ho hA
 go_enter Tryz.func176,Tryz.ntmps176
 go_wp2
 go_loopw [7,16] (fun c i wr=>∃(k cy:Nat) (Z':List Nat),k≤X.length∧i=.int .i64 k∧c=.int .u64 cy∧cy<18446744073709551616∧Out Z Z' zo (zo+k)∧Limbs Z'∧Blk wr bz Z'∧Fr bz w wr ∧
   sv Z' zo k+cy*18446744073709551616 ^ k=sv Z zo k+val (X.take k)*m) (fun _ i _=>X.length - (intOf i).toNat)
 case atStart=>exact⟨0,0,Z,Nat.zero_le _,rfl,rfl,by omega,Out.refl _ _ _,hLZ,hB,Fr.refl _ _,by simp [aI,val]⟩
 case round=>
  obtain⟨k,cy,Z',hk,rfl,rfl,hcy,hout,hlz,hblk,hfr0,hval⟩:=hrel
  have HV:=ac hval
  have HB:=ac hblk
  have HF:=ac hfr0
  have HO:=ac hout
  have hl:=hout.len
  clear hval
  by_cases hkl:k<X.length
  ·rcases hl1.fr hao hfr0 hB hblk (hout.wider (Nat.le_refl _) (by omega)) with h0|⟨b,off,rfl,hcell⟩
   ·rw [h0] at hkl;simp at hkl
   ·have hck:=hcell k hkl
    have hfr:=hblk.free (zo+k)
    have hco:=hblk.cell (zo+k) (by omega)
    have z1:=limb_lt M1 k
    have z2:=limb_lt hlz (zo+k)
    have hsame:=hout.same (zo+k) (by omega)
    have hft:=kM (X.getD k 0) m (Z'.getD (zo+k) 0) cy z1 hm z2 hcy
    have hlm:=oR (X.getD k 0*m) (Z'.getD (zo+k) 0) cy hft z2 hcy
    have HS:=ac (fun hi lo hs=>qM Z Z' X zo k m cy hi lo (by omega) hsame hl HV.out hs)
    rw [←hsame] at HS
    have ha1:=bD (X.getD k 0*m % 18446744073709551616) (Z'.getD (zo+k) 0)
    have ha2:=bD ((X.getD k 0*m % 18446744073709551616+Z'.getD (zo+k) 0) % 18446744073709551616) cy
    have hM:=Tryz.bits_Mul64 (X.getD k 0) m z1 hm wr
    generalize Z'.getD (zo+k) 0=z at *
    generalize X.getD k 0=x at *
    generalize hP:x*m=P at *
    clear hP hft hsame
    obtain⟨q1,q2,q3,q4⟩:=hlm
    have HS2:=ac (HS.out _ _ q1)
    clear HS q1
    generalize ((P % 18446744073709551616+z) % 18446744073709551616+cy) % 18446744073709551616=s at *
    generalize ((P % 18446744073709551616+z) % 18446744073709551616+cy) / 18446744073709551616=o2 at *
    generalize (P % 18446744073709551616+z) % 18446744073709551616=s1 at *
    generalize (P % 18446744073709551616+z) / 18446744073709551616=o1 at *
    generalize P / 18446744073709551616=h1 at *
    generalize P % 18446744073709551616=l1 at *
    have e1:(h1:Int)+(o1:Int)=((h1+o1:Nat):Int):=by omega
    generalize h1+o1=h2 at *
    have e2:(h2:Int)+(o2:Int)=((h2+o2:Nat):Int):=by omega
    generalize h2+o2=h3 at *
    clear hcell hblk hfr0 hout HV M1 hl1 hB hLZ
    go_wp2_with fail
    refine hM.mono ?_
    rintro e w2 ⟨rfl,rfl⟩
    clear hM
    go_wp2
    go_roundw
    case rel=>exact⟨k+1,h3,Z'.set (zo+k) s,by omega,by go_num,rfl,q3,(HO.out.wider (Nat.le_refl _) (by omega)).set _ _ (by omega) (by omega),limbs_set hlz _ _ q4,HB.out.set _ s,HF.out.setCell _ _,HS2.out⟩
    case measure=>simp [intOf];omega
  ·have ek:k=X.length:=by omega
   subst ek
   rw [List.take_length] at HV
   clear hblk hfr0 hout hl1 hB
   go_wp2
   go_ret
   exact⟨cy,Z',rfl,hcy,HO.out,hlz,HB.out,HF.out,HV.out⟩

def lay (Z:List Nat)(o:Nat):List Nat→List Nat
 | []=>Z
 | p :: r=>lay (Z.set o p) (o+1) r

theorem dB (P:List Nat):∀(Z:List Nat) (o:Nat),(lay Z o P).length=Z.length:=by
 induction P with
 | nil=>intro Z o;rfl
 | cons p r ih=>intro Z o;rw [lay,ih];simp

theorem bK (P:List Nat):∀(Z:List Nat) (o:Nat),Out Z (lay Z o P) o (o+P.length):=by
 induction P with
 | nil=>intro Z o;exact Out.refl _ _ _
 | cons p r ih=>
  intro Z o
  have h1:Out Z (Z.set o p) o (o+(p :: r).length):=(Out.refl _ _ _).set _ _ (Nat.le_refl _) (by simp)
  exact h1.trans ((ih (Z.set o p) (o+1)).wider (by omega) (by simp;omega))

theorem cq (P:List Nat):∀(Z:List Nat) (o:Nat),o+P.length≤Z.length→sv (lay Z o P) o P.length=val P:=by
 induction P with
 | nil=>intro Z o _;exact aI _ _
 | cons p r ih=>
  intro Z o h
  have hl:o+r.length+1≤Z.length:=by simpa [Nat.add_assoc] using h
  rw [show (p :: r).length=1+r.length by simp;omega,an _ _ _ _ (by rw [dB];omega),eZ _ _ (by rw [dB];omega),lay,ih _ _ (by simp;omega)]
  have h2:=(bK r (Z.set o p) (o+1)).same o (by omega)
  rw [h2,cP,if_pos ⟨rfl,by omega⟩,val,Nat.pow_one]

theorem ci (P:List Nat)(hP:Limbs P):∀(Z:List Nat) (o:Nat),Limbs Z→Limbs (lay Z o P):=by
 induction P with
 | nil=>intro Z o h;exact h
 | cons p r ih=>intro Z o h;exact ih (fun z hz=>hP z (List.mem_cons_of_mem _ hz)) _ _ (limbs_set h _ _ (hP p (List.mem_cons_self ..)))

theorem Blk.setCells {b:Nat}(P:List Nat):∀ {w:World} {Z:List Nat} (o:Nat),Blk w b Z→Blk (w.setCells b o (P.map lv)) b (lay Z o P):=by
 induction P with
 | nil=>intro w Z o h;exact h
 | cons p r ih=>intro w Z o h;exact ih (o+1) (h.set o p)

theorem Fr.setCells {b:Nat}(P:List Value):∀ {a w:World} (o:Nat),Fr b a w→Fr b a (w.setCells b o P):=by
 induction P with
 | nil=>intro a w o h;exact h
 | cons p r ih=>intro a w o h;exact ih (o+1) (h.setCell o p)

theorem la (w:World):(zeroValue 51).run Tryz.prog w=.ok (.int .u64 0) w:=by kernel_rfl

theorem dZ (bz zo n cap:Nat)(Z:List Nat)(w:World)(ty:TypeId)(hB:Blk w bz Z)(hz:zo+n≤Z.length)(hn:0<n) :
  (Builtin.clear_ #[24] ty #[.slice (some ⟨bz,zo,none⟩) n cap]).run Tryz.prog w=.ok (.tuple #[]) (w.setCells bz zo ((List.replicate n 0).map lv)):=by
 rw [Lib.run_clear_slice w 24 51 ty (.int .u64 0) Tryz.underlying24 la rfl rfl bz zo n cap hn (fun j hj=>by rw [hB.cell (zo+j) (by omega)];rfl) (fun j hj=>hB.free (zo+j)),List.map_replicate]
 rfl

theorem qB (Z Z2 X Y:List Nat)(o k m cy:Nat)(hl:Z2.length=Z.length)(hk:k<Y.length)(hZ:o+(X.length+Y.length)≤Z.length)(hm:m=Y.getD k 0)
  (h:sv Z o (k+X.length)=val X*val (Y.take k)) (ho:Out Z Z2 (o+k) (o+k+X.length))
  (h2:sv Z2 (o+k) X.length+cy*18446744073709551616 ^ X.length=sv Z (o+k) X.length+val X*m) :
  sv (Z2.set (o+(k+X.length)) cy) o (k+1+X.length)=val X*val (Y.take (k+1)):=by
 rw [show k+1+X.length=k+X.length+1 by omega,ch _ _ _ _ (by omega),an _ _ _ _ (by omega),ho.sv o k (by omega),val_take_next Y k,←hm,Nat.pow_add]
 rw [an _ _ _ _ (by omega)] at h
 generalize sv Z o k=A at *
 generalize sv Z2 (o+k) X.length=B2 at *
 generalize sv Z (o+k) X.length=B at *
 generalize val (Y.take k)=V at *
 generalize val X=U at *
 generalize (18446744073709551616:Nat) ^ k=K at *
 generalize (18446744073709551616:Nat) ^ X.length=L at *
 grind

theorem iV (bz zo cap:Nat)(Z:List Nat)(va vb:Value)(X Y:List Nat)(w:World)(hB:Blk w bz Z)(hLZ:Limbs Z)(hA:Arg w va X)(hA2:Arg w vb Y)
  (ho:Off va bz zo (zo+(X.length+Y.length))) (ho2:Off vb bz zo (zo+(X.length+Y.length))) (hzo:zo+(X.length+Y.length)≤Z.length) (hc1:X.length+Y.length≤cap) (hc2:cap≤9223372036854775807) :
  Calls Tryz.prog 166 #[.slice (some ⟨bz,zo,none⟩) (X.length+Y.length) cap,va,vb] w fun e w'=>e=.returned (.tuple #[])∧∃Z':List Nat,
   Out Z Z' zo (zo+(X.length+Y.length))∧Limbs Z'∧Blk w' bz Z'∧Fr bz w w'∧sv Z' zo (X.length+Y.length)=val X*val Y:=by
 obtain⟨a1,c1,rfl,hcc1,hcm1,hl1⟩:=hA.form
 obtain⟨a2,c2,rfl,hcc2,hcm2,hl2⟩:=hA2.form
 have hao2:∀b off,a2=some ⟨b,off,none⟩→b≠bz∨off+Y.length≤zo∨zo+(X.length+Y.length)≤off:=fun b off e=>by subst e;exact ho2 b off _ _ rfl
 have fX:=hA.few
 have fY:=hA2.few
 have mY:=hA2.limbs
 obtain⟨w1,Z1,hrun,hout1,hlz1,hb1,hf1,hs1⟩:∃(w1:World) (Z1:List Nat),(∀ty,(Builtin.clear_ #[24] ty #[.slice (some ⟨bz,zo,none⟩) (X.length+Y.length) cap]).run Tryz.prog w=.ok (.tuple #[]) w1)∧Out Z Z1 zo (zo+(X.length+Y.length))∧Limbs Z1∧Blk w1 bz Z1∧Fr bz w w1∧sv Z1 zo (X.length+Y.length)=0:=by
  rcases Nat.eq_zero_or_pos (X.length+Y.length) with h0|h0
  ·refine⟨w,Z,fun ty=>?_,Out.refl _ _ _,hLZ,hB,Fr.refl _ _,by rw [h0];exact aI _ _⟩
   rw [h0]
   simp [Builtin.clear_,run_underlying Tryz.underlying24]
  ·have hlr:(List.replicate (X.length+Y.length) 0).length=X.length+Y.length:=by simp
   have e1:=bK (List.replicate (X.length+Y.length) 0) Z zo
   have e2:=cq (List.replicate (X.length+Y.length) 0) Z zo (by rw [hlr];exact hzo)
   rw [hlr] at e1 e2
   exact⟨_,lay Z zo (List.replicate (X.length+Y.length) 0),fun ty=>dZ bz zo _ cap Z w ty hB hzo h0,e1,ci _ (limbs_replicate _) _ _ hLZ,Blk.setCells _ _ hB,(Fr.refl _ _).setCells _ _,by rw [e2,val_replicate]⟩
 have hs0:sv Z1 zo X.length=0:=by
  rw [an _ _ _ _ (by have:=hout1.len;omega)] at hs1;omega
 have HO1:=ac hout1
 have HF1:=ac hf1
 have HL1:=ac hb1
 clear hs1
 go_enter Tryz.func166,Tryz.ntmps166
 go_wp2
 go_loopw [11] (fun i wr=>∃(k:Nat) (Z':List Nat),k≤Y.length∧i=.int .i64 k∧Out Z Z' zo (zo+(X.length+Y.length))∧Limbs Z'∧Blk wr bz Z'∧Fr bz w wr ∧
   sv Z' zo (k+X.length)=val X*val (Y.take k)) (fun i _=>Y.length - (intOf i).toNat)
 case atStart=>exact⟨0,Z1,Nat.zero_le _,rfl,HO1.out,hlz1,HL1.out,HF1.out,by rw [Nat.zero_add,hs0];simp [val]⟩
 case round=>
  obtain⟨k,Z',hk,rfl,hout,hlz,hblk,hfr0,hval⟩:=hrel
  clear hrun hout1 hlz1 hb1 hf1 hs0 HO1 HF1 HL1
  by_cases hkl:k<Y.length
  ·rcases hl2.fr hao2 hfr0 hB hblk hout with h0|⟨b,off,rfl,hcell⟩
   ·rw [h0] at hkl;simp at hkl
   ·have hck:=hcell k hkl
    have z2:=limb_lt mY k
    have hlen:=hout.len
    have hA':Arg wr (.slice a1 X.length c1) X:=hA.fr ho hfr0 hB hblk hout
    have HM:=jD bz (zo+k) (cap - k) Z' _ X (Y.getD k 0) wr hblk hlz hA' (fun b off n c e=>by rcases ho b off n c e with h|h|h <;> omega) (by omega) (by omega) (by omega) z2
    have HS:=ac (fun Z2 cy hl2 hO2 h2=>qB Z' Z2 X Y zo k (Y.getD k 0) cy hl2 hkl (by omega) rfl hval hO2 h2)
    have HO:=ac hout
    have HF:=ac hfr0
    generalize Y.getD k 0=m at *
    obtain⟨t,ht1,ht2,e1,e2⟩:∃t:Nat,t≤k+X.length∧k+X.length≤t∧(k:Int)+(X.length:Int)=(t:Int)∧t - k=X.length:=⟨k+X.length,by omega,by omega,by omega,by omega⟩
    have hb1:(0:Int)≤(k:Int):=by omega
    have hkn:k≤k+X.length:=by omega
    have hkc:k+X.length≤cap:=by omega
    clear hcell hblk hfr0 hout hval hA hA2 ho ho2 hl1 hl2 hB hLZ mY hao2 hA'
    go_wp2_with fail
    refine HM.mono ?_
    rintro e w2 ⟨cy,Z2,rfl,hcy,hO2,hlz2,hb2,hf2,hv2⟩
    have HS2:=ac (HS.out Z2 cy hO2.len hO2 hv2)
    have hl2:=hO2.len
    have hfr:=hb2.free (zo+t)
    have hco:=hb2.cell (zo+t) (by omega)
    generalize Z2.getD (zo+t) 0=o at *
    have HB2:=ac hb2
    have HF2:=ac (HF.out.trans hf2)
    have HO2:=ac (HO.out.trans (hO2.wider (by omega) (by omega)))
    have ht3:t<X.length+Y.length:=by omega
    clear HM HS hO2 hb2 hf2 hv2 HF HO
    go_wp2
    go_roundw
    case rel=>
     refine⟨k+1,Z2.set (zo+t) cy,by omega,by go_num,HO2.out.set _ _ (by omega) (by omega),limbs_set hlz2 _ _ hcy,HB2.out.set _ cy,HF2.out.setCell _ _,?_⟩
     rw [show t=k+X.length by omega];exact HS2.out
    case measure=>simp [intOf];omega
  ·have ek:k=Y.length:=by omega
   subst ek
   rw [List.take_length,Nat.add_comm] at hval
   have HV:=ac hval
   have HB:=ac hblk
   have HF:=ac hfr0
   have HO:=ac hout
   clear hval hblk hfr0 hout hl1 hl2 hB hA hA2 ho ho2 hLZ
   go_wp2
   go_end0
   exact⟨rfl,Z',HO.out,hlz,HB.out,HF.out,HV.out⟩
end Go.Proofs.YtplegacjglaenaaGreatDoor
namespace Go.Proofs.YtplegacjglaenaaGreatDoor
open Go.RowKit
open Lm

def way (H T:Int):Value:=.agg #[.int .i64 H,.int .i64 T]

def az (bz zo n:Nat)(Z:List Nat)(w:World)(p:Nat)(e:Ending)(w':World):Prop:=
 e=.returned (.tuple #[])∧∃Z':List Nat,Out Z Z' zo (zo+n)∧Limbs Z'∧Blk w' bz Z'∧Fr bz w w'∧sv Z' zo n=p

theorem az.after {bz zo n:Nat}{Z:List Nat}{w w1:World}{p:Nat}{e:Ending}{w':World}(h:az bz zo n Z w1 p e w')(hf:Fr bz w w1):az bz zo n Z w p e w':=by
 obtain⟨he,Z',h1,h2,h3,h4,h5⟩:=h
 exact⟨he,Z',h1,h2,h3,hf.trans h4,h5⟩

theorem Blk.alloc {w:World}{b:Nat}{xs:List Nat}(h:Blk w b xs)(o:Obj):Blk (w.alloc o) b xs:=by
 unfold Blk
 rw [Below.heap_alloc w o b h.lt];exact h

theorem Fr.alloc (bz:Nat)(w:World)(o:Obj):Fr bz w (w.alloc o):=Fr.of_below ((Below.refl _ _).alloc (Nat.le_refl _) o)

theorem Arg.more {w:World}{v:Value}{zs:List Nat}(h:Arg w v zs)(o:Obj):Arg (w.alloc o) v zs:=h.below ((Below.refl _ _).alloc (Nat.le_refl _) _)

theorem pK (bz zo cap:Nat)(Z:List Nat)(va vb:Value)(X Y:List Nat)(w:World)(hB:Blk w bz Z)(hLZ:Limbs Z)(hA:Arg w va X)(hA2:Arg w vb Y)
  (ho:Off va bz zo (zo+(X.length+Y.length))) (ho2:Off vb bz zo (zo+(X.length+Y.length))) (hzo:zo+(X.length+Y.length)≤Z.length) (hc1:X.length+Y.length≤cap) (hc2:cap≤9223372036854775807) :
  Calls Tryz.prog 166 #[.slice (some ⟨bz,zo,none⟩) (X.length+Y.length) cap,vb,va] w (az bz zo (X.length+Y.length) Z w (val X*val Y)):=by
 rw [Nat.add_comm X.length,Nat.mul_comm (val X)]
 rw [Nat.add_comm X.length] at ho ho2 hzo hc1
 exact iV bz zo cap Z vb va Y X w hB hLZ hA2 hA ho2 ho hzo hc1 hc2

theorem oG (H T:Int)(bz zo cap:Nat)(Z:List Nat)(va vb:Value)(X Y:List Nat)(w:World)(hB:Blk w bz Z)(hLZ:Limbs Z)(hA:Arg w va X)(hA2:Arg w vb Y)
  (ho:Off va bz zo (zo+(X.length+Y.length))) (ho2:Off vb bz zo (zo+(X.length+Y.length))) (hzo:zo+(X.length+Y.length)≤Z.length) (hc1:X.length+Y.length≤cap) (hc2:cap≤9223372036854775807)
  (hs:(X.length<Y.length∧(X.length:Int)<H∧(X.length:Int)<T)∨(Y.length≤X.length∧(Y.length:Int)<H∧(Y.length:Int)<T)) :
  Calls Tryz.prog 163 #[way H T,.slice (some ⟨bz,zo,none⟩) (X.length+Y.length) cap,va,vb] w (az bz zo (X.length+Y.length) Z w (val X*val Y)):=by
 unfold way
 obtain⟨a1,c1,rfl,hcc1,hcm1,_⟩:=hA.form
 obtain⟨a2,c2,rfl,hcc2,hcm2,_⟩:=hA2.form
 have fX:=hA.few
 have fY:=hA2.few
 rcases hs with ⟨h1,h2,h3⟩|⟨h1,h2,h3⟩
 ·have i1:(X.length:Int)<(Y.length:Int):=by omega
  go_enter Tryz.func163,Tryz.ntmps163
  go_wp2_with fail
  refine (pK bz zo cap Z _ _ X Y _ (hB.alloc _) hLZ (hA.more _) (hA2.more _) ho ho2 hzo hc1 hc2).mono ?_
  rintro e w2 hd
  have HD:=ac (hd.after (Fr.alloc bz w _))
  obtain⟨he,_⟩:=hd
  subst he
  clear hA hA2 ho ho2 hB
  go_wp2
  go_end0
  exact HD.out
 ·have hd0:decide ((X.length:Int)<(Y.length:Int))=false:=decide_eq_false (by omega)
  go_enter Tryz.func163,Tryz.ntmps163
  go_wp2_with fail
  refine (iV bz zo cap Z _ _ X Y _ (hB.alloc _) hLZ (hA.more _) (hA2.more _) ho ho2 hzo hc1 hc2).mono ?_
  rintro e w2 hd
  have HD:=ac (az.after hd (Fr.alloc bz w _))
  obtain⟨he,_⟩:=hd
  subst he
  clear hA hA2 ho ho2 hB
  go_wp2
  go_end0
  exact HD.out

def bV (x y:Nat):Nat:=if x=0∨y=0 then 0 else blen x+blen y - 1

theorem lg (va vb:Value)(X Y:List Nat)(w:World)(hA:Arg w va X)(hA2:Arg w vb Y)(fX:X.length≤35184372088831)(fY:Y.length≤35184372088831) :
  Calls Tryz.prog 147 #[va,vb] w fun e w'=>e=.returned (.int .i64 ((bV (val X) (val Y):Nat):Int))∧w'=w:=by
 have H1:=aM va X w hA
 have H2:=aM vb Y w hA2
 have b1:blen (val X)≤64*X.length:=by
  rw [blen_le_iff,Nat.mul_comm];have:=val_lt hA.limbs;rwa [W_pow] at this
 have b2:blen (val Y)≤64*Y.length:=by
  rw [blen_le_iff,Nat.mul_comm];have:=val_lt hA2.limbs;rwa [W_pow] at this
 have z1:blen (val X)=0 ↔ val X=0:=by
  unfold blen;split <;> simp [*]
 have z2:blen (val Y)=0 ↔ val Y=0:=by
  unfold blen;split <;> simp [*]
 have hL:bV (val X) (val Y)=if blen (val X)=0∨blen (val Y)=0 then 0 else blen (val X)+blen (val Y) - 1:=by
  unfold bV;simp only [z1,z2]
 rw [hL]
 clear hA hA2 z1 z2 hL
 generalize blen (val X)=x at *
 generalize blen (val Y)=y at *
 by_cases hx:x=0
 ·subst hx
  rw [if_pos (.inl rfl)]
  go_enter Tryz.func147,Tryz.ntmps147
  go_wp2_with fail
  refine H1.mono ?_
  rintro e w2 ⟨rfl,rfl⟩
  go_wp2_with fail
  refine H2.mono ?_
  rintro e w3 ⟨rfl,rfl⟩
  clear H1 H2
  go_wp2
  go_ret
  exact⟨rfl,rfl⟩
 ·have d1:((x:Int) == 0)=false:=by rw [beq_eq_false_iff_ne];omega
  by_cases hy:y=0
  ·subst hy
   rw [if_pos (.inr rfl)]
   go_enter Tryz.func147,Tryz.ntmps147
   go_wp2_with fail
   refine H1.mono ?_
   rintro e w2 ⟨rfl,rfl⟩
   go_wp2_with fail
   refine H2.mono ?_
   rintro e w3 ⟨rfl,rfl⟩
   clear H1 H2
   go_wp2
   go_ret
   exact⟨rfl,rfl⟩
  ·have d2:((y:Int) == 0)=false:=by rw [beq_eq_false_iff_ne];omega
   rw [if_neg (by omega)]
   have e1:(x:Int)+(y:Int) - 1=((x+y - 1:Nat):Int):=by omega
   generalize x+y - 1=t at *
   go_enter Tryz.func147,Tryz.ntmps147
   go_wp2_with fail
   refine H1.mono ?_
   rintro e w2 ⟨rfl,rfl⟩
   go_wp2_with fail
   refine H2.mono ?_
   rintro e w3 ⟨rfl,rfl⟩
   clear H1 H2
   go_wp2
   go_ret
   exact⟨rfl,rfl⟩
end Go.Proofs.YtplegacjglaenaaGreatDoor

