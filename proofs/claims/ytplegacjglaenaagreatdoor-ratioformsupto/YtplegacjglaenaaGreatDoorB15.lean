/- Package ratio: Sign of what means nothing. -/
import Derived.Test.YtplegacjglaenaaGreatDoorB14
import Derived.Test.YtplegacjglaenaaGreatDoorB02
import Derived.Test.YtplegacjglaenaaGreatDoorB01
import Derived.Test.YtplegacjglaenaaGreatDoorB04
import Derived.LoopN
import Derived.Handy
import Derived.Laws.IdiomStrings
import Derived.Laws.Cells
import Derived.Test.YtplegacjglaenaaGreatDoorB03
import Derived.Laws.AppendOwnNone
import Derived.Lib.AppendZeros
import Derived.Deep.RegionHeld3
import Derived.Deep.DrawnRows
import Derived.Test.YtplegacjglaenaaGreatDoorB07
import Derived.Test.YtplegacjglaenaaGreatDoorB08
set_option maxRecDepth 20000
set_option maxHeartbeats 2000000
namespace Go.Proofs.YtplegacjglaenaaGreatDoor
open Go.RowKit
open Lm
attribute [local go_sem ↓] Go.wp_at_zero Go.wp_at_succ

theorem pQ (b:Bool)(v1 v2:Value)(X Y:List Nat)(w:World)(hA:Arg w v1 X)(hB:Arg w v2 Y)(hY:val Y=0) :
  Calls Tryz.prog 12 #[.agg #[.bool b,v1,v2]] w fun e w'=>e=.returned (.tuple #[.int .i64 0,.int .i64 70])∧Below w.heap.size w w':=by
 have hmf:∀(fn:Fn) (first cap:Array Value) (w:World),(Instr.makeFunc fn first cap).run Tryz.prog w=.ok (.func fn first cap) w:=fun _ _ _ _=>rfl
 obtain⟨a,n,rfl,_,_,_⟩:=hA.form
 obtain⟨ad,nd,rfl,_,_,_⟩:=hB.form
 obtain⟨w0,hw0,hb0,h0⟩:=am w (.cells #[.bool b,.slice a X.length n,.slice ad Y.length nd] 28)
 have FA:=qR ⟨w.heap.size,0,none⟩ 70 w0 (fun W hg=>by
  have hP:=ai hg h0
  obtain⟨u0,hu0,hbu,hL⟩:=am W (.cells #[.bool b,.slice a X.length n,.slice ad Y.length nd] 28)
  have ME:=j9 W.heap.size b _ _ X Y u0 (((hA.below hb0).below hg).below hbu) (((hB.below hb0).below hg).below hbu) hL hY
  obtain⟨c0,c1,c2⟩:=tri hP
  have HG:=ac hbu
  clear hP hL hbu
  go_enter Tryz.func36,Tryz.ntmps36
  go_wp2_with fail
  refine ME.mono ?_
  rintro e t1 ⟨he,hb1⟩
  have HF:=ac (ae HG.out hb1)
  unfold aS at he
  subst he
  exact⟨rfl,rfl,HF.out⟩)
 have HB0:=ac hb0
 clear hA hB h0 hb0
 go_enter Tryz.func12,Tryz.ntmps12
 go_wp2_with fail
 refine FA.mono ?_
 rintro e t2 ⟨rfl,hb2⟩
 have HE:=ac (HB0.out.trans (hb2.mono HB0.out.size))
 clear hb2 FA
 go_wp2
 go_ret2
 exact⟨rfl,HE.out⟩



theorem Ans.cellAt5 {w:World}{base g cap:Nat}{zs:List Nat}(h:Ans w base (.slice (some ⟨g,0,none⟩) zs.length cap) zs):(zs.length≤cap∧cap≤9223372036854775807)∧(∀k,w.frozen? ⟨g,k,none⟩=false)∧∀k,k<zs.length→w.cell? ⟨g,k,none⟩=some (.int .u64 ((zs.getD k 0:Nat):Int)):=by
 rcases h.form with ⟨e,_⟩|⟨g',cap',e,_,_,h1,h2,h3,h4⟩
 ·cases e
 ·cases e
  exact⟨⟨h1,h2⟩,h3,h4⟩

theorem jx {w:World}{h k:Nat}{cs:Array Value}{t:TypeId}(e:w.heap[h]?=some (.cells cs t))(u:Value):(w.setCell ⟨h,k,none⟩ u).heap[h]?=some (.cells (cs.setIfInBounds k u) t):=by
 have hlt:=lt_of_block e
 have h':w.heap[h]=.cells cs t:=by simpa [Array.getElem?_eq_getElem hlt] using e
 show (w.heap.modify h _)[h]?=_
 rw [Array.getElem?_eq_getElem (by simpa using hlt),Array.getElem_modify_self,h']
 rfl

theorem ob (h:15<(ByteArray.mk #[48,49,50,51,52,53,54,55,56,57,97,98,99,100,101,102,103,104,105,106,107,108,109,110,111,112,113,114,115,116,117,118,119,120,121,122]).size):(ByteArray.mk #[48,49,50,51,52,53,54,55,56,57,97,98,99,100,101,102,103,104,105,106,107,108,109,110,111,112,113,114,115,116,117,118,119,120,121,122])[15]=102:=rfl

theorem mp (h:15<(ByteArray.mk #[48,49,50,51,52,53,54,55,56,57,97,98,99,100,101,102,103,104,105,106,107,108,109,110,111,112,113,114,115,116,117,118,119,120,121,122]).size):(ByteArray.mk #[48,49,50,51,52,53,54,55,56,57,97,98,99,100,101,102,103,104,105,106,107,108,109,110,111,112,113,114,115,116,117,118,119,120,121,122])[15].toNat=102:=rfl

attribute [local go_sem] ob mp
end Go.Proofs.YtplegacjglaenaaGreatDoor
namespace Go.Proofs.YtplegacjglaenaaGreatDoor
open Go.RowKit
open Lm
attribute [local go_sem ↓] Go.wp_at_zero Go.wp_at_succ

theorem mN (b:Nat)(w:World)(h1:2≤b)(h2:b≤36):Calls Tryz.prog 71 #[.int .i64 b] w fun e w'=>e=.returned (.bool true)∧w'=w:=by
 have i0:(2:Int)≤(b:Int):=by omega
 have i1:(b:Int)≤36:=by omega
 have i2:decide ((b:Int)≤36)=true:=decide_eq_true i1
 go_enter Tryz.func71,Tryz.ntmps71
 go_wp2
 go_ret
 exact⟨rfl,rfl⟩

def aN (b v n:Nat):Prop:=1≤n∧v<b ^ n∧(n=1∨b ^ (n - 1)≤v)

theorem aN.unique {b v m n:Nat}(hb:2≤b)(h:aN b v m)(h':aN b v n):m=n:=by
 have key:∀ {m n:Nat},aN b v m→aN b v n→m≤n:=by
  intro m n h h'
  rcases h.2.2 with e|e
  ·have:=h'.1;omega
  ·have h1:=(Nat.pow_lt_pow_iff_right (show 1<b by omega)).1 (Nat.lt_of_le_of_lt e h'.2.1)
   omega
 exact Nat.le_antisymm (key h h') (key h' h)

theorem aN.few {b v n k:Nat}(hb:2≤b)(h:aN b v n)(hk:1≤k)(hv:v<2 ^ k):n≤k:=by
 rcases h.2.2 with e|e
 ·omega
 ·have h1:2 ^ (n - 1)≤b ^ (n - 1):=Nat.pow_le_pow_left hb _
  have h2:=(Nat.pow_lt_pow_iff_right (show 1<2 by omega)).1 (Nat.lt_of_le_of_lt (Nat.le_trans h1 e) hv)
  omega

def Cs (b v c n:Nat):Prop:=1≤n∧c=v / b ^ (n - 1)∧(n=1∨b ^ (n - 1)≤v)

theorem Cs.next {b v c n:Nat}(hb:2≤b)(h:Cs b v c n)(hc:b≤c):Cs b v (c / b) (n+1):=by
 obtain⟨h1,h2,_⟩:=h
 have e:b ^ (n+1 - 1)=b ^ (n - 1)*b:=by rw [←Nat.pow_succ];congr 1;omega
 have hp:0<b ^ (n - 1):=Nat.pow_pos (by omega)
 refine⟨by omega,by rw [e,←Nat.div_div_eq_div_mul,h2],.inr ?_⟩
 rw [e,Nat.mul_comm]
 exact (Nat.le_div_iff_mul_le hp).1 (by rw [←h2];exact hc)

theorem Cs.done {b v c n:Nat}(hb:2≤b)(h:Cs b v c n)(hc:c<b):aN b v n:=by
 obtain⟨h1,h2,h3⟩:=h
 have hp:0<b ^ (n - 1):=Nat.pow_pos (by omega)
 refine⟨h1,?_,h3⟩
 have e:b ^ n=b*b ^ (n - 1):=by rw [Nat.mul_comm,←Nat.pow_succ];congr 1;omega
 rw [e]
 exact (Nat.div_lt_iff_lt_mul hp).1 (by rw [←h2];exact hc)

theorem Cs.few {b v c n:Nat}(hb:2≤b)(h:Cs b v c n)(hv:v<18446744073709551616):n≤64:=by
 rcases h.2.2 with e|e
 ·omega
 ·have h1:2 ^ (n - 1)≤b ^ (n - 1):=Nat.pow_le_pow_left hb _
  have h2:=(Nat.pow_lt_pow_iff_right (show 1<2 by omega)).1 (Nat.lt_of_le_of_lt (Nat.le_trans h1 e) (show v<2 ^ 64 by omega))
  omega

theorem oF (v b:Nat)(w:World)(hb:2≤b)(hb2:b≤36)(hv:v<18446744073709551616) :
  Calls Tryz.prog 110 #[.int .u64 v,.int .u64 b] w fun e w'=>∃n:Nat,e=.returned (.int .i64 n)∧aN b v n∧w'=w:=by
 have hbz:((b:Int) == 0)=false:=by rw [beq_eq_false_iff_ne];omega
 go_enter Tryz.func110,Tryz.ntmps110
 go_wp2
 go_loop [0,5] (fun x y=>∃c n:Nat,x=.int .u64 c∧y=.int .i64 n∧c≤v∧Cs b v c n) (fun x _=>(intOf x).toNat)
 case atStart=>exact⟨v,1,rfl,rfl,Nat.le_refl _,Nat.le_refl _,by simp,.inl rfl⟩
 case round=>
  obtain⟨c,n,rfl,rfl,hcv,hcs⟩:=hrel
  have hn:=hcs.few hb hv
  have HC:=ac hcs
  by_cases hc:b≤c
  ·have i1:(b:Int)≤(c:Int):=by omega
   have hdl:c / b<c:=Nat.div_lt_self (by omega) (by omega)
   have hde:(c:Int) / (b:Int)=((c / b:Nat):Int):=by omega
   have HN:=ac (HC.out.next hb hc)
   generalize c / b=q at *
   clear hcs
   go_wp2
   go_round
   case rel=>exact⟨q,n+1,rfl,by go_num,by omega,HN.out⟩
   case measure=>simp [intOf];omega
  ·have i1:¬((b:Int)≤(c:Int)):=by omega
   clear hcs
   go_wp2
   go_ret
   exact⟨n,rfl,HC.out.done hb (by omega),rfl⟩

structure pj (b d p:Nat):Prop where
 pow:p=b ^ d
 fits:p<18446744073709551616
 most:18446744073709551616≤p*b
 some:1≤d
 few:d≤63

theorem lN (b:Nat)(w:World)(hb:2≤b)(hb2:b≤36) :
  Calls Tryz.prog 115 #[.int .i64 b] w fun e w'=>∃d p:Nat,e=.returned (.tuple #[.int .i64 d,.int .u64 p])∧pj b d p∧w'=w:=by
 have hbz:((b:Int) == 0)=false:=by rw [beq_eq_false_iff_ne];omega
 obtain⟨m,hm⟩:∃m,18446744073709551615 / b=m:=⟨_,rfl⟩
 have hmi:(18446744073709551615:Int) / (b:Int)=(m:Int):=by rw [←hm,Int.natCast_ediv];rfl
 have hm1:m*b≤18446744073709551615:=by rw [←hm];exact Nat.div_mul_le_self _ _
 have hm2:18446744073709551615<(m+1)*b:=by rw [←hm,Nat.mul_comm];exact Nat.lt_mul_div_succ _ (by omega)
 have hm3:1≤m:=by rw [←hm];exact (Nat.le_div_iff_mul_le (by omega)).2 (by omega)
 have HM:=ac (And.intro hm1 hm2)
 clear hm hm1 hm2
 go_enter Tryz.func115,Tryz.ntmps115
 go_wp2
 go_loop [2,3] (fun x y=>∃d p:Nat,x=.int .i64 d∧y=.int .u64 p∧p=b ^ d∧p<18446744073709551616∧d≤63) (fun x _=>64 - (intOf x).toNat)
 case atStart=>exact⟨0,1,rfl,rfl,by simp,by omega,by omega⟩
 case round=>
  obtain⟨d,p,rfl,rfl,hp,hpl,hd⟩:=hrel
  have HP:=ac hp
  by_cases hc:p≤m
  ·have i1:(p:Int)≤(m:Int):=by omega
   have hpb:p*b<18446744073709551616:=by
    have:=Nat.mul_le_mul_right b hc
    have:=HM.out.1
    omega
   have hpi:(p:Int)*(b:Int)=((p*b:Nat):Int):=by simp
   have hq:p*b=b ^ (d+1):=by rw [hp,Nat.pow_succ]
   have hd2:d+1≤63:=by
    have h1:2 ^ (d+1)≤b ^ (d+1):=Nat.pow_le_pow_left hb _
    have h2:=(Nat.pow_lt_pow_iff_right (show 1<2 by omega)).1 (Nat.lt_of_le_of_lt h1 (show b ^ (d+1)<2 ^ 64 by omega))
    omega
   have HQ:=ac hq
   generalize p*b=q at *
   clear hp hq
   go_wp2
   go_round
   case rel=>exact⟨d+1,q,by go_num,rfl,HQ.out,hpb,hd2⟩
   case measure=>simp [intOf];omega
  ·have i1:¬((p:Int)≤(m:Int)):=by omega
   clear hp
   go_wp2
   go_returns
   refine⟨d,p,rfl,⟨HP.out,hpl,?_,?_,hd⟩,rfl⟩
   ·have:=Nat.mul_le_mul_right b (show m+1≤p by omega)
    have:=HM.out.2
    omega
   ·rcases Nat.eq_zero_or_pos d with h|h
    ·have:=HP.out;rw [h] at this;simp at this;omega
    ·exact h

theorem Ans.front5 {w:World}{base g cap:Nat}{zs:List Nat}(h:Ans w base (.slice (some ⟨g,0,none⟩) zs.length cap) zs)(n:Nat)(hn:n≤zs.length):Ans w base (.slice (some ⟨g,0,none⟩) n cap) (zs.take n):=by
 refine⟨?_,fun z hz=>h.limbs z (List.mem_of_mem_take hz)⟩
 obtain⟨_,h2⟩:=h.own
 have e:(zs.take n).length=n:=by simp;omega
 refine⟨by simp,?_⟩
 rcases h2 with ⟨h1,_⟩|⟨g',cap',cur,hv,hg,hh,hnn,hcm,hs,ht⟩
 ·cases h1
 ·cases hv
  refine .inr ⟨g,cap,cur,by rw [e],hg,hh,by rw [e];omega,hcm,hs,?_⟩
  rw [e]
  have e2:cur.toList.take (n*1)=(cur.toList.take (zs.length*1)).take n:=by
   rw [List.take_take,Nat.mul_one,Nat.mul_one,Nat.min_eq_left hn]
  rw [e2,ht,List.map_take]

theorem nc (X out:List Nat)(j q:Nat)(h:out.take (j+1)=X.take (j+1)):(out.set j q).take j=X.take j:=by
 have e:(out.set j q).take j=out.take j:=by
  apply List.ext_getElem?
  intro n
  simp only [List.getElem?_take]
  split
  ·rw [List.getElem?_set_ne (by omega)]
  ·rfl
 rw [e]
 have h2:=congrArg (List.take j) h
 simpa [List.take_take,Nat.min_eq_left (Nat.le_succ j)] using h2

theorem lO (X out:List Nat)(j:Nat)(h:out.take (j+1)=X.take (j+1)):out.getD j 0=X.getD j 0:=by
 have h2:=congrArg (fun l=>l.getD j 0) h
 simpa [List.getD,List.getElem?_take] using h2

def f7 (base x d:Nat)(w:World)(e:Ending)(w':World):Prop:=
 ∃v Y,e=.returned (.tuple #[v,.int .u64 ((x % d:Nat):Int)])∧Ans w' base v Y∧val Y=x / d∧Below base w w'

theorem qE (base g cap d:Nat)(X:List Nat)(w:World)(hA:Ans w base (.slice (some ⟨g,0,none⟩) X.length cap) X)(hd:d<18446744073709551616)(hd0:0<d) :
  Calls Tryz.prog 116 #[.slice (some ⟨g,0,none⟩) X.length cap,.int .u64 d] w (f7 base (val X) d w):=by
 obtain⟨⟨hc1,hc2⟩,_,_⟩:=Ans.cellAt5 hA
 have hbg:base≤g:=(hA.own.lt g rfl).1
 have M1:=hA.limbs
 have HA:=ac hA
 clear hA
 go_enter Tryz.func116,Tryz.ntmps116
 go_wp2
 go_loopw [6,8] (fun c i wr=>∃(k r:Nat) (out:List Nat),k≤X.length∧i=.int .i64 ((k:Int) - 1)∧c=.int .u64 r∧r<d∧out.length=X.length∧Ans wr base (.slice (some ⟨g,0,none⟩) out.length cap) out∧Below base w wr ∧
   val (out.drop k)*d+r=val (X.drop k)∧out.take k=X.take k) (fun _ i _=>(intOf i+1).toNat)
 case atStart=>exact⟨X.length,0,X,Nat.le_refl _,by go_num,rfl,hd0,rfl,HA.out,Below.refl _ _,by simp [val],rfl⟩
 case round=>
  obtain⟨k,r,out,hk,rfl,rfl,hr,hlen,hans,hbl,hval,htk⟩:=hrel
  clear HA
  obtain⟨_,hfz,hcell⟩:=Ans.cellAt5 hans
  rcases Nat.eq_zero_or_pos k with rfl|hk0
  ·rw [List.drop_zero,List.drop_zero] at hval
   have hq:val out=val X / d:=by
    rw [←hval,Nat.mul_comm,Nat.mul_add_div hd0,Nat.div_eq_of_lt hr,Nat.add_zero]
   have hm:r=val X % d:=by
    rw [←hval,Nat.mul_comm,Nat.mul_add_mod,Nat.mod_eq_of_lt hr]
   have hrW:r<18446744073709551616:=by omega
   have HX:=ac hans
   have HL:=ac hbl
   have HQ:=ac (And.intro hq hm)
   rcases Nat.eq_zero_or_pos X.length with hx|hx
   ·obtain rfl:=List.eq_nil_of_length_eq_zero hx
    obtain rfl:=List.eq_nil_of_length_eq_zero hlen
    clear hans hbl hcell htk hval hq hm hfz
    go_wp2
    go_returns
    exact⟨_,[],by rw [←HQ.out.2];rfl,HX.out,HQ.out.1,HL.out⟩
   ·obtain⟨j,hj⟩:∃j,X.length=j+1:=⟨X.length - 1,by omega⟩
    have hji:(X.length:Int) - 1=(j:Int):=by omega
    have hck:=hcell j (by omega)
    have hlast:=val_take_next out j
    rw [show j+1=out.length by omega,List.take_length] at hlast
    have HF:=ac (HX.out.front5 j (by omega))
    have HT:=ac hlast
    have hjl:j<X.length:=by omega
    generalize out.getD j 0=o at *
    clear hans hbl hcell htk hval hq hm hlast hfz
    by_cases ho:o=0
    ·subst ho
     have hjc:j≤cap:=by omega
     go_wp2
     go_returns
     refine⟨_,out.take j,by rw [←HQ.out.2];rfl,HF.out,?_,HL.out⟩
     have:=HT.out;rw [Nat.mul_zero,Nat.add_zero] at this
     rw [←this];exact HQ.out.1
    ·have hoz:((o:Int) == 0)=false:=by rw [beq_eq_false_iff_ne];omega
     go_wp2
     go_returns
     refine⟨_,out,by rw [←HQ.out.2];rfl,?_,HQ.out.1,HL.out⟩
     have:=HX.out;rw [hlen] at this;exact this
  ·obtain⟨j,rfl⟩:∃j,k=j+1:=⟨k - 1,by omega⟩
   have hje:(((j+1:Nat):Int)) - 1=(j:Int):=by omega
   rw [hje]
   have hck:=hcell j (by omega)
   have hjl:j<X.length:=by omega
   have hst:=through_step X out d j r (by omega) hval hjl
   have hts:=nc X out j ((r*18446744073709551616+X.getD j 0) / d) htk
   rw [lO X out j htk] at hck
   have z1:=limb_lt M1 j
   have HV:=ac (And.intro hst hts)
   have HD:=i6 r (X.getD j 0) d wr hd hr z1
   have hql:=quo_lt r (X.getD j 0) d hr z1
   have hrl:(r*18446744073709551616+X.getD j 0) % d<d:=Nat.mod_lt _ hd0
   generalize (r*18446744073709551616+X.getD j 0) / d=qq at *
   generalize (r*18446744073709551616+X.getD j 0) % d=rr at *
   generalize X.getD j 0=x at *
   have HX:=ac hans
   have HL:=ac hbl
   have hi1:(0:Int)≤(j:Int):=by omega
   have hi2:(j:Int)<(X.length:Int):=by omega
   clear hst hts hval hcell hans hbl htk hfz hje M1
   go_wp2_with fail
   refine HD.mono ?_
   rintro e w2 ⟨rfl,hs⟩
   have HX2:=ac (HX.out.below (hs.below _))
   have HL2:=ac (HL.out.trans (hs.below _))
   obtain⟨_,hfz,hcell⟩:=Ans.cellAt5 HX2.out
   have hfr:=hfz j
   have hco:=hcell j (by omega)
   generalize out.getD j 0=o at *
   clear HD hs hck hfz hcell
   go_wp2
   go_roundw
   case rel=>
    exact⟨j,rr,out.set j qq,by omega,by go_num,rfl,hrl,by simp;omega,HX2.out.stored j qq hql,HL2.out.setCell hbg _,HV.out.1,HV.out.2⟩
   case measure=>simp [intOf]

theorem me (base d:Nat)(w:World) :
  Calls Tryz.prog 116 #[.slice none 0 0,.int .u64 d] w (f7 base 0 d w):=by
 go_enter Tryz.func116,Tryz.ntmps116
 go_wp2
 refine wp_loop_rounds 1 ?_
 rw [rounds_succ]
 go_wp2
 go_returns
 exact⟨_,[],by rw [Nat.zero_mod];rfl,Ans.nil _ _,by simp [val],Below.refl _ _⟩

theorem mZ (base d:Nat)(v:Value)(X:List Nat)(w:World)(hA:Ans w base v X)(hd:d<18446744073709551616)(hd0:0<d) :
  Calls Tryz.prog 116 #[v,.int .u64 d] w (f7 base (val X) d w):=by
 rcases hA.form with ⟨rfl,rfl⟩|⟨g,cap,rfl,_⟩
 ·exact me base d w
 ·exact qE base g cap d X w hA hd hd0

def bv (z:Nat):Value:=.int .u8 (z:Int)

def Byt (w:World)(b:Nat)(xs:List Nat):Prop:=w.heap[b]?=some (.cells (xs.map bv).toArray 5 (0,0))

theorem Byt.lt {w:World}{b:Nat}{xs:List Nat}(h:Byt w b xs):b<w.heap.size:=lt_of_block h

theorem Byt.cell {w:World}{b:Nat}{xs:List Nat}(h:Byt w b xs)(k:Nat)(hk:k<xs.length):w.cell? ⟨b,k,none⟩=some (.int .u8 ((xs.getD k 0:Nat):Int)):=by
 simp [World.cell?,show w.heap[b]?=_ from h,hk,bv,List.getD]

theorem Byt.free {w:World}{b:Nat}{xs:List Nat}(h:Byt w b xs)(k:Nat):w.frozen? ⟨b,k,none⟩=false:=by
 simp [World.frozen?,show w.heap[b]?=_ from h]

theorem Byt.set {w:World}{b:Nat}{xs:List Nat}(h:Byt w b xs)(k z:Nat):Byt (w.setCell ⟨b,k,none⟩ (.int .u8 (z:Int))) b (xs.set k z):=by
 have hlt:=h.lt
 have h':w.heap[b]=.cells (xs.map bv).toArray 5 (0,0):=by simpa [Array.getElem?_eq_getElem hlt] using (show w.heap[b]?=_ from h)
 show (w.heap.modify b _)[b]?=_
 rw [Array.getElem?_eq_getElem (by simpa using hlt),Array.getElem_modify_self,h']
 simp [List.map_set,bv]

theorem Byt.below {w w':World}{b B:Nat}{xs:List Nat}(h:Byt w b xs)(hb:Below B w w')(hB:b<B):Byt w' b xs:=by
 unfold Byt;rw [hb.block b hB];exact h

theorem Ans.apart5 {w:World}{base:Nat}{v:Value}{zs:List Nat}(h:Ans w base v zs)(g o:Nat)(u:Value)(hg:g<base):Ans (w.setCell ⟨g,o,none⟩ u) base v zs:=by
 refine⟨?_,h.limbs⟩
 obtain⟨h1,h2⟩:=h.own
 refine⟨h1,?_⟩
 rcases h2 with h2|⟨g',cap,cur,hv,hg',hh,r⟩
 ·exact .inl h2
 ·exact .inr ⟨g',cap,cur,hv,hg',by rw [Below.heap_setCell _ _ _ _ (show g'≠(⟨g,o,none⟩:Addr).block by show g'≠g;omega)];exact hh,r⟩

theorem Fr.low {gd:Nat}{w wr w2:World}(h:Fr gd w wr)(k:Below w.heap.size wr w2):Fr gd w w2:=
 ⟨k.os.trans h.os,k.tape.trans h.tape,k.output.trans h.output,Nat.le_trans h.size k.size,fun j h1 h2=>(k.block j h1).trans (h.block j h1 h2)⟩

structure aZ (b x o n t:Nat)(D D':List Nat):Prop where
 len:D'.length=D.length
 digs:∀i,t≤i→i<n→D'.getD (o+i) 0=x / b ^ (n - 1 - i) % b
 same:∀k,k<o+t∨o+n≤k→D'.getD k 0=D.getD k 0

theorem aZ.start (b x o n:Nat)(D:List Nat):aZ b x o n n D D:=⟨rfl,fun i h1 h2=>by omega,fun _ _=>rfl⟩

theorem aZ.set {b x o n t:Nat}{D D':List Nat}(h:aZ b x o n (t+1) D D')(ht:t<n)(ho:o+n≤D.length):aZ b x o n t D (D'.set (o+t) (x / b ^ (n - 1 - t) % b)):=by
 have hl:=h.len
 refine⟨by simp [h.len],fun i h1 h2=>?_,fun k hk=>?_⟩
 ·rw [List.getD,List.getElem?_set]
  by_cases e:i=t
  ·subst e;rw [if_pos rfl,if_pos (by omega)];rfl
  ·rw [if_neg (by omega)];exact h.digs i (by omega) h2
 ·rw [List.getD,List.getElem?_set,if_neg (by omega)]
  exact h.same k (by omega)

theorem km (x b m d s:Nat)(hs:s<d):x / b ^ (m*d) % b ^ d / b ^ s % b=x / b ^ (m*d+s) % b:=by
 have e:b ^ d=b ^ s*b ^ (d - s):=by rw [←Nat.pow_add];congr 1;omega
 rw [e,Nat.mod_mul_right_div_self,Nat.div_div_eq_div_mul,←Nat.pow_add]
 have hd:b ∣ b ^ (d - s):=by
  obtain⟨k,hk⟩:∃k,d - s=k+1:=⟨d - s - 1,by omega⟩
  rw [hk,Nat.pow_succ];exact Nat.dvd_mul_left _ _
 rw [Nat.mod_mod_of_dvd _ hd]

def jn (b x o n gd:Nat)(D:List Nat)(w:World)(e:Ending)(w':World):Prop:=
 e=.returned (.tuple #[])∧∃D',Byt w' gd D'∧aZ b x o n 0 D D'∧Fr gd w w'

theorem qc (gd o n cap b:Nat)(D:List Nat)(va:Value)(X:List Nat)(w:World)(hD:Byt w gd D)(ho:o+n≤D.length)(hn:n≤cap)(hcap:cap≤9223372036854775807)(hA:Arg w va X)(hl:X.length≤17592186044416)(hb:2≤b)(hb2:b≤36) :
  Calls Tryz.prog 90 #[.slice (some ⟨gd,o,none⟩) n cap,va,.int .i64 b] w (jn b (val X) o n gd D w):=by
 have HU:=lN b w hb hb2
 have HN:=dj va X w hA hl
 have hbz:((b:Int) == 0)=false:=by rw [beq_eq_false_iff_ne];omega
 have hgd:=hD.lt
 have HD:=ac hD
 have hX:=val_tr X
 generalize val X=x at *
 clear hA hD
 go_enter Tryz.func90,Tryz.ntmps90
 go_wp2_with fail
 refine HU.mono ?_
 rintro e wn ⟨d,p,rfl,hu,hw⟩;rw [hw];clear hw wn HU
 have hpf:=hu.fits
 have hp0:0<p:=by rw [hu.pow];exact Nat.pow_pos (by omega)
 have hd1:=hu.some
 have hd2:=hu.few
 have HP:=ac hu.pow
 clear hu
 go_wp2_with fail
 refine HN.mono ?_
 rintro e w1 ⟨⟨v1,rfl,A1⟩,hb1⟩
 have HA1:=ac A1
 have HB1:=ac hb1
 clear HN A1 hb1
 go_wp2
 go_loopw [1,8] (fun a t wr=>∃(m:Nat) (v:Value) (Y D':List Nat),v=a∧t=.int .i64 ((n:Int) - ((m*d:Nat):Int))∧(n:Int) - ((m*d:Nat):Int) > -64∧Ans wr w.heap.size v Y∧val Y=x / b ^ (m*d)∧Byt wr gd D'∧aZ b x o n (n - m*d) D D'∧Fr gd w wr) (fun _ t _=>(intOf t).toNat)
 case atStart=>
  exact⟨0,v1,tr X,D,rfl,by simp,by omega,HA1.out,by simpa using hX,HD.out.below HB1.out hgd,by simpa using aZ.start b x o n D,Fr.of_below HB1.out⟩
 case round=>
  obtain⟨m,v,Y,D',rfl,rfl,htb,hAns,hY,hByt,hW,hFr⟩:=hrel
  clear HA1 HB1
  by_cases hto:m*d<n
  ·obtain⟨T,hT1,hT2,hT3⟩:∃T:Nat,(n:Int) - ((m*d:Nat):Int)=(T:Int)∧n - m*d=T∧T≤n:=⟨n - m*d,by omega,rfl,by omega⟩
   rw [hT1]
   rw [hT2] at hW
   have hT0:(0:Int)<(T:Int):=by omega
   have HS:=mZ w.heap.size p v Y wr hAns hpf hp0
   rw [hY] at HS
   have HBy:=ac hByt
   have HWr:=ac hW
   have HFr:=ac hFr
   have HT:=ac (And.intro hT1 hT2)
   clear hAns hY hByt hW hFr hT1 hT2 htb hto
   go_wp2_with fail
   refine HS.mono ?_
   rintro e w2 ⟨v2,Y2,rfl,hA2,hY2,hb2'⟩
   have HA2:=ac hA2
   have HY2:=ac hY2
   have HBy2:=ac (HBy.out.below hb2' hgd)
   have HFr2:=ac (HFr.out.low hb2')
   have hrp:x / b ^ (m*d) % p<p:=Nat.mod_lt _ hp0
   obtain⟨r,hr⟩:∃r,x / b ^ (m*d) % p=r:=⟨_,rfl⟩
   rw [hr] at hrp
   rw [hr]
   have HR:=ac hr
   obtain⟨M,hM,hM2⟩:∃M:Nat,max ((T:Int) - (d:Int)) 0=(M:Int)∧M=T - d:=⟨T - d,by omega,rfl⟩
   clear HS hA2 hY2 hb2' hr HBy HFr
   go_wp2
   go_loopw [9,10] (fun lo i wr2=>∃(s L:Nat) (D2:List Nat),lo=.int .u64 L∧i=.int .i64 ((T:Int) - 1 - (s:Int))∧s≤d∧s≤T∧L=r / b ^ s∧Byt wr2 gd D2∧aZ b x o n (T - s) D D2∧Fr gd w wr2∧Ans wr2 w.heap.size v2 Y2) (fun _ i _=>(intOf i+1).toNat)
   case atStart=>exact⟨0,r,D',rfl,by simp,by omega,by omega,by simp,HBy2.out,HWr.out,HFr2.out,HA2.out⟩
   case round=>
    obtain⟨s,L,D2,rfl,rfl,hs1,hs2,hL,hByt,hW,hFr,hAns⟩:=hrel
    clear HBy2 HFr2 HA2
    by_cases hc:s<d∧s<T
    ·obtain⟨j,hj1,hj2⟩:∃j:Nat,(T:Int) - 1 - (s:Int)=(j:Int)∧T - s=j+1:=⟨T - s - 1,by omega,by omega⟩
     rw [hj1]
     rw [hj2] at hW
     have hi:(M:Int)≤(j:Int):=by omega
     have hLr:L≤r:=by rw [hL];exact Nat.div_le_self _ _
     have hjn:j<n:=by have:=HT.out;omega
     have hdig:L % b=x / b ^ (n - 1 - j) % b:=by
      rw [hL,←HR.out,HP.out,km x b m d s hc.1]
      congr 3
      have:=HT.out;omega
     have hq:L / b=r / b ^ (s+1):=by rw [hL,Nat.div_div_eq_div_mul,Nat.pow_succ]
     have hset:=hW.set hjn ho
     rw [←hdig] at hset
     have hg36:L % b<b:=Nat.mod_lt _ (by omega)
     have hqL:L / b≤L:=Nat.div_le_self _ _
     have em:(L:Int).tmod (b:Int)=((L % b:Nat):Int):=rfl
     have ed:(L:Int).tdiv (b:Int)=((L / b:Nat):Int):=rfl
     have HQ:=ac hq
     have HW2:=ac hset
     generalize L % b=g at *
     generalize L / b=q at *
     have eg:(g:Int) % 256=(g:Int):=by omega
     have hlen:=hW.len
     have hco:=hByt.cell (o+j) (by omega)
     have hfr:=hByt.free (o+j)
     generalize D2.getD (o+j) 0=old at *
     have HBy:=ac hByt
     have HFr:=ac hFr
     have HAn:=ac hAns
     have hj0:(0:Int)≤(j:Int):=by omega
     have hjn':(j:Int)<(n:Int):=by omega
     have hj3:T - (s+1)=j:=by omega
     have hj4:(j:Int) - 1=(T:Int) - 1 - ((s+1:Nat):Int):=by omega
     have HJ:=ac (And.intro hj3 hj4)
     clear hL hByt hW hFr hAns hset hdig hq hj1 hj2 hj3 hj4
     go_wp2
     go_roundw
     case rel=>
      refine⟨s+1,q,D2.set (o+j) g,by go_num,by rw [HJ.out.2],by omega,by omega,HQ.out,HBy.out.set _ _,?_,HFr.out.setCell _ _,HAn.out.apart5 _ _ _ hgd⟩
      rw [HJ.out.1];exact HW2.out
     case measure=>simp [intOf]
    ·have hi:¬((M:Int)≤(T:Int) - 1 - (s:Int)):=by omega
     have hts:T - s=T - d:=by omega
     rw [hts] at hW
     have HW3:=ac hW
     have HBy:=ac hByt
     have HFr:=ac hFr
     have HAn:=ac hAns
     have he:(m+1)*d=m*d+d:=Nat.succ_mul m d
     have ht1:(n:Int) - (((m+1)*d:Nat):Int)=(T:Int) - (d:Int):=by have:=HT.out.1;omega
     have ht2:n - (m+1)*d=T - d:=by have:=HT.out.2;omega
     have hval:val Y2=x / b ^ ((m+1)*d):=by rw [HY2.out,HP.out,Nat.div_div_eq_div_mul,←Nat.pow_add,he]
     have HE:=ac (And.intro ht1 (And.intro ht2 hval))
     have hgt:(T:Int) - (d:Int) > -64:=by omega
     clear hL hByt hW hFr hAns hval ht1 ht2 he hts
     go_wp2
     go_roundw
     case rel=>
      refine⟨m+1,v2,Y2,D2,rfl,by rw [HE.out.1],by rw [HE.out.1];exact hgt,HAn.out,HE.out.2.2,HBy.out,?_,HFr.out⟩
      rw [HE.out.2.1];exact HW3.out
     case measure=>simp [intOf];omega
  ·have hc:¬((n:Int) - ((m*d:Nat):Int) > 0):=by omega
   have hz:n - m*d=0:=by omega
   rw [hz] at hW
   have HE:=ac (And.intro hByt (And.intro hW hFr))
   generalize (n:Int) - ((m*d:Nat):Int)=t at *
   have hc2:¬((0:Int)<t):=by omega
   clear hAns hByt hW hFr hto hY
   go_wp2
   go_end0
   exact⟨rfl,D',HE.out⟩

def fig (d:Nat):Nat:=[48,49,50,51,52,53,54,55,56,57,97,98,99,100,101,102,103,104,105,106,107,108,109,110,111,112,113,114,115,116,117,118,119,120,121,122].getD d 0

theorem iW (d:Nat):fig d<128:=by
 rcases Nat.lt_or_ge d 36 with h|h
 ·have:∀d:Fin 36,fig d.1<128:=by decide +kernel
  exact this ⟨d,h⟩
 ·unfold fig;rw [List.getD,List.getElem?_eq_none (by simpa using h)];decide

theorem oI (d:Nat)(h:d<(ByteArray.mk #[48,49,50,51,52,53,54,55,56,57,97,98,99,100,101,102,103,104,105,106,107,108,109,110,111,112,113,114,115,116,117,118,119,120,121,122]).size):(ByteArray.mk #[48,49,50,51,52,53,54,55,56,57,97,98,99,100,101,102,103,104,105,106,107,108,109,110,111,112,113,114,115,116,117,118,119,120,121,122])[d].toNat=fig d:=by
 have key:∀d:Fin 36,((ByteArray.mk #[48,49,50,51,52,53,54,55,56,57,97,98,99,100,101,102,103,104,105,106,107,108,109,110,111,112,113,114,115,116,117,118,119,120,121,122])[d.1]'(d.2)).toNat=fig d.1:=by decide +kernel
 exact key ⟨d,h⟩

def aL (L:List Nat):ByteArray:=L.foldl (fun r n=>r.push (UInt8.ofNat n)) ByteArray.empty

theorem iL (L:List Nat):∀r:ByteArray,((L.map fun n=>((n:Nat):Int)).foldl (fun r n=>r.push (UInt8.ofNat n.toNat)) r)=L.foldl (fun r n=>r.push (UInt8.ofNat n)) r:=by
 induction L with
 | nil=>intro r;rfl
 | cons a l ih=>intro r;simp only [List.map_cons,List.foldl_cons,Int.toNat_natCast];exact ih _

theorem nC (gd cap:Nat)(D:List Nat)(w:World)(hd:Byt w gd D) :
  (convert 92 9 (.slice (some ⟨gd,0,none⟩) D.length cap)).run Tryz.prog w=.ok (.string (aL D)) w:=by
 rw [run_convert_bytes_string w 92 9 5 _ _ _ Tryz.underlying92 Tryz.underlying5 Tryz.underlying9]
 rw [run_bytesToString w _ D.length cap (D.map fun n=>((n:Nat):Int)) ?_,iL]
 ·rfl
 ·have h:=run_loadCells_list (P:=Tryz.prog) (w:=w) ⟨gd,0,none⟩ (D.map bv) (fun j v hj=>by
   rw [List.getElem?_map] at hj
   rcases hh:D[j]? with _|z
   ·rw [hh] at hj;cases hj
   ·rw [hh] at hj
    have hjl:j<D.length:=by
     rcases Nat.lt_or_ge j D.length with h|h
     ·exact h
     ·rw [List.getElem?_eq_none h] at hh;cases hh
    have:=hd.cell j hjl
    have e:D.getD j 0=z:=by rw [List.getD,hh];rfl
    rw [e] at this
    simp only [Option.map_some,Option.some.injEq] at hj
    rw [←hj]
    by_cases h0:j=0
    ·subst h0;simpa [Addr.add,bv] using this
    ·simpa [Addr.add,bv,h0] using this)
  rw [List.length_map] at h
  rw [h,List.map_map]
  rfl

theorem oA (gd cap:Nat)(D:List Nat)(w:World)(hd:Byt w gd D)(h36:∀d ∈ D,d<36)(hc:D.length≤cap)(hcm:cap≤9223372036854775807) :
  Calls Tryz.prog 72 #[.slice (some ⟨gd,0,none⟩) D.length cap] w fun e w'=>e=.returned (.string (aL (D.map fig)))∧Fr gd w w':=by
 have HD:=ac hd
 clear hd
 go_enter Tryz.func72,Tryz.ntmps72
 go_wp2
 go_loopw [7] (fun i wr=>∃(k:Nat) (D':List Nat),k≤D.length∧i=.int .i64 k∧Byt wr gd D'∧D'=(D.take k).map fig ++ D.drop k∧Fr gd w wr) (fun i _=>D.length - (intOf i).toNat)
 case atStart=>exact⟨0,D,Nat.zero_le _,rfl,HD.out,by simp,Fr.refl _ _⟩
 case round=>
  obtain⟨k,D',hk,rfl,hB,hD',hF⟩:=hrel
  clear HD
  have hlen:D'.length=D.length:=by rw [hD'];simp;omega
  by_cases hkl:k<D.length
  ·have e1:D.drop k=D.getD k 0 :: D.drop (k+1):=by
    rw [List.drop_eq_getElem_cons hkl,List.getD,List.getElem?_eq_getElem hkl];rfl
   have e2:D'.getD k 0=D.getD k 0:=by
    rw [hD',List.getD,List.getElem?_append_right (by simp;omega)]
    simp [e1,Nat.min_eq_left (Nat.le_of_lt hkl)]
   have hset:D'.set k (fig (D.getD k 0))=(D.take (k+1)).map fig ++ D.drop (k+1):=by
    have hA:((D.take k).map fig).length=k:=by simp;omega
    have e3:D.take (k+1)=D.take k ++ [D.getD k 0]:=by rw [List.take_add_one,List.getD,List.getElem?_eq_getElem hkl];rfl
    rw [hD',List.set_append_right _ _ (by omega),hA,Nat.sub_self,e1,List.set_cons_zero,e3,List.map_append,List.append_assoc]
    rfl
   have h36k:D.getD k 0<36:=h36 _ (by rw [List.getD,List.getElem?_eq_getElem hkl];exact List.getElem_mem _)
   have hco:=hB.cell k (by omega)
   have hfr:=hB.free k
   rw [e2] at hco
   have hfl:=iW (D.getD k 0)
   have hfa:=oI (D.getD k 0) h36k
   have HS:=ac hset
   have HB:=ac hB
   have HF:=ac hF
   generalize D.getD k 0=d at *
   clear hB hF hset hD' e1 e2
   go_wp2
   go_roundw
   case rel=>exact⟨k+1,D'.set k (fig d),by omega,by go_num,HB.out.set _ _,HS.out,HF.out.setCell _ _⟩
   case measure=>simp [intOf];omega
  ·have ek:k=D.length:=by omega
   subst ek
   have e1:D'=D.map fig:=by rw [hD'];simp
   subst e1
   have HC:=nC gd cap _ wr hB
   rw [List.length_map] at HC
   have HF:=ac hF
   clear hB hF hD'
   go_wp2
   go_ret
   exact⟨rfl,HF.out⟩

theorem jW (b:Nat)(h1:2≤b)(h2:b≤36):∃t,aT b t∧t≤5:=by
 have key:∀x:Fin 37,2≤x.1→∃t:Fin 6,x.1 % 2 ^ t.1=0∧x.1 / 2 ^ t.1 % 2=1:=by decide +kernel
 obtain⟨t,h3,h4⟩:=key ⟨b,by omega⟩ h1
 exact⟨t.1,⟨h3,h4⟩,by omega⟩

theorem tzb (b t:Nat)(w:World)(hb:b≤36)(h:aT b t)(hT:Tab w):Calls Tryz.prog 108 #[.int .u64 b] w fun e w'=>e=.returned (.int .i64 t)∧w'=w:=by
 have H:=ik b t w (by omega) h hT
 clear hT h
 go_enter Tryz.func108,Tryz.ntmps108
 go_wp2_with fail
 refine H.mono ?_
 rintro e wn ⟨rfl,hw⟩;rw [hw];clear hw wn H
 go_wp2
 go_ret
 exact⟨rfl,rfl⟩

theorem p6 {a L t:Nat}(h1:2 ^ (L - 1)≤a)(h2:a<2 ^ L)(hL:1≤L)(ht:1≤t):aN (2 ^ t) a ((L+t - 1) / t):=by
 have d:=Nat.div_add_mod (L+t - 1) t
 have m:=Nat.mod_lt (L+t - 1) (show 0<t by omega)
 obtain⟨n,hn⟩:∃n,(L+t - 1) / t=n:=⟨_,rfl⟩
 rw [hn] at d ⊢
 have hn1:1≤n:=by
  rcases Nat.eq_zero_or_pos n with h|h
  ·rw [h] at d;omega
  ·exact h
 obtain⟨k,rfl⟩:∃k,n=k+1:=⟨n - 1,by omega⟩
 rw [Nat.mul_succ] at d
 refine⟨by omega,?_,.inr ?_⟩
 ·rw [←Nat.pow_mul,Nat.mul_succ]
  exact Nat.lt_of_lt_of_le h2 (Nat.pow_le_pow_right (by omega) (by omega))
 ·rw [←Nat.pow_mul,Nat.add_sub_cancel]
  exact Nat.le_trans (Nat.pow_le_pow_right (by omega) (by omega)) h1

def iA (b a:Nat)(w:World)(e:Ending)(w':World):Prop:=∃n:Nat,e=.returned (.int .i64 n)∧aN b a n∧Below w.heap.size w w'

theorem mE (va:Value)(X:List Nat)(b:Nat)(w:World)(hA:Arg w va X)(hT:Tab w)(hb:2≤b)(hb2:b≤36)
  (HE:64<blen (val X)→Calls Tryz.prog 111 #[va,.int .u64 b] w fun e w'=>∃n:Nat,e=.returned (.int .i64 n)∧b ^ n≤val X∧val X<b ^ (n+1)∧n≤1152921504606846976∧Below w.heap.size w w') :
  Calls Tryz.prog 86 #[va,.int .i64 b] w (iA b (val X) w):=by
 obtain⟨t,htl,ht5⟩:=jW b hb hb2
 have L1:=aM va X w hA
 have T1:=tzb b t w hb2 htl hT
 have S1:=oz va X w hA
 have hfew:blen (val X)≤64*X.length:=(blen_le_iff _ _).2 (by rw [Nat.pow_mul];exact val_lt hA.limbs)
 have hXl:=hA.few
 obtain⟨L,hL⟩:∃L,blen (val X)=L:=⟨_,rfl⟩
 have hup:val X<2 ^ L:=(blen_le_iff _ _).1 (by omega)
 rw [hL] at L1 HE hfew
 by_cases hs:L≤64
 ·have hv64:val X<18446744073709551616:=Nat.lt_of_lt_of_le hup (Nat.pow_le_pow_right (n:=2) (by omega) hs)
  have ht:(tr X).length≤1:=aO X 1 (by rw [Nat.pow_one];exact hv64)
  rw [if_pos ht,decide_eq_true ht] at S1
  have hg:(tr X).getD 0 0=val X:=by
   have h2:=val_tr X
   match h:tr X,ht,h2 with
   | [],_,h2=>simpa [val] using h2
   | [a],_,h2=>simpa [val] using h2
   | a :: b :: c,h1,_=>simp at h1
  rw [hg] at S1
  have C1:=oF (val X) b w hb hb2 hv64
  have hs':(L:Int)≤64:=by omega
  clear hA hT ht hg HE hup hL
  generalize val X=x at *
  go_enter Tryz.func86,Tryz.ntmps86
  go_wp2_with fail
  refine L1.mono ?_
  rintro e wn ⟨rfl,hw⟩;rw [hw];clear hw wn L1
  go_wp2_with fail
  refine T1.mono ?_
  rintro e wn ⟨rfl,hw⟩;rw [hw];clear hw wn T1
  go_wp2_with fail
  refine S1.mono ?_
  rintro e wn ⟨rfl,hw⟩;rw [hw];clear hw wn S1
  go_wp2_with fail
  refine C1.mono ?_
  rintro e wn ⟨n,rfl,hn,hw⟩;rw [hw];clear hw wn C1
  have HN:=ac hn
  clear hn
  go_wp2
  go_ret
  exact⟨n,rfl,HN.out,Below.refl _ _⟩
 ·have hs':¬((L:Int)≤64):=by omega
  have hlo:2 ^ (L - 1)≤val X:=by
   rcases Nat.lt_or_ge (val X) (2 ^ (L - 1)) with h|h
   ·have:=(blen_le_iff _ _).2 h;omega
   ·exact h
  have hp:2 ^ t≤32:=Nat.pow_le_pow_right (n:=2) (j:=5) (by omega) ht5
  have h2t:(2:Int) ^ t=((2 ^ t:Nat):Int):=by simp
  have t64:t<64:=by omega
  by_cases hbt:b=2 ^ t
  ·have ht1:1≤t:=by
    rcases Nat.eq_zero_or_pos t with h|h
    ·subst h;simp at hbt;omega
    ·exact h
   have hd:=p6 hlo hup (by omega) ht1
   rw [←hbt] at hd h2t hp
   have HN:=ac hd
   obtain⟨q,hq,hqi⟩:∃q:Nat,(L+t - 1) / t=q∧((L+t - 1:Nat):Int).tdiv (t:Int)=(q:Int):=⟨(L+t - 1) / t,rfl,rfl⟩
   have e1:(L:Int)+(t:Int) - 1=((L+t - 1:Nat):Int):=by omega
   have hql:q≤L+t - 1:=by rw [←hq];exact Nat.div_le_self _ _
   have htz:((t:Int) == 0)=false:=by rw [beq_eq_false_iff_ne];omega
   have HQ:=ac hq
   clear hA hT HE hup hL hlo hd hbt htl S1 hq
   generalize L+t - 1=L' at *
   generalize val X=x at *
   go_enter Tryz.func86,Tryz.ntmps86
   go_wp2_with fail
   refine L1.mono ?_
   rintro e wn ⟨rfl,hw⟩;rw [hw];clear hw wn L1
   go_wp2_with fail
   refine T1.mono ?_
   rintro e wn ⟨rfl,hw⟩;rw [hw];clear hw wn T1
   go_wp2
   go_ret
   exact⟨q,rfl,by have:=HN.out;rw [HQ.out] at this;exact this,Below.refl _ _⟩
  ·have hne:¬((b:Int)=((2 ^ t:Nat):Int)):=by omega
   have hnb:((b:Int) == ((2 ^ t:Nat):Int))=false:=by rw [beq_eq_false_iff_ne];exact hne
   have HX:=HE (by omega)
   clear hA hT HE hup hL hlo htl S1
   generalize val X=x at *
   generalize 2 ^ t=tp at *
   go_enter Tryz.func86,Tryz.ntmps86
   go_wp2_with fail
   refine L1.mono ?_
   rintro e wn ⟨rfl,hw⟩;rw [hw];clear hw wn L1
   go_wp2_with fail
   refine T1.mono ?_
   rintro e wn ⟨rfl,hw⟩;rw [hw];clear hw wn T1
   go_wp2_with fail
   refine HX.mono ?_
   rintro e w2 ⟨n,rfl,hn1,hn2,hn3,hb2'⟩
   have HN:=ac (And.intro hn1 (And.intro hn2 hb2'))
   clear hn1 hn2 hb2' HX
   go_wp2
   go_ret
   exact⟨n+1,by simp,⟨by omega,HN.out.2.1,.inr (by rw [Nat.add_sub_cancel];exact HN.out.1)⟩,HN.out.2.2⟩

def fv (b a:Nat)(w:World)(e:Ending)(w':World):Prop:=
 ∃(gd:Nat) (D:List Nat),e=.returned (.slice (some ⟨gd,0,none⟩) D.length D.length)∧w.heap.size≤gd∧Byt w' gd D∧aN b a D.length∧D.length≤9223372036854775807∧(∀i,i<D.length→D.getD i 0=a / b ^ (D.length - 1 - i) % b)∧Below w.heap.size w w'

theorem fv.small {b a:Nat}{D:List Nat}(hb:0<b)(hb2:b≤36)(h:∀i,i<D.length→D.getD i 0=a / b ^ (D.length - 1 - i) % b):∀d ∈ D,d<36:=by
 intro d hd
 obtain⟨i,hi,rfl⟩:=List.getElem_of_mem hd
 have h1:=h i hi
 rw [List.getD,List.getElem?_eq_getElem hi] at h1
 have h2:a / b ^ (D.length - 1 - i) % b<b:=Nat.mod_lt _ hb
 have h3:D[i]=a / b ^ (D.length - 1 - i) % b:=h1
 omega

def oc (b a:Nat)(w:World)(e:Ending)(w':World):Prop:=
 ∃D:List Nat,e=.returned (.tuple #[.string (aL (D.map fig)),.int .i64 0])∧aN b a D.length∧(∀i,i<D.length→D.getD i 0=a / b ^ (D.length - 1 - i) % b)∧Below w.heap.size w w'

theorem gE (va:Value)(a b:Nat)(w:World)(hb:2≤b)(hb2:b≤36)(HW:Calls Tryz.prog 73 #[va,.int .i64 b] w (fv b a w)) :
  Calls Tryz.prog 48 #[va,.int .i64 b] w (oc b a w):=by
 have HI:=mN b w hb hb2
 go_enter Tryz.func48,Tryz.ntmps48
 go_wp2_with fail
 refine HI.mono ?_
 rintro e wn ⟨rfl,hw⟩;rw [hw];clear hw wn HI
 go_wp2_with fail
 refine HW.mono ?_
 rintro e w1 ⟨g,D,rfl,hg,hd,hn,hm,hdig,hbe⟩
 have HT:=oA g D.length D w1 hd (fv.small (by omega) hb2 hdig) (Nat.le_refl _) hm
 have hgl:=hd.lt
 have HB:=ac hbe
 have HE:=ac (And.intro hn hdig)
 clear HW hd hbe hn hdig
 go_wp2_with fail
 refine HT.mono ?_
 rintro e w2 ⟨rfl,hf⟩
 have HB2:=ac (HB.out.trans (hf.below (base:=w.heap.size) hg (by have:=HB.out.size;omega)))
 clear HT hf
 go_wp2
 go_returns
 exact⟨D,rfl,HE.out.1,HE.out.2,HB2.out⟩
end Go.Proofs.YtplegacjglaenaaGreatDoor
namespace Go.Proofs.YtplegacjglaenaaGreatDoor
open Go.RowKit
open Lm

def digs (b:Nat):Nat→Nat→List Nat
 | 0,_=>[]
 | n+1,x=>x / b ^ n % b :: digs b n x

theorem cJ (b n x:Nat):(digs b n x).length=n:=by
 induction n with
 | zero=>rfl
 | succ n ih=>simp [digs,ih]

theorem qO (b n x:Nat):∀i,i<n→(digs b n x).getD i 0=x / b ^ (n - 1 - i) % b:=by
 induction n with
 | zero=>intro i h;omega
 | succ n ih=>
  intro i h
  cases i with
  | zero=>simp [digs]
  | succ i=>
   rw [show n+1 - 1 - (i+1)=n - 1 - i by omega]
   simpa [digs] using ih i (by omega)

theorem f9 {b n x:Nat}{D:List Nat}(hl:D.length=n)(h:∀i,i<D.length→D.getD i 0=x / b ^ (D.length - 1 - i) % b):D=digs b n x:=by
 apply List.ext_getElem?
 intro i
 rcases Nat.lt_or_ge i n with hi|hi
 ·have h1:=h i (by omega)
  have h2:=qO b n x i hi
  rw [hl] at h1
  have e1:D.getD i 0=D[i]:=by simp [List.getD,show i<D.length by omega]
  have e2:(digs b n x).getD i 0=(digs b n x)[i]'(by rw [cJ];omega):=by simp [List.getD,show i<(digs b n x).length by rw [cJ];omega]
  rw [List.getElem?_eq_getElem (by omega),List.getElem?_eq_getElem (by rw [cJ];omega),←e1,←e2,h1,h2]
 ·rw [List.getElem?_eq_none (by omega),List.getElem?_eq_none (by rw [cJ];omega)]

def sgn (d:Nat):UInt8:=UInt8.ofNat (fig d)

theorem iQ (L:List Nat):∀r:ByteArray,(L.foldl (fun r n=>r.push (UInt8.ofNat n)) r).data.toList=r.data.toList ++ L.map UInt8.ofNat:=by
 induction L with
 | nil=>intro r;simp
 | cons a l ih=>intro r;rw [List.foldl_cons,ih];simp [ByteArray.push]

theorem iC (L:List Nat):(aL (L.map fig)).data.toList=L.map sgn:=by
 rw [aL,iQ,List.map_map]
 rfl

theorem iv (n:Int)(w:World)(h0:0≤n)(h1:n≤1099511627776) :
  Calls Tryz.prog 159 #[.int .i64 n] w fun e w'=>e=.returned (.bool true)∧w'=w:=by
 go_enter Tryz.func159,Tryz.ntmps159
 go_wp2
 go_ret
 exact⟨rfl,rfl⟩

theorem lh (v:Value)(zs:List Nat)(n:Nat)(w:World)(h1:Arg w v zs)(f1:zs.length≤35184372088831)(hn:n≤1099511627776) :
  Calls Tryz.prog 144 #[v,.int .i64 n] w fun e w'=>Below w.heap.size w w'∧Res w' w.heap.size e (val zs*2 ^ n):=by
 obtain⟨a1,c1,rfl,hc1,hm1,hl1⟩:=h1.form
 have H0:=iv n w (by omega) (by omega)
 have H1:=bT a1 c1 zs w hc1 hm1 hl1
 have l1:=tr_length_le zs
 have L1:=hl1.tr
 have M1:=limbs_tr h1.limbs
 have ht:=h1.trim
 have H2:=aM _ _ _ ht
 obtain⟨i0,hi,hz0,hz1,hz2⟩:=info_parts Tryz.infoU
 by_cases h0:tr zs=[]
 ·have hv:val zs=0:=by rw [←val_tr,h0];rfl
  have hln:(tr zs).length=0:=by rw [h0];rfl
  rw [hln] at H1
  clear H2 hi hz0 hz1 hz2 L1 M1 ht hl1 h1 h0 hln
  have HV:Hid (val zs=0):=hv
  clear hv
  go_enter Tryz.func144,Tryz.ntmps144
  go_wp2_with fail
  refine H0.mono ?_
  rintro e w' ⟨rfl,rfl⟩
  go_wp2_with fail
  refine H1.mono ?_
  rintro e w' ⟨rfl,rfl⟩
  clear H0 H1
  go_wp2
  go_ret2
  rw [HV.out,Nat.zero_mul]
  exact⟨Below.refl _ _,_,_,[],rfl,Ans.nil _ _,.inl ⟨rfl,rfl,rfl,by simp [blen]⟩⟩
 ·have hpos:0<(tr zs).length:=List.length_pos_iff.2 h0
  have hvz:val zs≠0:=fun hv=>h0 (val_zero (tr_tr zs) (by rw [val_tr];exact hv))
  rw [val_tr] at H2
  rcases L1 with h' | ⟨b,off,rfl,hcell⟩
  ·exact absurd h' h0
  ·have hln:(((tr zs).length:Int) == 0)=false:=by rw [beq_eq_false_iff_ne];omega
   have HBL:Hid (blen (val zs*2 ^ n)=blen (val zs)+n):=blen_shl _ _ hvz
   have hbm:blen (val zs)≤zs.length*64:=(blen_le_iff _ _).2 (by have:=val_lt h1.limbs;rwa [W_pow] at this)
   by_cases hbig:blen (val zs)+n≤67108864
   ·have hbz:(tr zs).length≤1048576:=few_limbs zs 1048576 (by omega)
    have HVT:Hid (val (tr zs)=val zs):=val_tr zs
    generalize tr zs=Z at *
    obtain⟨q,s,hs,hnq⟩:∃q s,s<64∧n=q*64+s:=⟨n / 64,n % 64,by omega,by omega⟩
    have eq1:(n:Int) / 64=(q:Int):=by omega
    have eq2:(n:Int) % 64=(s:Int):=by omega
    have HN:Hid (n=q*64+s):=hnq
    have hq:q≤1048576:=by omega
    clear hnq
    clear hl1 h1 ht hvz h0
    go_enter Tryz.func144,Tryz.ntmps144
    go_wp2_with fail
    refine H0.mono ?_
    rintro e w' ⟨rfl,rfl⟩
    go_wp2_with fail
    refine H1.mono ?_
    rintro e w' ⟨rfl,rfl⟩
    go_wp2_with fail
    refine H2.mono ?_
    rintro e w' ⟨rfl,rfl⟩
    clear H0 H1 H2
    go_wp2_with (at_make;refine wpList_make_full _ rfl _ _ 24 rfl w'.heap.size 51 i0 (.int .u64 0) 1 Tryz.underlying24 hi hz0 hz1 .i64 .i64 _ _ (q+Z.length+1) rfl rfl (by omega) (by omega) (by rw [hz2];omega) (by unfold maxLen;omega) (Nat.le_refl _) ?_;intro w1 hown hgrow)
    have hb1:=Blk.made hown
    have hbel:Below w'.heap.size w' w1:=(Below.refl _ _).grown hgrow (Nat.le_refl _) (fun k hk=>by cases hk)
    clear hown hgrow hi hz0 hz1 hz2
    go_loopw [9,36] (fun c i wr=>∃(k cy:Nat) (out:List Nat),k≤Z.length∧i=.int .i64 k∧c=.int .u64 cy∧cy<2 ^ s∧out.length=q+Z.length+1∧Limbs out∧Blk wr w'.heap.size out∧Below w'.heap.size w' wr ∧
      val (out.take (q+k))+cy*18446744073709551616 ^ (q+k)=val (Z.take k)*2 ^ n) (fun _ i _=>Z.length - (intOf i).toNat)
    case atStart=>exact⟨0,0,_,Nat.zero_le _,rfl,rfl,Nat.two_pow_pos s,by simp,limbs_replicate _,hb1,hbel,by rw [List.take_replicate,val_replicate];simp [val]⟩
    case round=>
     obtain⟨k,cy,out,hk,rfl,rfl,hcy,hlen,hlo,hblk,hbl,hval⟩:=hrel
     clear hb1 hbel
     have HV:Hid (val (out.take (q+k))+cy*18446744073709551616 ^ (q+k)=val (Z.take k)*2 ^ n):=hval
     have HCY:Hid (cy<2 ^ s):=hcy
     have HB:Hid (Blk wr w'.heap.size out):=hblk
     have HL:Hid (Below w'.heap.size w' wr):=hbl
     have hcw:cy<18446744073709551616:=Nat.lt_of_lt_of_le hcy (by rw [show (18446744073709551616:Nat)=2 ^ 64 from rfl];exact Nat.pow_le_pow_right (by omega) (by omega))
     clear hval hcy
     by_cases hkl:k<Z.length
     ·have hbw:b<w'.heap.size:=au.block (zs:=Z) (.inr ⟨b,off,rfl,hcell⟩) hpos
      have hck:wr.cell? ⟨b,off+k,none⟩=some (.int .u64 ((Z.getD k 0:Nat):Int)):=by rw [hbl.cell (p:=⟨b,off+k,none⟩) hbw];exact hcell k hkl
      have hfr:=hblk.free (q+k)
      have hco:=hblk.cell (q+k) (by omega)
      generalize out.getD (q+k) 0=o at *
      have hne1:¬b=w'.heap.size:=by omega
      have hne2:¬w'.heap.size=b:=by omega
      have z1:=limb_lt M1 k
      have hst:=left_step Z out q s k cy n (by omega) HN.out (by omega) HV.out
      generalize Z.getD k 0=x at *
      have HS:Hid (val ((out.set (q+k) (shl x s cy)).take (q+(k+1)))+x / 2 ^ (64 - s)*18446744073709551616 ^ (q+(k+1))=val (Z.take (k+1))*2 ^ n):=hst
      clear hst hblk hbl HV hcell
      go_wp2
      go_roundw
      case rel=>
       rw [walk_shl x s cy (by omega) HCY.out,walk_shr]
       exact⟨k+1,x / 2 ^ (64 - s),out.set (q+k) (shl x s cy),by omega,by go_num,rfl,shr_lt x s (by omega) z1,by simp;omega,limbs_set hlo _ _ (shl_lt x s cy (by omega) HCY.out),HB.out.set _ _,HL.out.setCell (Nat.le_refl _) _,HS.out⟩
      case measure=>simp [intOf];omega
     ·have ek:k=Z.length:=by omega
      subst ek
      have hfr:=hblk.free (q+Z.length)
      have hco:=hblk.cell (q+Z.length) (by omega)
      generalize out.getD (q+Z.length) 0=o at *
      have hb2:=hblk.set (q+Z.length) cy
      have hlo2:=limbs_set hlo (q+Z.length) cy hcw
      have hle2:=tr_length_le (out.set (q+Z.length) cy)
      have hlies:au (wr.setCell ⟨w'.heap.size,q+Z.length,none⟩ (.int .u64 cy)) (some ⟨w'.heap.size,0,none⟩) (out.set (q+Z.length) cy):=.inr ⟨w'.heap.size,0,rfl,fun k hk=>by rw [Nat.zero_add];exact hb2.cell k hk⟩
      have hl2:(out.set (q+Z.length) cy).length=q+Z.length+1:=by simp;omega
      have HA:=bT _ (q+Z.length+1) _ _ (by omega) (by omega) hlies
      have hvl:val (out.set (q+Z.length) cy)=val zs*2 ^ n:=by
       have e1:(out.set (q+Z.length) cy).take (q+Z.length+1)=out.set (q+Z.length) cy:=List.take_of_length_le (by omega)
       rw [←e1,take_set_succ _ _ _ (by omega),Nat.mul_comm,HV.out,List.take_length,HVT.out]
      have HR:Hid (Ans (wr.setCell ⟨w'.heap.size,q+Z.length,none⟩ (.int .u64 cy)) w'.heap.size (.slice (some ⟨w'.heap.size,0,none⟩) (tr (out.set (q+Z.length) cy)).length (q+Z.length+1)) (tr (out.set (q+Z.length) cy))∧val (tr (out.set (q+Z.length) cy))=val zs*2 ^ n∧tr (tr (out.set (q+Z.length) cy))=tr (out.set (q+Z.length) cy)):=
       ⟨by rw [←hl2];exact Ans.of_blk (Nat.le_refl _) hb2 (tr_take _) hle2 (by omega) (limbs_tr hlo2),by rw [val_tr,hvl],tr_tr _⟩
      have HBel:Hid (Below w'.heap.size w' (wr.setCell ⟨w'.heap.size,q+Z.length,none⟩ (.int .u64 cy))):=hbl.setCell (Nat.le_refl _) _
      rw [hl2] at HA
      clear hvl hb2 hblk hbl HV HB HL hlo hlo2 hlies hle2
      generalize tr (out.set (q+Z.length) cy)=T at *
      go_wp2_with fail
      refine HA.mono ?_
      rintro e w2 ⟨rfl,rfl⟩
      go_wp2
      go_ret2
      exact⟨HBel.out,_,_,T,rfl,HR.out.1,.inl ⟨rfl,HR.out.2.1,HR.out.2.2,by rw [HBL.out];exact hbig⟩⟩
   ·clear hi hz0 hz1 hz2 hcell hl1 h1 ht hvz h0 M1
    go_enter Tryz.func144,Tryz.ntmps144
    go_wp2_with fail
    refine H0.mono ?_
    rintro e w' ⟨rfl,rfl⟩
    go_wp2_with fail
    refine H1.mono ?_
    rintro e w' ⟨rfl,rfl⟩
    go_wp2_with fail
    refine H2.mono ?_
    rintro e w' ⟨rfl,rfl⟩
    clear H0 H1 H2
    go_wp2
    go_ret2
    exact⟨Below.refl _ _,_,_,[],rfl,Ans.nil _ _,.inr ⟨rfl,rfl,by rw [HBL.out];omega⟩⟩

theorem o9 (b off j:Nat):(⟨b,off,none⟩:Addr).add j=⟨b,off+j,none⟩:=by
 unfold Addr.add
 split <;> simp_all
end Go.Proofs.YtplegacjglaenaaGreatDoor
namespace Go.Proofs.YtplegacjglaenaaGreatDoor
open Go.RowKit
open Lm
attribute [local go_sem ↓] Go.wp_at_zero Go.wp_at_succ

theorem Tryz.infoB:(Tryz.prog.info? 5).map (fun i=>(i.zero,i.size,i.bytes))=some (some (.int .u8 0),1,1):=by kernel_rfl

theorem gz {P:Program}(w:World)(a:Addr)(m:Mode)(f:Fn)(x y:Array Value):(store a (.func f x y) m).run P w=stored P w a (.func f x y) m:=run_store P w a _ m rfl

attribute [local go_sem] gz

theorem cI {w w':World}{g:Nat}{x:Obj}(hb:Below w.heap.size w w')(h:w.heap[g]?=some x):w'.heap[g]?=some x:=by
 rw [hb.block g (lt_of_block h)];exact h

theorem aF (w:World)(o:Obj):Below w.heap.size w (w.alloc o):=(Below.refl _ _).alloc (Nat.le_refl _) _

theorem lf {w:World}{base n g:Nat}(h:w.ownsRow base 5 1 (.slice (some ⟨g,0,none⟩) n n) n (madeCells (Value.int .u8 0).cells (n*1)).toList):w.heap[g]?=some (.cells (List.replicate n (Value.int .u8 0)).toArray 5):=by
 obtain⟨_,h2⟩:=h
 rcases h2 with ⟨h2,_⟩|⟨g',cap,cur,hv,_,hh,_,_,hs,ht⟩
 ·cases h2
 ·cases hv
  rw [hh]
  have e:cur.toList=List.replicate n (Value.int .u8 0):=by
   have:cur.toList.take (n*1)=cur.toList:=List.take_of_length_le (by simp;omega)
   rw [←this,ht]
   show (madeCells #[Value.int .u8 0] (n*1)).toList=_
   rw [toList_madeCells_one,Nat.mul_one]
  rw [←e]
end Go.Proofs.YtplegacjglaenaaGreatDoor
namespace Go.Proofs.YtplegacjglaenaaGreatDoor
open Go.RowKit
open Lm
attribute [local go_sem ↓] Go.wp_at_zero Go.wp_at_succ

theorem eo {w:World}{h:Nat}{a b:Value}{t:TypeId}(e:w.heap[h]?=some (.cells #[a,b] t)):∀k,w.frozen? ⟨h,k,none⟩=false:=fun k=>by simp [World.frozen?,e]

theorem lz1 (w:World):Calls Tryz.prog 129 #[.int .u64 1] w fun e w'=>e=.returned (.int .i64 63)∧w'=w:=
 Tryz.bits_LeadingZeros64 1 w (by omega) (by omega)

theorem nT (w:World):Calls Tryz.prog 157 #[.int .u64 1] w fun e w'=>e=.returned (.agg #[.int .u64 9223372036854775808,.int .i64 (-63)])∧Below w.heap.size w w':=by
 have HB:=ac (aF w (.cells #[.int .u64 9223372036854775808,.int .i64 (-63)] 156))
 go_enter Tryz.func157,Tryz.ntmps157
 go_wp2_with fail
 refine (lz1 _).mono ?_
 rintro e wn ⟨rfl,hw⟩;rw [hw];clear hw wn
 go_wp2
 go_returns
 exact⟨rfl,HB.out⟩

def iu (w:World)(g:Nat)(l:List (Nat × Value × Nat)):Prop:=∀(i d:Nat) (o:Value) (s:Nat),l[i]?=some (d,o,s)→w.cell? ⟨g,i*3,none⟩=some (.int .i64 d)∧w.cell? ⟨g,i*3+1,none⟩=some o∧w.cell? ⟨g,i*3+2,none⟩=some (.int .i64 s)∧d≤9223372036854775807∧s≤9223372036854775807∧∃a n c,o=.slice a n c

def bS (w:World)(v:Value)(l:List (Nat × Value × Nat)):Prop:=
 (v=.slice none 0 0∧l=[])∨∃g cap,v=.slice (some ⟨g,0,none⟩) l.length cap∧g<w.heap.size∧l.length≤cap∧cap≤9223372036854775807 ∧
  iu w g l

def gG (l:List (Nat × Value × Nat))(n:Nat)(w:World)(e:Ending)(w':World):Prop:=
 ((∃(i d:Nat) (o:Value) (s:Nat),l[i]?=some (d,o,s)∧d<n∧(∀(j d':Nat) (o':Value) (s':Nat),i<j→l[j]?=some (d',o',s')→n≤d')∧e=.returned (.tuple #[.agg #[.int .i64 d,o,.int .i64 s],.bool true])) ∨
  ((∀(j d':Nat) (o':Value) (s':Nat),l[j]?=some (d',o',s')→n≤d')∧e=.returned (.tuple #[.agg #[.int .i64 0,.slice none 0 0,.int .i64 0],.bool false])))∧Below w.heap.size w w'

theorem pp (g cap n:Nat)(l:List (Nat × Value × Nat))(w:World)(hg:g<w.heap.size)(hc:l.length≤cap)(hcm:cap≤9223372036854775807)
  (hl:iu w g l) :
  Calls Tryz.prog 89 #[.slice (some ⟨g,0,none⟩) l.length cap,.int .i64 n] w (gG l n w):=by
 obtain⟨w0,hw0⟩:∃w0,w.alloc (.cells #[.int .i64 0,.slice none 0 0,.int .i64 0] 107)=w0:=⟨_,rfl⟩
 have hb0:Below w.heap.size w w0:=by rw [←hw0];exact aF _ _
 have h0:w0.heap[w.heap.size]?=some (.cells #[.int .i64 0,.slice none 0 0,.int .i64 0] 107):=by rw [←hw0];exact heap_alloc_new ..
 have HL:=ac hl
 have HB0:=ac hb0
 have H0:=ac h0
 have HW0:=ac hw0
 clear hl hb0 h0
 go_enter Tryz.func89,Tryz.ntmps89
 go_wp2
 clear hw0
 go_loop [6] (fun i=>∃k:Nat,k≤l.length∧i=.int .i64 ((k:Int) - 1)∧∀(j d':Nat) (o':Value) (s':Nat),k≤j→l[j]?=some (d',o',s')→n≤d') (fun i=>(intOf i+1).toNat)
 case atStart=>exact⟨l.length,Nat.le_refl _,rfl,fun j d' o' s' h1 h2=>by rw [List.getElem?_eq_none h1] at h2;cases h2⟩
 case round=>
  obtain⟨k,hk,rfl,hall⟩:=hrel
  have HA:=ac hall
  clear hall
  by_cases hk0:k=0
  ·subst hk0
   obtain⟨d0,d1,d2⟩:=tri H0.out
   have hf:=aC H0.out
   have R5:=aH H0.out (u0:=.int .i64 0) (u1:=.slice none 0 0) (u2:=.int .i64 0)
   have HD:=ac (aG HB0.out (g:=w.heap.size) (u0:=.int .i64 0) (u1:=.slice none 0 0) (u2:=.int .i64 0) (Nat.le_refl _))
   go_wp2
   generalize ((w0.setCell ⟨w.heap.size,0,none⟩ (.int .i64 0)).setCell ⟨w.heap.size,1,none⟩ (.slice none 0 0)).setCell ⟨w.heap.size,2,none⟩ (.int .i64 0)=w5 at *
   obtain⟨q0,q1,q2⟩:=tri R5
   clear d0 d1 d2 hf
   refine bodyPost_ret (v:=.tuple #[.agg #[.int .i64 0,.slice none 0 0,.int .i64 0],.bool false]) (by simp [results,Tryz.results89,go_sem,q0,q1,q2]) rfl ?_
   exact⟨.inr ⟨fun j d' o' s' h=>HA.out j d' o' s' (Nat.zero_le _) h,rfl⟩,HD.out⟩
  ·obtain⟨j,rfl⟩:∃j,k=j+1:=⟨k - 1,by omega⟩
   have ej:(((j+1:Nat):Int) - 1)=(j:Int):=by omega
   rw [ej]
   have hjl:j<l.length:=by omega
   obtain⟨d,o,s,hd⟩:∃d o s,l[j]?=some (d,o,s):=⟨_,_,_,List.getElem?_eq_getElem hjl⟩
   obtain⟨c0,c1,c2,hdm,hsm,a,n',c',rfl⟩:=HL.out j d o s hd
   rw [←HB0.out.cell (p:=⟨g,j*3,none⟩) hg] at c0
   rw [←HB0.out.cell (p:=⟨g,j*3+1,none⟩) hg] at c1
   rw [←HB0.out.cell (p:=⟨g,j*3+2,none⟩) hg] at c2
   have hj0:(0:Int)≤(j:Int):=by omega
   have hjl':(j:Int)<(l.length:Int):=by omega
   by_cases hdn:d<n
   ·have hi:(d:Int)<(n:Int):=by omega
    obtain⟨d0,d1,d2⟩:=tri H0.out
    have hf:=aC H0.out
    have R5:=aH H0.out (u0:=.int .i64 d) (u1:=.slice a n' c') (u2:=.int .i64 s)
    have HD:=ac (aG HB0.out (g:=w.heap.size) (u0:=.int .i64 d) (u1:=.slice a n' c') (u2:=.int .i64 s) (Nat.le_refl _))
    have HR:=ac hd
    clear hd
    go_wp2
    generalize ((w0.setCell ⟨w.heap.size,0,none⟩ (.int .i64 d)).setCell ⟨w.heap.size,1,none⟩ (.slice a n' c')).setCell ⟨w.heap.size,2,none⟩ (.int .i64 s)=w5 at *
    obtain⟨q0,q1,q2⟩:=tri R5
    clear d0 d1 d2 hf c0 c1 c2
    refine bodyPost_ret (v:=.tuple #[.agg #[.int .i64 d,.slice a n' c',.int .i64 s],.bool true]) (by simp [results,Tryz.results89,go_sem,q0,q1,q2]) rfl ?_
    exact⟨.inl ⟨j,d,_,s,HR.out,hdn,fun i d' o' s' h1 h2=>HA.out i d' o' s' (by omega) h2,rfl⟩,HD.out⟩
   ·have hi:¬((d:Int)<(n:Int)):=by omega
    go_wp2
    go_round
    case rel=>
     refine⟨j,by omega,rfl,fun i d' o' s' h1 h2=>?_⟩
     rcases Nat.lt_or_ge j i with h3|h3
     ·exact HA.out i d' o' s' (by omega) h2
     ·obtain rfl:i=j:=by omega
      rw [hd] at h2
      cases h2
      omega
    case measure=>simp [intOf]

theorem mn (n:Nat)(w:World):Calls Tryz.prog 89 #[.slice none 0 0,.int .i64 n] w (gG [] n w):=by
 have HB:=ac (aF w (.cells #[.int .i64 0,.slice none 0 0,.int .i64 0] 107))
 go_enter Tryz.func89,Tryz.ntmps89
 go_wp2
 refine wp_loop_rounds 1 ?_
 rw [rounds_succ]
 go_wp2
 go_returns
 exact⟨.inr ⟨fun j d' o' s' h=>by simp at h,rfl⟩,HB.out⟩

theorem qQ (v:Value)(n:Nat)(l:List (Nat × Value × Nat))(w:World)(h:bS w v l):Calls Tryz.prog 89 #[v,.int .i64 n] w (gG l n w):=by
 rcases h with ⟨rfl,rfl⟩|⟨g,cap,rfl,hg,hc,hcm,hl⟩
 ·exact mn n w
 ·exact pp g cap n l w hg hc hcm hl

theorem jv (n:Nat):(Builtin.zeroCells (Value.int .u64 0).cells n).size=n:=by
 simp [Builtin.zeroCells,Value.cells]

theorem lL (n:Nat)(w:World)(hn:0<n)(hm:n≤17592186044416) :
  Calls Tryz.prog 161 #[.slice none 0 0,.int .i64 n] w fun e w'=>(∃cap,e=.returned (.slice (some ⟨w.heap.size,0,none⟩) 0 cap)∧w'.ownsRow w.heap.size 51 1 (.slice (some ⟨w.heap.size,0,none⟩) 0 cap) 0 [])∧Below w.heap.size w w':=by
 obtain⟨i0,hi,hz0,hz1,hz2⟩:=info_parts Tryz.infoU
 have i1:¬((n:Int)<0):=by omega
 have i2:(0:Int)<(n:Int):=by omega
 have HR:=Lib.run_append_nil_zeros (P:=Tryz.prog) w 24 3 24 51 i0 (.int .u64 0) .i64 .i64 Tryz.underlying24 Tryz.underlying3 hi hz0 n hn (by omega) (by omega) (by rw [hz2];omega)
 have hge:=grownCap_ge w n 0 51
 have hml:=grownCap_le_maxLen w n 0 51 (by unfold maxLen;omega)
 obtain⟨cap,hcap⟩:∃cap,grownCap w n 0 51=cap:=⟨_,rfl⟩
 rw [hcap] at HR hge hml
 obtain⟨w1,hw1⟩:∃w1,w.drew.alloc (.cells (Builtin.zeroCells (Value.int .u64 0).cells n ++ Builtin.zeroCells (Value.int .u64 0).cells (cap - n)) 51)=w1:=⟨_,rfl⟩
 have HO:Hid (w1.ownsRow w.heap.size 51 1 (.slice (some ⟨w.heap.size,0,none⟩) 0 cap) 0 []):=by
  refine⟨rfl,.inr ⟨w.heap.size,cap,_,rfl,Nat.le_refl _,by rw [←hw1];exact heap_alloc_new _ _,Nat.zero_le _,hml,?_,by simp⟩⟩
  rw [Array.size_append,jv,jv]
  omega
 have HB:Hid (Below w.heap.size w w1):=by
  rw [←hw1]
  exact (Below.refl w.heap.size w).drew.alloc (Nat.le_refl _) _
 rw [hw1] at HR
 clear hw1 hi hz0 hz1 hz2 hcap hml
 go_enter Tryz.func161,Tryz.ntmps161
 go_wp2_with (at_builtin;refine Lib.wpList_append_run _ rfl _ _ _ _ rfl _ _ rfl rfl _ _ HR ?_)
 go_wp2
 go_ret
 exact⟨⟨cap,rfl,HO.out⟩,HB.out⟩

theorem mW (gs:Nat)(ad:Addr)(c:Nat)(X:List Nat)(w:World)(hg:w.heap[gs]?=some (.cells #[.slice (some ad) X.length c,.slice none 0 0] 24))(hA:Arg w (.slice (some ad) X.length c) X)(hX:0<X.length)(hm:X.length≤17592186044416) :
  Calls Tryz.prog 146 #[.slice (some ⟨gs,0,none⟩) 2 2] w fun e w'=>(∃v',e=.returned v'∧Ans w' w.heap.size v' X)∧Below w.heap.size w w':=by
 obtain⟨i0,hi,hz0,hz1,hz2⟩:=info_parts Tryz.infoU
 have HL:=ac hA.limbs
 have c0:w.cell? ⟨gs,0,none⟩=some (.slice (some ad) X.length c):=by simp [World.cell?,hg]
 have c1:w.cell? ⟨gs,1,none⟩=some (.slice none 0 0):=by simp [World.cell?,hg]
 have HG:=ac hg
 have HA:=ac hA
 have C:=lL X.length w hX hm
 have i1:¬((X.length:Int)<0):=by omega
 clear hg hA
 go_enter Tryz.func146,Tryz.ntmps146
 go_wp2
 refine wp_loop_rounds 3 ?_
 rw [rounds_succ]
 go_wp2
 rw [rounds_succ]
 go_wp2
 rw [rounds_succ]
 go_wp2_with fail
 refine C.mono ?_
 rintro e w1 ⟨⟨cap,rfl,hown⟩,hb⟩
 have hA1:=HA.out.below hb
 have hg1:=(hb.block gs (lt_of_block HG.out)).trans HG.out
 have d0:w1.cell? ⟨gs,0,none⟩=some (.slice (some ad) X.length c):=by simp [World.cell?,hg1]
 have hnews:∀j u,(X.map lv)[j]?=some u→w1.cell? (ad.add j)=some u:=by
  intro j u hj
  obtain⟨_,_,e,_,_,hl⟩:=hA1.form
  cases e
  rcases hl with rfl|⟨b,off,he,hc⟩
  ·simp at hj
  ·cases he
   rw [List.getElem?_map] at hj
   obtain⟨z,hz,rfl⟩:=Option.map_eq_some_iff.1 hj
   have hjl:j<X.length:=(List.getElem?_eq_some_iff.1 hz).1
   have:=hc j hjl
   simp only [List.getD,hz,Option.getD_some] at this
   rw [o9]
   exact this
 have HB:=ac hb
 have HG1:=ac hg1
 have HOW:=ac hown
 have hle:=hb.size
 clear C c0 c1 hA1 hg1 hb hown HA HG1
 go_wp2
 refine wp_loop_rounds 3 ?_
 rw [rounds_succ]
 go_wp2_with (at_builtin;refine wpList_append_own _ rfl _ _ 24 rfl w.heap.size 51 i0 (.int .u64 0) 1 8 Tryz.underlying24 hi hz0 hz1 hz2 rfl (by decide) _ 0 [] rfl HOW.out ad X.length c (X.map lv) rfl (by simp) hnews (dg X) (by unfold maxLen;omega) (by omega) hle ?_;intro v' w2 hown2 hgrow _)
 rw [Nat.zero_add,List.nil_append] at hown2
 have HB2:Hid (Below w.heap.size w w2):=(HB.out).grown hgrow hle (fun g hg=>(HOW.out.lt g hg).1)
 have HO2:=ac hown2
 clear hnews d0 hgrow HOW
 have d1:w2.cell? ⟨gs,1,none⟩=some (.slice none 0 0):=by
  have hg2:=(HB2.out.block gs (lt_of_block HG.out)).trans HG.out
  simp [World.cell?,hg2]
 rw [rounds_succ]
 go_wp2_with (at_builtin;refine wpList_append_own_none rfl _ _ 24 rfl w.heap.size 51 i0 1 Tryz.underlying24 hi _ X.length (X.map lv) rfl HO2.out rfl ?_)
 rw [rounds_succ]
 go_wp2
 go_ret
 exact⟨⟨_,rfl,HO2.out,HL.out⟩,HB2.out⟩


end Go.Proofs.YtplegacjglaenaaGreatDoor
namespace Go.Proofs.YtplegacjglaenaaGreatDoor
open Go.RowKit
open Lm

def Nv (w:World)(base:Nat)(v:Value)(x:Nat):Prop:=∃rs,Ans w base v rs∧val rs=x∧tr rs=rs∧rs.length≤1048576

theorem Nv.base {w:World}{base base':Nat}{v:Value}{x:Nat}(h:Nv w base v x)(hb:base'≤base):Nv w base' v x:=by
 obtain⟨rs,h1,h2⟩:=h
 exact⟨rs,h1.base hb,h2⟩

theorem Nv.arg {w:World}{base:Nat}{v:Value}{x:Nat}(h:Nv w base v x):∃rs,Arg w v rs∧val rs=x∧tr rs=rs∧rs.length≤1048576:=by
 obtain⟨rs,h1,h2,h3,h4⟩:=h
 exact⟨rs,h1.arg (by omega),h2,h3,h4⟩

theorem Nv.of {w:World}{base:Nat}{v:Value}{rs:List Nat}{x:Nat}(h:Ans w base v rs)(hv:val rs=x)(ht:tr rs=rs)(hb:blen x≤67108864):Nv w base v x:=by
 refine⟨rs,h,hv,ht,?_⟩
 have:=few_limbs rs 1048576 (by rw [hv];omega)
 rwa [ht] at this

theorem Res.fits {w:World}{base:Nat}{e:Ending}{s:Nat}(h:Res w base e s)(hs:blen s≤67108864):∃v,e=.returned (.tuple #[v,.int .i64 0])∧Nv w base v s:=by
 obtain⟨v,c,rs,rfl,hA,h⟩:=h
 rcases h with ⟨rfl,h1,h2,h3⟩|⟨_,_,h3⟩
 ·exact⟨v,rfl,Nv.of hA h1 h2 h3⟩
 ·omega
end Go.Proofs.YtplegacjglaenaaGreatDoor
namespace Go.Proofs.YtplegacjglaenaaGreatDoor
open Go.RowKit
open Lm
attribute [local go_sem ↓] Go.wp_at_zero Go.wp_at_succ

theorem jd {x y:Nat}(h:x≤y):blen x≤blen y:=(blen_le_iff _ _).2 (Nat.lt_of_le_of_lt h ((blen_le_iff _ _).1 (Nat.le_refl _)))

theorem dF {U:List Nat}{k:Nat}(h:tr U=U)(hb:blen (val U)≤64*k):U.length≤k:=by
 have h1:=(blen_le_iff _ _).1 hb
 rw [Nat.pow_mul] at h1
 have:=aO U k h1
 rw [h] at this
 exact this

theorem kR {X:List Nat}(hX:Limbs X)(s nn:Nat)(hn:nn=min s X.length):val X=val (X.take nn)+18446744073709551616 ^ s*val (X.drop nn)∧val X / 18446744073709551616 ^ s=val (X.drop nn)∧val (X.take nn)<18446744073709551616 ^ s:=by
 have hp:0<18446744073709551616 ^ s:=Nat.pow_pos (by omega)
 have h3:val (X.take nn)<18446744073709551616 ^ s:=by
  have h:=val_lt (zs:=X.take nn) (fun z hz=>hX z (List.mem_of_mem_take hz))
  refine Nat.lt_of_lt_of_le h (Nat.pow_le_pow_right (by omega) (by simp;omega))
 have h1:val X=val (X.take nn)+18446744073709551616 ^ s*val (X.drop nn):=by
  rcases Nat.lt_or_ge X.length s with h|h
  ·have e:nn=X.length:=by omega
   rw [e,List.take_length,List.drop_length];simp [val]
  ·have e:nn=s:=by omega
   rw [e]
   have hh:=an X 0 s (X.length - s) (by omega)
   rw [show s+(X.length - s)=X.length by omega,bY] at hh
   have e1:sv X 0 s=val (X.take s):=by simp [sv,seg]
   have e2:sv X (0+s) (X.length - s)=val (X.drop s):=by
    rw [Nat.zero_add]
    unfold sv seg
    rw [List.take_of_length_le (by simp)]
   rw [hh,e1,e2]
 refine⟨h1,?_,h3⟩
 rw [h1,Nat.add_mul_div_left _ _ hp,Nat.div_eq_of_lt h3,Nat.zero_add]



theorem l7 {Z:List Nat}(h:tr Z=Z):Z=[]∨18446744073709551616 ^ (Z.length - 1)≤val Z:=by
 rcases Nat.eq_zero_or_pos Z.length with h0|h0
 ·exact .inl (List.eq_nil_of_length_eq_zero h0)
 ·have:=tr_val_ge Z (Z.length - 1) (by rw [h];omega)
  rw [h] at this
  exact .inr this

theorem mU {M:List Nat}{s u V:Nat}(hM:s+u≤M.length)(h:sv M 0 (s+u)=V)(hV:V<18446744073709551616 ^ s):sv M s u=0∧sv M 0 s=V:=by
 rw [an M 0 s u (by omega),Nat.zero_add] at h
 have h0:sv M s u=0:=by
  rcases Nat.eq_zero_or_pos (sv M s u) with h1|h1
  ·exact h1
  ·have:=Nat.mul_le_mul_left (18446744073709551616 ^ s) h1
   omega
 rw [h0,Nat.mul_zero,Nat.add_zero] at h
 exact⟨h0,h⟩

theorem ln {M M' U:List Nat}{s o V:Nat}(hl:M'.length=s+U.length)(h0:sv M 0 s=V)(hO:Out M M' o (o+U.length))(hv:sv M' o U.length=val U)(ho:o=s∨(U.length=0∧o=0)):val M'=V+18446744073709551616 ^ s*val U:=by
 rw [←bY M',hl,an M' 0 s U.length (by omega),Nat.zero_add]
 rcases ho with rfl|⟨hu,rfl⟩
 ·rw [hv,hO.sv 0 o (by omega),h0]
 ·have hU:U=[]:=List.eq_nil_of_length_eq_zero hu
  rw [hU] at hO ⊢
  rw [hO.sv 0 s (by simp),h0]
  simp [sv,seg,val]

def gM (x y n:Nat)(w:World)(e:Ending)(w':World):Prop:=
 (∃vr Q R,e=.returned (.tuple #[.slice (some ⟨w.heap.size,0,none⟩) n n,vr])∧Arg w' (.slice (some ⟨w.heap.size,0,none⟩) n n) Q∧Arg w' vr R∧val Q=x / y∧val R=x % y∧Q.length=n∧tr R=R)∧Below w.heap.size w w'

theorem fS {X:List Nat}(h:Limbs X)(hl:X.length≤1048576):blen (val X)≤67108864:=by
 have h1:blen (val X)≤64*X.length:=(blen_le_iff _ _).2 (by rw [Nat.pow_mul];exact val_lt h)
 omega

theorem jm (ao:Option Addr)(cap:Nat)(vb:Value)(y:Nat)(w:World) :
  Calls Tryz.prog 117 #[.slice ao 0 cap,vb] w (gM 0 y 0 w):=by
 obtain⟨i0,hi,hz0,hz1,hz2⟩:=info_parts Tryz.infoU
 go_enter Tryz.func117,Tryz.ntmps117
 go_wp2_with (at_make;refine wpList_make_full _ rfl _ _ 24 rfl w.heap.size 51 i0 (.int .u64 0) 1 Tryz.underlying24 hi hz0 hz1 .i64 .i64 _ _ 0 rfl rfl (by omega) (by omega) (by rw [hz2];omega) (by unfold maxLen;omega) (Nat.le_refl _) ?_;intro w1 hown hgrow)
 have hb1:=Blk.made hown
 have hbel:Below w.heap.size w w1:=(Below.refl _ _).grown hgrow (Nat.le_refl _) (fun k hk=>by cases hk)
 have HQ:Hid (Arg w1 (.slice (some ⟨w.heap.size,0,none⟩) 0 0) []):=by
  have h:=Ans.of_blk (base:=w.heap.size) (zs:=[]) (Nat.le_refl _) hb1 rfl (Nat.zero_le _) (by simp) (by intro z hz;cases hz)
  exact h.arg (by simp)
 have HN:Hid (Arg w1 (.slice none 0 0) []):=(Ans.nil w1 w.heap.size).arg (by simp)
 have HB:=ac hbel
 clear hown hgrow hb1 hbel hi hz0 hz1 hz2
 refine wp_loop_rounds 1 ?_
 rw [rounds_succ]
 go_wp2
 go_ret2
 exact⟨⟨_,[],[],rfl,HQ.out,HN.out,by simp [val],by simp [val],rfl,rfl⟩,HB.out⟩

theorem qu (b off cap:Nat)(vb:Value)(X Y:List Nat)(w:World)(hA:Arg w (.slice (some ⟨b,off,none⟩) X.length cap) X)(hB:Arg w vb Y)(hT:Tab w)(hX:0<X.length)(hl:X.length≤1048576)(hY0:val Y≠0)(hYl:Y.length≤17592186044416)(hYb:blen (val Y)≤67108864) :
  Calls Tryz.prog 117 #[.slice (some ⟨b,off,none⟩) X.length cap,vb] w (gM (val X) (val Y) X.length w):=by
 obtain⟨i0,hi,hz0,hz1,hz2⟩:=info_parts Tryz.infoU
 have hcl:X.length≤cap:=by obtain⟨_,_,e,hle,_,_⟩:=hA.form;cases e;exact hle
 have hc0:¬cap=0:=by omega
 have hmx:max ((X.length:Int) - 1048576) 0=0:=by omega
 have i1:(0:Int)<(X.length:Int):=by omega
 have hq1:blen (val X / val Y)≤67108864:=Nat.le_trans (jd (Nat.div_le_self _ _)) (fS hA.limbs hl)
 have hq2:blen (val X % val Y)≤67108864:=Nat.le_trans (jd (Nat.le_of_lt (Nat.mod_lt _ (by omega)))) hYb
 have hq3:val X / val Y<18446744073709551616 ^ X.length:=Nat.lt_of_le_of_lt (Nat.div_le_self _ _) (val_lt hA.limbs)
 have HA:=ac hA
 have HBB:=ac hB
 have HT:=ac hT
 have HQ:=ac (And.intro hq1 (And.intro hq2 hq3))
 have HY0:=ac hY0
 have HYL:=ac hYl
 clear hA hB hT hq1 hq2 hq3 hY0 hYb hYl
 go_enter Tryz.func117,Tryz.ntmps117
 go_wp2_with (at_make;refine wpList_make_full _ rfl _ _ 24 rfl w.heap.size 51 i0 (.int .u64 0) 1 Tryz.underlying24 hi hz0 hz1 .i64 .i64 _ _ X.length rfl rfl (by omega) (by omega) (by rw [hz2];omega) (by unfold maxLen;omega) (Nat.le_refl _) ?_;intro w1 hown hgrow)
 have hb1:=Blk.made hown
 have hbel:Below w.heap.size w w1:=(Below.refl _ _).grown hgrow (Nat.le_refl _) (fun k hk=>by cases hk)
 have hlt1:w.heap.size<w1.heap.size:=hb1.lt
 have HB1:=ac hb1
 have HL1:=ac hbel
 clear hown hgrow hb1 hbel hi hz0 hz1 hz2
 refine wp_loop_rounds 2 ?_
 rw [rounds_succ]
 obtain⟨w3,hw3⟩:∃W,w1.alloc (.cells #[.slice (some ⟨b,off,none⟩) X.length cap,.slice none 0 0] 24)=W:=⟨_,rfl⟩
 have hb3:Below w1.heap.size w1 w3:=by rw [←hw3];exact aF _ _
 have hx3:w3.heap[w1.heap.size]?=some (.cells #[.slice (some ⟨b,off,none⟩) X.length cap,.slice none 0 0] 24):=by rw [←hw3];exact heap_alloc_new ..
 have C1:=mW w1.heap.size ⟨b,off,none⟩ cap X w3 hx3 ((HA.out.below HL1.out).below hb3) hX (by omega)
 have HL3:=ac (HL1.out.trans (hb3.mono HL1.out.size))
 have HB3:=ac (HB1.out.below' hb3)
 clear hb3 hx3 HB1 HL1
 go_wp2_with fail
 refine C1.mono ?_
 rintro e w4 ⟨⟨v4,rfl,A4⟩,hb4⟩
 have HL4:=ac (HL3.out.trans (hb4.mono HL3.out.size))
 have HB4:=ac (HB3.out.below' hb4)
 have C2:=iy v4 vb X Y w4 (A4.arg (by omega)) (HBB.out.below HL4.out) (HT.out.below HL4.out) (by omega) HYL.out HY0.out
 clear C1 HL3 HB3 A4 hb4 hw3
 go_wp2_with fail
 refine C2.mono ?_
 rintro e w5 ⟨⟨v1,v2,c,r1,r2,mid,rfl,D1,hmid,hlt,D2,hcase⟩,hb5⟩
 rcases hcase with ⟨rfl,hv1,hn1,hv2,hn2,_,_⟩|⟨rfl,_,_,hbad⟩
 ·have hr1:r1.length≤X.length:=by
   have h:=aO r1 X.length (by rw [hv1];exact HQ.out.2.2)
   rw [hn1] at h
   exact h
  obtain⟨a5,c5,rfl,_,_,hL5⟩:=(D1.arg (by omega)).form
  have hb5':=HB4.out.below' hb5
  obtain⟨w6,M6,hcp,B6,L6,F6,O6,S6⟩:=cf w.heap.size 0 X.length X.length (List.replicate X.length 0) a5 c5 r1 w5 hb5' (limbs_replicate _) D1.limbs (bU _ _ _) (by simp) hr1 hL5
  have hl6:M6.length=X.length:=by rw [O6.len,List.length_replicate]
  have hv6:val M6=val X / val Y:=by rw [←hv1,←S6,aU hl6]
  have hbel5:Below w.heap.size w w5:=HL4.out.trans (hb5.mono HL4.out.size)
  have hbel6:Below w.heap.size w w6:=hbel5.trans (F6.below (Nat.le_refl _) hbel5.size)
  have hr2:r2.length≤1048576:=dF hn2 (by rw [hv2];exact HQ.out.2.1)
  have hA6:Arg w6 (.slice (some ⟨w.heap.size,0,none⟩) X.length X.length) M6:=by
   have h:=Ans.of_blk (base:=w.heap.size) (zs:=M6) (Nat.le_refl _) B6 List.take_length.symm (Nat.le_refl _) (by omega) L6
   rw [hl6] at h
   exact h.arg (by omega)
  have hD6:Arg w6 v2 r2:=by
   have h1:Ans w6 mid v2 r2:=by
    refine⟨?_,D2.limbs⟩
    obtain⟨q1,q2⟩:=D2.own
    refine⟨q1,?_⟩
    rcases q2 with q2|⟨g',cap',cur,hv,hg',hh,r⟩
    ·exact .inl q2
    ·have:w4.heap.size≤mid:=hmid.1
     have hs4:=HL4.out.size
     have hs5:w.heap.size<w4.heap.size:=HB4.out.lt
     exact .inr ⟨g',cap',cur,hv,hg',by rw [F6.block g' (lt_of_block hh) (by omega)];exact hh,r⟩
   exact h1.arg (by omega)
  have HF:=ac (And.intro hA6 (And.intro hD6 (And.intro hv6 (And.intro hv2 (And.intro hl6 (And.intro hn2 hbel6))))))
  clear C2 D1 D2 hmid hlt hb5 hb5' hv1 hn1 hv2 hn2 B6 L6 F6 O6 S6 hl6 hv6 hbel5 hbel6 hA6 hD6 hL5 HL4 HB4
  go_wp2
  rw [rounds_succ]
  go_wp2
  go_ret2
  exact⟨⟨_,M6,r2,rfl,HF.out.1,HF.out.2.1,HF.out.2.2.1,HF.out.2.2.2.1,HF.out.2.2.2.2.1,HF.out.2.2.2.2.2.1⟩,HF.out.2.2.2.2.2.2⟩
 ·exact absurd hbad (by have:=HQ.out;omega)

theorem kA (va vb:Value)(X Y:List Nat)(w:World)(hA:Arg w va X)(hB:Arg w vb Y)(hT:Tab w)(hl:X.length≤1048576)(hY0:val Y≠0)(hYl:Y.length≤17592186044416)(hYb:blen (val Y)≤67108864) :
  Calls Tryz.prog 117 #[va,vb] w (gM (val X) (val Y) X.length w):=by
 obtain⟨ao,cap,rfl,hcap,hmax,hL⟩:=hA.form
 rcases hL with rfl|⟨b,off,rfl,_⟩
 ·exact jm ao cap vb (val Y) w
 ·by_cases h0:X.length=0
  ·obtain rfl:=List.length_eq_zero_iff.1 h0
   exact jm _ cap vb (val Y) w
  ·exact qu b off cap vb X Y w hA hB hT (by omega) hl hY0 hYl hYb
end Go.Proofs.YtplegacjglaenaaGreatDoor

