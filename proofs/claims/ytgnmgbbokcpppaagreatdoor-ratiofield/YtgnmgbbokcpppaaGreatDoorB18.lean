/- Package numeral: count, with what exponent answers as a premise. -/
import Derived.Test.YtgnmgbbokcpppaaGreatDoorB17
import Derived.Test.YtgnmgbbokcpppaaGreatDoorB02
import Derived.Test.YtgnmgbbokcpppaaGreatDoorB01
import Derived.Laws.AppendOwnNone
import Derived.Lib.AppendZeros
import Derived.Deep.RegionHeld3
import Derived.Deep.DrawnRows
import Derived.Test.YtgnmgbbokcpppaaGreatDoorB07
import Derived.Test.YtgnmgbbokcpppaaGreatDoorB08
import Derived.BigQuiet
import Derived.Laws.Bits128
import Derived.Handy
set_option maxRecDepth 20000
set_option maxHeartbeats 4000000
namespace Go.Proofs.YtgnmgbbokcpppaaGreatDoor
open Go.RowKit
open Lm
attribute [local go_sem ↓] Go.wp_at_zero Go.wp_at_succ

theorem jl (b:Nat)(h1:2≤b)(h2:b≤36):∃t,aU b t∧t≤5:=by
 have key:∀x:Fin 37,2≤x.1→∃t:Fin 6,x.1 % 2 ^ t.1=0∧x.1 / 2 ^ t.1 % 2=1:=by decide +kernel
 obtain⟨t,h3,h4⟩:=key ⟨b,by omega⟩ h1
 exact⟨t.1,⟨h3,h4⟩,by omega⟩

theorem tzb (b t:Nat)(w:World)(hb:b≤36)(h:aU b t)(hT:Tab w):Calls Tryz.prog 147 #[.int .u64 b] w fun e w'=>e=.returned (.int .i64 t)∧w'=w:=by
 have H:=i6 b t w (by omega) h hT
 clear hT h
 go_enter Tryz.func147,Tryz.ntmps147
 go_wp2_with fail
 refine H.mono ?_
 rintro e wn ⟨rfl,hw⟩;rw [hw];clear hw wn H
 go_wp2
 go_ret
 exact⟨rfl,rfl⟩

theorem qR {a L t:Nat}(h1:2 ^ (L - 1)≤a)(h2:a<2 ^ L)(hL:1≤L)(ht:1≤t):aN (2 ^ t) a ((L+t - 1) / t):=by
 have d:=Nat.div_add_mod (L+t - 1) t
 have m:=Nat.mod_lt (L+t - 1) (show 0<t by omega)
 obtain⟨n,hn⟩:∃n,(L+t - 1) / t=n:=⟨_,rfl⟩
 rw [hn] at d ⊢
 have hn1:1≤n:=by
  rcases Nat.eq_zero_or_pos n with h|h
  ·rw [h] at d;omega
  ·exact h
 obtain⟨k,rfl⟩:∃k,n=k+1:=⟨n - 1,by omega⟩
 rw [Nat.mul_succ] at d
 refine⟨by omega,?_,.inr ?_⟩
 ·rw [←Nat.pow_mul,Nat.mul_succ]
  exact Nat.lt_of_lt_of_le h2 (Nat.pow_le_pow_right (by omega) (by omega))
 ·rw [←Nat.pow_mul,Nat.add_sub_cancel]
  exact Nat.le_trans (Nat.pow_le_pow_right (by omega) (by omega)) h1

def jV (b a:Nat)(w:World)(e:Ending)(w':World):Prop:=∃n:Nat,e=.returned (.int .i64 n)∧aN b a n∧Below w.heap.size w w'

theorem lr (va:Value)(X:List Nat)(b:Nat)(w:World)(hA:Arg w va X)(hT:Tab w)(hb:2≤b)(hb2:b≤36)
  (HE:64<blen (val X)→Calls Tryz.prog 150 #[va,.int .u64 b] w fun e w'=>∃n:Nat,e=.returned (.int .i64 n)∧b ^ n≤val X∧val X<b ^ (n+1)∧n≤1152921504606846976∧Below w.heap.size w w') :
  Calls Tryz.prog 129 #[va,.int .i64 b] w (jV b (val X) w):=by
 obtain⟨t,htl,ht5⟩:=jl b hb hb2
 have L1:=aK va X w hA
 have T1:=tzb b t w hb2 htl hT
 have S1:=qz va X w hA
 have hfew:blen (val X)≤64*X.length:=(blen_le_iff _ _).2 (by rw [Nat.pow_mul];exact val_lt hA.limbs)
 have hXl:=hA.few
 obtain⟨L,hL⟩:∃L,blen (val X)=L:=⟨_,rfl⟩
 have hup:val X<2 ^ L:=(blen_le_iff _ _).1 (by omega)
 rw [hL] at L1 HE hfew
 by_cases hs:L≤64
 ·have hv64:val X<18446744073709551616:=Nat.lt_of_lt_of_le hup (Nat.pow_le_pow_right (n:=2) (by omega) hs)
  have ht:(tr X).length≤1:=aL X 1 (by rw [Nat.pow_one];exact hv64)
  rw [if_pos ht,decide_eq_true ht] at S1
  have hg:(tr X).getD 0 0=val X:=by
   have h2:=val_tr X
   match h:tr X,ht,h2 with
   | [],_,h2=>simpa [val] using h2
   | [a],_,h2=>simpa [val] using h2
   | a :: b :: c,h1,_=>simp at h1
  rw [hg] at S1
  have C1:=mI (val X) b w hb hb2 hv64
  have hs':(L:Int)≤64:=by omega
  clear hA hT ht hg HE hup hL
  generalize val X=x at *
  go_enter Tryz.func129,Tryz.ntmps129
  go_wp2_with fail
  refine L1.mono ?_
  rintro e wn ⟨rfl,hw⟩;rw [hw];clear hw wn L1
  go_wp2_with fail
  refine T1.mono ?_
  rintro e wn ⟨rfl,hw⟩;rw [hw];clear hw wn T1
  go_wp2_with fail
  refine S1.mono ?_
  rintro e wn ⟨rfl,hw⟩;rw [hw];clear hw wn S1
  go_wp2_with fail
  refine C1.mono ?_
  rintro e wn ⟨n,rfl,hn,hw⟩;rw [hw];clear hw wn C1
  have HN:=ac hn
  clear hn
  go_wp2
  go_ret
  exact⟨n,rfl,HN.out,Below.refl _ _⟩
 ·have hs':¬((L:Int)≤64):=by omega
  have hlo:2 ^ (L - 1)≤val X:=by
   rcases Nat.lt_or_ge (val X) (2 ^ (L - 1)) with h|h
   ·have:=(blen_le_iff _ _).2 h;omega
   ·exact h
  have hp:2 ^ t≤32:=Nat.pow_le_pow_right (n:=2) (j:=5) (by omega) ht5
  have h2t:(2:Int) ^ t=((2 ^ t:Nat):Int):=by simp
  have t64:t<64:=by omega
  by_cases hbt:b=2 ^ t
  ·have ht1:1≤t:=by
    rcases Nat.eq_zero_or_pos t with h|h
    ·subst h;simp at hbt;omega
    ·exact h
   have hd:=qR hlo hup (by omega) ht1
   rw [←hbt] at hd h2t hp
   have HN:=ac hd
   obtain⟨q,hq,hqi⟩:∃q:Nat,(L+t - 1) / t=q∧((L+t - 1:Nat):Int).tdiv (t:Int)=(q:Int):=⟨(L+t - 1) / t,rfl,rfl⟩
   have e1:(L:Int)+(t:Int) - 1=((L+t - 1:Nat):Int):=by omega
   have hql:q≤L+t - 1:=by rw [←hq];exact Nat.div_le_self _ _
   have htz:((t:Int) == 0)=false:=by rw [beq_eq_false_iff_ne];omega
   have HQ:=ac hq
   clear hA hT HE hup hL hlo hd hbt htl S1 hq
   generalize L+t - 1=L' at *
   generalize val X=x at *
   go_enter Tryz.func129,Tryz.ntmps129
   go_wp2_with fail
   refine L1.mono ?_
   rintro e wn ⟨rfl,hw⟩;rw [hw];clear hw wn L1
   go_wp2_with fail
   refine T1.mono ?_
   rintro e wn ⟨rfl,hw⟩;rw [hw];clear hw wn T1
   go_wp2
   go_ret
   exact⟨q,rfl,by have:=HN.out;rw [HQ.out] at this;exact this,Below.refl _ _⟩
  ·have hne:¬((b:Int)=((2 ^ t:Nat):Int)):=by omega
   have hnb:((b:Int) == ((2 ^ t:Nat):Int))=false:=by rw [beq_eq_false_iff_ne];exact hne
   have HX:=HE (by omega)
   clear hA hT HE hup hL hlo htl S1
   generalize val X=x at *
   generalize 2 ^ t=tp at *
   go_enter Tryz.func129,Tryz.ntmps129
   go_wp2_with fail
   refine L1.mono ?_
   rintro e wn ⟨rfl,hw⟩;rw [hw];clear hw wn L1
   go_wp2_with fail
   refine T1.mono ?_
   rintro e wn ⟨rfl,hw⟩;rw [hw];clear hw wn T1
   go_wp2_with fail
   refine HX.mono ?_
   rintro e w2 ⟨n,rfl,hn1,hn2,hn3,hb2'⟩
   have HN:=ac (And.intro hn1 (And.intro hn2 hb2'))
   clear hn1 hn2 hb2' HX
   go_wp2
   go_ret
   exact⟨n+1,by simp,⟨by omega,HN.out.2.1,.inr (by rw [Nat.add_sub_cancel];exact HN.out.1)⟩,HN.out.2.2⟩

def fp (b a:Nat)(w:World)(e:Ending)(w':World):Prop:=
 ∃(gd:Nat) (D:List Nat),e=.returned (.slice (some ⟨gd,0,none⟩) D.length D.length)∧w.heap.size≤gd∧Byt w' gd D∧aN b a D.length∧D.length≤9223372036854775807∧(∀i,i<D.length→D.getD i 0=a / b ^ (D.length - 1 - i) % b)∧Below w.heap.size w w'

theorem fp.small {b a:Nat}{D:List Nat}(hb:0<b)(hb2:b≤36)(h:∀i,i<D.length→D.getD i 0=a / b ^ (D.length - 1 - i) % b):∀d ∈ D,d<36:=by
 intro d hd
 obtain⟨i,hi,rfl⟩:=List.getElem_of_mem hd
 have h1:=h i hi
 rw [List.getD,List.getElem?_eq_getElem hi] at h1
 have h2:a / b ^ (D.length - 1 - i) % b<b:=Nat.mod_lt _ hb
 have h3:D[i]=a / b ^ (D.length - 1 - i) % b:=h1
 omega

def kr (b a:Nat)(w:World)(e:Ending)(w':World):Prop:=
 ∃D:List Nat,e=.returned (.tuple #[.string (aI (D.map fig)),.int .i64 0])∧aN b a D.length∧(∀i,i<D.length→D.getD i 0=a / b ^ (D.length - 1 - i) % b)∧Below w.heap.size w w'

theorem fH (va:Value)(a b:Nat)(w:World)(hb:2≤b)(hb2:b≤36)(HW:Calls Tryz.prog 107 #[va,.int .i64 b] w (fp b a w)) :
  Calls Tryz.prog 77 #[va,.int .i64 b] w (kr b a w):=by
 have HI:=oR b w hb hb2
 go_enter Tryz.func77,Tryz.ntmps77
 go_wp2_with fail
 refine HI.mono ?_
 rintro e wn ⟨rfl,hw⟩;rw [hw];clear hw wn HI
 go_wp2_with fail
 refine HW.mono ?_
 rintro e w1 ⟨g,D,rfl,hg,hd,hn,hm,hdig,hbe⟩
 have HT:=qE g D.length D w1 hd (fp.small (by omega) hb2 hdig) (Nat.le_refl _) hm
 have hgl:=hd.lt
 have HB:=ac hbe
 have HE:=ac (And.intro hn hdig)
 clear HW hd hbe hn hdig
 go_wp2_with fail
 refine HT.mono ?_
 rintro e w2 ⟨rfl,hf⟩
 have HB2:=ac (HB.out.trans (hf.below (base:=w.heap.size) hg (by have:=HB.out.size;omega)))
 clear HT hf
 go_wp2
 go_returns
 exact⟨D,rfl,HE.out.1,HE.out.2,HB2.out⟩
end Go.Proofs.YtgnmgbbokcpppaaGreatDoor
namespace Go.Proofs.YtgnmgbbokcpppaaGreatDoor
open Go.RowKit
open Lm

def digs (b:Nat):Nat→Nat→List Nat
 | 0,_=>[]
 | n+1,x=>x / b ^ n % b :: digs b n x

theorem cF (b n x:Nat):(digs b n x).length=n:=by
 induction n with
 | zero=>rfl
 | succ n ih=>simp [digs,ih]

theorem oO (b n x:Nat):∀i,i<n→(digs b n x).getD i 0=x / b ^ (n - 1 - i) % b:=by
 induction n with
 | zero=>intro i h;omega
 | succ n ih=>
  intro i h
  cases i with
  | zero=>simp [digs]
  | succ i=>
   rw [show n+1 - 1 - (i+1)=n - 1 - i by omega]
   simpa [digs] using ih i (by omega)

theorem gK {b n x:Nat}{D:List Nat}(hl:D.length=n)(h:∀i,i<D.length→D.getD i 0=x / b ^ (D.length - 1 - i) % b):D=digs b n x:=by
 apply List.ext_getElem?
 intro i
 rcases Nat.lt_or_ge i n with hi|hi
 ·have h1:=h i (by omega)
  have h2:=oO b n x i hi
  rw [hl] at h1
  have e1:D.getD i 0=D[i]:=by simp [List.getD,show i<D.length by omega]
  have e2:(digs b n x).getD i 0=(digs b n x)[i]'(by rw [cF];omega):=by simp [List.getD,show i<(digs b n x).length by rw [cF];omega]
  rw [List.getElem?_eq_getElem (by omega),List.getElem?_eq_getElem (by rw [cF];omega),←e1,←e2,h1,h2]
 ·rw [List.getElem?_eq_none (by omega),List.getElem?_eq_none (by rw [cF];omega)]

def sgn (d:Nat):UInt8:=UInt8.ofNat (fig d)

theorem jG (L:List Nat):∀r:ByteArray,(L.foldl (fun r n=>r.push (UInt8.ofNat n)) r).data.toList=r.data.toList ++ L.map UInt8.ofNat:=by
 induction L with
 | nil=>intro r;simp
 | cons a l ih=>intro r;rw [List.foldl_cons,ih];simp [ByteArray.push]

theorem iN (L:List Nat):(aI (L.map fig)).data.toList=L.map sgn:=by
 rw [aI,jG,List.map_map]
 rfl

theorem ix (n:Int)(w:World)(h0:0≤n)(h1:n≤1099511627776) :
  Calls Tryz.prog 182 #[.int .i64 n] w fun e w'=>e=.returned (.bool true)∧w'=w:=by
 go_enter Tryz.func182,Tryz.ntmps182
 go_wp2
 go_ret
 exact⟨rfl,rfl⟩

theorem lh (v:Value)(zs:List Nat)(n:Nat)(w:World)(h1:Arg w v zs)(f1:zs.length≤35184372088831)(hn:n≤1099511627776) :
  Calls Tryz.prog 171 #[v,.int .i64 n] w fun e w'=>Below w.heap.size w w'∧Res w' w.heap.size e (val zs*2 ^ n):=by
 obtain⟨a1,c1,rfl,hc1,hm1,hl1⟩:=h1.form
 have H0:=ix n w (by omega) (by omega)
 have H1:=bY a1 c1 zs w hc1 hm1 hl1
 have l1:=tr_length_le zs
 have L1:=hl1.tr
 have M1:=limbs_tr h1.limbs
 have ht:=h1.trim
 have H2:=aK _ _ _ ht
 obtain⟨i0,hi,hz0,hz1,hz2⟩:=info_parts Tryz.infoU
 by_cases h0:tr zs=[]
 ·have hv:val zs=0:=by rw [←val_tr,h0];rfl
  have hln:(tr zs).length=0:=by rw [h0];rfl
  rw [hln] at H1
  clear H2 hi hz0 hz1 hz2 L1 M1 ht hl1 h1 h0 hln
  have HV:Hid (val zs=0):=hv
  clear hv
  go_enter Tryz.func171,Tryz.ntmps171
  go_wp2_with fail
  refine H0.mono ?_
  rintro e w' ⟨rfl,rfl⟩
  go_wp2_with fail
  refine H1.mono ?_
  rintro e w' ⟨rfl,rfl⟩
  clear H0 H1
  go_wp2
  go_ret2
  rw [HV.out,Nat.zero_mul]
  exact⟨Below.refl _ _,_,_,[],rfl,Ans.nil _ _,.inl ⟨rfl,rfl,rfl,by simp [blen]⟩⟩
 ·have hpos:0<(tr zs).length:=List.length_pos_iff.2 h0
  have hvz:val zs≠0:=fun hv=>h0 (val_zero (tr_tr zs) (by rw [val_tr];exact hv))
  rw [val_tr] at H2
  rcases L1 with h' | ⟨b,off,rfl,hcell⟩
  ·exact absurd h' h0
  ·have hln:(((tr zs).length:Int) == 0)=false:=by rw [beq_eq_false_iff_ne];omega
   have HBL:Hid (blen (val zs*2 ^ n)=blen (val zs)+n):=blen_shl _ _ hvz
   have hbm:blen (val zs)≤zs.length*64:=(blen_le_iff _ _).2 (by have:=val_lt h1.limbs;rwa [W_pow] at this)
   by_cases hbig:blen (val zs)+n≤67108864
   ·have hbz:(tr zs).length≤1048576:=few_limbs zs 1048576 (by omega)
    have HVT:Hid (val (tr zs)=val zs):=val_tr zs
    generalize tr zs=Z at *
    obtain⟨q,s,hs,hnq⟩:∃q s,s<64∧n=q*64+s:=⟨n / 64,n % 64,by omega,by omega⟩
    have eq1:(n:Int) / 64=(q:Int):=by omega
    have eq2:(n:Int) % 64=(s:Int):=by omega
    have HN:Hid (n=q*64+s):=hnq
    have hq:q≤1048576:=by omega
    clear hnq
    clear hl1 h1 ht hvz h0
    go_enter Tryz.func171,Tryz.ntmps171
    go_wp2_with fail
    refine H0.mono ?_
    rintro e w' ⟨rfl,rfl⟩
    go_wp2_with fail
    refine H1.mono ?_
    rintro e w' ⟨rfl,rfl⟩
    go_wp2_with fail
    refine H2.mono ?_
    rintro e w' ⟨rfl,rfl⟩
    clear H0 H1 H2
    go_wp2_with (at_make;refine wpList_make_full _ rfl _ _ 23 rfl w'.heap.size 62 i0 (.int .u64 0) 1 Tryz.underlying23 hi hz0 hz1 .i64 .i64 _ _ (q+Z.length+1) rfl rfl (by omega) (by omega) (by rw [hz2];omega) (by unfold maxLen;omega) (Nat.le_refl _) ?_;intro w1 hown hgrow)
    have hb1:=Blk.made hown
    have hbel:Below w'.heap.size w' w1:=(Below.refl _ _).grown hgrow (Nat.le_refl _) (fun k hk=>by cases hk)
    clear hown hgrow hi hz0 hz1 hz2
    go_loopw [9,36] (fun c i wr=>∃(k cy:Nat) (out:List Nat),k≤Z.length∧i=.int .i64 k∧c=.int .u64 cy∧cy<2 ^ s∧out.length=q+Z.length+1∧Limbs out∧Blk wr w'.heap.size out∧Below w'.heap.size w' wr ∧
      val (out.take (q+k))+cy*18446744073709551616 ^ (q+k)=val (Z.take k)*2 ^ n) (fun _ i _=>Z.length - (intOf i).toNat)
    case atStart=>exact⟨0,0,_,Nat.zero_le _,rfl,rfl,Nat.two_pow_pos s,by simp,limbs_replicate _,hb1,hbel,by rw [List.take_replicate,val_replicate];simp [val]⟩
    case round=>
     obtain⟨k,cy,out,hk,rfl,rfl,hcy,hlen,hlo,hblk,hbl,hval⟩:=hrel
     clear hb1 hbel
     have HV:Hid (val (out.take (q+k))+cy*18446744073709551616 ^ (q+k)=val (Z.take k)*2 ^ n):=hval
     have HCY:Hid (cy<2 ^ s):=hcy
     have HB:Hid (Blk wr w'.heap.size out):=hblk
     have HL:Hid (Below w'.heap.size w' wr):=hbl
     have hcw:cy<18446744073709551616:=Nat.lt_of_lt_of_le hcy (by rw [show (18446744073709551616:Nat)=2 ^ 64 from rfl];exact Nat.pow_le_pow_right (by omega) (by omega))
     clear hval hcy
     by_cases hkl:k<Z.length
     ·have hbw:b<w'.heap.size:=aq.block (zs:=Z) (.inr ⟨b,off,rfl,hcell⟩) hpos
      have hck:wr.cell? ⟨b,off+k,none⟩=some (.int .u64 ((Z.getD k 0:Nat):Int)):=by rw [hbl.cell (p:=⟨b,off+k,none⟩) hbw];exact hcell k hkl
      have hfr:=hblk.free (q+k)
      have hco:=hblk.cell (q+k) (by omega)
      generalize out.getD (q+k) 0=o at *
      have hne1:¬b=w'.heap.size:=by omega
      have hne2:¬w'.heap.size=b:=by omega
      have z1:=limb_lt M1 k
      have hst:=left_step Z out q s k cy n (by omega) HN.out (by omega) HV.out
      generalize Z.getD k 0=x at *
      have HS:Hid (val ((out.set (q+k) (shl x s cy)).take (q+(k+1)))+x / 2 ^ (64 - s)*18446744073709551616 ^ (q+(k+1))=val (Z.take (k+1))*2 ^ n):=hst
      clear hst hblk hbl HV hcell
      go_wp2
      go_roundw
      case rel=>
       rw [walk_shl x s cy (by omega) HCY.out,walk_shr]
       exact⟨k+1,x / 2 ^ (64 - s),out.set (q+k) (shl x s cy),by omega,by go_num,rfl,shr_lt x s (by omega) z1,by simp;omega,limbs_set hlo _ _ (shl_lt x s cy (by omega) HCY.out),HB.out.set _ _,HL.out.setCell (Nat.le_refl _) _,HS.out⟩
      case measure=>simp [intOf];omega
     ·have ek:k=Z.length:=by omega
      subst ek
      have hfr:=hblk.free (q+Z.length)
      have hco:=hblk.cell (q+Z.length) (by omega)
      generalize out.getD (q+Z.length) 0=o at *
      have hb2:=hblk.set (q+Z.length) cy
      have hlo2:=limbs_set hlo (q+Z.length) cy hcw
      have hle2:=tr_length_le (out.set (q+Z.length) cy)
      have hlies:aq (wr.setCell ⟨w'.heap.size,q+Z.length,none⟩ (.int .u64 cy)) (some ⟨w'.heap.size,0,none⟩) (out.set (q+Z.length) cy):=.inr ⟨w'.heap.size,0,rfl,fun k hk=>by rw [Nat.zero_add];exact hb2.cell k hk⟩
      have hl2:(out.set (q+Z.length) cy).length=q+Z.length+1:=by simp;omega
      have HA:=bY _ (q+Z.length+1) _ _ (by omega) (by omega) hlies
      have hvl:val (out.set (q+Z.length) cy)=val zs*2 ^ n:=by
       have e1:(out.set (q+Z.length) cy).take (q+Z.length+1)=out.set (q+Z.length) cy:=List.take_of_length_le (by omega)
       rw [←e1,take_set_succ _ _ _ (by omega),Nat.mul_comm,HV.out,List.take_length,HVT.out]
      have HR:Hid (Ans (wr.setCell ⟨w'.heap.size,q+Z.length,none⟩ (.int .u64 cy)) w'.heap.size (.slice (some ⟨w'.heap.size,0,none⟩) (tr (out.set (q+Z.length) cy)).length (q+Z.length+1)) (tr (out.set (q+Z.length) cy))∧val (tr (out.set (q+Z.length) cy))=val zs*2 ^ n∧tr (tr (out.set (q+Z.length) cy))=tr (out.set (q+Z.length) cy)):=
       ⟨by rw [←hl2];exact Ans.of_blk (Nat.le_refl _) hb2 (tr_take _) hle2 (by omega) (limbs_tr hlo2),by rw [val_tr,hvl],tr_tr _⟩
      have HBel:Hid (Below w'.heap.size w' (wr.setCell ⟨w'.heap.size,q+Z.length,none⟩ (.int .u64 cy))):=hbl.setCell (Nat.le_refl _) _
      rw [hl2] at HA
      clear hvl hb2 hblk hbl HV HB HL hlo hlo2 hlies hle2
      generalize tr (out.set (q+Z.length) cy)=T at *
      go_wp2_with fail
      refine HA.mono ?_
      rintro e w2 ⟨rfl,rfl⟩
      go_wp2
      go_ret2
      exact⟨HBel.out,_,_,T,rfl,HR.out.1,.inl ⟨rfl,HR.out.2.1,HR.out.2.2,by rw [HBL.out];exact hbig⟩⟩
   ·clear hi hz0 hz1 hz2 hcell hl1 h1 ht hvz h0 M1
    go_enter Tryz.func171,Tryz.ntmps171
    go_wp2_with fail
    refine H0.mono ?_
    rintro e w' ⟨rfl,rfl⟩
    go_wp2_with fail
    refine H1.mono ?_
    rintro e w' ⟨rfl,rfl⟩
    go_wp2_with fail
    refine H2.mono ?_
    rintro e w' ⟨rfl,rfl⟩
    clear H0 H1 H2
    go_wp2
    go_ret2
    exact⟨Below.refl _ _,_,_,[],rfl,Ans.nil _ _,.inr ⟨rfl,rfl,by rw [HBL.out];omega⟩⟩

theorem pb (b off j:Nat):(⟨b,off,none⟩:Addr).add j=⟨b,off+j,none⟩:=by
 unfold Addr.add
 split <;> simp_all
end Go.Proofs.YtgnmgbbokcpppaaGreatDoor
namespace Go.Proofs.YtgnmgbbokcpppaaGreatDoor
open Go.RowKit
open Lm
attribute [local go_sem ↓] Go.wp_at_zero Go.wp_at_succ

theorem Tryz.infoB:(Tryz.prog.info? 5).map (fun i=>(i.zero,i.size,i.bytes))=some (some (.int .u8 0),1,1):=by kernel_rfl

theorem gB {P:Program}(w:World)(a:Addr)(m:Mode)(f:Fn)(x y:Array Value):(store a (.func f x y) m).run P w=stored P w a (.func f x y) m:=run_store P w a _ m rfl

attribute [local go_sem] gB

theorem cI {w w':World}{g:Nat}{x:Obj}(hb:Below w.heap.size w w')(h:w.heap[g]?=some x):w'.heap[g]?=some x:=by
 rw [hb.block g (lt_of_block h)];exact h

theorem aA (w:World)(o:Obj):Below w.heap.size w (w.alloc o):=(Below.refl _ _).alloc (Nat.le_refl _) _

theorem kV {w:World}{base n g:Nat}(h:w.ownsRow base 5 1 (.slice (some ⟨g,0,none⟩) n n) n (madeCells (Value.int .u8 0).cells (n*1)).toList):w.heap[g]?=some (.cells (List.replicate n (Value.int .u8 0)).toArray 5):=by
 obtain⟨_,h2⟩:=h
 rcases h2 with ⟨h2,_⟩|⟨g',cap,cur,hv,_,hh,_,_,hs,ht⟩
 ·cases h2
 ·cases hv
  rw [hh]
  have e:cur.toList=List.replicate n (Value.int .u8 0):=by
   have:cur.toList.take (n*1)=cur.toList:=List.take_of_length_le (by simp;omega)
   rw [←this,ht]
   show (madeCells #[Value.int .u8 0] (n*1)).toList=_
   rw [toList_madeCells_one,Nat.mul_one]
  rw [←e]
end Go.Proofs.YtgnmgbbokcpppaaGreatDoor
namespace Go.Proofs.YtgnmgbbokcpppaaGreatDoor
open Go.RowKit
open Lm
attribute [local go_sem ↓] Go.wp_at_zero Go.wp_at_succ

theorem fi {w:World}{h:Nat}{a b:Value}{t:TypeId}(e:w.heap[h]?=some (.cells #[a,b] t)):∀k,w.frozen? ⟨h,k,none⟩=false:=fun k=>by simp [World.frozen?,e]

theorem lz1 (w:World):Calls Tryz.prog 136 #[.int .u64 1] w fun e w'=>e=.returned (.int .i64 63)∧w'=w:=
 Tryz.bits_LeadingZeros64 1 w (by omega) (by omega)

theorem mF (w:World):Calls Tryz.prog 180 #[.int .u64 1] w fun e w'=>e=.returned (.agg #[.int .u64 9223372036854775808,.int .i64 (-63)])∧Below w.heap.size w w':=by
 have HB:=ac (aA w (.cells #[.int .u64 9223372036854775808,.int .i64 (-63)] 168))
 go_enter Tryz.func180,Tryz.ntmps180
 go_wp2_with fail
 refine (lz1 _).mono ?_
 rintro e wn ⟨rfl,hw⟩;rw [hw];clear hw wn
 go_wp2
 go_returns
 exact⟨rfl,HB.out⟩

def jw (w:World)(g:Nat)(l:List (Nat × Value × Nat)):Prop:=∀(i d:Nat) (o:Value) (s:Nat),l[i]?=some (d,o,s)→w.cell? ⟨g,i*3,none⟩=some (.int .i64 d)∧w.cell? ⟨g,i*3+1,none⟩=some o∧w.cell? ⟨g,i*3+2,none⟩=some (.int .i64 s)∧d≤9223372036854775807∧s≤9223372036854775807∧∃a n c,o=.slice a n c

def b7 (w:World)(v:Value)(l:List (Nat × Value × Nat)):Prop:=
 (v=.slice none 0 0∧l=[])∨∃g cap,v=.slice (some ⟨g,0,none⟩) l.length cap∧g<w.heap.size∧l.length≤cap∧cap≤9223372036854775807 ∧
  jw w g l

def fO (l:List (Nat × Value × Nat))(n:Nat)(w:World)(e:Ending)(w':World):Prop:=
 ((∃(i d:Nat) (o:Value) (s:Nat),l[i]?=some (d,o,s)∧d<n∧(∀(j d':Nat) (o':Value) (s':Nat),i<j→l[j]?=some (d',o',s')→n≤d')∧e=.returned (.tuple #[.agg #[.int .i64 d,o,.int .i64 s],.bool true])) ∨
  ((∀(j d':Nat) (o':Value) (s':Nat),l[j]?=some (d',o',s')→n≤d')∧e=.returned (.tuple #[.agg #[.int .i64 0,.slice none 0 0,.int .i64 0],.bool false])))∧Below w.heap.size w w'

theorem rf (g cap n:Nat)(l:List (Nat × Value × Nat))(w:World)(hg:g<w.heap.size)(hc:l.length≤cap)(hcm:cap≤9223372036854775807)
  (hl:jw w g l) :
  Calls Tryz.prog 132 #[.slice (some ⟨g,0,none⟩) l.length cap,.int .i64 n] w (fO l n w):=by
 obtain⟨w0,hw0⟩:∃w0,w.alloc (.cells #[.int .i64 0,.slice none 0 0,.int .i64 0] 140)=w0:=⟨_,rfl⟩
 have hb0:Below w.heap.size w w0:=by rw [←hw0];exact aA _ _
 have h0:w0.heap[w.heap.size]?=some (.cells #[.int .i64 0,.slice none 0 0,.int .i64 0] 140):=by rw [←hw0];exact heap_alloc_new ..
 have HL:=ac hl
 have HB0:=ac hb0
 have H0:=ac h0
 have HW0:=ac hw0
 clear hl hb0 h0
 go_enter Tryz.func132,Tryz.ntmps132
 go_wp2
 clear hw0
 go_loop [6] (fun i=>∃k:Nat,k≤l.length∧i=.int .i64 ((k:Int) - 1)∧∀(j d':Nat) (o':Value) (s':Nat),k≤j→l[j]?=some (d',o',s')→n≤d') (fun i=>(intOf i+1).toNat)
 case atStart=>exact⟨l.length,Nat.le_refl _,rfl,fun j d' o' s' h1 h2=>by rw [List.getElem?_eq_none h1] at h2;cases h2⟩
 case round=>
  obtain⟨k,hk,rfl,hall⟩:=hrel
  have HA:=ac hall
  clear hall
  by_cases hk0:k=0
  ·subst hk0
   obtain⟨d0,d1,d2⟩:=tri H0.out
   have hf:=aE H0.out
   have R5:=aG H0.out (u0:=.int .i64 0) (u1:=.slice none 0 0) (u2:=.int .i64 0)
   have HD:=ac (aF HB0.out (g:=w.heap.size) (u0:=.int .i64 0) (u1:=.slice none 0 0) (u2:=.int .i64 0) (Nat.le_refl _))
   go_wp2
   generalize ((w0.setCell ⟨w.heap.size,0,none⟩ (.int .i64 0)).setCell ⟨w.heap.size,1,none⟩ (.slice none 0 0)).setCell ⟨w.heap.size,2,none⟩ (.int .i64 0)=w5 at *
   obtain⟨q0,q1,q2⟩:=tri R5
   clear d0 d1 d2 hf
   refine bodyPost_ret (v:=.tuple #[.agg #[.int .i64 0,.slice none 0 0,.int .i64 0],.bool false]) (by simp [results,Tryz.results132,go_sem,q0,q1,q2]) rfl ?_
   exact⟨.inr ⟨fun j d' o' s' h=>HA.out j d' o' s' (Nat.zero_le _) h,rfl⟩,HD.out⟩
  ·obtain⟨j,rfl⟩:∃j,k=j+1:=⟨k - 1,by omega⟩
   have ej:(((j+1:Nat):Int) - 1)=(j:Int):=by omega
   rw [ej]
   have hjl:j<l.length:=by omega
   obtain⟨d,o,s,hd⟩:∃d o s,l[j]?=some (d,o,s):=⟨_,_,_,List.getElem?_eq_getElem hjl⟩
   obtain⟨c0,c1,c2,hdm,hsm,a,n',c',rfl⟩:=HL.out j d o s hd
   rw [←HB0.out.cell (p:=⟨g,j*3,none⟩) hg] at c0
   rw [←HB0.out.cell (p:=⟨g,j*3+1,none⟩) hg] at c1
   rw [←HB0.out.cell (p:=⟨g,j*3+2,none⟩) hg] at c2
   have hj0:(0:Int)≤(j:Int):=by omega
   have hjl':(j:Int)<(l.length:Int):=by omega
   by_cases hdn:d<n
   ·have hi:(d:Int)<(n:Int):=by omega
    obtain⟨d0,d1,d2⟩:=tri H0.out
    have hf:=aE H0.out
    have R5:=aG H0.out (u0:=.int .i64 d) (u1:=.slice a n' c') (u2:=.int .i64 s)
    have HD:=ac (aF HB0.out (g:=w.heap.size) (u0:=.int .i64 d) (u1:=.slice a n' c') (u2:=.int .i64 s) (Nat.le_refl _))
    have HR:=ac hd
    clear hd
    go_wp2
    generalize ((w0.setCell ⟨w.heap.size,0,none⟩ (.int .i64 d)).setCell ⟨w.heap.size,1,none⟩ (.slice a n' c')).setCell ⟨w.heap.size,2,none⟩ (.int .i64 s)=w5 at *
    obtain⟨q0,q1,q2⟩:=tri R5
    clear d0 d1 d2 hf c0 c1 c2
    refine bodyPost_ret (v:=.tuple #[.agg #[.int .i64 d,.slice a n' c',.int .i64 s],.bool true]) (by simp [results,Tryz.results132,go_sem,q0,q1,q2]) rfl ?_
    exact⟨.inl ⟨j,d,_,s,HR.out,hdn,fun i d' o' s' h1 h2=>HA.out i d' o' s' (by omega) h2,rfl⟩,HD.out⟩
   ·have hi:¬((d:Int)<(n:Int)):=by omega
    go_wp2
    go_round
    case rel=>
     refine⟨j,by omega,rfl,fun i d' o' s' h1 h2=>?_⟩
     rcases Nat.lt_or_ge j i with h3|h3
     ·exact HA.out i d' o' s' (by omega) h2
     ·obtain rfl:i=j:=by omega
      rw [hd] at h2
      cases h2
      omega
    case measure=>simp [intOf]

theorem lR (n:Nat)(w:World):Calls Tryz.prog 132 #[.slice none 0 0,.int .i64 n] w (fO [] n w):=by
 have HB:=ac (aA w (.cells #[.int .i64 0,.slice none 0 0,.int .i64 0] 140))
 go_enter Tryz.func132,Tryz.ntmps132
 go_wp2
 refine wp_loop_rounds 1 ?_
 rw [rounds_succ]
 go_wp2
 go_returns
 exact⟨.inr ⟨fun j d' o' s' h=>by simp at h,rfl⟩,HB.out⟩

theorem kU (v:Value)(n:Nat)(l:List (Nat × Value × Nat))(w:World)(h:b7 w v l):Calls Tryz.prog 132 #[v,.int .i64 n] w (fO l n w):=by
 rcases h with ⟨rfl,rfl⟩|⟨g,cap,rfl,hg,hc,hcm,hl⟩
 ·exact lR n w
 ·exact rf g cap n l w hg hc hcm hl

theorem gS (n:Nat):(Builtin.zeroCells (Value.int .u64 0).cells n).size=n:=by
 simp [Builtin.zeroCells,Value.cells]

theorem pl (n:Nat)(w:World)(hn:0<n)(hm:n≤17592186044416) :
  Calls Tryz.prog 184 #[.slice none 0 0,.int .i64 n] w fun e w'=>(∃cap,e=.returned (.slice (some ⟨w.heap.size,0,none⟩) 0 cap)∧w'.ownsRow w.heap.size 62 1 (.slice (some ⟨w.heap.size,0,none⟩) 0 cap) 0 [])∧Below w.heap.size w w':=by
 obtain⟨i0,hi,hz0,hz1,hz2⟩:=info_parts Tryz.infoU
 have i1:¬((n:Int)<0):=by omega
 have i2:(0:Int)<(n:Int):=by omega
 have HR:=Lib.run_append_nil_zeros (P:=Tryz.prog) w 23 3 23 62 i0 (.int .u64 0) .i64 .i64 Tryz.underlying23 Tryz.underlying3 hi hz0 n hn (by omega) (by omega) (by rw [hz2];omega)
 have hge:=grownCap_ge w n 0 62
 have hml:=grownCap_le_maxLen w n 0 62 (by unfold maxLen;omega)
 obtain⟨cap,hcap⟩:∃cap,grownCap w n 0 62=cap:=⟨_,rfl⟩
 rw [hcap] at HR hge hml
 obtain⟨w1,hw1⟩:∃w1,w.drew.alloc (.cells (Builtin.zeroCells (Value.int .u64 0).cells n ++ Builtin.zeroCells (Value.int .u64 0).cells (cap - n)) 62)=w1:=⟨_,rfl⟩
 have HO:Hid (w1.ownsRow w.heap.size 62 1 (.slice (some ⟨w.heap.size,0,none⟩) 0 cap) 0 []):=by
  refine⟨rfl,.inr ⟨w.heap.size,cap,_,rfl,Nat.le_refl _,by rw [←hw1];exact heap_alloc_new _ _,Nat.zero_le _,hml,?_,by simp⟩⟩
  rw [Array.size_append,gS,gS]
  omega
 have HB:Hid (Below w.heap.size w w1):=by
  rw [←hw1]
  exact (Below.refl w.heap.size w).drew.alloc (Nat.le_refl _) _
 rw [hw1] at HR
 clear hw1 hi hz0 hz1 hz2 hcap hml
 go_enter Tryz.func184,Tryz.ntmps184
 go_wp2_with (at_builtin;refine Lib.wpList_append_run _ rfl _ _ _ _ rfl _ _ rfl rfl _ _ HR ?_)
 go_wp2
 go_ret
 exact⟨⟨cap,rfl,HO.out⟩,HB.out⟩

theorem oc (gs:Nat)(ad:Addr)(c:Nat)(X:List Nat)(w:World)(hg:w.heap[gs]?=some (.cells #[.slice (some ad) X.length c,.slice none 0 0] 23))(hA:Arg w (.slice (some ad) X.length c) X)(hX:0<X.length)(hm:X.length≤17592186044416) :
  Calls Tryz.prog 173 #[.slice (some ⟨gs,0,none⟩) 2 2] w fun e w'=>(∃v',e=.returned v'∧Ans w' w.heap.size v' X)∧Below w.heap.size w w':=by
 obtain⟨i0,hi,hz0,hz1,hz2⟩:=info_parts Tryz.infoU
 have HL:=ac hA.limbs
 have c0:w.cell? ⟨gs,0,none⟩=some (.slice (some ad) X.length c):=by simp [World.cell?,hg]
 have c1:w.cell? ⟨gs,1,none⟩=some (.slice none 0 0):=by simp [World.cell?,hg]
 have HG:=ac hg
 have HA:=ac hA
 have C:=pl X.length w hX hm
 have i1:¬((X.length:Int)<0):=by omega
 clear hg hA
 go_enter Tryz.func173,Tryz.ntmps173
 go_wp2
 refine wp_loop_rounds 3 ?_
 rw [rounds_succ]
 go_wp2
 rw [rounds_succ]
 go_wp2
 rw [rounds_succ]
 go_wp2_with fail
 refine C.mono ?_
 rintro e w1 ⟨⟨cap,rfl,hown⟩,hb⟩
 have hA1:=HA.out.below hb
 have hg1:=(hb.block gs (lt_of_block HG.out)).trans HG.out
 have d0:w1.cell? ⟨gs,0,none⟩=some (.slice (some ad) X.length c):=by simp [World.cell?,hg1]
 have hnews:∀j u,(X.map lv)[j]?=some u→w1.cell? (ad.add j)=some u:=by
  intro j u hj
  obtain⟨_,_,e,_,_,hl⟩:=hA1.form
  cases e
  rcases hl with rfl|⟨b,off,he,hc⟩
  ·simp at hj
  ·cases he
   rw [List.getElem?_map] at hj
   obtain⟨z,hz,rfl⟩:=Option.map_eq_some_iff.1 hj
   have hjl:j<X.length:=(List.getElem?_eq_some_iff.1 hz).1
   have:=hc j hjl
   simp only [List.getD,hz,Option.getD_some] at this
   rw [pb]
   exact this
 have HB:=ac hb
 have HG1:=ac hg1
 have HOW:=ac hown
 have hle:=hb.size
 clear C c0 c1 hA1 hg1 hb hown HA HG1
 go_wp2
 refine wp_loop_rounds 3 ?_
 rw [rounds_succ]
 go_wp2_with (at_builtin;refine wpList_append_own _ rfl _ _ 23 rfl w.heap.size 62 i0 (.int .u64 0) 1 8 Tryz.underlying23 hi hz0 hz1 hz2 rfl (by decide) _ 0 [] rfl HOW.out ad X.length c (X.map lv) rfl (by simp) hnews (gE X) (by unfold maxLen;omega) (by omega) hle ?_;intro v' w2 hown2 hgrow _)
 rw [Nat.zero_add,List.nil_append] at hown2
 have HB2:Hid (Below w.heap.size w w2):=(HB.out).grown hgrow hle (fun g hg=>(HOW.out.lt g hg).1)
 have HO2:=ac hown2
 clear hnews d0 hgrow HOW
 have d1:w2.cell? ⟨gs,1,none⟩=some (.slice none 0 0):=by
  have hg2:=(HB2.out.block gs (lt_of_block HG.out)).trans HG.out
  simp [World.cell?,hg2]
 rw [rounds_succ]
 go_wp2_with (at_builtin;refine wpList_append_own_none rfl _ _ 23 rfl w.heap.size 62 i0 1 Tryz.underlying23 hi _ X.length (X.map lv) rfl HO2.out rfl ?_)
 rw [rounds_succ]
 go_wp2
 go_ret
 exact⟨⟨_,rfl,HO2.out,HL.out⟩,HB2.out⟩


end Go.Proofs.YtgnmgbbokcpppaaGreatDoor
namespace Go.Proofs.YtgnmgbbokcpppaaGreatDoor
open Go.RowKit
open Lm

def Nv (w:World)(base:Nat)(v:Value)(x:Nat):Prop:=∃rs,Ans w base v rs∧val rs=x∧tr rs=rs∧rs.length≤1048576

theorem Nv.base {w:World}{base base':Nat}{v:Value}{x:Nat}(h:Nv w base v x)(hb:base'≤base):Nv w base' v x:=by
 obtain⟨rs,h1,h2⟩:=h
 exact⟨rs,h1.base hb,h2⟩

theorem Nv.arg {w:World}{base:Nat}{v:Value}{x:Nat}(h:Nv w base v x):∃rs,Arg w v rs∧val rs=x∧tr rs=rs∧rs.length≤1048576:=by
 obtain⟨rs,h1,h2,h3,h4⟩:=h
 exact⟨rs,h1.arg (by omega),h2,h3,h4⟩

theorem Nv.of {w:World}{base:Nat}{v:Value}{rs:List Nat}{x:Nat}(h:Ans w base v rs)(hv:val rs=x)(ht:tr rs=rs)(hb:blen x≤67108864):Nv w base v x:=by
 refine⟨rs,h,hv,ht,?_⟩
 have:=few_limbs rs 1048576 (by rw [hv];omega)
 rwa [ht] at this

theorem Res.fits {w:World}{base:Nat}{e:Ending}{s:Nat}(h:Res w base e s)(hs:blen s≤67108864):∃v,e=.returned (.tuple #[v,.int .i64 0])∧Nv w base v s:=by
 obtain⟨v,c,rs,rfl,hA,h⟩:=h
 rcases h with ⟨rfl,h1,h2,h3⟩|⟨_,_,h3⟩
 ·exact⟨v,rfl,Nv.of hA h1 h2 h3⟩
 ·omega
end Go.Proofs.YtgnmgbbokcpppaaGreatDoor
namespace Go.Proofs.YtgnmgbbokcpppaaGreatDoor
open Go.RowKit
open Lm
attribute [local go_sem ↓] Go.wp_at_zero Go.wp_at_succ

theorem jY {x y:Nat}(h:x≤y):blen x≤blen y:=(blen_le_iff _ _).2 (Nat.lt_of_le_of_lt h ((blen_le_iff _ _).1 (Nat.le_refl _)))

theorem dO {U:List Nat}{k:Nat}(h:tr U=U)(hb:blen (val U)≤64*k):U.length≤k:=by
 have h1:=(blen_le_iff _ _).1 hb
 rw [Nat.pow_mul] at h1
 have:=aL U k h1
 rw [h] at this
 exact this

theorem oj {X:List Nat}(hX:Limbs X)(s nn:Nat)(hn:nn=min s X.length):val X=val (X.take nn)+18446744073709551616 ^ s*val (X.drop nn)∧val X / 18446744073709551616 ^ s=val (X.drop nn)∧val (X.take nn)<18446744073709551616 ^ s:=by
 have hp:0<18446744073709551616 ^ s:=Nat.pow_pos (by omega)
 have h3:val (X.take nn)<18446744073709551616 ^ s:=by
  have h:=val_lt (zs:=X.take nn) (fun z hz=>hX z (List.mem_of_mem_take hz))
  refine Nat.lt_of_lt_of_le h (Nat.pow_le_pow_right (by omega) (by simp;omega))
 have h1:val X=val (X.take nn)+18446744073709551616 ^ s*val (X.drop nn):=by
  rcases Nat.lt_or_ge X.length s with h|h
  ·have e:nn=X.length:=by omega
   rw [e,List.take_length,List.drop_length];simp [val]
  ·have e:nn=s:=by omega
   rw [e]
   have hh:=am X 0 s (X.length - s) (by omega)
   rw [show s+(X.length - s)=X.length by omega,bG] at hh
   have e1:sv X 0 s=val (X.take s):=by simp [sv,seg]
   have e2:sv X (0+s) (X.length - s)=val (X.drop s):=by
    rw [Nat.zero_add]
    unfold sv seg
    rw [List.take_of_length_le (by simp)]
   rw [hh,e1,e2]
 refine⟨h1,?_,h3⟩
 rw [h1,Nat.add_mul_div_left _ _ hp,Nat.div_eq_of_lt h3,Nat.zero_add]



theorem nx {Z:List Nat}(h:tr Z=Z):Z=[]∨18446744073709551616 ^ (Z.length - 1)≤val Z:=by
 rcases Nat.eq_zero_or_pos Z.length with h0|h0
 ·exact .inl (List.eq_nil_of_length_eq_zero h0)
 ·have:=tr_val_ge Z (Z.length - 1) (by rw [h];omega)
  rw [h] at this
  exact .inr this

theorem kk {M:List Nat}{s u V:Nat}(hM:s+u≤M.length)(h:sv M 0 (s+u)=V)(hV:V<18446744073709551616 ^ s):sv M s u=0∧sv M 0 s=V:=by
 rw [am M 0 s u (by omega),Nat.zero_add] at h
 have h0:sv M s u=0:=by
  rcases Nat.eq_zero_or_pos (sv M s u) with h1|h1
  ·exact h1
  ·have:=Nat.mul_le_mul_left (18446744073709551616 ^ s) h1
   omega
 rw [h0,Nat.mul_zero,Nat.add_zero] at h
 exact⟨h0,h⟩

theorem qK {M M' U:List Nat}{s o V:Nat}(hl:M'.length=s+U.length)(h0:sv M 0 s=V)(hO:Out M M' o (o+U.length))(hv:sv M' o U.length=val U)(ho:o=s∨(U.length=0∧o=0)):val M'=V+18446744073709551616 ^ s*val U:=by
 rw [←bG M',hl,am M' 0 s U.length (by omega),Nat.zero_add]
 rcases ho with rfl|⟨hu,rfl⟩
 ·rw [hv,hO.sv 0 o (by omega),h0]
 ·have hU:U=[]:=List.eq_nil_of_length_eq_zero hu
  rw [hU] at hO ⊢
  rw [hO.sv 0 s (by simp),h0]
  simp [sv,seg,val]

def gA (x y n:Nat)(w:World)(e:Ending)(w':World):Prop:=
 (∃vr Q R,e=.returned (.tuple #[.slice (some ⟨w.heap.size,0,none⟩) n n,vr])∧Arg w' (.slice (some ⟨w.heap.size,0,none⟩) n n) Q∧Arg w' vr R∧val Q=x / y∧val R=x % y∧Q.length=n∧tr R=R)∧Below w.heap.size w w'

theorem gt {X:List Nat}(h:Limbs X)(hl:X.length≤1048576):blen (val X)≤67108864:=by
 have h1:blen (val X)≤64*X.length:=(blen_le_iff _ _).2 (by rw [Nat.pow_mul];exact val_lt h)
 omega

theorem j5 (ao:Option Addr)(cap:Nat)(vb:Value)(y:Nat)(w:World) :
  Calls Tryz.prog 156 #[.slice ao 0 cap,vb] w (gA 0 y 0 w):=by
 obtain⟨i0,hi,hz0,hz1,hz2⟩:=info_parts Tryz.infoU
 go_enter Tryz.func156,Tryz.ntmps156
 go_wp2_with (at_make;refine wpList_make_full _ rfl _ _ 23 rfl w.heap.size 62 i0 (.int .u64 0) 1 Tryz.underlying23 hi hz0 hz1 .i64 .i64 _ _ 0 rfl rfl (by omega) (by omega) (by rw [hz2];omega) (by unfold maxLen;omega) (Nat.le_refl _) ?_;intro w1 hown hgrow)
 have hb1:=Blk.made hown
 have hbel:Below w.heap.size w w1:=(Below.refl _ _).grown hgrow (Nat.le_refl _) (fun k hk=>by cases hk)
 have HQ:Hid (Arg w1 (.slice (some ⟨w.heap.size,0,none⟩) 0 0) []):=by
  have h:=Ans.of_blk (base:=w.heap.size) (zs:=[]) (Nat.le_refl _) hb1 rfl (Nat.zero_le _) (by simp) (by intro z hz;cases hz)
  exact h.arg (by simp)
 have HN:Hid (Arg w1 (.slice none 0 0) []):=(Ans.nil w1 w.heap.size).arg (by simp)
 have HB:=ac hbel
 clear hown hgrow hb1 hbel hi hz0 hz1 hz2
 refine wp_loop_rounds 1 ?_
 rw [rounds_succ]
 go_wp2
 go_ret2
 exact⟨⟨_,[],[],rfl,HQ.out,HN.out,by simp [val],by simp [val],rfl,rfl⟩,HB.out⟩

theorem la (b off cap:Nat)(vb:Value)(X Y:List Nat)(w:World)(hA:Arg w (.slice (some ⟨b,off,none⟩) X.length cap) X)(hB:Arg w vb Y)(hT:Tab w)(hX:0<X.length)(hl:X.length≤1048576)(hY0:val Y≠0)(hYl:Y.length≤17592186044416)(hYb:blen (val Y)≤67108864) :
  Calls Tryz.prog 156 #[.slice (some ⟨b,off,none⟩) X.length cap,vb] w (gA (val X) (val Y) X.length w):=by
 obtain⟨i0,hi,hz0,hz1,hz2⟩:=info_parts Tryz.infoU
 have hcl:X.length≤cap:=by obtain⟨_,_,e,hle,_,_⟩:=hA.form;cases e;exact hle
 have hc0:¬cap=0:=by omega
 have hmx:max ((X.length:Int) - 1048576) 0=0:=by omega
 have i1:(0:Int)<(X.length:Int):=by omega
 have hq1:blen (val X / val Y)≤67108864:=Nat.le_trans (jY (Nat.div_le_self _ _)) (gt hA.limbs hl)
 have hq2:blen (val X % val Y)≤67108864:=Nat.le_trans (jY (Nat.le_of_lt (Nat.mod_lt _ (by omega)))) hYb
 have hq3:val X / val Y<18446744073709551616 ^ X.length:=Nat.lt_of_le_of_lt (Nat.div_le_self _ _) (val_lt hA.limbs)
 have HA:=ac hA
 have HBB:=ac hB
 have HT:=ac hT
 have HQ:=ac (And.intro hq1 (And.intro hq2 hq3))
 have HY0:=ac hY0
 have HYL:=ac hYl
 clear hA hB hT hq1 hq2 hq3 hY0 hYb hYl
 go_enter Tryz.func156,Tryz.ntmps156
 go_wp2_with (at_make;refine wpList_make_full _ rfl _ _ 23 rfl w.heap.size 62 i0 (.int .u64 0) 1 Tryz.underlying23 hi hz0 hz1 .i64 .i64 _ _ X.length rfl rfl (by omega) (by omega) (by rw [hz2];omega) (by unfold maxLen;omega) (Nat.le_refl _) ?_;intro w1 hown hgrow)
 have hb1:=Blk.made hown
 have hbel:Below w.heap.size w w1:=(Below.refl _ _).grown hgrow (Nat.le_refl _) (fun k hk=>by cases hk)
 have hlt1:w.heap.size<w1.heap.size:=hb1.lt
 have HB1:=ac hb1
 have HL1:=ac hbel
 clear hown hgrow hb1 hbel hi hz0 hz1 hz2
 refine wp_loop_rounds 2 ?_
 rw [rounds_succ]
 obtain⟨w3,hw3⟩:∃W,w1.alloc (.cells #[.slice (some ⟨b,off,none⟩) X.length cap,.slice none 0 0] 23)=W:=⟨_,rfl⟩
 have hb3:Below w1.heap.size w1 w3:=by rw [←hw3];exact aA _ _
 have hx3:w3.heap[w1.heap.size]?=some (.cells #[.slice (some ⟨b,off,none⟩) X.length cap,.slice none 0 0] 23):=by rw [←hw3];exact heap_alloc_new ..
 have C1:=oc w1.heap.size ⟨b,off,none⟩ cap X w3 hx3 ((HA.out.below HL1.out).below hb3) hX (by omega)
 have HL3:=ac (HL1.out.trans (hb3.mono HL1.out.size))
 have HB3:=ac (HB1.out.below' hb3)
 clear hb3 hx3 HB1 HL1
 go_wp2_with fail
 refine C1.mono ?_
 rintro e w4 ⟨⟨v4,rfl,A4⟩,hb4⟩
 have HL4:=ac (HL3.out.trans (hb4.mono HL3.out.size))
 have HB4:=ac (HB3.out.below' hb4)
 have C2:=gW v4 vb X Y w4 (A4.arg (by omega)) (HBB.out.below HL4.out) (HT.out.below HL4.out) (by omega) HYL.out HY0.out
 clear C1 HL3 HB3 A4 hb4 hw3
 go_wp2_with fail
 refine C2.mono ?_
 rintro e w5 ⟨⟨v1,v2,c,r1,r2,mid,rfl,D1,hmid,hlt,D2,hcase⟩,hb5⟩
 rcases hcase with ⟨rfl,hv1,hn1,hv2,hn2,_,_⟩|⟨rfl,_,_,hbad⟩
 ·have hr1:r1.length≤X.length:=by
   have h:=aL r1 X.length (by rw [hv1];exact HQ.out.2.2)
   rw [hn1] at h
   exact h
  obtain⟨a5,c5,rfl,_,_,hL5⟩:=(D1.arg (by omega)).form
  have hb5':=HB4.out.below' hb5
  obtain⟨w6,M6,hcp,B6,L6,F6,O6,S6⟩:=bZ w.heap.size 0 X.length X.length (List.replicate X.length 0) a5 c5 r1 w5 hb5' (limbs_replicate _) D1.limbs (bU _ _ _) (by simp) hr1 hL5
  have hl6:M6.length=X.length:=by rw [O6.len,List.length_replicate]
  have hv6:val M6=val X / val Y:=by rw [←hv1,←S6,aT hl6]
  have hbel5:Below w.heap.size w w5:=HL4.out.trans (hb5.mono HL4.out.size)
  have hbel6:Below w.heap.size w w6:=hbel5.trans (F6.below (Nat.le_refl _) hbel5.size)
  have hr2:r2.length≤1048576:=dO hn2 (by rw [hv2];exact HQ.out.2.1)
  have hA6:Arg w6 (.slice (some ⟨w.heap.size,0,none⟩) X.length X.length) M6:=by
   have h:=Ans.of_blk (base:=w.heap.size) (zs:=M6) (Nat.le_refl _) B6 List.take_length.symm (Nat.le_refl _) (by omega) L6
   rw [hl6] at h
   exact h.arg (by omega)
  have hD6:Arg w6 v2 r2:=by
   have h1:Ans w6 mid v2 r2:=by
    refine⟨?_,D2.limbs⟩
    obtain⟨q1,q2⟩:=D2.own
    refine⟨q1,?_⟩
    rcases q2 with q2|⟨g',cap',cur,hv,hg',hh,r⟩
    ·exact .inl q2
    ·have:w4.heap.size≤mid:=hmid.1
     have hs4:=HL4.out.size
     have hs5:w.heap.size<w4.heap.size:=HB4.out.lt
     exact .inr ⟨g',cap',cur,hv,hg',by rw [F6.block g' (lt_of_block hh) (by omega)];exact hh,r⟩
   exact h1.arg (by omega)
  have HF:=ac (And.intro hA6 (And.intro hD6 (And.intro hv6 (And.intro hv2 (And.intro hl6 (And.intro hn2 hbel6))))))
  clear C2 D1 D2 hmid hlt hb5 hb5' hv1 hn1 hv2 hn2 B6 L6 F6 O6 S6 hl6 hv6 hbel5 hbel6 hA6 hD6 hL5 HL4 HB4
  go_wp2
  rw [rounds_succ]
  go_wp2
  go_ret2
  exact⟨⟨_,M6,r2,rfl,HF.out.1,HF.out.2.1,HF.out.2.2.1,HF.out.2.2.2.1,HF.out.2.2.2.2.1,HF.out.2.2.2.2.2.1⟩,HF.out.2.2.2.2.2.2⟩
 ·exact absurd hbad (by have:=HQ.out;omega)

theorem iy (va vb:Value)(X Y:List Nat)(w:World)(hA:Arg w va X)(hB:Arg w vb Y)(hT:Tab w)(hl:X.length≤1048576)(hY0:val Y≠0)(hYl:Y.length≤17592186044416)(hYb:blen (val Y)≤67108864) :
  Calls Tryz.prog 156 #[va,vb] w (gA (val X) (val Y) X.length w):=by
 obtain⟨ao,cap,rfl,hcap,hmax,hL⟩:=hA.form
 rcases hL with rfl|⟨b,off,rfl,_⟩
 ·exact j5 ao cap vb (val Y) w
 ·by_cases h0:X.length=0
  ·obtain rfl:=List.length_eq_zero_iff.1 h0
   exact j5 _ cap vb (val Y) w
  ·exact la b off cap vb X Y w hA hB hT (by omega) hl hY0 hYl hYb

def qL (x P n k:Nat)(w:World)(e:Ending)(w':World):Prop:=
 (∃g1 n1 c1 g2 n2 c2 H Lw,(w.heap.size≤g1∧w.heap.size≤g2)∧e=.returned (.tuple #[.slice (some ⟨g1,0,none⟩) n1 c1,.slice (some ⟨g2,0,none⟩) n2 c2])∧Arg w' (.slice (some ⟨g1,0,none⟩) n1 c1) H∧Arg w' (.slice (some ⟨g2,0,none⟩) n2 c2) Lw∧val H=x / P∧val Lw=x % P∧H.length≤n∧Lw.length≤k)∧Below w.heap.size w w'

theorem bt5 {a b c:World}(h:Below a.heap.size a b)(k:Below b.heap.size b c):Below a.heap.size a c:=h.trans (k.mono h.size)

theorem pr (x B o:Nat):x % (B*o)=x % B+B*(x / B % o):=Nat.mod_mul

theorem oB (x B o:Nat):x / (B*o)=x / B / o:=(Nat.div_div_eq_div_mul x B o).symm

theorem lA {s o y k:Nat}{R:List Nat}(hR:tr R=R)(hv:val R=y % o)(h0:0<o)(hP:18446744073709551616 ^ s*o<18446744073709551616 ^ k):s+R.length≤k:=by
 rcases nx hR with rfl|h
 ·have h1:18446744073709551616 ^ s≤18446744073709551616 ^ s*o:=Nat.le_mul_of_pos_right _ h0
  have h2:=Nat.lt_of_le_of_lt h1 hP
  have:=(Nat.pow_lt_pow_iff_right (by omega)).1 h2
  simp;omega
 ·rcases Nat.eq_zero_or_pos R.length with hz|hz
  ·have h1:18446744073709551616 ^ s≤18446744073709551616 ^ s*o:=Nat.le_mul_of_pos_right _ h0
   have h2:=Nat.lt_of_le_of_lt h1 hP
   have:=(Nat.pow_lt_pow_iff_right (by omega)).1 h2
   omega
  ·have h1:val R<o:=by rw [hv];exact Nat.mod_lt _ h0
   have h2:18446744073709551616 ^ s*18446744073709551616 ^ (R.length - 1)<18446744073709551616 ^ k:=Nat.lt_of_le_of_lt (Nat.mul_le_mul_left _ (Nat.le_of_lt (Nat.lt_of_le_of_lt h h1))) hP
   rw [←Nat.pow_add] at h2
   have:=(Nat.pow_lt_pow_iff_right (by omega)).1 h2
   omega

theorem pd (d s:Nat)(ao:Option Addr)(co:Nat)(b off cap:Nat)(O X:List Nat)(w:World)(hO:Arg w (.slice ao O.length co) O)(hA:Arg w (.slice (some ⟨b,off,none⟩) X.length cap) X)(hT:Tab w)(hl:X.length≤1048576)(hO0:val O≠0)(hOl:O.length≤17592186044416)(hOb:blen (val O)≤67108864)(hs:s≤1048576)(hP:18446744073709551616 ^ s*val O<18446744073709551616 ^ 1048576) :
  Calls Tryz.prog 134 #[.agg #[.int .i64 d,.slice ao O.length co,.int .i64 s],.slice (some ⟨b,off,none⟩) X.length cap] w (qL (val X) (18446744073709551616 ^ s*val O) X.length 1048576 w):=by
 obtain⟨i0,hi,hz0,hz1,hz2⟩:=info_parts Tryz.infoU
 obtain⟨w0,hw0⟩:∃w0,w.alloc (.cells #[.int .i64 d,.slice ao O.length co,.int .i64 s] 140)=w0:=⟨_,rfl⟩
 have hb0:Below w.heap.size w w0:=by rw [←hw0];exact aA _ _
 have h0:w0.heap[w.heap.size]?=some (.cells #[.int .i64 d,.slice ao O.length co,.int .i64 s] 140):=by rw [←hw0];exact heap_alloc_new ..
 obtain⟨k0,k1,k2⟩:=tri h0
 obtain⟨nn,hnn,hn2⟩:∃nn:Nat,min (s:Int) (X.length:Int)=(nn:Int)∧nn=min s X.length:=⟨min s X.length,by omega,rfl⟩
 obtain⟨lp1,lp2,lp3⟩:=oj hA.limbs s nn hn2
 have hcl:X.length≤cap:=by obtain⟨_,_,e,hle,_,_⟩:=hA.form;cases e;exact hle
 have hcm:cap≤9223372036854775807:=by obtain⟨_,_,e,_,hm,_⟩:=hA.form;cases e;exact hm
 have hnl:nn≤X.length:=by omega
 have hncl:nn≤cap:=by omega
 obtain⟨o2,hif,ho2⟩:∃o2,(if cap=nn then some (⟨b,off,none⟩:Addr) else some ⟨b,off+nn,none⟩)=some ⟨b,o2,none⟩∧(o2=off+nn∨X.length=nn):=by
  by_cases h:cap=nn
  ·exact⟨off,by rw [if_pos h],.inr (by omega)⟩
  ·exact⟨off+nn,by rw [if_neg h],.inl rfl⟩
 have hAL:=go (hA.below hb0) ho2 (by omega) (show X.length - nn≤cap - nn by omega) (by omega)
 have hdl:(X.drop nn).length=X.length - nn:=List.length_drop
 have C:=iy _ _ (X.drop nn) O w0.drew (hAL.below (Below.refl _ _).drew) ((hO.below hb0).below (Below.refl _ _).drew) ((hT.below hb0).below (Below.refl _ _).drew) (by rw [hdl];omega) hO0 hOl hOb
 rw [hdl] at C
 have KS:=ac (fun (W:World) (hg:Below w0.heap.size w0 W)=>show W.cell? ⟨w.heap.size,1,none⟩=some (.slice ao O.length co) from (tri ((hg.block w.heap.size (lt_of_block h0)).trans h0)).2.1)
 have g0:Below w0.heap.size w0 w0.drew:=(Below.refl _ _).drew
 have HB0:=ac hb0
 have H0:=ac h0
 have HXa:=ac hA
 have HLP:=ac (And.intro lp1 (And.intro lp2 lp3))
 have HPP:=ac hP
 have HO0:=ac hO0
 have hns:nn≤s:=by omega
 clear hb0 h0 hA hT hO hn2 lp1 lp2 lp3 hAL hP hO0 hOl hOb ho2
 go_enter Tryz.func134,Tryz.ntmps134
 go_upto_region 2 with fail
 go_region_held3 (fun w'=>w'.cell? ⟨w.heap.size,1,none⟩=some (.slice ao O.length co)) (first|with_reducible exact KS.out _ g1|with_reducible exact KS.out _ g0) (first
  | (go_at_call 156;refine C.mono ?_;rintro e' w1 ⟨⟨vr,Q,R,rfl,AQ,AR,hvQ,hvR,hlQ,hnR⟩,hb1⟩;have g1:=bt5 g0 hb1;obtain⟨a5,c5,rfl,_,_,hLr⟩:=AR.form))
 have hB1:=bt5 HB0.out g1
 have hlen:=lA hnR hvR (Nat.pos_of_ne_zero HO0.out) HPP.out
 obtain⟨N,hN,hNi⟩:∃N,N=s+R.length∧(s:Int)+(R.length:Int)=(N:Int):=⟨_,rfl,by omega⟩
 have hNs:N - s=R.length:=by omega
 obtain⟨o5,hif5,ho5⟩:∃o5,(∀g:Nat,(if N=s then some (⟨g,0,none⟩:Addr) else some ⟨g,s,none⟩)=some ⟨g,o5,none⟩)∧((o5=s∨(R.length=0∧o5=0))∧o5+R.length≤N):=by
  by_cases h:N=s
  ·exact⟨0,fun g=>by rw [if_pos h],.inr ⟨by omega,rfl⟩,by omega⟩
  ·exact⟨s,fun g=>by rw [if_neg h],.inl rfl,by omega⟩
 have lTk:(X.take nn).length=nn:=by rw [List.length_take];omega
 have h1:=(g1.block w.heap.size (lt_of_block H0.out)).trans H0.out
 obtain⟨k0,k1,k2⟩:=tri h1
 have hwl:w.heap.size<w1.heap.size:=lt_of_block h1
 have H1:=ac h1
 have HB1:=ac hB1
 have HAR:=ac AR
 have HAQ:=ac AQ
 have HV:=ac (And.intro hvQ (And.intro hvR (And.intro hlQ hnR)))
 have HNN:=ac hN
 have HO5:=ac ho5
 have hsN:s≤N:=by omega
 have hnN:nn≤N:=by omega
 have hN9:N≤1048576:=by omega
 clear hb1 g1 g0 hB1 AQ AR hvQ hvR hlQ hnR hLr h1 hN ho5 hif C KS H0 HB0
 go_wp2_with (at_make;refine wpList_make_full _ rfl _ _ 23 rfl w1.heap.size 62 i0 (.int .u64 0) 1 Tryz.underlying23 hi hz0 hz1 .i64 .i64 _ _ N rfl rfl (by omega) (by omega) (by rw [hz2];omega) (by unfold maxLen;omega) (Nat.le_refl _) ?_;intro w3 hown hgrow;have hbel3:Below w1.heap.size w1 w3:=(Below.refl w1.heap.size w1).grown hgrow (Nat.le_refl _) (fun k hk=>by cases hk);obtain⟨w4,M4,hcp,B4,L4,F4,O4,S4⟩:=bZ w1.heap.size 0 N N (List.replicate N 0) (some ⟨b,off,none⟩) cap (X.take nn) w3 (Blk.made hown) (limbs_replicate _) (HXa.out.front nn hnl).limbs (bU N 0 N) (by simp) (by rw [lTk];omega) (aq.arg ((HXa.out.front nn hnl).below (HB1.out.trans (hbel3.mono HB1.out.size))));rw [lTk] at hcp;have hbel4:Below w1.heap.size w1 w4:=hbel3.trans (F4.below (Nat.le_refl _) hbel3.size);obtain⟨j0,j1,j2⟩:=tri ((hbel4.block w.heap.size hwl).trans H1.out);have hM4l:M4.length=N:=by rw [O4.len,List.length_replicate])
 obtain⟨z0,z1⟩:=kk (M:=M4) (s:=s) (u:=R.length) (by have:=HNN.out;omega) (by rw [←HNN.out];exact S4) HLP.out.2.2
 have hz5:sv M4 o5 R.length=0:=by
  rcases HO5.out.1 with h|⟨h,_⟩
  ·rw [h];exact z0
  ·rw [h];exact aC _ _
 have hLu:aq w4 a5 R:=by
  obtain⟨_,_,e,_,_,hl⟩:=(HAR.out.below hbel4).form
  cases e
  exact hl
 obtain⟨w5,M5,hcp2,B5,L5,F5,O5,S5⟩:=bZ w1.heap.size o5 R.length R.length M4 a5 c5 R w4 B4 L4 HAR.out.limbs hz5 (by rw [hM4l];exact HO5.out.2) (Nat.le_refl _) hLu
 have hbel5:Below w1.heap.size w1 w5:=hbel4.trans (F5.below (Nat.le_refl _) hbel4.size)
 have hM5l:M5.length=s+R.length:=by rw [O5.len,hM4l];exact HNN.out
 have hval:=qK hM5l z1 O5 S5 HO5.out.1
 have hArg:Arg w5 (.slice (some ⟨w1.heap.size,0,none⟩) N N) M5:=by
  have h:=Ans.of_blk (base:=w.heap.size) (zs:=M5) (by omega) B5 List.take_length.symm (Nat.le_refl _) (by omega) L5
  rw [hM5l,←HNN.out] at h
  exact h.arg (by rw [hM5l,←HNN.out];omega)
 have hlow:val M5=val X % (18446744073709551616 ^ s*val O):=by
  rw [hval,pr,HV.out.2.1,HLP.out.2.1]
  have e1:=HLP.out.1
  have e2:val X % 18446744073709551616 ^ s=val (X.take nn):=by
   rw [e1,Nat.add_mul_mod_self_left,Nat.mod_eq_of_lt HLP.out.2.2]
  rw [e2]
 have hhigh:val Q=val X / (18446744073709551616 ^ s*val O):=by
  rw [oB,HLP.out.2.1]
  exact HV.out.1
 have HF:=ac (And.intro hArg (And.intro (HAQ.out.below hbel5) (And.intro hlow (And.intro hhigh (HB1.out.trans (hbel5.mono HB1.out.size))))))
 have HM5:Hid (M5.length≤1048576):=ac (by rw [hM5l];exact hlen)
 have HGG:Hid (w.heap.size≤w0.drew.heap.size∧w.heap.size≤w1.heap.size):=ac ⟨by rw [←hw0];exact Nat.le_trans (Nat.le_succ _) (by simp),Nat.le_of_lt hwl⟩
 have HQL:Hid (Q.length≤X.length):=ac (by have:=HV.out.2.2.1;omega)
 clear hown hgrow hbel3 hbel4 hbel5 B4 L4 F4 O4 S4 B5 L5 F5 O5 S5 hval hArg hLu hz5 z0 z1 hM5l hlow hhigh hi hz0 hz1 hz2
 go_wp2
 rw [hcp2]
 go_wp2
 go_ret2
 exact⟨⟨_,_,_,_,_,_,Q,M5,HGG.out,rfl,HF.out.2.1,HF.out.1,HF.out.2.2.2.1,HF.out.2.2.1,HQL.out,HM5.out⟩,HF.out.2.2.2.2⟩

theorem lp (v:Value)(zs:List Nat)(n:Nat)(w:World)(h1:Arg w v zs)(f1:zs.length≤35184372088831)(hn:n≤1099511627776) :
  Calls Tryz.prog 169 #[v,.int .i64 n] w fun e w'=>Below w.heap.size w w'∧Res w' w.heap.size e (val zs / 2 ^ n):=by
 obtain⟨a1,c1,rfl,hc1,hm1,hl1⟩:=h1.form
 have H0:=ix n w (by omega) (by omega)
 have H1:=bY a1 c1 zs w hc1 hm1 hl1
 have l1:=tr_length_le zs
 have L1:=hl1.tr
 have M1:=limbs_tr h1.limbs
 obtain⟨q,s,hs,hnq⟩:∃q s,s<64∧n=q*64+s:=⟨n / 64,n % 64,by omega,by omega⟩
 have eq1:(n:Int) / 64=(q:Int):=by omega
 have eq2:(n:Int) % 64=(s:Int):=by omega
 have HN:Hid (n=q*64+s):=hnq
 have hq:q≤17179869184:=by omega
 obtain⟨i0,hi,hz0,hz1,hz2⟩:=info_parts Tryz.infoU
 clear hnq
 by_cases hql:(tr zs).length≤q
 ·have HV:Hid (val zs / 2 ^ n=0):=by
   refine ac ?_
   rw [Nat.div_eq_of_lt]
   have:=val_lt M1
   rw [val_tr,W_pow] at this
   have h2:(2:Nat) ^ ((tr zs).length*64)≤2 ^ n:=Nat.pow_le_pow_right (by omega) (by have:=HN.out;omega)
   omega
  clear L1 M1 hl1 h1 hi hz0 hz1 hz2
  generalize tr zs=Z at *
  go_enter Tryz.func169,Tryz.ntmps169
  go_wp2_with fail
  refine H0.mono ?_
  rintro e w' ⟨rfl,rfl⟩
  go_wp2_with fail
  refine H1.mono ?_
  rintro e w' ⟨rfl,rfl⟩
  clear H0 H1
  go_wp2
  go_ret2
  rw [HV.out]
  exact⟨Below.refl _ _,_,_,[],rfl,Ans.nil _ _,.inl ⟨rfl,rfl,rfl,by simp [blen]⟩⟩
 ·rcases L1 with h' | ⟨b,off,rfl,hcell⟩
  ·simp [h'] at hql
  ·have hbw:b<w.heap.size:=aq.block (zs:=tr zs) (.inr ⟨b,off,rfl,hcell⟩) (by omega)
   have hcl:(tr zs).length≤c1:=by omega
   have hlx:((tr zs).drop q).length=(tr zs).length - q:=by simp
   have HVX:Hid (val ((tr zs).drop q) / 2 ^ s=val zs / 2 ^ n):=by
    refine ac ?_
    rw [val_drop M1 q (by omega),val_tr,Nat.div_div_eq_div_mul,←Nat.pow_add,←HN.out]
   have hcx:∀k,k<((tr zs).drop q).length→w.cell? ⟨b,off+q+k,none⟩=some (.int .u64 ((((tr zs).drop q).getD k 0:Nat):Int)):=by
    intro k hk
    have:=hcell (q+k) (by omega)
    rw [←Nat.add_assoc] at this
    rw [this]
    simp [List.getD]
   have hlimx:Limbs ((tr zs).drop q):=fun z hz=>M1 z (List.mem_of_mem_drop hz)
   clear hcell hl1 h1 M1
   generalize (tr zs).drop q=X at *
   generalize (tr zs).length=m at *
   obtain⟨d,rfl⟩:∃d,m=q+d:=⟨m - q,by omega⟩
   have hdx:X.length=d:=by omega
   subst hdx
   clear hlx
   have hd:decide ((q:Int)+(X.length:Int)≤(q:Int))=false:=by simp;omega
   have hxp:0<X.length:=by omega
   go_enter Tryz.func169,Tryz.ntmps169
   go_wp2_with fail
   refine H0.mono ?_
   rintro e w' ⟨rfl,rfl⟩
   go_wp2_with fail
   refine H1.mono ?_
   rintro e w' ⟨rfl,rfl⟩
   clear H0 H1
   go_wp2_with (at_make;refine wpList_make_full _ rfl _ _ 23 rfl w'.heap.size 62 i0 (.int .u64 0) 1 Tryz.underlying23 hi hz0 hz1 .i64 .i64 _ _ X.length rfl rfl (by omega) (by omega) (by rw [hz2];omega) (by unfold maxLen;omega) (Nat.le_refl _) ?_;intro w1 hown hgrow)
   have hb1:=Blk.made hown
   have hbel:Below w'.heap.size w' w1:=(Below.refl _ _).grown hgrow (Nat.le_refl _) (fun k hk=>by cases hk)
   clear hown hgrow hi hz0 hz1 hz2
   go_loopw [31] (fun i wr=>∃(k:Nat) (out:List Nat),k≤X.length∧i=.int .i64 k∧out.length=X.length∧Limbs out∧Blk wr w'.heap.size out∧Below w'.heap.size w' wr ∧
     2 ^ s*val (out.take k)+X.getD 0 0 % 2 ^ s=val (X.take k)+X.getD k 0 % 2 ^ s*18446744073709551616 ^ k) (fun i _=>X.length - (intOf i).toNat)
   case atStart=>exact⟨0,_,Nat.zero_le _,rfl,by simp,limbs_replicate _,hb1,hbel,by simp [val]⟩
   case round=>
    obtain⟨k,out,hk,rfl,hlen,hlo,hblk,hbl,hval⟩:=hrel
    clear hb1 hbel
    have HV:=ac hval
    have HB:=ac hblk
    have HL:=ac hbl
    clear hval
    by_cases hkl:k<X.length
    ·have hck:wr.cell? ⟨b,off+q+k,none⟩=some (.int .u64 ((X.getD k 0:Nat):Int)):=by rw [hbl.cell (p:=⟨b,off+q+k,none⟩) hbw];exact hcx k hkl
     have hlies:aq wr.drew (some ⟨b,off+q,none⟩) X:=.inr ⟨b,off+q,rfl,fun j hj=>by rw [hbl.drew.cell (p:=⟨b,off+q+j,none⟩) hbw];exact hcx j hj⟩
     have H42:=gV (some ⟨b,off+q,none⟩) (c1 - q) X (k+1) wr.drew (by omega) (by omega) hlies
     rw [show ((k+1:Nat):Int)=(k:Int)+1 from by omega] at H42
     have hfr:=hblk.free k
     have hco:=hblk.cell k (by omega)
     have hst:=right_step X out s k hs (by omega) HV.out
     have z1:=limb_lt hlimx k
     have hne1:¬b=w'.heap.size:=by omega
     have hne2:¬w'.heap.size=b:=by omega
     generalize out.getD k 0=o at *
     have HS:=ac hst
     clear hst hlies hblk hbl HV hcx
     generalize hy:X.getD (k+1) 0=y at *
     have HY:=ac hy
     clear hy
     generalize X.getD k 0=x at *
     have hi1:(0:Int)≤(k:Int):=by omega
     have hi2:(k:Int)<(X.length:Int):=by omega
     have hwk:IntKind.i64.wrap ((k:Int)+1)=(k:Int)+1:=by rw [IntKind.wrap_i64];omega
     obtain⟨t,ht⟩:∃t,t=64 - s:=⟨_,rfl⟩
     have htb:t≤64:=by omega
     have hw64:IntKind.i64.wrap (64 - (s:Int))=(t:Int):=by rw [IntKind.wrap_i64];omega
     have hw66:IntKind.i64.wrap (t:Int)=(t:Int):=by rw [IntKind.wrap_i64];omega
     have hw65:(64 - (s:Int))=(t:Int):=by omega
     have HT:=ac ht
     clear ht
     go_wp2
     go_region_held3 (fun w2=>w2.cell? ⟨b,off+q+k,none⟩=some (.int .u64 x)) (go_keep) (first | (go_at_call 162;refine H42.mono ?_;rintro e w2 ⟨rfl,rfl⟩))
     go_wp2
     go_roundw
     case rel=>
      have e:=HT.out
      subst e
      rw [walk_shr2 x y s hs z1]
      exact⟨k+1,out.set k (shr x y s),by omega,by go_num,by simp;omega,limbs_set hlo _ _ (shr_lt2 x y s hs z1),HB.out.set _ _,(HL.out.setCell (Nat.le_refl _) _).drew,by rw [HY.out];exact HS.out⟩
     case measure=>simp [intOf];omega
    ·have ek:k=X.length:=by omega
     subst ek
     have HA:=p9 _ w'.heap.size _ _ hblk hlo (Nat.le_refl _) (by omega)
     rw [right_end X out s hlen HV.out,HVX.out,hlen] at HA
     clear hblk hbl HV HB hlo hcx hlimx
     go_wp2_with fail
     refine HA.mono ?_
     rintro e w2 ⟨rfl,hres⟩
     unfold Res at hres
     obtain⟨v,c,rs,rfl,hres⟩:=hres
     have HX:=ac hres
     clear hres
     go_wp2
     go_ret2
     exact⟨HL.out,v,c,rs,rfl,HX.out⟩

theorem iw (n:Int):bits .and .i64 n 1=n % 2:=by
 have h1:(BitVec.ofInt 64 1).toNat=2 ^ 1 - 1:=by decide
 have key:(BitVec.ofInt 64 n &&& BitVec.ofInt 64 1).toNat=(n % ((2 ^ 64:Nat):Int)).toNat % 2 ^ 1:=by
  rw [BitVec.toNat_and,BitVec.toNat_ofInt,h1,Nat.and_two_pow_sub_one_eq_mod]
 show IntKind.i64.wrap ((BitVec.ofInt 64 n &&& BitVec.ofInt 64 1).toNat:Nat)=n % 2
 rw [key,IntKind.wrap_i64]
 omega

theorem jR (x k:Nat):x / 2 ^ k=2*(x / 2 ^ (k+1))+x / 2 ^ k % 2:=by
 rw [Nat.pow_succ,←Nat.div_div_eq_div_mul]
 omega

theorem eG {x y:Nat}(h:x≤y):blen x≤blen y:=(blen_le_iff x _).2 (Nat.lt_of_le_of_lt h ((blen_le_iff y _).1 (Nat.le_refl _)))

theorem i9 {x n k:Nat}(hx:0<x)(hk:k≤n):x ^ k≤x ^ n:=Nat.pow_le_pow_right hx hk

theorem Res.big {w:World}{base s:Nat}(h:67108864<blen s):Res w base (.returned (.tuple #[.slice none 0 0,.int .i64 3])) s:=
 ⟨_,3,[],rfl,Ans.nil _ _,.inr ⟨rfl,rfl,h⟩⟩

theorem Res.of_nv {w:World}{base s:Nat}{v:Value}(h:Nv w base v s)(hb:blen s≤67108864):Res w base (.returned (.tuple #[v,.int .i64 0])) s:=by
 obtain⟨rs,h1,h2,h3,_⟩:=h
 exact⟨v,0,rs,rfl,h1,.inl ⟨rfl,h2,h3,hb⟩⟩

theorem Res.parts {w:World}{base:Nat}{e:Ending}{s:Nat}(h:Res w base e s):(∃v,e=.returned (.tuple #[v,.int .i64 0])∧Nv w base v s∧blen s≤67108864)∨(∃v,e=.returned (.tuple #[v,.int .i64 3])∧67108864<blen s):=by
 obtain⟨v,c,rs,rfl,hA,h⟩:=h
 rcases h with ⟨rfl,h1,h2,h3⟩|⟨rfl,_,h3⟩
 ·exact .inl ⟨v,rfl,Nv.of hA h1 h2 h3,h3⟩
 ·exact .inr ⟨v,rfl,h3⟩

theorem pG (va:Value)(X:List Nat)(n:Nat)(w:World)(hA:Arg w va X)(hT:Tab w)(hl:X.length≤1048577)(hx:0<val X)(hn0:0<n)(hn:n≤9223372036854775807) :
  Calls Tryz.prog 170 #[va,.int .i64 n] w fun e w'=>Below w.heap.size w w'∧Res w' w.heap.size e (val X ^ n):=by
 obtain⟨x,hxx⟩:∃x,val X=x:=⟨_,rfl⟩
 rw [hxx] at hx ⊢
 have HF:=cB 1 w (by omega)
 have HLN:=fun W=>Tryz.bits_Len (n:Int) W (by omega) (by omega)
 rw [Int.toNat_natCast] at HLN
 have wn:IntKind.u64.wrap (n:Int)=(n:Int):=by rw [IntKind.wrap_u64];omega
 obtain⟨L,hL⟩:∃L,Lib.bitLen n=L:=⟨_,rfl⟩
 have hnl:n<2 ^ L:=by
  obtain⟨_,_,h3⟩:=Lib.bitLenAux_bounds 64 n (by omega) (by omega)
  rw [←hL];exact h3
 have hL64:L≤64:=by rw [←hL];exact Lib.bitLen_le n 64 (by omega) (by omega)
 rw [hL] at HLN
 obtain⟨a1,c1,rfl,_,_,_⟩:=hA.form
 have HA:=ac hA
 have HT:=ac hT
 have HX:=ac (And.intro hxx hx)
 have HN:=ac (And.intro hnl hn0)
 clear hA hT hxx hx hL hnl hn0
 go_enter Tryz.func170,Tryz.ntmps170
 go_wp2_with fail
 refine HF.mono ?_
 rintro e w1 ⟨⟨v1,rfl,A1⟩,hb1⟩
 have ST:=ac (And.intro (Nv.of A1 (x:=1) (by rw [val_tr];simp [val]) (tr_tr _) (by decide)) hb1)
 clear HF A1 hb1
 go_wp2_with fail
 refine (HLN _).mono ?_
 rintro e wn' ⟨rfl,hw⟩;rw [hw];clear hw wn' HLN
 go_wp2
 go_loopw [6,7,8] (fun v c i wr=>∃(k:Nat),c=.int .i64 0∧i=.int .i64 ((k:Int) - 1)∧k≤L∧Nv wr w.heap.size v (x ^ (n / 2 ^ k))∧Below w.heap.size w wr) (fun _ _ i _=>(intOf i+1).toNat)
 case atStart=>
  refine⟨L,rfl,rfl,Nat.le_refl _,?_,ST.out.2⟩
  rw [Nat.div_eq_of_lt HN.out.1,Nat.pow_zero]
  exact ST.out.1
 case round=>
  obtain⟨k,rfl,rfl,hk,hnv,hbel⟩:=hrel
  have HNV:=ac hnv
  have HB:=ac hbel
  clear hnv hbel ST
  by_cases hk0:k=0
  ·subst hk0
   have h:=HNV.out
   rw [Nat.pow_zero,Nat.div_one] at h
   have HE:=ac h
   clear h
   go_wp2
   go_returns
   refine⟨HB.out,Res.of_nv HE.out ?_⟩
   obtain⟨rs,h1,h2,h3,h4⟩:=HE.out
   rw [←h2]
   have:=(blen_le_iff (val rs) (64*rs.length)).2 (by have:=val_lt h1.limbs;rw [show (18446744073709551616:Nat)=2 ^ 64 from rfl,←Nat.pow_mul] at this;exact this)
   omega
  ·obtain⟨j,rfl⟩:∃j,k=j+1:=⟨k - 1,by omega⟩
   have ej:(((j+1:Nat):Int) - 1)=(j:Int):=by omega
   rw [ej]
   have hj0:(0:Int)≤(j:Int):=by omega
   have hj64:j<64:=by omega
   obtain⟨rs,A1,e1,_,l1⟩:=HNV.out.arg
   have HS:=jJ _ rs wr A1 (HT.out.below HB.out) (by omega)
   have e2:val rs*val rs=x ^ (2*(n / 2 ^ (j+1))):=by rw [e1,←Nat.pow_add];congr 1;omega
   rw [e2] at HS
   have hst:=jR n j
   have hle:n / 2 ^ j≤n:=Nat.div_le_self _ _
   have hsh:(n:Int) / 2 ^ j=((n / 2 ^ j:Nat):Int):=by rw [Int.natCast_ediv,Int.natCast_pow];rfl
   have hand:=iw ((n / 2 ^ j:Nat):Int)
   have hm2:((n / 2 ^ j:Nat):Int) % 2=((n / 2 ^ j % 2:Nat):Int):=by omega
   rw [hm2] at hand
   have wj:IntKind.i64.wrap (((n / 2 ^ j:Nat)):Int)=(((n / 2 ^ j:Nat)):Int):=by rw [IntKind.wrap_i64];omega
   generalize n / 2 ^ (j+1)=p at *
   obtain⟨q,hq⟩:∃q,n / 2 ^ j=q:=⟨_,rfl⟩
   rw [hq] at hst hle hsh hand hm2 wj
   have HQ:=ac (And.intro hst hle)
   have HQD:=ac hq
   clear hq
   clear A1 e1 e2 l1 ej hk0 hst
   go_wp2_with fail
   refine HS.mono ?_
   rintro e w2 ⟨hb2,hr⟩
   have HB2:=ac (HB.out.trans (hb2.mono HB.out.size))
   rcases hr.parts with ⟨v2,rfl,N2,bl2⟩|⟨v2,rfl,bl2⟩
   ·have HN2:=ac N2
    clear HS hb2 hr N2 bl2
    rcases Nat.mod_two_eq_zero_or_one q with h0|h1
    ·rw [h0] at hand
     have HEQ:Hid (2*p=q):=ac (by have:=HQ.out.1;omega)
     clear h0
     go_wp2
     go_roundw
     case rel=>exact⟨j,rfl,rfl,by omega,by rw [HQD.out,←HEQ.out];exact HN2.out.base HB.out.size,HB2.out⟩
     case measure=>simp [intOf]
    ·rw [h1] at hand
     have HEQ:Hid (2*p+1=q):=ac (by have:=HQ.out.1;omega)
     obtain⟨rs2,A2,e2,_,l2⟩:=HN2.out.arg
     have HM:=dY v2 _ rs2 X w2 A2 (HA.out.below HB2.out) (HT.out.below HB2.out) (by omega)
     have e3:val rs2*val X=x ^ q:=by rw [e2,HX.out.1,←HEQ.out,Nat.pow_succ]
     rw [e3] at HM
     clear h1 A2 e2 l2 e3
     go_wp2_with fail
     refine HM.mono ?_
     rintro e w3 ⟨hb3,hr⟩
     have HB3:=ac (HB2.out.trans (hb3.mono HB2.out.size))
     rcases hr.parts with ⟨v3,rfl,N3,bl3⟩|⟨v3,rfl,bl3⟩
     ·have HN3:=ac N3
      clear HM hb3 hr N3 bl3
      go_wp2
      go_roundw
      case rel=>exact⟨j,rfl,rfl,by omega,by rw [HQD.out];exact HN3.out.base HB2.out.size,HB3.out⟩
      case measure=>simp [intOf]
     ·have HBG:=ac (Nat.lt_of_lt_of_le bl3 (eG (i9 HX.out.2 HQ.out.2)))
      clear HM hb3 hr bl3
      go_wp2
      go_returns
      exact⟨HB3.out,Res.big HBG.out⟩
   ·have HBG:=ac (Nat.lt_of_lt_of_le bl2 (eG (i9 (n:=n) (k:=2*p) HX.out.2 (by have:=HQ.out;omega))))
    clear HS hb2 hr bl2
    go_wp2
    go_returns
    exact⟨HB2.out,Res.big HBG.out⟩

theorem iP {x:Nat}(h:1<blen x):2≤x:=by
 refine Nat.le_of_not_lt fun hlt=>?_
 have:blen x≤1:=(blen_le_iff x 1).2 (by omega)
 omega

theorem qW {x n:Nat}(hx:1<blen x)(h:67108863<(blen x - 1)*n):67108864<blen (x ^ n):=by
 have h1:=gc x (by have:=iP hx;omega)
 have h2:2 ^ ((blen x - 1)*n)≤x ^ n:=by rw [Nat.pow_mul];exact Nat.pow_le_pow_left h1 n
 refine Nat.lt_of_not_le fun hle=>?_
 have h3:=(blen_le_iff (x ^ n) _).1 (Nat.le_refl (blen (x ^ n)))
 have h4:(blen x - 1)*n<blen (x ^ n):=(Nat.pow_lt_pow_iff_right (by omega)).1 (Nat.lt_of_le_of_lt h2 h3)
 omega

theorem mK {x t:Nat}(h:aU x t):x=x / 2 ^ t*2 ^ t∧0<x / 2 ^ t:=by
 obtain⟨h1,h2⟩:=h
 have h3:=Nat.div_add_mod x (2 ^ t)
 rw [h1,Nat.mul_comm] at h3
 refine⟨h3.symm,?_⟩
 generalize x / 2 ^ t=q at *
 rcases Nat.eq_zero_or_pos q with h|h
 ·rw [h] at h2;simp at h2
 ·exact h

theorem fI (va:Value)(X:List Nat)(n:Nat)(w:World)(hA:Arg w va X)(hT:Tab w)(hl:X.length≤17592186044416)(hn:n≤9223372036854775807) :
  Calls Tryz.prog 152 #[va,.int .i64 n] w fun e w'=>Below w.heap.size w w'∧Res w' w.heap.size e (val X ^ n):=by
 have HL:=aK _ _ w hA
 obtain⟨L,hL⟩:∃L,blen (val X)=L:=⟨_,rfl⟩
 rw [hL] at HL
 have hLb:L≤64*X.length:=by
  rw [←hL]
  exact (blen_le_iff _ _).2 (by have:=val_lt hA.limbs;rw [show (18446744073709551616:Nat)=2 ^ 64 from rfl,←Nat.pow_mul] at this;exact this)
 by_cases h0:n=0
 ·subst h0
  have HF:=cB 1 w (by omega)
  have HR:Hid (∀w' v,Ans w' w.heap.size v (tr [1])→Res w' w.heap.size (.returned (.tuple #[v,.int .i64 0])) (val X ^ 0)):=ac fun w' v h=>⟨v,0,_,rfl,h,.inl ⟨rfl,by rw [val_tr];simp [val],tr_tr _,by rw [Nat.pow_zero];decide⟩⟩
  clear hA hT hL
  go_enter Tryz.func152,Tryz.ntmps152
  go_wp2_with fail
  refine HL.mono ?_
  rintro e wn ⟨rfl,hw⟩;rw [hw];clear hw wn HL
  go_wp2_with fail
  refine HF.mono ?_
  rintro e w1 ⟨⟨v1,rfl,A1⟩,hb1⟩
  have H:=ac (And.intro A1 hb1)
  clear HF A1 hb1
  go_wp2
  go_returns
  exact⟨H.out.2,HR.out _ _ H.out.1⟩
 ·have hz:((n:Int) == 0)=false:=by rw [beq_eq_false_iff_ne];omega
  have hnn:¬((n:Int)<0):=by omega
  by_cases h1:L≤1
  ·have HN:=dd va X w hA hl
   have i1:(L:Int)≤1:=by omega
   have hx1:val X ^ n=val X:=by
    have:val X<2 ^ 1:=(blen_le_iff _ 1).1 (by rw [hL];exact h1)
    rcases Nat.eq_zero_or_pos (val X) with h|h
    ·rw [h];exact Nat.zero_pow (by omega)
    ·rw [show val X=1 by omega,Nat.one_pow]
   rw [hx1]
   have HX:=ac (show blen (val X)≤67108864 by omega)
   clear hA hT hL hx1
   go_enter Tryz.func152,Tryz.ntmps152
   go_wp2_with fail
   refine HL.mono ?_
   rintro e wn ⟨rfl,hw⟩;rw [hw];clear hw wn HL
   go_wp2_with fail
   refine HN.mono ?_
   rintro e w1 ⟨⟨v1,rfl,A1⟩,hb1⟩
   have H:=ac (And.intro A1 hb1)
   clear HN A1 hb1
   go_wp2
   go_returns
   exact⟨H.out.2,_,0,_,rfl,H.out.1,.inl ⟨rfl,val_tr _,tr_tr _,HX.out⟩⟩
  ·have i1:¬((L:Int)≤1):=by omega
   obtain⟨M,hM⟩:∃M,L=M+1:=⟨L - 1,by omega⟩
   have eM:(L:Int) - 1=(M:Int):=by omega
   obtain⟨Q,hQ⟩:∃Q,67108863 / n=Q:=⟨_,rfl⟩
   have eQ:(67108863:Int) / (n:Int)=(Q:Int):=by rw [←hQ,Int.natCast_ediv];rfl
   have hQl:Q≤67108863:=by rw [←hQ];exact Nat.div_le_self _ _
   by_cases h2:Q<M
   ·have i2:(Q:Int)<(M:Int):=by omega
    have HB:Hid (67108864<blen (val X ^ n)):=by
     refine ac (qW (by omega) ?_)
     rw [hL,hM,Nat.add_sub_cancel]
     rw [←hQ] at h2
     exact (Nat.div_lt_iff_lt_mul (by omega)).1 h2
    clear hA hT hL hM hQ
    go_enter Tryz.func152,Tryz.ntmps152
    go_wp2_with fail
    refine HL.mono ?_
    rintro e wn ⟨rfl,hw⟩;rw [hw];clear hw wn HL
    go_wp2
    go_returns
    exact⟨Below.refl _ _,Res.big HB.out⟩
   ·have i2:¬((Q:Int)<(M:Int)):=by omega
    have hMn:M*n≤67108863:=by
     have:M≤67108863 / n:=by omega
     exact (Nat.le_div_iff_mul_le (by omega)).1 this
    have HTL:=fs va X w hA hT
    have HA:=ac hA
    have HT:=ac hT
    have hx2:2≤val X:=iP (by omega)
    have HX:=ac (And.intro hL (And.intro hM (And.intro hMn hx2)))
    clear hA hT hL hM hQ hMn hx2
    go_enter Tryz.func152,Tryz.ntmps152
    go_wp2_with fail
    refine HL.mono ?_
    rintro e wn ⟨rfl,hw⟩;rw [hw];clear hw wn HL
    go_wp2_with fail
    refine HTL.mono ?_
    rintro e wn ⟨⟨t,ht,rfl,_,htl⟩,hw⟩;rw [hw];clear hw wn HTL
    have hit:=htl (by have:=HX.out.2.2.2;omega)
    obtain⟨od1,od2⟩:=mK hit
    have htM:t≤M:=by
     have h3:2 ^ t≤val X:=by rw [od1];exact Nat.le_mul_of_pos_left _ od2
     have h4:=(blen_le_iff (val X) _).1 (Nat.le_refl _)
     have h5:t<blen (val X):=(Nat.pow_lt_pow_iff_right (by omega)).1 (Nat.lt_of_le_of_lt h3 h4)
     have:=HX.out.1
     have:=HX.out.2.1
     omega
    have hM26:M≤67108863:=by
     have:=HX.out.2.2.1
     have:=Nat.le_mul_of_pos_right M (show 0<n by omega)
     omega
    have HR:=lp va X t w HA.out (by omega) (by omega)
    have HO:=ac (And.intro od1 (And.intro od2 htM))
    clear htl hit od1 od2 ht
    go_wp2_with fail
    refine HR.mono ?_
    rintro e w1 ⟨hb1,hr1⟩
    have hble:blen (val X / 2 ^ t)≤blen (val X):=eG (Nat.div_le_self _ _)
    obtain⟨v1,rfl,N1⟩:=hr1.fits (by have:=HX.out.1;have:=HX.out.2.1;omega)
    obtain⟨rs1,A1,e1,_,l1⟩:=N1.arg
    have HP:=pG v1 rs1 n w1 A1 (HT.out.below hb1) (by omega) (by rw [e1];exact HO.out.2.1) (by omega) hn
    rw [e1] at HP
    have HB1:=ac hb1
    clear HR hb1 hr1 hble N1 A1 e1 l1
    go_wp2_with fail
    refine HP.mono ?_
    rintro e w2 ⟨hb2,hr2⟩
    have HB2:=ac (HB1.out.trans (hb2.mono HB1.out.size))
    have hpw:(val X / 2 ^ t) ^ n*2 ^ (t*n)=val X ^ n:=by
     rw [Nat.pow_mul,←Nat.mul_pow,←HO.out.1]
    have htn:t*n≤67108863:=Nat.le_trans (Nat.mul_le_mul_right n HO.out.2.2) HX.out.2.2.1
    obtain⟨u,hu,eu⟩:∃u:Nat,t*n=u∧(t:Int)*(n:Int)=(u:Int):=⟨t*n,rfl,by rw [Int.natCast_mul]⟩
    rw [hu] at hpw htn
    rcases hr2.parts with ⟨v2,rfl,N2,bl2⟩|⟨v2,rfl,bl2⟩
    ·obtain⟨rs2,A2,e2,_,l2⟩:=N2.arg
     have HLF:=lh v2 rs2 u w2 A2 (by omega) (by omega)
     rw [e2,hpw] at HLF
     clear HP hb2 hr2 N2 A2 e2 l2 bl2 hpw hu
     go_wp2_with fail
     refine HLF.mono ?_
     rintro e w3 ⟨hb3,v3,c3,rs3,rfl,A3,h3⟩
     have H:=ac (And.intro (A3.base HB2.out.size) (And.intro h3 (HB2.out.trans (hb3.mono HB2.out.size))))
     clear HLF hb3 A3 h3
     go_wp2
     go_returns
     exact⟨H.out.2.2,v3,c3,rs3,rfl,H.out.1,H.out.2.1⟩
    ·have HBG:=ac (Nat.lt_of_lt_of_le bl2 (eG (show (val X / 2 ^ t) ^ n≤val X ^ n by rw [←hpw];exact Nat.le_mul_of_pos_right _ (Nat.two_pow_pos _))))
     clear HP hb2 hr2 bl2 hpw hu
     go_wp2
     go_returns
     exact⟨HB2.out,Res.big HBG.out⟩
end Go.Proofs.YtgnmgbbokcpppaaGreatDoor

