/- Package numeral: exponent. -/
import Derived.Test.YtkhckcfikljjhaaGreatDoorB11
import Derived.Test.YtkhckcfikljjhaaGreatDoorB12
import Derived.Test.YtkhckcfikljjhaaGreatDoorB10
import Derived.Deep.RegionHeld3
import Derived.Deep.QuietTactic
import Derived.BigQuiet
import Derived.Test.YtkhckcfikljjhaaGreatDoorB03
import Derived.Test.YtkhckcfikljjhaaGreatDoorB01
import Derived.Test.YtkhckcfikljjhaaGreatDoorB02
import Derived.Handy
import Derived.Lib.AppendStr
set_option maxRecDepth 20000
set_option maxHeartbeats 4000000
namespace Go.Proofs.YtkhckcfikljjhaaGreatDoor
open Go.RowKit
open Lm
attribute [local go_sem ↓] Go.wp_at_zero Go.wp_at_succ

theorem oO (a b:Nat)(ha:a<4611686018427387904)(hb:b<4611686018427387904):bits .or .i64 (a:Int) (b:Int)=((a ||| b:Nat):Int):=by
 have hx:a ||| b<2 ^ 62:=Nat.or_lt_two_pow (by omega) (by omega)
 have h1:(BitVec.ofInt 64 (a:Int)).toNat=a:=by
  rw [BitVec.ofInt_natCast,BitVec.toNat_ofNat];exact Nat.mod_eq_of_lt (by omega)
 have h2:(BitVec.ofInt 64 (b:Int)).toNat=b:=by
  rw [BitVec.ofInt_natCast,BitVec.toNat_ofNat];exact Nat.mod_eq_of_lt (by omega)
 show IntKind.i64.wrap ((BitVec.ofInt 64 (a:Int) ||| BitVec.ofInt 64 (b:Int)).toNat:Int)=_
 rw [BitVec.toNat_or,h1,h2,IntKind.wrap_i64]
 omega

theorem pO {m p:Nat}(h:m % 2 ^ (p+1)=0):m ||| 2 ^ p=m+2 ^ p:=by
 have e:m=2 ^ (p+1)*(m / 2 ^ (p+1)):=(Nat.mul_div_cancel' (Nat.dvd_of_mod_eq_zero h)).symm
 rw [e]
 exact (Nat.two_pow_add_eq_or_of_lt (by rw [Nat.pow_succ];have:=Nat.two_pow_pos p;omega) _).symm

theorem oW {m p K:Nat}(h:m % 2 ^ (p+1)=0)(hm:m<2 ^ K)(hp:p+1≤K):m+2 ^ (p+1)≤2 ^ K:=by
 have e:m=m / 2 ^ (p+1)*2 ^ (p+1):=(Nat.div_mul_cancel (Nat.dvd_of_mod_eq_zero h)).symm
 have h4:m / 2 ^ (p+1)<2 ^ (K - (p+1)):=by
  refine Nat.lt_of_mul_lt_mul_right (a:=2 ^ (p+1)) ?_
  rw [←Nat.pow_add,show K - (p+1)+(p+1)=K by omega,←e]
  exact hm
 have h5:=Nat.mul_le_mul_right (2 ^ (p+1)) (Nat.succ_le_of_lt h4)
 rw [←Nat.pow_add,show K - (p+1)+(p+1)=K by omega,Nat.succ_mul,←e] at h5
 exact h5

theorem pF {m p:Nat}(h:m % 2 ^ (p+1)=0):m % 2 ^ p=0∧(m+2 ^ p) % 2 ^ p=0:=by
 have e:m=2 ^ p*(2*(m / 2 ^ (p+1))):=by
  have e:=(Nat.mul_div_cancel' (Nat.dvd_of_mod_eq_zero h)).symm
  rw [Nat.pow_succ,Nat.mul_assoc] at e
  rw [Nat.pow_succ]
  exact e
 refine⟨?_,?_⟩
 ·rw [e];exact Nat.mul_mod_right _ _
 ·rw [Nat.add_mod_right,e];exact Nat.mul_mod_right _ _

theorem iq {w:World}{g:Nat}{a b:Value}{t:TypeId}(h:w.heap[g]?=some (.cells #[a,b] t)):w.cell? ⟨g,0,none⟩=some a∧w.cell? ⟨g,1,none⟩=some b:=⟨by simp [World.cell?,h],by simp [World.cell?,h]⟩

theorem nF (va:Value)(X:List Nat)(b:Nat)(w:World)(hA:Arg w va X)(hT:Tab w)(hl:X.length≤1048576)(hb:2≤b)(hb2:b≤36)(hL:64<blen (val X)) :
  Calls Tryz.prog 86 #[va,.int .u64 b] w fun e w'=>∃n:Nat,e=.returned (.int .i64 n)∧b ^ n≤val X∧val X<b ^ (n+1)∧n≤1152921504606846976∧Below w.heap.size w w':=by
 obtain⟨ao,cap,rfl,_,_,_⟩:=hA.form
 obtain⟨w0,hw0⟩:∃W,(w.alloc (.cells #[.slice ao X.length cap] 25)).alloc (.cells #[.int .u64 b] 65)=W:=⟨_,rfl⟩
 have hb0:Below w.heap.size w w0:=by rw [←hw0];exact bt5 (ak _ _) (ak _ _)
 have x0:w0.heap[w.heap.size]?=some (.cells #[.slice ao X.length cap] 25):=by
  rw [←hw0]
  exact ((ak (w.alloc (.cells #[.slice ao X.length cap] 25)) (.cells #[.int .u64 b] 65)).block w.heap.size (by simp)).trans (heap_alloc_new ..)
 have x1:w0.heap[w.heap.size+1]?=some (.cells #[.int .u64 b] 65):=by
  rw [←hw0]
  have h:=heap_alloc_new (w.alloc (.cells #[.slice ao X.length cap] 25)) (.cells #[.int .u64 b] 65)
  rw [World.size_alloc] at h
  exact h
 have c0:=aJ x0
 have c1:=aJ x1
 have C1:=lT _ X w0 (hA.below hb0) hL
 have hlen:=fi hA.limbs hl
 obtain⟨L,hLe⟩:∃L,blen (val X)=L:=⟨_,rfl⟩
 have hup:val X<2 ^ L:=(blen_le_iff _ _).1 (by omega)
 have LV:=fun W (h:Arg W (.slice ao X.length cap) X)=>aE _ X W h
 rw [hLe] at hlen hL LV
 have HLN:=fun W=>Tryz.bits_Len (L:Int) W (by omega) (by omega)
 simp only [Int.toNat_natCast] at HLN
 obtain⟨K,hK⟩:∃K,Lib.bitLen L=K:=⟨_,rfl⟩
 have hKL:L<2 ^ K:=by rw [←hK];exact (Lib.bitLenAux_bounds 64 L (by omega) (by omega)).2.2
 have hK27:K≤27:=by rw [←hK];exact Lib.bitLen_le L 27 (by omega) (by omega)
 rw [hK] at HLN
 have hpos:1≤val X:=by
  rcases Nat.eq_zero_or_pos (val X) with h|h
  ·rw [h] at hLe;rw [show blen 0=0 from rfl] at hLe;omega
  ·exact h
 have hst:val X<b ^ (2 ^ K):=Nat.lt_of_lt_of_le hup (Nat.le_trans (Nat.pow_le_pow_left hb L) (Nat.pow_le_pow_right (by omega) (Nat.le_of_lt hKL)))
 have HA:=aa (hA.below hb0)
 have HT:=aa (hT.below hb0)
 have HB0:=aa hb0
 have HST:=aa (And.intro hpos hst)
 have X0:=aa x0
 have X1:=aa x1
 have HLV:=aa LV
 have HLN2:=aa HLN
 clear hA hT hb0 hup hKL hpos hst x0 x1 LV HLN hLe hK
 go_enter Tryz.func86,Tryz.ntmps86
 go_wp2_with fail
 refine C1.mono ?_
 rintro e w1 ⟨lm,E,rfl,hTop,_,hb1⟩
 obtain⟨w2,hw2⟩:∃W,w1.alloc (.cells #[.int .u64 lm,.int .i64 ((E:Int) - 63)] 147)=W:=⟨_,rfl⟩
 have hb2':Below w1.heap.size w1 w2:=by rw [←hw2];exact ak _ _
 have x2:w2.heap[w1.heap.size]?=some (.cells #[.int .u64 lm,.int .i64 ((E:Int) - 63)] 147):=by rw [←hw2];exact heap_alloc_new ..
 have hB2:=bt5 hb1 hb2'
 have y0:=(hB2.block _ (lt_of_block X0.out)).trans X0.out
 have y1:=(hB2.block _ (lt_of_block X1.out)).trans X1.out
 have d0:=aJ y0
 have L1:=HLV.out w2 (HA.out.below hB2)
 have Y0:=aa y0
 have Y1:=aa y1
 have Y2:=aa x2
 have HB2:=aa (bt5 HB0.out hB2)
 have HA2:=aa (HA.out.below hB2)
 have HT2:=aa (HT.out.below hB2)
 have HTOP:=aa hTop
 clear C1 hb1 hb2' x2 hB2 y0 y1 X0 X1 HA HT HB0 HLV c0 c1 hTop hw0
 go_wp2_with fail
 refine L1.mono ?_
 rintro e wn ⟨rfl,hw⟩;rw [hw];clear hw wn L1
 have L2:=HLN2.out w2
 go_wp2_with fail
 refine L2.mono ?_
 rintro e wn ⟨rfl,hw⟩;rw [hw];clear hw wn L2
 go_wp2
 clear hw2 d0
 go_loopw [6,7] (fun mv bv wr=>∃m q:Nat,mv=.int .i64 m∧bv=.int .i64 ((q:Int) - 1)∧q≤K∧m % 2 ^ q=0∧m<2 ^ K∧b ^ m≤val X∧val X<b ^ (m+2 ^ q)∧Below w2.heap.size w2 wr) (fun _ bv _=>(intOf bv+1).toNat)
 case atStart=>exact⟨0,K,rfl,rfl,Nat.le_refl _,Nat.zero_mod _,Nat.two_pow_pos _,by rw [Nat.pow_zero];exact HST.out.1,by rw [Nat.zero_add];exact HST.out.2,Below.refl _ _⟩
 case round=>
  obtain⟨m,q,rfl,rfl,hqK,hmq,hmK,hlo,hhi,hbr⟩:=hrel
  have h27:2 ^ K≤134217728:=Nat.pow_le_pow_right (n:=2) (j:=27) (by omega) hK27
  rcases Nat.eq_zero_or_pos q with hq0|hq0
  ·subst hq0
   have HE:=aa (And.intro hlo (And.intro hhi (bt5 HB2.out hbr)))
   have hm9:m≤134217728:=by omega
   clear hlo hhi hbr hmq
   go_wp2
   go_ret
   exact⟨m,rfl,HE.out.1,HE.out.2.1,by omega,HE.out.2.2⟩
  ·obtain⟨p,rfl⟩:∃p,q=p+1:=⟨q - 1,by omega⟩
   have eq:(((p+1:Nat):Int) - 1)=(p:Int):=by omega
   rw [eq]
   have hroom:=oW hmq hmK hqK
   have hhalf:=pF hmq
   have hpp:2 ^ (p+1)=2*2 ^ p:=by rw [Nat.pow_succ];omega
   have hDp:=Nat.two_pow_pos p
   have hor:=oO m (2 ^ p) (by omega) (by omega)
   rw [pO hmq] at hor
   have h2p:(2:Int) ^ p=((2 ^ p:Nat):Int):=by simp
   obtain⟨U,hU9⟩:∃U,m+2 ^ p=U:=⟨_,rfl⟩
   rw [hU9] at hor
   have hUK:U<2 ^ K:=by omega
   have hUe:m+2 ^ (p+1)=U+2 ^ p:=by omega
   have hUb:U≤134217728:=by omega
   have hDb:2 ^ p≤134217728:=by omega
   have hp64:p<64:=by omega
   have hp0:(0:Int)≤(p:Int):=by omega
   have HU:=aa hU9
   have HUK:=aa hUK
   have HUE:=aa hUe
   have HPH:=aa hhalf
   have HLO:=aa hlo
   have HHI:=aa hhi
   obtain⟨w4,hw4⟩:∃W,wr.alloc (.cells #[.int .i64 U] 3)=W:=⟨_,rfl⟩
   have hb4:Below wr.heap.size wr w4:=by rw [←hw4];exact ak _ _
   have x4:w4.heap[wr.heap.size]?=some (.cells #[.int .i64 U] 3):=by rw [←hw4];exact heap_alloc_new ..
   have hB4:=bt5 hbr hb4
   have HB4:=aa hB4
   have KA:=aa (fun (W:World) (hg:Below w4.heap.size w4 W)=>show W.cell? ⟨w.heap.size,0,none⟩=some (.slice ao X.length cap) from aJ (((bt5 hB4 hg).block _ (lt_of_block Y0.out)).trans Y0.out))
   have KS:=aa (fun (W:World) (hg:Below w4.heap.size w4 W)=>show W.cell? ⟨w.heap.size+1,0,none⟩=some (.int .u64 b)∧W.cell? ⟨wr.heap.size,0,none⟩=some (.int .i64 U)∧W.cell? ⟨w1.heap.size,0,none⟩=some (.int .u64 lm)∧W.cell? ⟨w1.heap.size,1,none⟩=some (.int .i64 ((E:Int) - 63)) from
    ⟨aJ (((bt5 hB4 hg).block _ (lt_of_block Y1.out)).trans Y1.out),aJ ((hg.block _ (lt_of_block x4)).trans x4),(iq (((bt5 hB4 hg).block _ (lt_of_block Y2.out)).trans Y2.out)).1,(iq (((bt5 hB4 hg).block _ (lt_of_block Y2.out)).trans Y2.out)).2⟩)
   have NP:=aa (fun (W:World)=>gZ b U W (by omega) (by omega) (by omega))
   have NA:=aa (fun (W:World) (pm pf:Nat) (hPw:Pw b U pm pf) (hg:Below w4.heap.size w4 W)=>nd b U pm pf (val X) lm E (.pointer (some ⟨w.heap.size,0,none⟩)) (.pointer (some ⟨w.heap.size+1,0,none⟩)) (.pointer (some ⟨wr.heap.size,0,none⟩)) W hPw HTOP.out (by omega) (fun W' hW'=>nh w.heap.size (w.heap.size+1) wr.heap.size _ X b U W' (KA.out _ (bt5 hg hW')) (KS.out _ (bt5 hg hW')).1 (KS.out _ (bt5 hg hW')).2.1 (HA2.out.below (bt5 HB4.out (bt5 hg hW'))) (HT2.out.below (bt5 HB4.out (bt5 hg hW'))) hl hb hb2 (by omega)))
   have g0:Below w4.heap.size w4 w4.drew:=(Below.refl _ _).drew
   obtain⟨DD,hDD⟩:∃DD,2 ^ p=DD:=⟨_,rfl⟩
   have HDD:=aa hDD
   rw [hDD] at hor h2p hDb
   clear hlo hhi hbr hmq hhalf hroom hpp hDp hU9 hUK hUe hb4 x4 hB4 hDD eq KA
   by_cases hU:b ^ U≤val X
   ·skip
    have hdec:decide (b ^ U≤val X)=true:=by simpa using hU
    go_wp2_with fail
    go_region_held3 (fun w'=>w'.cell? ⟨w.heap.size+1,0,none⟩=some (.int .u64 b)∧w'.cell? ⟨wr.heap.size,0,none⟩=some (.int .i64 U)∧w'.cell? ⟨w1.heap.size,0,none⟩=some (.int .u64 lm)∧w'.cell? ⟨w1.heap.size,1,none⟩=some (.int .i64 ((E:Int) - 63))) (first|with_reducible exact KS.out _ g2|with_reducible exact KS.out _ g1|with_reducible exact KS.out _ g0) (first
     | (go_at_call 116;refine (NA.out _ pm pf hPw g1).mono ?_;rintro e' t2 ⟨rfl,hb2⟩;have g2:=bt5 g1 hb2)
     | (go_at_call 108;refine (NP.out _).mono ?_;rintro e' t1 ⟨pm,pf,rfl,hPw,hb1⟩;have g1:=bt5 g0 hb1))
    all_goals
     have HBE:=aa (bt5 HB4.out g2)
     obtain⟨_,z1,_,_⟩:=KS.out _ g2
     clear NA NP KS hb1 hb2 g1 g2 g0 hPw hdec
     go_wp2
     go_roundw
     case rel=>exact⟨U,p,rfl,rfl,by omega,by rw [←HU.out];exact HPH.out.2,HUK.out,hU,by have h:=HHI.out;rw [HUE.out] at h;exact h,HBE.out⟩
     case measure=>simp [intOf]
   ·skip
    have hdec:decide (b ^ U≤val X)=false:=by simpa using hU
    go_wp2_with fail
    go_region_held3 (fun w'=>w'.cell? ⟨w.heap.size+1,0,none⟩=some (.int .u64 b)∧w'.cell? ⟨wr.heap.size,0,none⟩=some (.int .i64 U)∧w'.cell? ⟨w1.heap.size,0,none⟩=some (.int .u64 lm)∧w'.cell? ⟨w1.heap.size,1,none⟩=some (.int .i64 ((E:Int) - 63))) (first|with_reducible exact KS.out _ g2|with_reducible exact KS.out _ g1|with_reducible exact KS.out _ g0) (first
     | (go_at_call 116;refine (NA.out _ pm pf hPw g1).mono ?_;rintro e' t2 ⟨rfl,hb2⟩;have g2:=bt5 g1 hb2)
     | (go_at_call 108;refine (NP.out _).mono ?_;rintro e' t1 ⟨pm,pf,rfl,hPw,hb1⟩;have g1:=bt5 g0 hb1))
    all_goals
     have HBE:=aa (bt5 HB4.out g2)
     obtain⟨_,z1,_,_⟩:=KS.out _ g2
     clear NA NP KS hb1 hb2 g1 g2 g0 hPw hdec
     go_wp2
     go_roundw
     case rel=>exact⟨m,p,rfl,rfl,by omega,HPH.out.1,hmK,HLO.out,by rw [HU.out];omega,HBE.out⟩
     case measure=>simp [intOf]
end Go.Proofs.YtkhckcfikljjhaaGreatDoor
namespace Go.Proofs.YtkhckcfikljjhaaGreatDoor
open Go.RowKit
open Lm
attribute [local go_sem ↓] Go.wp_at_zero Go.wp_at_succ
attribute [local go_sem] dW

theorem px (k:Nat)(h:k≠0):1<18446744073709551616 ^ k:=Nat.one_lt_pow h (by omega)

theorem me (va:Value)(X:List Nat)(b:Nat)(w:World)(hA:Arg w va X)(hT:Tab w)(hl:X.length≤1048576)(hb:2≤b)(hb2:b≤36) :
  Calls Tryz.prog 62 #[va,.int .i64 b] w (gV b (val X) w):=
 mq va X b w hA hT hb hb2 (fun h=>nF va X b w hA hT hl hb hb2 h)

theorem mA {X:List Nat}(k:Nat)(h:Limbs X)(hl:X.length≤k):val X<18446744073709551616 ^ k:=Nat.lt_of_lt_of_le (val_lt h) (Nat.pow_le_pow_right (by omega) hl)

theorem fC {b x n:Nat}{X:List Nat}(hb:2≤b)(hX:Limbs X)(hl:X.length≤1048576)(hx:val X=x)(h:aD b x n):n≤67108865∧(n≤1∨b ^ (n - 1)≤x):=by
 obtain⟨h1,h2,h3⟩:=h
 refine⟨?_,?_⟩
 ·rcases h3 with h3|h3
  ·omega
  ·have hlen:=fi hX hl
   rw [hx] at hlen
   have h4:2 ^ (n - 1)≤x:=Nat.le_trans (Nat.pow_le_pow_left hb _) h3
   have h5:x<2 ^ blen x:=(blen_le_iff _ _).1 (Nat.le_refl _)
   have h6:=(Nat.pow_lt_pow_iff_right (by omega:1<2)).1 (Nat.lt_of_le_of_lt h4 h5)
   omega
 ·rcases h3 with h3|h3
  ·exact .inl (by omega)
  ·exact .inr h3

theorem gO (va:Value)(X:List Nat)(b:Nat)(w:World)(hA:Arg w va X)(hT:Tab w)(hl:X.length≤1048576)(hb:2≤b)(hb2:b≤36) :
  Calls Tryz.prog 47 #[va,.int .i64 b] w (eY b (val X) w):=by
 obtain⟨i0,hi,hz0,hz1,hz2⟩:=info_parts Tryz.infoB
 obtain⟨ao,cap,rfl,hcap,_,hL⟩:=hA.form
 obtain⟨w0,hw0⟩:∃W,w.alloc (.cells #[.int .i64 b] 3)=W:=⟨_,rfl⟩
 have hb0:Below w.heap.size w w0:=by rw [←hw0];exact ak _ _
 have x0:w0.heap[w.heap.size]?=some (.cells #[.int .i64 b] 3):=by rw [←hw0];exact heap_alloc_new ..
 have c0:=aJ x0
 have C1:=me _ X b w0 (hA.below hb0) (hT.below hb0) hl hb hb2
 have HA:=aa hA
 have HT:=aa hT
 have HB0:=aa hb0
 have X0:=aa x0
 have hLX:=hL
 clear hA hT hb0 x0 hL
 go_enter Tryz.func47,Tryz.ntmps47
 go_wp2_with fail
 refine C1.mono ?_
 rintro e w1 ⟨n,rfl,hd,hb1⟩
 obtain⟨hn,hlow⟩:=fC hb HA.out.limbs hl rfl hd
 have hB1:=bt5 HB0.out hb1
 have x1:=(hb1.block _ (lt_of_block X0.out)).trans X0.out
 have c1:=aJ x1
 have HB1:=aa hB1
 have X1:=aa x1
 have HD:=aa hd
 clear C1 hb1 hB1 x1 X0 HB0 c0 hd
 have hNB:b ^ (n - 1)<18446744073709551616 ^ 1048576:=by
  rcases hlow with h|h
  ·rw [show n - 1=0 by omega,Nat.pow_zero]
   exact px 1048576 (by omega)
  ·exact Nat.lt_of_le_of_lt h (mA 1048576 HA.out.limbs hl)
 have hpl:(∃b' off c,Value.slice ao X.length cap=.slice (some ⟨b',off,none⟩) X.length c)∨n≤1:=by
  rcases hLX with rfl|⟨b',off,rfl,_⟩
  ·right
   obtain⟨_,_,h3⟩:=HD.out
   rcases h3 with h3|h3
   ·omega
   ·have:=Nat.pow_pos (n:=n - 1) (show 0<b by omega)
    simp [val] at h3
    omega
  ·exact .inl ⟨b',off,cap,rfl⟩
 have HPL:=aa hpl
 have HNB:=aa hNB
 clear hlow hNB hpl hLX
 go_wp2_with (at_make;refine wpList_make_full _ rfl _ _ 60 rfl w1.heap.size 5 i0 (.int .u8 0) 1 Tryz.underlying60 hi hz0 hz1 .i64 .i64 _ _ n rfl rfl (by omega) (by omega) (by rw [hz2];omega) (by unfold maxLen;omega) (Nat.le_refl _) ?_;intro w2 hown hgrow;have hb2':Below w1.heap.size w1 w2:=(Below.refl w1.heap.size w1).grown hgrow (Nat.le_refl _) (fun k hk=>by cases hk);have x2:=(hb2'.block _ (lt_of_block X1.out)).trans X1.out;have c2:=aJ x2)
 have hY2:=Byt.made hown
 have hB2:=bt5 HB1.out hb2'
 have C2:=fe b n w2 (HT.out.below hB2) hb hb2 (by omega)
 obtain⟨gd,hgd⟩:∃gd,w1.heap.size=gd:=⟨_,rfl⟩
 rw [hgd] at hY2
 have hgdw:w.heap.size<gd:=by rw [←hgd];exact lt_of_block X1.out
 have HY2:=aa hY2
 have HB2:=aa hB2
 have X2:=aa x2
 have HGD:=aa hgd
 clear hown hgrow hi hz0 hz1 hz2 hb2' hY2 hB2 c1 x2 hgd
 go_wp2_with fail
 rw [HGD.out]
 refine C2.mono ?_
 rintro e w3 ⟨⟨vl,rfl,hP⟩,hb3⟩
 obtain⟨al,nl,kl,rfl⟩:∃al nl kl,vl=.slice al nl kl:=by
  obtain⟨l,h1,_⟩:=hP
  rcases h1 with ⟨h1,_⟩|⟨g,cap',h1,_⟩
  ·exact⟨_,_,_,h1⟩
  ·exact⟨_,_,_,h1⟩
 obtain⟨w4,hw4⟩:∃W,w3.alloc (.cells #[.slice al nl kl] 99)=W:=⟨_,rfl⟩
 have hs4:w4.heap.size=w3.heap.size+1:=by rw [←hw4];exact World.size_alloc _ _
 obtain⟨w5,hw5⟩:∃W,w4.alloc (.cells #[.func (.func 64) #[] #[.pointer (some ⟨w3.heap.size,0,none⟩),.pointer (some ⟨w.heap.size,0,none⟩),.pointer (some ⟨w3.heap.size+1,0,none⟩)]] 101)=W:=⟨_,rfl⟩
 have hb4:Below w3.heap.size w3 w4:=by rw [←hw4];exact ak _ _
 have hb5:Below w4.heap.size w4 w5:=by rw [←hw5];exact ak _ _
 have hb35:=bt5 hb4 hb5
 have hb25:=bt5 hb3 hb35
 have cl:=aH hb5 (aJ (show w4.heap[w3.heap.size]?=some (.cells #[.slice al nl kl] 99) by rw [←hw4];exact heap_alloc_new ..))
 have cb5:=aH hb25 (aJ X2.out)
 have cw:w5.cell? ⟨w3.heap.size+1,0,none⟩=some (.func (.func 64) #[] #[.pointer (some ⟨w3.heap.size,0,none⟩),.pointer (some ⟨w.heap.size,0,none⟩),.pointer (some ⟨w3.heap.size+1,0,none⟩)]):=aJ (t:=101) (by
  have h:=heap_alloc_new w4 (.cells #[.func (.func 64) #[] #[.pointer (some ⟨w3.heap.size,0,none⟩),.pointer (some ⟨w.heap.size,0,none⟩),.pointer (some ⟨w3.heap.size+1,0,none⟩)]] 101)
  rw [hs4,hw5] at h
  exact h)
 have hB5:=bt5 HB2.out hb25
 have hY5:Byt w5 gd (List.replicate n 0):=HY2.out.below hb25 HY2.out.lt
 have FW:=fv w3.heap.size w.heap.size (w3.heap.size+1) gd b n (.slice al nl kl) hb hb2 HNB.out (by have:=HT.out.1;omega) (n+1) n 0 n (List.replicate n 0) _ X w5 (by omega) hY5 (by simp) (Nat.le_refl _) (by omega) (Nat.le_refl _) (HA.out.below hB5) hl HPL.out (HT.out.below hB5) cl cb5 cw (fun z e=>by cases e) (hP.below hb35)
 have HW5:=aa (show (w3.alloc (.cells #[.slice al nl kl] 99)).alloc (.cells #[.func (.func 64) #[] #[.pointer (some ⟨w3.heap.size,0,none⟩),.pointer (some ⟨w.heap.size,0,none⟩),.pointer (some ⟨w3.heap.size+1,0,none⟩)]] 101)=w5 by rw [hw4,hw5])
 have HB5:=aa hB5
 rw [←HW5.out] at cw
 clear C2 hb3 hb4 hb5 hb35 hb25 cl cb5 hw4 hw5 hs4 hB5 hY5 hP c2
 go_wp2_with fail
 rw [HW5.out]
 refine FW.mono ?_
 rintro e w6 ⟨rfl,D',hD',hW',hF'⟩
 have hDl:D'.length=n:=by rw [hW'.len];simp
 have HF:=aa (And.intro hD' (And.intro hW' (HB5.out.trans (hF'.below (Nat.le_of_lt hgdw) HB5.out.size))))
 clear FW hD' hW' hF' cw
 go_wp2
 go_ret
 refine⟨gd,D',by rw [hDl];rfl,Nat.le_of_lt hgdw,HF.out.1,by rw [hDl];exact HD.out,by omega,fun i hi=>?_,HF.out.2.2⟩
 rw [hDl] at hi ⊢
 have h:=HF.out.2.1.digs i (Nat.zero_le _) hi
 rw [Nat.zero_add] at h
 exact h
end Go.Proofs.YtkhckcfikljjhaaGreatDoor
namespace Go.Proofs.YtkhckcfikljjhaaGreatDoor
open Go.RowKit
open Lm
attribute [local go_sem ↓] Go.wp_at_zero Go.wp_at_succ

theorem kd (d:Nat):(sgn d).toNat=fig d:=by
 have h:=jg d
 unfold sgn
 rw [UInt8.toNat_ofNat']
 omega



def zz (b:Bool)(x:Nat):Int:=if b then -(x:Int) else (x:Int)

theorem aC (b:Bool)(x:Nat):(zz b x).natAbs=x:=by cases b <;> simp [zz]
theorem zz_neg (b:Bool)(x:Nat):zz (!b) x=-(zz b x):=by cases b <;> simp [zz]
theorem zz_zero (b:Bool):zz b 0=0:=by cases b <;> simp [zz]
theorem pk (z:Int):zz (decide (z<0)) z.natAbs=z:=by
 unfold zz
 by_cases h:z<0
 ·rw [if_pos (by simpa using h)];omega
 ·rw [if_neg (by simpa using h)];omega

theorem gp {rs:List Nat}(ht:tr rs=rs):0<rs.length ↔ val rs≠0:=by
 constructor
 ·intro h h0
  have:=az rs 0 (by rw [h0];simp)
  rw [ht] at this
  omega
 ·intro h
  rcases Nat.eq_zero_or_pos rs.length with h0|h0
  ·rw [List.eq_nil_of_length_eq_zero h0] at h
   exact absurd rfl h
  ·exact h0

theorem ce {rs:List Nat}{x:Nat}(b:Bool)(ht:tr rs=rs)(hv:val rs=x):(b && decide (0<rs.length))=decide (zz b x<0):=by
 have h:=gp ht
 rw [hv] at h
 cases b
 ·simp [zz]
 ·simp only [Bool.true_and,zz,if_true]
  rw [decide_eq_decide]
  omega

def ZR (w:World)(base:Nat)(b:Bool)(va:Value)(c z:Int):Prop:=
 ∃rs,Ans w base va rs∧((c=0∧b=decide (z<0)∧val rs=z.natAbs∧tr rs=rs∧blen z.natAbs≤67108864)∨(c=3∧b=false∧va=.slice none 0 0∧rs=[]∧67108864<blen z.natAbs))

def jB (w:World)(base:Nat)(e:Ending)(z:Int):Prop:=∃b a n k c,e=.returned (.tuple #[.agg #[.bool b,.slice a n k],.int .i64 c])∧ZR w base b (.slice a n k) c z

theorem ZR.below {w w':World}{base:Nat}{b:Bool}{va:Value}{c z:Int}(h:ZR w base b va c z)(hb:Below w.heap.size w w'):ZR w' base b va c z:=by
 obtain⟨rs,h1,h2⟩:=h
 exact⟨rs,h1.below hb,h2⟩

theorem ZR.base {w:World}{base base':Nat}{b:Bool}{va:Value}{c z:Int}(h:ZR w base b va c z)(hb:base'≤base):ZR w base' b va c z:=by
 obtain⟨rs,h1,h2⟩:=h
 exact⟨rs,h1.base hb,h2⟩

theorem aM (w:World)(o1:Obj):∃w0,w.alloc o1=w0∧Below w.heap.size w w0∧w0.heap[w.heap.size]?=some o1:=⟨_,rfl,(Below.refl _ _).alloc (Nat.le_refl _) _,heap_alloc_new ..⟩

theorem cW (w:World)(o1 o2:Obj):∃w0,(w.alloc o1).alloc o2=w0∧Below w.heap.size w w0∧w0.heap[w.heap.size]?=some o1∧w0.heap[w.heap.size+1]?=some o2:=by
 obtain⟨w1,h1,b1,c1⟩:=aM w o1
 obtain⟨w2,h2,b2,c2⟩:=aM w1 o2
 have hs:w1.heap.size=w.heap.size+1:=by rw [←h1];exact World.size_alloc _ _
 refine⟨w2,by rw [h1];exact h2,b1.trans (b2.mono b1.size),?_,by rw [←hs];exact c2⟩
 rw [b2.block w.heap.size (lt_of_block c1)];exact c1

theorem mQ (w:World)(o1 o2 o3:Obj):∃w0,((w.alloc o1).alloc o2).alloc o3=w0∧Below w.heap.size w w0∧w0.heap[w.heap.size]?=some o1∧w0.heap[w.heap.size+1]?=some o2∧w0.heap[w.heap.size+2]?=some o3:=by
 obtain⟨w1,h1,b1,c1,c2⟩:=cW w o1 o2
 obtain⟨w2,h2,b2,c3⟩:=aM w1 o3
 have hs:w1.heap.size=w.heap.size+2:=by rw [←h1,World.size_alloc,World.size_alloc]
 refine⟨w2,by rw [h1];exact h2,b1.trans (b2.mono b1.size),?_,?_,by rw [←hs];exact c3⟩
 ·rw [b2.block _ (lt_of_block c1)];exact c1
 ·rw [b2.block _ (lt_of_block c2)];exact c2

theorem af {w w':World}{g:Nat}{x:Obj}(hb:Below w.heap.size w w')(h:w.heap[g]?=some x):w'.heap[g]?=some x:=by
 rw [hb.block g (lt_of_block h)];exact h

theorem duo {w:World}{h:Nat}{a b:Value}{t:TypeId}(e:w.heap[h]?=some (.cells #[a,b] t)):w.cell? ⟨h,0,none⟩=some a∧w.cell? ⟨h,1,none⟩=some b:=⟨by simp [World.cell?,e],by simp [World.cell?,e]⟩

theorem cf (w:World)(o:Obj):Below w.heap.size w (w.alloc o):=(Below.refl _ _).alloc (Nat.le_refl _) _

theorem mU (x:Nat):blen x=0 ↔ x=0:=by
 have h:=blen_le_iff x 0
 rw [Nat.pow_zero] at h
 omega

theorem jz (v:Value)(X:List Nat)(w:World)(hA:Arg w v X) :
  Calls Tryz.prog 61 #[v] w fun e w'=>e=.returned (.bool (decide (val X=0)))∧w'=w:=by
 have L:=aE v X w hA
 obtain⟨a,c,rfl,_,_,_⟩:=hA.form
 have hz:=mU (val X)
 clear hA
 generalize blen (val X)=l at *
 by_cases h0:l=0
 ·have h2:((l:Int) == 0)=true:=by rw [beq_iff_eq];omega
  rw [decide_eq_true (hz.1 h0)]
  go_enter Tryz.func61,Tryz.ntmps61
  go_wp2_with fail
  refine L.mono ?_
  rintro e wn ⟨rfl,hw⟩;rw [hw];clear hw wn L
  go_wp2
  go_ret
  exact⟨rfl,rfl⟩
 ·have h1:¬val X=0:=fun h=>h0 (hz.2 h)
  have h2:((l:Int) == 0)=false:=by rw [beq_eq_false_iff_ne];omega
  rw [decide_eq_false h1]
  go_enter Tryz.func61,Tryz.ntmps61
  go_wp2_with fail
  refine L.mono ?_
  rintro e wn ⟨rfl,hw⟩;rw [hw];clear hw wn L
  go_wp2
  go_ret
  exact⟨rfl,rfl⟩

def sg (b:Bool)(x:Nat):Int:=if x=0 then 0 else if b then -1 else 1

theorem qi (b:Bool)(x:Nat):sg b x=(zz b x).sign:=by
 unfold sg zz
 by_cases h:x=0
 ·subst h;cases b <;> rfl
 ·rw [if_neg h]
  cases b
  ·simp only [Bool.false_eq_true,if_false]
   exact (Int.sign_eq_one_of_pos (by omega)).symm
  ·simp only [if_true]
   exact (Int.sign_eq_neg_one_of_neg (by omega)).symm

theorem mI (b:Bool)(v:Value)(X:List Nat)(w:World)(hA:Arg w v X) :
  Calls Tryz.prog 45 #[.agg #[.bool b,v]] w fun e w'=>e=.returned (.int .i64 (sg b (val X)))∧Below w.heap.size w w':=by
 obtain⟨a,c,rfl,_,_,_⟩:=hA.form
 obtain⟨w0,hw0⟩:∃w0,w.alloc (.cells #[.bool b,.slice a X.length c] 27)=w0:=⟨_,rfl⟩
 have hb0:Below w.heap.size w w0:=by rw [←hw0];exact cf _ _
 have h0:w0.heap[w.heap.size]?=some (.cells #[.bool b,.slice a X.length c] 27):=by rw [←hw0];exact heap_alloc_new ..
 obtain⟨k0,k1⟩:=duo h0
 have HZ:=jz _ X w0 (hA.below hb0)
 have HB:=aa hb0
 unfold sg
 clear hA h0 hb0
 by_cases hx:val X=0
 ·rw [if_pos hx]
  rw [decide_eq_true hx] at HZ
  go_enter Tryz.func45,Tryz.ntmps45
  go_wp2_with fail
  refine HZ.mono ?_
  rintro e wn ⟨rfl,hw⟩;rw [hw];clear hw wn HZ
  go_wp2
  go_ret
  exact⟨rfl,HB.out⟩
 ·rw [if_neg hx]
  rw [decide_eq_false hx] at HZ
  cases b
  ·go_enter Tryz.func45,Tryz.ntmps45
   go_wp2_with fail
   refine HZ.mono ?_
   rintro e wn ⟨rfl,hw⟩;rw [hw];clear hw wn HZ
   go_wp2
   go_ret
   exact⟨rfl,HB.out⟩
  ·go_enter Tryz.func45,Tryz.ntmps45
   go_wp2_with fail
   refine HZ.mono ?_
   rintro e wn ⟨rfl,hw⟩;rw [hw];clear hw wn HZ
   go_wp2
   go_ret
   exact⟨rfl,HB.out⟩

theorem p6 (b:Bool)(v:Value)(X:List Nat)(w:World)(hA:Arg w v X) :
  Calls Tryz.prog 26 #[.agg #[.bool b,v]] w fun e w'=>e=.returned (.bool (decide (zz b (val X)<0)))∧Below w.heap.size w w':=by
 obtain⟨a,c,rfl,_,_,_⟩:=hA.form
 obtain⟨w0,hw0⟩:∃w0,w.alloc (.cells #[.bool b,.slice a X.length c] 27)=w0:=⟨_,rfl⟩
 have hb0:Below w.heap.size w w0:=by rw [←hw0];exact cf _ _
 have h0:w0.heap[w.heap.size]?=some (.cells #[.bool b,.slice a X.length c] 27):=by rw [←hw0];exact heap_alloc_new ..
 obtain⟨k0,k1⟩:=duo h0
 have HZ:=mI b _ X w0 (hA.below hb0)
 have HB:=aa hb0
 rw [qi] at HZ
 generalize zz b (val X)=z at *
 clear hA h0 hb0
 by_cases hz:z<0
 ·rw [Int.sign_eq_neg_one_of_neg hz] at HZ
  rw [decide_eq_true hz]
  go_enter Tryz.func26,Tryz.ntmps26
  go_wp2_with fail
  refine HZ.mono ?_
  rintro e w1 ⟨rfl,hb1⟩
  have HB1:=aa (HB.out.trans (hb1.mono HB.out.size))
  clear hb1 HZ
  go_wp2
  go_ret
  exact⟨rfl,HB1.out⟩
 ·have h1:¬z.sign<0:=fun h=>hz (Int.sign_neg_iff.1 h)
  rw [decide_eq_false hz]
  generalize z.sign=s at *
  have hds:decide (s<0)=false:=decide_eq_false h1
  go_enter Tryz.func26,Tryz.ntmps26
  go_wp2_with fail
  refine HZ.mono ?_
  rintro e w1 ⟨rfl,hb1⟩
  have HB1:=aa (HB.out.trans (hb1.mono HB.out.size))
  clear hb1 HZ
  go_wp2
  go_ret
  exact⟨rfl,HB1.out⟩

theorem cd (b:Bool)(v:Value)(rs:List Nat)(base:Nat)(w:World)(hA:Ans w base v rs) :
  Calls Tryz.prog 44 #[.bool b,v] w fun e w'=>e=.returned (.agg #[.bool (b && decide (0<rs.length)),v])∧Below w.heap.size w w':=by
 obtain⟨a,c,rfl⟩:∃a c,v=.slice a rs.length c:=by
  rcases hA.form with ⟨rfl,h⟩|⟨g,cap,rfl,_⟩
  ·exact⟨none,0,by rw [h];rfl⟩
  ·exact⟨_,_,rfl⟩
 clear hA
 generalize rs.length=n at *
 cases b
 ·have HB:=aa (cf w (.cells #[.bool false,.slice a n c] 27))
  go_enter Tryz.func44,Tryz.ntmps44
  go_wp2
  go_returns
  exact⟨rfl,HB.out⟩
 ·by_cases hn:0<n
  ·have i1:(0:Int)<(n:Int):=by omega
   have HB:=aa (cf w (.cells #[.bool true,.slice a n c] 27))
   rw [decide_eq_true hn]
   go_enter Tryz.func44,Tryz.ntmps44
   go_wp2
   go_returns
   exact⟨rfl,HB.out⟩
  ·have i1:¬(0:Int)<(n:Int):=by omega
   have HB:=aa (cf w (.cells #[.bool false,.slice a n c] 27))
   rw [decide_eq_false hn]
   go_enter Tryz.func44,Tryz.ntmps44
   go_wp2
   go_returns
   exact⟨rfl,HB.out⟩
end Go.Proofs.YtkhckcfikljjhaaGreatDoor
namespace Go.Proofs.YtkhckcfikljjhaaGreatDoor
open Go.RowKit
open Lm

theorem dR (b i m x:Nat):digs b (i+m) x=digs b i (x / b ^ m) ++ digs b m x:=by
 induction i with
 | zero=>simp [digs]
 | succ i ih=>
  rw [show i+1+m=(i+m)+1 by omega,digs,digs,ih,Nat.div_div_eq_div_mul,←Nat.pow_add,Nat.add_comm m i]
  rfl

def gh (z:Int):ByteArray:=if z<0 then ⟨#[45]⟩ else ⟨#[]⟩

def bh (z:Int)(n:Nat):ByteArray:=gh z ++ au ((digs 10 n z.natAbs).map fig)

theorem dQ {a b:ByteArray}(h:a.data.toList=b.data.toList):a=b:=by
 apply ByteArray.ext
 exact Array.toList_inj.1 h

theorem ee (a b:ByteArray):(a ++ b).data.toList=a.data.toList ++ b.data.toList:=by
 rw [ByteArray.data_append,Array.toList_append]

theorem pE (a:ByteArray):(⟨#[]⟩:ByteArray) ++ a=a:=dQ (by rw [ee];rfl)

theorem jC {z:Int}(n:Nat)(h:z<0):bh z n=⟨#[45]⟩ ++ au ((digs 10 n z.natAbs).map fig):=by
 unfold bh gh;rw [if_pos h]

theorem iW {z:Int}(n:Nat)(h:¬z<0):bh z n=au ((digs 10 n z.natAbs).map fig):=by
 unfold bh gh;rw [if_neg h,pE]

theorem gj (L:List Nat):Lib.strCells (au (L.map fig))=(L.map fig).map bv:=by
 unfold Lib.strCells
 rw [cP,List.map_map,List.map_map]
 apply List.map_congr_left
 intro d _
 show Value.int .u8 ((sgn d).toNat:Int)=bv (fig d)
 rw [kd]
 rfl

theorem dY (L:List Nat)(d:Nat)(o:ByteArray)(h:o.data.toList=[sgn d]):o ++ au (L.map fig)=au ((d :: L).map fig):=
 dQ (by rw [ee,cP,cP,h];rfl)

theorem d5 (L M:List Nat):au (L.map fig) ++ au (M.map fig)=au ((L ++ M).map fig):=
 dQ (by rw [ee,cP,cP,cP,List.map_append])

theorem iK (L:List Nat):(au L).data.toList=L.map UInt8.ofNat:=by
 rw [au,gB];rfl

theorem nM (L:List Nat):au (45 :: L.map fig)=⟨#[45]⟩ ++ au (L.map fig):=
 dQ (by rw [ee,iK,iK];rfl)

def DgT (T:ByteArray):Prop:=0<T.size∧∀i,i<T.size→48≤byteN T i∧byteN T i≤57

theorem lG:∀c:Fin 256,(0≤idx c.1∧idx c.1<10 ↔ 48≤c.1∧c.1≤57)∧(48≤c.1∧c.1≤57→idx c.1=(c.1:Int) - 48):=by decide +kernel

theorem fW (T:ByteArray)(i:Nat):(0≤dgS T i∧dgS T i<10 ↔ 48≤byteN T i∧byteN T i≤57)∧(48≤byteN T i∧byteN T i≤57→dgS T i=(byteN T i:Int) - 48):=
 lG ⟨byteN T i,gM T i⟩

def dgL (T:ByteArray):List Nat:=(List.range T.size).map fun i=>byteN T i - 48

theorem fg (T:ByteArray)(i:Nat)(h:i<T.size):(dgL T).getD i 0=byteN T i - 48:=by simp [dgL,List.getD,h]

def nmT (T:ByteArray):Nat:=dvr 10 (dgL T) 0 T.size

def cJ (T:ByteArray):Bool:=decide (0<T.size) && (byteN T 0 == 45 || byteN T 0 == 43)
def isM (T:ByteArray):Bool:=decide (0<T.size) && byteN T 0 == 45
def aF (T:ByteArray):ByteArray:=if cJ T=true then T.extract 1 T.size else T

theorem jr (T:ByteArray):(aF T).size≤T.size:=by
 unfold aF
 split
 ·rw [ByteArray.size_extract];omega
 ·exact Nat.le_refl _
end Go.Proofs.YtkhckcfikljjhaaGreatDoor
namespace Go.Proofs.YtkhckcfikljjhaaGreatDoor
open Go.RowKit
open Lm
attribute [local go_sem ↓] Go.wp_at_zero Go.wp_at_succ

theorem ay {w:World}{h:Nat}{a b:Value}{t:TypeId}(e:w.heap[h]?=some (.cells #[a,b] t)):∀k,w.frozen? ⟨h,k,none⟩=false:=fun k=>by simp [World.frozen?,e]

theorem aL {w:World}{h:Nat}{a b a' b':Value}{t:TypeId}(e:w.heap[h]?=some (.cells #[a,b] t)):((w.setCell ⟨h,0,none⟩ a').setCell ⟨h,1,none⟩ b').heap[h]?=some (.cells #[a',b'] t):=
 bK (bK e a') b'

theorem aK {B:Nat}{w0 w:World}{g:Nat}{u0 u1:Value}(h:Below B w0 w)(hg:B≤g):Below B w0 ((w.setCell ⟨g,0,none⟩ u0).setCell ⟨g,1,none⟩ u1):=
 (h.setCell (p:=⟨g,0,none⟩) hg u0).setCell (p:=⟨g,1,none⟩) hg u1

theorem Ans.off1 {w:World}{base g o:Nat}{v u:Value}{zs:List Nat}{vs:Array Value}(h:Ans w base v zs)(hl:w.heap[g]?=some (.cells vs 27)):Ans (w.setCell ⟨g,o,none⟩ u) base v zs:=by
 have hne:v.ownBlock≠some g:=by
  obtain⟨_,h2⟩:=h.own
  rcases h2 with ⟨rfl,_⟩|⟨g',cap,cur,rfl,_,hh,_⟩
  ·simp [Value.ownBlock]
  ·intro e
   simp [Value.ownBlock] at e
   subst e
   rw [hl] at hh
   simp at hh
 exact⟨ownsRow_setCell_other h.own hne _,h.limbs⟩

theorem Ans.duo {w:World}{base g:Nat}{v u0 u1 a b:Value}{zs:List Nat}(h:Ans w base v zs)(hl:w.heap[g]?=some (.cells #[a,b] 27)):Ans ((w.setCell ⟨g,0,none⟩ u0).setCell ⟨g,1,none⟩ u1) base v zs:=
 (h.off1 hl).off1 (bK hl u0)

theorem ZR.duo {w:World}{base g:Nat}{b:Bool}{va u0 u1 a1 b1:Value}{c z:Int}(h:ZR w base b va c z)(hl:w.heap[g]?=some (.cells #[a1,b1] 27)):ZR ((w.setCell ⟨g,0,none⟩ u0).setCell ⟨g,1,none⟩ u1) base b va c z:=by
 obtain⟨rs,h1,h2⟩:=h
 exact⟨rs,h1.duo hl,h2⟩

theorem Ans.shape {w:World}{base:Nat}{v:Value}{rs:List Nat}(h:Ans w base v rs):∃a c,v=.slice a rs.length c:=by
 rcases h.form with ⟨rfl,h⟩|⟨g,cap,rfl,_⟩
 ·exact⟨none,0,by simp_all⟩
 ·exact⟨_,_,rfl⟩

theorem ky (b:Bool)(v:Value)(rs:List Nat)(c:Int)(s base:Nat)(w:World)(hA:Ans w base v rs)
  (h:(c=0∧val rs=s∧tr rs=rs∧blen s≤67108864)∨(c=3∧rs=[]∧67108864<blen s)) :
  Calls Tryz.prog 25 #[.bool b,v,.int .i64 c] w fun e w'=>jB w' base e (zz b s)∧Below w.heap.size w w':=by
 obtain⟨w0,hw0⟩:∃w0,w.alloc (.cells #[.bool false,.slice none 0 0] 27)=w0:=⟨_,rfl⟩
 have hb0:Below w.heap.size w w0:=by rw [←hw0];exact cf _ _
 have h0:w0.heap[w.heap.size]?=some (.cells #[.bool false,.slice none 0 0] 27):=by rw [←hw0];exact heap_alloc_new ..
 have hf0:=ay h0
 obtain⟨k0,k1⟩:=duo h0
 rcases h with ⟨rfl,h1,h2,h3⟩|⟨rfl,h1,h2⟩
 ·have HS:=cd b v rs base w0 (hA.below hb0)
  have hsg:=ce b h2 h1
  rw [hsg] at HS
  have hv:val rs=(zz b s).natAbs:=by rw [aC];exact h1
  have hbl:blen (zz b s).natAbs≤67108864:=by rw [aC];exact h3
  obtain⟨a,cc,rfl⟩:=hA.shape
  have HA:=aa (hA.below hb0)
  have HV:=aa (And.intro hv (And.intro h2 hbl))
  have HB0:=aa hb0
  have H0:=aa h0
  generalize zz b s=z at *
  clear hA hb0 h0 h1 h2 h3 hsg hv hbl
  go_enter Tryz.func25,Tryz.ntmps25
  go_wp2_with fail
  refine HS.mono ?_
  rintro e w1 ⟨rfl,hb1⟩
  have h1:w1.heap[w.heap.size]?=some (.cells #[.bool false,.slice none 0 0] 27):=by rw [hb1.block w.heap.size (lt_of_block H0.out)];exact H0.out
  have HBX:=aa h1
  have HAN:=aa (HA.out.below hb1)
  have HBE:=aa (HB0.out.trans (hb1.mono HB0.out.size))
  have hf1:=ay h1
  obtain⟨l0,l1⟩:=duo h1
  clear h1 hb1 HS k0 k1 hf0 hw0 H0 HA
  go_wp2
  have R5:=aL HBX.out (a':=.bool (decide (z<0))) (b':=.slice a rs.length cc)
  have HD:=aa (And.intro (HAN.out.duo (u0:=.bool (decide (z<0))) (u1:=.slice a rs.length cc) HBX.out) (aK HBE.out (g:=w.heap.size) (u0:=.bool (decide (z<0))) (u1:=.slice a rs.length cc) (Nat.le_refl _)))
  generalize (w1.setCell ⟨w.heap.size,0,none⟩ (.bool (decide (z<0)))).setCell ⟨w.heap.size,1,none⟩ (.slice a rs.length cc)=w5 at *
  obtain⟨q0,q1⟩:=duo R5
  refine bodyPost_ret (v:=.tuple #[.agg #[.bool (decide (z<0)),.slice a rs.length cc],.int .i64 0]) (by simp [results,Tryz.results25,go_sem,q0,q1]) rfl ?_
  exact⟨⟨_,_,_,_,0,rfl,rs,HD.out.1,.inl ⟨rfl,rfl,HV.out⟩⟩,HD.out.2⟩
 ·subst h1
  obtain⟨a,cc,rfl⟩:=hA.shape
  have hbl:67108864<blen (zz b s).natAbs:=by rw [aC];exact h2
  have HB0:=aa hb0
  have HBX:=aa h0
  have HV:=aa hbl
  generalize zz b s=z at *
  clear hA hb0 h0 h2 hbl
  go_enter Tryz.func25,Tryz.ntmps25
  go_wp2
  have R5:=aL HBX.out (a':=.bool false) (b':=.slice none 0 0)
  have HD:=aa (aK HB0.out (g:=w.heap.size) (u0:=.bool false) (u1:=.slice none 0 0) (Nat.le_refl _))
  generalize (w0.setCell ⟨w.heap.size,0,none⟩ (.bool false)).setCell ⟨w.heap.size,1,none⟩ (.slice none 0 0)=w5 at *
  obtain⟨q0,q1⟩:=duo R5
  refine bodyPost_ret (v:=.tuple #[.agg #[.bool false,.slice none 0 0],.int .i64 3]) (by simp [results,Tryz.results25,go_sem,q0,q1]) rfl ?_
  exact⟨⟨_,_,_,_,3,rfl,[],Ans.nil _ _,.inr ⟨rfl,rfl,rfl,rfl,HV.out⟩⟩,HD.out⟩

theorem gX {w:World}{g h:Nat}{u0 u1:Value}{x:Obj}(e:w.heap[h]?=some x)(hne:h≠g):((w.setCell ⟨g,0,none⟩ u0).setCell ⟨g,1,none⟩ u1).heap[h]?=some x:=by
 rw [Below.heap_setCell _ _ _ _ hne,Below.heap_setCell _ _ _ _ hne];exact e

theorem ii (base n cap:Nat)(a:Option Addr)(L:List Nat)(w:World)(h:w.ownsRow base 5 1 (.slice a n cap) n (L.map bv))(hn:0<n) :
  (convert 60 9 (.slice a n cap)).run Tryz.prog w=.ok (.string (au L)) w:=by
 obtain⟨h1,h2⟩:=h
 have hl:L.length=n:=by simpa using h1
 rcases h2 with ⟨_,h3⟩|⟨g,cap',cur,he,hge,hh,hle,hml,hsz,htk⟩
 ·omega
 ·obtain⟨rfl,rfl⟩:a=some ⟨g,0,none⟩∧cap'=cap:=by simp at he;exact⟨he.1,he.2.symm⟩
  rw [run_convert_bytes_string w 60 9 5 _ _ _ Tryz.underlying60 Tryz.underlying5 Tryz.underlying9]
  rw [run_bytesToString w _ n _ (L.map fun n=>((n:Nat):Int)) ?_,ip]
  ·rfl
  ·have hc:=run_loadCells_list (P:=Tryz.prog) (w:=w) ⟨g,0,none⟩ (L.map bv) (fun j v hj=>by
    have hjl:j<L.length:=by
     rcases Nat.lt_or_ge j L.length with h|h
     ·exact h
     ·rw [List.getElem?_eq_none (by simpa using h)] at hj;cases hj
    have e:(L.map bv)[j]?=cur.toList[j]?:=by rw [←htk,List.getElem?_take,if_pos (by omega)]
    have e2:w.cell? ⟨g,j,none⟩=(L.map bv)[j]?:=by rw [e];simp [World.cell?,hh]
    rw [←hj,←e2]
    by_cases h0:j=0
    ·subst h0;simp [Addr.add]
    ·simp [Addr.add,h0])
   rw [List.length_map,hl] at hc
   rw [hc,List.map_map]
   rfl

theorem fJ {w:World}{base n:Nat}{t:TypeId}{v:Value}{xs:List Value}(h:w.ownsRow base t 1 v n xs)(hn:0<n):∃a c,v=.slice a n c:=by
 rcases h.2 with ⟨_,h2⟩|⟨g,cap,cur,h1,_⟩
 ·omega
 ·exact⟨_,_,h1⟩

theorem nI (b:Bool)(v:Value)(X:List Nat)(w:World)(hA:Arg w v X)(hT:Tab w)(hl:X.length≤1048576) :
  Calls Tryz.prog 8 #[.agg #[.bool b,v]] w fun e w'=>∃n,e=.returned (.string (bh (zz b (val X)) n))∧aD 10 (val X) n∧Below w.heap.size w w':=by
 obtain⟨i0,hi,hz0,hz1,hz2⟩:=info_parts Tryz.infoB
 obtain⟨a,c,rfl,_,_,_⟩:=hA.form
 obtain⟨w0,hw0,hb0,h0⟩:=aM w (.cells #[.bool b,.slice a X.length c] 27)
 have HN:=p6 b _ X w0 (hA.below hb0)
 have HLM:=aa hA.limbs
 have HA:=aa (hA.below hb0)
 have HT:=aa (hT.below hb0)
 have HB0:=aa hb0
 have HX0:=aa h0
 have HZA:=aa (aC b (val X))
 obtain⟨k0,k1⟩:=duo h0
 obtain⟨z,hzz⟩:∃z,zz b (val X)=z:=⟨_,rfl⟩
 rw [hzz] at HN HZA ⊢
 clear hA hT hb0 h0 hzz
 by_cases hz:z<0
 ·rw [decide_eq_true hz] at HN
  have HZ:=aa hz
  clear hz
  go_enter Tryz.func8,Tryz.ntmps8
  go_wp2_with fail
  refine HN.mono ?_
  rintro e w1 ⟨rfl,hb1⟩
  have HB1:=aa (bt5 HB0.out hb1)
  have HX1:=aa (af hb1 HX0.out)
  have HA1:=aa (HA.out.below hb1)
  have HT1:=aa (HT.out.below hb1)
  have hsz1:=HB1.out.size
  clear HN hb1 k0 k1 HX0 HB0 HA HT hw0
  go_wp2_with (at_builtin;refine wpList_append_own _ rfl _ _ 60 rfl w1.heap.size 5 i0 (.int .u8 0) 1 1 Tryz.underlying60 hi hz0 hz1 hz2 rfl (by decide) (.slice none 0 0) 0 [] rfl (World.ownsRow_nil _ _ _ _) ⟨w1.heap.size,0,none⟩ 1 1 [.int .u8 45] rfl rfl (fN [.int .u8 45] 5) (by intro u hu;simp at hu;subst hu;rfl) (by unfold maxLen;omega) (by omega) (by simp) ?_;intro v2 w2 hown hgrow _;have hb2:Below w1.heap.size w1 w2:=((Below.refl w1.heap.size w1).alloc (Nat.le_refl _) _).grown hgrow (by simp) (fun g e=>by cases e);obtain⟨a2,c2,rfl⟩:=fJ hown (by omega);have hx2:=af hb2 HX1.out;obtain⟨k0,k1⟩:=duo hx2;clear hgrow)
  have HB2:=aa (bt5 HB1.out hb2)
  have C:=ja (.slice a X.length c) (val X) 10 w2 (by omega) (by omega) (gO _ X 10 w2 (HA1.out.below hb2) (HT1.out.below hb2) hl (by omega) (by omega))
  have HOW:=aa hown
  have hw12:w1.heap.size≤w2.heap.size:=hb2.size
  clear hown hb2 hx2 HX1 HA1 HT1
  refine C.mono ?_
  rintro e w3 ⟨D,rfl,hd,hg,hb3⟩
  obtain⟨n,hn⟩:∃n,D.length=n:=⟨_,rfl⟩
  have hDe:=iM hn hg
  rw [hn] at hd
  subst hDe
  obtain⟨hn9,_⟩:=fC (by omega) HLM.out hl rfl hd
  obtain⟨S,hS⟩:∃S,au ((digs 10 n (val X)).map fig)=S:=⟨_,rfl⟩
  have hSs:S.size=n:=by rw [←hS,aP,aG]
  have hSc:Lib.strCells S=((digs 10 n (val X)).map fig).map bv:=by rw [←hS];exact gj _
  rw [hS]
  have HW:Hid (bh z n=au (45 :: (digs 10 n (val X)).map fig)):=aa (by rw [jC n (by have:=HZ.out;omega),HZA.out,nM])
  have HSC:=aa hSc
  have HH:=aa (And.intro hd (bt5 HB2.out hb3))
  have HO3:=aa (hG HOW.out hb3)
  have HGE:=aa (fd HOW.out)
  have hsz3:=HH.out.2.size
  have hw13:w1.heap.size≤w3.heap.size:=Nat.le_trans hw12 hb3.size
  clear C hd hg hb3 HOW HB2 k0 k1 hS hSc hn
  go_wp2_with (at_builtin;refine Lib.wpList_append_own_string _ rfl _ _ 60 9 rfl w1.heap.size 5 i0 Tryz.underlying60 Tryz.underlying9 hi hz0 hz1 hz2 (.slice a2 (0+1) c2) (0+1) _ rfl HO3.out S rfl (by unfold maxLen;omega) (by omega) hw13 ?_;intro v4 w4 hown hgrow _;rw [hSs,Nat.zero_add] at hown;obtain⟨a4,c4,rfl⟩:=fJ hown (by omega);have HC:=ii _ _ _ _ (45 :: (digs 10 n (val X)).map fig) _ (by rw [HSC.out] at hown;exact hown) (by omega))
  have HB4:=aa (HH.out.2.grown hgrow (by omega) (fun g e=>by have:=HGE.out g e;omega))
  clear hown hgrow
  go_wp2
  go_ret
  exact⟨n,by rw [HW.out];rfl,HH.out.1,HB4.out⟩
 ·rw [decide_eq_false hz] at HN
  have HZ:=aa hz
  clear hz
  go_enter Tryz.func8,Tryz.ntmps8
  go_wp2_with fail
  refine HN.mono ?_
  rintro e w1 ⟨rfl,hb1⟩
  have HB1:=aa (bt5 HB0.out hb1)
  have hx1:=af hb1 HX0.out
  have C:=ja (.slice a X.length c) (val X) 10 w1 (by omega) (by omega) (gO _ X 10 w1 (HA.out.below hb1) (HT.out.below hb1) hl (by omega) (by omega))
  obtain⟨k0,k1⟩:=duo hx1
  clear HN hb1 HX0 HB0 HA HT hw0 hx1
  go_wp2_with fail
  refine C.mono ?_
  rintro e w3 ⟨D,rfl,hd,hg,hb3⟩
  obtain⟨n,hn⟩:∃n,D.length=n:=⟨_,rfl⟩
  have hDe:=iM hn hg
  rw [hn] at hd
  have hd1:=hd.1
  subst hDe
  obtain⟨hn9,_⟩:=fC (by omega) HLM.out hl rfl hd
  obtain⟨S,hS⟩:∃S,au ((digs 10 n (val X)).map fig)=S:=⟨_,rfl⟩
  have hSs:S.size=n:=by rw [←hS,aP,aG]
  have hSc:Lib.strCells S=((digs 10 n (val X)).map fig).map bv:=by rw [←hS];exact gj _
  rw [hS]
  have HW:Hid (bh z n=au ((digs 10 n (val X)).map fig)):=aa (by rw [iW n (by have:=HZ.out;omega),HZA.out])
  have HSC:=aa hSc
  have HH:=aa (And.intro hd (bt5 HB1.out hb3))
  have hsz3:=HH.out.2.size
  clear C hd hg hb3 k0 k1 hS hSc hn
  go_wp2_with (at_builtin;refine Lib.wpList_append_own_string _ rfl _ _ 60 9 rfl w.heap.size 5 i0 Tryz.underlying60 Tryz.underlying9 hi hz0 hz1 hz2 (.slice none 0 0) 0 [] rfl (World.ownsRow_nil _ _ _ _) S rfl (by unfold maxLen;omega) (by omega) hsz3 ?_;intro v4 w4 hown hgrow _;rw [hSs,Nat.zero_add] at hown;obtain⟨a4,c4,rfl⟩:=fJ hown (by omega);have HC:=ii _ _ _ _ ((digs 10 n (val X)).map fig) _ (by rw [HSC.out] at hown;exact hown) (by omega))
  have HB4:=aa (HH.out.2.grown hgrow (by omega) (fun g e=>by cases e))
  clear hown hgrow
  go_wp2
  go_ret
  exact⟨n,by rw [HW.out];rfl,HH.out.1,HB4.out⟩

theorem n6 (T:ByteArray)(h:0<T.size):T.toList.isEmpty=false:=by
 rw [Lib.toList_data]
 have h1:T.data.toList.length=T.size:=rfl
 cases h2:T.data.toList with
 | nil=>rw [h2] at h1;simp at h1;omega
 | cons x l=>rfl

theorem iA (T:ByteArray)(h:¬0<T.size):T=⟨#[]⟩:=by
 obtain⟨d⟩:=T
 have:d.size=0:=by have h2:¬0<d.size:=h;omega
 rw [Array.eq_empty_of_size_eq_zero this]

theorem dT:isM ⟨#[]⟩=false∧aF ⟨#[]⟩=⟨#[]⟩:=by decide

theorem gk {T:ByteArray}(h:0<T.size)(hc:byteN T 0=45):isM T=true∧aF T=T.extract 1 T.size:=by
 have e:cJ T=true:=by unfold cJ;rw [decide_eq_true h,hc];rfl
 exact⟨by unfold isM;rw [decide_eq_true h,hc];rfl,by unfold aF;rw [if_pos e]⟩

theorem iV {T:ByteArray}(h:0<T.size)(hc:byteN T 0=43):isM T=false∧aF T=T.extract 1 T.size:=by
 have e:cJ T=true:=by unfold cJ;rw [decide_eq_true h,hc];rfl
 exact⟨by unfold isM;rw [decide_eq_true h,hc];rfl,by unfold aF;rw [if_pos e]⟩

theorem iE {T:ByteArray}(h1:byteN T 0≠45)(h2:byteN T 0≠43):isM T=false∧aF T=T:=by
 have e1:(byteN T 0 == 45)=false:=by rw [beq_eq_false_iff_ne];exact h1
 have e2:(byteN T 0 == 43)=false:=by rw [beq_eq_false_iff_ne];exact h2
 have e:cJ T=false:=by unfold cJ;rw [e1,e2];simp
 exact⟨by unfold isM;rw [e1];simp,by unfold aF;rw [e];rfl⟩

theorem nC (T:ByteArray)(w:World)(hs:T.size≤1048576) :
  Calls Tryz.prog 23 #[.string T] w fun e w'=>e=.returned (.tuple #[.bool (isM T),.string (aF T)])∧Below w.heap.size w w':=by
 by_cases hpos:0<T.size
 ·have hne:=n6 T hpos
  have h0i:(0:Int)<(T.size:Int):=by omega
  have h1i:(1:Int)≤(T.size:Int):=by omega
  have hc:=dJ T 0
  obtain⟨c,hcc⟩:∃c,byteN T 0=c:=⟨_,rfl⟩
  rw [hcc] at hc
  obtain⟨R,hR⟩:∃R,T.extract 1 T.size=R:=⟨_,rfl⟩
  by_cases h45:c=45
  ·obtain⟨hm,hb⟩:=gk hpos (hcc.trans h45)
   rw [hR] at hb
   rw [hm,hb]
   have hq:((c:Int) == 45)=true:=by rw [beq_iff_eq];omega
   clear hm hb hcc h45
   go_enter Tryz.func23,Tryz.ntmps23
   go_wp2
   go_region
   all_goals
    go_wp2
    go_ret2
    exact⟨rfl,by first|exact Below.refl _ _|exact (Below.refl _ _).drew⟩
  ·have hq:((c:Int) == 45)=false:=by rw [beq_eq_false_iff_ne];omega
   by_cases h43:c=43
   ·obtain⟨hm,hb⟩:=iV hpos (hcc.trans h43)
    rw [hR] at hb
    rw [hm,hb]
    have hq2:((c:Int) == 43)=true:=by rw [beq_iff_eq];omega
    clear hm hb hcc h45 h43
    go_enter Tryz.func23,Tryz.ntmps23
    go_wp2
    go_region
    all_goals
     go_wp2
     go_ret2
     exact⟨rfl,by first|exact Below.refl _ _|exact (Below.refl _ _).drew⟩
   ·obtain⟨hm,hb⟩:=iE (T:=T) (by rw [hcc];exact h45) (by rw [hcc];exact h43)
    rw [hm,hb]
    have hq2:((c:Int) == 43)=false:=by rw [beq_eq_false_iff_ne];omega
    clear hm hb hcc h45 h43
    go_enter Tryz.func23,Tryz.ntmps23
    go_wp2
    go_ret2
    exact⟨rfl,Below.refl _ _⟩
 ·obtain rfl:=iA T hpos
  rw [dT.1,dT.2]
  go_enter Tryz.func23,Tryz.ntmps23
  go_wp2
  go_ret2
  exact⟨rfl,Below.refl _ _⟩

def jy (T:ByteArray)(w:World)(e:Ending)(w':World):Prop:=
 ((¬DgT (aF T)∧e=.returned (.tuple #[.agg #[.bool false,.slice none 0 0],.int .i64 62]))∨(DgT (aF T)∧jB w' w.heap.size e (zz (isM T) (nmT (aF T)))))∧Below w.heap.size w w'

theorem pc (B:ByteArray)(w:World)(hT:Tab w)(hs:B.size≤1048576) :
  Calls Tryz.prog 24 #[.string B,.int .i64 10] w fun e w'=>((¬DgT B∧e=.returned (.tuple #[.slice none 0 0,.int .i64 51]))∨(DgT B∧Res w' w.heap.size e (nmT B)))∧Below w.heap.size w w':=by
 by_cases h0:B.size=0
 ·exact (kL B 10 w (by omega) (by omega) h0).mono fun e w' ⟨h1,h2⟩=>⟨.inl ⟨fun h=>by have:=h.1;omega,h1⟩,h2⟩
 ·refine (jN B 10 w hT (by omega) (by omega) (by omega) (by omega)).mono fun e w' ⟨h1,h2⟩=>⟨?_,h1⟩
  rcases h2 with ⟨i,hi,hbad,he⟩|⟨D,hl,hd,hres⟩
  ·refine .inl ⟨fun h=>?_,he⟩
   have h3:=((fW B i).1).2 (h.2 i hi)
   omega
  ·have hok:∀i,i<B.size→48≤byteN B i∧byteN B i≤57:=fun i hi=>((fW B i).1).1 (by have:=hd i hi;omega)
   refine .inr ⟨⟨by omega,hok⟩,?_⟩
   have e:nmT B=dvr 10 D 0 B.size:=gm fun i hi=>by
    rw [fg B i hi]
    have h3:=(fW B i).2 (hok i hi)
    have h4:=(hd i hi).1
    have h5:=hok i hi
    omega
   rw [e]
   exact hres

theorem nN (T:ByteArray)(w:World)(hT:Tab w)(hs:T.size≤1048576) :
  Calls Tryz.prog 7 #[.string T] w (jy T w):=by
 obtain⟨w0,hw0,hb0,h0⟩:=aM w (.cells #[.bool false,.slice none 0 0] 27)
 have hf0:=ay h0
 obtain⟨k0,k1⟩:=duo h0
 have HB0:=aa hb0
 have HX0:=aa h0
 have C:=nC T w0 hs
 have HT:=aa (hT.below hb0)
 unfold jy
 obtain⟨B,hB⟩:∃B,aF T=B:=⟨_,rfl⟩
 obtain⟨M,hM⟩:∃M,isM T=M:=⟨_,rfl⟩
 have hBs:B.size≤1048576:=by rw [←hB];exact Nat.le_trans (jr T) hs
 rw [hB,hM] at C ⊢
 have hsi:¬((1048576:Int)<(T.size:Int)):=by omega
 clear hb0 h0 hT hB hM
 go_enter Tryz.func7,Tryz.ntmps7
 go_wp2_with fail
 refine C.mono ?_
 rintro e w1 ⟨rfl,hb1⟩
 have C:=pc B w1 (HT.out.below hb1) hBs
 replace HX0:=aa (af hb1 HX0.out)
 replace HB0:=aa (bt5 HB0.out hb1)
 clear hb1 hf0 k0 k1 hw0 HT
 go_wp2_with fail
 refine C.mono ?_
 rintro e w2 ⟨hcase,hb2⟩
 replace HX0:=aa (af hb2 HX0.out)
 have hsz:=HB0.out.size
 replace HB0:=aa (bt5 HB0.out hb2)
 have hf0:=ay HX0.out
 obtain⟨k0,k1⟩:=duo HX0.out
 rcases hcase with ⟨hno,rfl⟩|⟨hyes,v,c,rs,rfl,hA,hc⟩
 ·have HNO:=aa hno
  clear hno C hb2
  go_wp2
  have R5:=aL HX0.out (a':=.bool false) (b':=.slice none 0 0)
  have HD:=aa (aK HB0.out (g:=w.heap.size) (u0:=.bool false) (u1:=.slice none 0 0) (Nat.le_refl _))
  generalize (w2.setCell ⟨w.heap.size,0,none⟩ (.bool false)).setCell ⟨w.heap.size,1,none⟩ (.slice none 0 0)=w5 at *
  obtain⟨q0,q1⟩:=duo R5
  refine bodyPost_ret (v:=.tuple #[.agg #[.bool false,.slice none 0 0],.int .i64 62]) (by simp [results,Tryz.results7,go_sem,q0,q1]) rfl ?_
  exact⟨.inl ⟨HNO.out,rfl⟩,HD.out⟩
 ·have C:=ky M v rs c (nmT B) w1.heap.size w2 hA hc
  have HYES:=aa hyes
  obtain⟨av,kv,rfl⟩:=hA.shape
  have hc51:(c == 51)=false:=by
   rcases hc with ⟨rfl,_⟩|⟨rfl,_⟩ <;> rfl
  clear hyes hb2 hA hc
  go_wp2_with fail
  refine C.mono ?_
  rintro e w3 ⟨⟨b1,a1,n1,k1',c1,rfl,hzr⟩,hb3⟩
  have HZR:=aa (hzr.base hsz)
  have hbx:=af hb3 HX0.out
  have hf1:=ay hbx
  obtain⟨l0,l1⟩:=duo hbx
  have HBX:=aa hbx
  have HBE:=aa (bt5 HB0.out hb3)
  clear hbx hzr hb3 C k0 k1 hf0
  go_wp2
  have R5:=aL HBX.out (a':=.bool b1) (b':=.slice a1 n1 k1')
  have HD:=aa (And.intro (HZR.out.duo (u0:=.bool b1) (u1:=.slice a1 n1 k1') HBX.out) (aK HBE.out (g:=w.heap.size) (u0:=.bool b1) (u1:=.slice a1 n1 k1') (Nat.le_refl _)))
  generalize (w3.setCell ⟨w.heap.size,0,none⟩ (.bool b1)).setCell ⟨w.heap.size,1,none⟩ (.slice a1 n1 k1')=w5 at *
  obtain⟨q0,q1⟩:=duo R5
  refine bodyPost_ret (v:=.tuple #[.agg #[.bool b1,.slice a1 n1 k1'],.int .i64 c1]) (by simp [results,Tryz.results7,go_sem,q0,q1]) rfl ?_
  exact⟨.inr ⟨HYES.out,_,_,_,_,_,rfl,HD.out.1⟩,HD.out.2⟩

def Zn (w:World)(v:Value)(z:Int):Prop:=∃u,v=.agg #[.bool (decide (z<0)),u]∧Num w u z.natAbs

theorem Zn.below {w w':World}{v:Value}{z:Int}(h:Zn w v z)(hb:Below w.heap.size w w'):Zn w' v z:=by
 obtain⟨u,h1,h2⟩:=h
 exact⟨u,h1,h2.below hb⟩

theorem Num.sl {w:World}{v:Value}{x:Nat}(h:Num w v x):∃a n c,v=.slice a n c:=by
 obtain⟨ds,hA,_⟩:=h
 obtain⟨a,c,e,_⟩:=hA.form
 exact⟨a,_,c,e⟩

theorem qH (b:Bool)(x:Nat):(b && !(x == 0))=decide (zz b x<0):=by
 cases b
 ·simp [zz]
 ·simp only [Bool.true_and,zz,if_true]
  by_cases h:x=0
  ·subst h;rfl
  ·have h1:(x == 0)=false:=by simpa using h
   rw [h1]
   exact (decide_eq_true (by omega)).symm

theorem pt (b:Bool)(u:Value)(x:Nat)(w:World)(h:Num w u x) :
  Calls Tryz.prog 21 #[.bool b,u] w fun e w'=>(∃v,e=.returned v∧Zn w' v (zz b x))∧Below w.heap.size w w':=by
 obtain⟨a,n,c,rfl⟩:=h.sl
 cases b
 ·have HB:=aa (cf w (.cells #[.bool false,.slice a n c] 32))
  have HN:=aa (h.below HB.out)
  clear h
  go_enter Tryz.func21,Tryz.ntmps21
  go_wp2
  go_returns
  exact⟨⟨_,rfl,.slice a n c,by simp [zz],by rw [aC];exact HN.out⟩,HB.out⟩
 ·obtain⟨w0,hw0⟩:∃w0,w.alloc (.cells #[.bool false,.slice none 0 0] 32)=w0:=⟨_,rfl⟩
  have hb0:Below w.heap.size w w0:=by rw [←hw0];exact cf _ _
  have h0:w0.heap[w.heap.size]?=some (.cells #[.bool false,.slice none 0 0] 32):=by rw [←hw0];exact heap_alloc_new ..
  have hf0:=ay h0
  obtain⟨k0,k1⟩:=duo h0
  have HZ:=dh _ x w0 (h.below hb0)
  obtain⟨t,ht⟩:∃t:Bool,(!(x == 0))=t:=⟨_,rfl⟩
  have hzt:=qH true x
  rw [Bool.true_and,ht] at hzt
  have ht2:(x == 0)=!t:=by rw [←ht,Bool.not_not]
  rw [ht2] at HZ
  have HN:=aa h
  have HB0:=aa hb0
  have HBX:=aa h0
  have HZT:=aa hzt
  clear h hb0 h0 ht ht2 hzt
  go_enter Tryz.func21,Tryz.ntmps21
  go_wp2_with fail
  refine HZ.mono ?_
  rintro e wn ⟨rfl,hw⟩;rw [hw];clear hw wn HZ
  go_wp2
  have R5:=aL HBX.out (a':=.bool t) (b':=.slice a n c)
  have HD:=aa (aK HB0.out (g:=w.heap.size) (u0:=.bool t) (u1:=.slice a n c) (Nat.le_refl _))
  generalize (w0.setCell ⟨w.heap.size,0,none⟩ (.bool t)).setCell ⟨w.heap.size,1,none⟩ (.slice a n c)=w5 at *
  obtain⟨q0,q1⟩:=duo R5
  refine bodyPost_ret (v:=.agg #[.bool t,.slice a n c]) (by simp [results,Tryz.results21,go_sem,q0,q1]) rfl ?_
  exact⟨⟨_,rfl,_,by rw [HZT.out],by rw [aC];exact HN.out.below HD.out⟩,HD.out⟩

theorem Zn.sl {w:World}{v:Value}{z:Int}(h:Zn w v z):∃b a n k,v=.agg #[.bool b,.slice a n k]:=by
 obtain⟨u,h1,h2⟩:=h
 obtain⟨a,n,k,rfl⟩:=h2.sl
 exact⟨_,_,_,_,h1⟩

theorem jL {w:World}{g k g' k':Nat}{u:Value}(h:g≠g'):(w.setCell ⟨g,k,none⟩ u).cell? ⟨g',k',none⟩=w.cell? ⟨g',k',none⟩:=by
 simp only [World.cell?]
 rw [Below.heap_setCell _ _ _ _ (by exact Ne.symm h)]

theorem ac.box {w:World}{ao:Option Addr}{zs:List Nat}{g o:Nat}{p:Bool}{a:Option Addr}{n c:Nat}{t:TypeId}{u:Value}(h:ac w ao zs)(hl:w.heap[g]?=some (.cells #[.bool p,.slice a n c] t)):ac (w.setCell ⟨g,o,none⟩ u) ao zs:=by
 rcases h with h|⟨b,off,rfl,hc⟩
 ·exact .inl h
 ·rcases Nat.eq_zero_or_pos zs.length with h0|h0
  ·exact .inl (List.eq_nil_of_length_eq_zero h0)
  ·refine .inr ⟨b,off,rfl,fun k hk=>?_⟩
   rw [jL]
   ·exact hc k hk
   ·rintro rfl
    have h1:=hc 0 h0
    rw [Nat.add_zero] at h1
    simp only [World.cell?,hl] at h1
    match off,h1 with
    | 0,h1=>simp at h1
    | 1,h1=>simp at h1
    | k+2,h1=>simp at h1

theorem Arg.box {w:World}{v:Value}{zs:List Nat}{g o:Nat}{p:Bool}{a:Option Addr}{n c:Nat}{t:TypeId}{u:Value}(h:Arg w v zs)(hl:w.heap[g]?=some (.cells #[.bool p,.slice a n c] t)):Arg (w.setCell ⟨g,o,none⟩ u) v zs:=by
 obtain⟨ao,cap,h1,h2,h3,h4⟩:=h.form
 exact⟨⟨ao,cap,h1,h2,h3,h4.box hl⟩,h.limbs,h.few,h.nz⟩

theorem Arg.duo {w:World}{v:Value}{zs:List Nat}{g:Nat}{p:Bool}{a:Option Addr}{n c:Nat}{t:TypeId}{p1:Bool}{r1:Value}(h:Arg w v zs)(hl:w.heap[g]?=some (.cells #[.bool p,.slice a n c] t)):Arg ((w.setCell ⟨g,0,none⟩ (.bool p1)).setCell ⟨g,1,none⟩ r1) v zs:=
 (h.box hl).box (bK hl (.bool p1))

theorem Num.duo {w:World}{v:Value}{x g:Nat}{p:Bool}{a:Option Addr}{n c:Nat}{t:TypeId}{p1:Bool}{r1:Value}(h:Num w v x)(hl:w.heap[g]?=some (.cells #[.bool p,.slice a n c] t)):Num ((w.setCell ⟨g,0,none⟩ (.bool p1)).setCell ⟨g,1,none⟩ r1) v x:=by
 obtain⟨ds,hA,hr⟩:=h
 exact⟨ds,hA.duo hl,hr⟩

theorem Zn.duo {w:World}{v:Value}{z:Int}{g:Nat}{p:Bool}{a:Option Addr}{n c:Nat}{t:TypeId}{p1:Bool}{r1:Value}(h:Zn w v z)(hl:w.heap[g]?=some (.cells #[.bool p,.slice a n c] t)):Zn ((w.setCell ⟨g,0,none⟩ (.bool p1)).setCell ⟨g,1,none⟩ r1) v z:=by
 obtain⟨u,h1,h2⟩:=h
 exact⟨u,h1,h2.duo hl⟩

def eC (w:World)(z:Int)(e:Ending)(w':World):Prop:=(∃b a n k,e=.returned (.agg #[.bool b,.slice a n k])∧Zn w' (.agg #[.bool b,.slice a n k]) z)∧Below w.heap.size w w'

theorem cR (b:Bool)(u:Value)(x:Nat)(w:World)(h:Num w u x):Calls Tryz.prog 21 #[.bool b,u] w (eC w (zz b x)):=by
 refine (pt b u x w h).mono ?_
 rintro e w' ⟨⟨v,rfl,hz⟩,hb⟩
 obtain⟨b,a,n,k,rfl⟩:=hz.sl
 exact⟨⟨b,a,n,k,rfl,hz⟩,hb⟩

theorem pU (b:Bool)(v:Value)(X:List Nat)(w:World)(hA:Arg w v X)(hf:X.length≤17592186044416) :
  Calls Tryz.prog 31 #[.bool b,v] w (eC w (zz b (val X))):=by
 obtain⟨a,n,rfl,_,_,_⟩:=hA.form
 obtain⟨w0,hw0,hb0,hx0⟩:=aM w (.cells #[.bool false,.slice none 0 0] 32)
 have HO:=ep _ X w0 (hA.below hb0) hf
 have HB0:=aa hb0
 have HX0:=aa hx0
 clear hA hb0 hx0
 go_enter Tryz.func31,Tryz.ntmps31
 go_wp2_with fail
 refine HO.mono ?_
 rintro e w1 ⟨⟨v1,rfl,hn⟩,hb1⟩
 have HM:=cR b v1 (val X) w1 hn
 have HW1:=aa hb1
 obtain⟨a2,n2,k2,rfl⟩:=hn.sl
 clear hn hb1 HO
 go_wp2_with fail
 refine HM.mono ?_
 rintro e w2 ⟨⟨b1,a1,n1,k1,rfl,hzn⟩,hb2⟩
 have HZN:=aa hzn
 have HW:=aa (HW1.out.trans (hb2.mono HW1.out.size))
 clear hzn hb2 HM hw0
 have hbx:=af HW.out HX0.out
 have hf1:=ay hbx
 obtain⟨l0,l1⟩:=duo hbx
 have HBX:=aa hbx
 have HBE:=aa (HB0.out.trans (HW.out.mono HB0.out.size))
 clear hbx
 go_wp2
 have R5:=aL HBX.out (a':=.bool b1) (b':=.slice a1 n1 k1)
 have HD:=aa (And.intro (HZN.out.duo (p1:=b1) (r1:=.slice a1 n1 k1) HBX.out) (aK HBE.out (g:=w.heap.size) (u0:=.bool b1) (u1:=.slice a1 n1 k1) (by omega)))
 generalize (w2.setCell ⟨w.heap.size,0,none⟩ (.bool b1)).setCell ⟨w.heap.size,1,none⟩ (.slice a1 n1 k1)=w5 at *
 obtain⟨q0,q1⟩:=duo R5
 refine bodyPost_ret (v:=.agg #[.bool b1,.slice a1 n1 k1]) (by simp [results,Tryz.results31,go_sem,q0,q1]) rfl ?_
 exact⟨⟨_,_,_,_,rfl,HD.out.1⟩,HD.out.2⟩

theorem Zn.parts {w:World}{v:Value}{z:Int}(h:Zn w v z):∃b a n k,v=.agg #[.bool b,.slice a n k]∧b=decide (z<0)∧Num w (.slice a n k) z.natAbs∧z=zz b z.natAbs:=by
 obtain⟨u,h1,h2⟩:=h
 obtain⟨a,n,k,rfl⟩:=h2.sl
 exact⟨_,a,n,k,h1,rfl,h2,(pk z).symm⟩

theorem Num.drew6 {w:World}{v:Value}{x:Nat}(h:Num w v x):Num w.drew v x:=h.below (Below.refl _ _).drew
theorem Zn.drew6 {w:World}{v:Value}{z:Int}(h:Zn w v z):Zn w.drew v z:=h.below (Below.refl _ _).drew
theorem mK {w w':World}(h:Below w.drew.heap.size w.drew w'):Below w.heap.size w w':=(Below.refl w.heap.size w).drew.trans h

theorem aS {w w':World}{g o:Nat}{v:Value}(hb:Below w.heap.size w w')(h:w.cell? ⟨g,o,none⟩=some v):w'.cell? ⟨g,o,none⟩=some v:=by
 rw [hb.cell (p:=⟨g,o,none⟩) ?_]
 ·exact h
 ·show g<w.heap.size
  rcases Nat.lt_or_ge g w.heap.size with h' | h'
  ·exact h'
  ·simp [World.cell?,Array.getElem?_eq_none h'] at h

theorem jX {w:World}{v u:Value}{x:Nat}{rs:List Nat}(hn:Num w v x)(ha:Arg w u rs)(ht:tr rs=rs)(hv:val rs=x)(hf:blen x≤1125899906842624) :
  Calls Tryz.prog 52 #[v,u] w fun e w'=>e=.returned (.bool true)∧Below w.heap.size w w':=mc v u x rs w hn ha ht hv hf

theorem f7 (v:Value)(z:Int)(u:Value)(rs:List Nat)(w:World)(h:Zn w v z)(ha:Arg w u rs)(ht:tr rs=rs)(hv:val rs=z.natAbs)(hf:blen z.natAbs≤1125899906842624) :
  Calls Tryz.prog 32 #[v,.bool (decide (z<0)),u] w fun e w'=>e=.returned (.bool true)∧Below w.heap.size w w':=by
 obtain⟨b,a,n,k,rfl,hb,hn,hz⟩:=h.parts
 rw [←hb]
 obtain⟨w0,hw0,hb0,h0⟩:=aM w (.cells #[.bool b,.slice a n k] 32)
 obtain⟨k0,k1⟩:=duo h0
 obtain⟨a2,k2,rfl,_,_,_⟩:=ha.form
 have HI:=jX (hn.below hb0) (ha.below hb0) ht hv hf
 have HB0:=aa hb0
 clear h hn hz hb0 h0 ha hb hv hf ht
 have hbb:(b == b)=true:=by simp
 go_enter Tryz.func32,Tryz.ntmps32
 go_wp2_with fail
 refine HI.mono ?_
 rintro e w1 ⟨rfl,hb1⟩
 have HB1:=aa (HB0.out.trans (hb1.mono HB0.out.size))
 clear hb1 HI
 go_wp2
 go_ret
 exact⟨rfl,HB1.out⟩

theorem fz (c:Int)(w:World):Calls Tryz.prog 16 #[.int .i64 c] w fun e w'=>e=.returned (.int .i64 c)∧w'=w:=by
 go_enter Tryz.func16,Tryz.ntmps16
 go_wp2
 go_ret
 exact⟨rfl,rfl⟩

theorem jA (n:Int)(w:World)(h1:-9223372036854775808≤n)(h2:n≤9223372036854775807) :
  Calls Tryz.prog 35 #[.int .i64 n] w (eC w n):=by
 obtain⟨w0,hw0,hb0,hx0⟩:=aM w (.cells #[.bool false,.slice none 0 0] 32)
 have HB0:=aa hb0
 have HX0:=aa hx0
 by_cases hn:n<0
 ·obtain⟨x,hx,hx2⟩:∃x:Nat,n=-(x:Int)∧x<18446744073709551616:=⟨n.natAbs,by omega,by omega⟩
  have q1:IntKind.i64.wrap (n+1)=n+1:=by rw [IntKind.wrap_i64];omega
  have q2:IntKind.i64.wrap (-(n+1))=-(n+1):=by rw [IntKind.wrap_i64];omega
  have q3:IntKind.u64.wrap (-(n+1))=-(n+1):=by rw [IntKind.wrap_u64];omega
  have q4:IntKind.u64.wrap (-(n+1)+1)=(x:Int):=by rw [IntKind.wrap_u64];omega
  obtain⟨w6,hw6,hb6,hx6⟩:=aM w0 (.cells #[.int .u64 x] 65)
  have hblk:Blk w6 w0.heap.size [x]:=hx6
  have A6:=Ans.of_blk (base:=w0.heap.size) (zs:=[x]) (Nat.le_refl _) hblk (by simp) (by simp) (by simp) (by intro z hz;simp at hz;omega)
  have HO:=ep (.slice (some ⟨w0.heap.size,0,none⟩) 1 1) [x] w6 (A6.arg (by simp)) (by simp)
  rw [show val [x]=x from by simp [val]] at HO
  have HB6:=aa hb6
  have ez:zz true x=n:=by simp [zz];omega
  have HEZ:=aa ez
  clear hb0 hx0 hb6 hx6 hblk A6 hx ez
  go_enter Tryz.func35,Tryz.ntmps35
  go_wp2_with fail
  refine HO.mono ?_
  rintro e w1 ⟨⟨v1,rfl,hn1⟩,hb1⟩
  have HM:=cR true v1 x w1 hn1
  rw [HEZ.out] at HM
  have HW1:=aa (HB6.out.trans (hb1.mono HB6.out.size))
  obtain⟨a2,n2,k2,rfl⟩:=hn1.sl
  clear hn1 hb1 HO
  go_wp2_with fail
  refine HM.mono ?_
  rintro e w2 ⟨⟨b1,a1,n1,k1,rfl,hzn⟩,hb2⟩
  have HZN:=aa hzn
  have HW:=aa (HW1.out.trans (hb2.mono HW1.out.size))
  clear hzn hb2 HM hw0 hw6
  have hbx:=af HW.out HX0.out
  have hf1:=ay hbx
  obtain⟨l0,l1⟩:=duo hbx
  have HBX:=aa hbx
  have HBE:=aa (HB0.out.trans (HW.out.mono HB0.out.size))
  clear hbx
  go_wp2
  have R5:=aL HBX.out (a':=.bool b1) (b':=.slice a1 n1 k1)
  have HD:=aa (And.intro (HZN.out.duo (p1:=b1) (r1:=.slice a1 n1 k1) HBX.out) (aK HBE.out (g:=w.heap.size) (u0:=.bool b1) (u1:=.slice a1 n1 k1) (by omega)))
  generalize (w2.setCell ⟨w.heap.size,0,none⟩ (.bool b1)).setCell ⟨w.heap.size,1,none⟩ (.slice a1 n1 k1)=w5 at *
  obtain⟨q0,q1⟩:=duo R5
  refine bodyPost_ret (v:=.agg #[.bool b1,.slice a1 n1 k1]) (by simp [results,Tryz.results35,go_sem,q0,q1]) rfl ?_
  exact⟨⟨_,_,_,_,rfl,HD.out.1⟩,HD.out.2⟩
 ·obtain⟨x,hx,hx2⟩:∃x:Nat,n=(x:Int)∧x<9223372036854775808:=⟨n.natAbs,by omega,by omega⟩
  subst hx
  have HO:=f8 x w0 hx2
  have ez:zz false x=(x:Int):=by simp [zz]
  have HEZ:=aa ez
  clear hb0 hx0 ez
  go_enter Tryz.func35,Tryz.ntmps35
  go_wp2_with fail
  refine HO.mono ?_
  rintro e w1 ⟨⟨v1,rfl,hn1⟩,hb1⟩
  have HM:=cR false v1 x w1 hn1
  rw [HEZ.out] at HM
  have HW1:=aa hb1
  obtain⟨a2,n2,k2,rfl⟩:=hn1.sl
  clear hn1 hb1 HO
  go_wp2_with fail
  refine HM.mono ?_
  rintro e w2 ⟨⟨b1,a1,n1,k1,rfl,hzn⟩,hb2⟩
  have HZN:=aa hzn
  have HW:=aa (HW1.out.trans (hb2.mono HW1.out.size))
  clear hzn hb2 HM hw0
  have hbx:=af HW.out HX0.out
  have hf1:=ay hbx
  obtain⟨l0,l1⟩:=duo hbx
  have HBX:=aa hbx
  have HBE:=aa (HB0.out.trans (HW.out.mono HB0.out.size))
  clear hbx
  go_wp2
  have R5:=aL HBX.out (a':=.bool b1) (b':=.slice a1 n1 k1)
  have HD:=aa (And.intro (HZN.out.duo (p1:=b1) (r1:=.slice a1 n1 k1) HBX.out) (aK HBE.out (g:=w.heap.size) (u0:=.bool b1) (u1:=.slice a1 n1 k1) (by omega)))
  generalize (w2.setCell ⟨w.heap.size,0,none⟩ (.bool b1)).setCell ⟨w.heap.size,1,none⟩ (.slice a1 n1 k1)=w5 at *
  obtain⟨q0,q1⟩:=duo R5
  refine bodyPost_ret (v:=.agg #[.bool b1,.slice a1 n1 k1]) (by simp [results,Tryz.results35,go_sem,q0,q1]) rfl ?_
  exact⟨⟨_,_,_,_,rfl,HD.out.1⟩,HD.out.2⟩

theorem nA (b:Bool)(v:Value)(X:List Nat)(w:World)(hA:Arg w v X)(hf:X.length≤17592186044416) :
  Calls Tryz.prog 10 #[.agg #[.bool b,v]] w (eC w (zz b (val X))):=by
 obtain⟨a,n,rfl,_,_,_⟩:=hA.form
 obtain⟨w0,hw0,hb0,h0,hx0⟩:=cW w (.cells #[.bool b,.slice a X.length n] 24) (.cells #[.bool false,.slice none 0 0] 32)
 obtain⟨k0,k1⟩:=duo h0
 have HM:=pU b _ X w0 (hA.below hb0) hf
 have HB0:=aa hb0
 have HX0:=aa hx0
 clear hA hb0 h0 hx0
 go_enter Tryz.func10,Tryz.ntmps10
 go_wp2_with fail
 refine HM.mono ?_
 rintro e w1 ⟨⟨b1,a1,n1,k1,rfl,hzn⟩,hb1⟩
 have HZN:=aa hzn
 have HW:=aa hb1
 clear hzn hb1 HM hw0 k0
 have hbx:=af HW.out HX0.out
 have hf1:=ay hbx
 obtain⟨l0,l1⟩:=duo hbx
 have HBX:=aa hbx
 have HBE:=aa (HB0.out.trans (HW.out.mono HB0.out.size))
 clear hbx
 go_wp2
 have R5:=aL HBX.out (a':=.bool b1) (b':=.slice a1 n1 k1)
 have HD:=aa (And.intro (HZN.out.duo (p1:=b1) (r1:=.slice a1 n1 k1) HBX.out) (aK HBE.out (g:=w.heap.size+1) (u0:=.bool b1) (u1:=.slice a1 n1 k1) (by omega)))
 generalize (w1.setCell ⟨w.heap.size+1,0,none⟩ (.bool b1)).setCell ⟨w.heap.size+1,1,none⟩ (.slice a1 n1 k1)=w5 at *
 obtain⟨q0,q1⟩:=duo R5
 refine bodyPost_ret (v:=.agg #[.bool b1,.slice a1 n1 k1]) (by simp [results,Tryz.results10,go_sem,q0,q1]) rfl ?_
 exact⟨⟨_,_,_,_,rfl,HD.out.1⟩,HD.out.2⟩

theorem kJ (b:Bool)(a:Option Addr)(m n:Nat)(c:Int)(v:Value)(z:Int)(base:Nat)(w:World)(h:ZR w base b (.slice a m n) c z)(hz:Zn w v z) :
  Calls Tryz.prog 11 #[.agg #[.bool b,.slice a m n],.int .i64 c,v,.int .i64 0] w fun e w'=>e=.returned (.bool true)∧Below w.heap.size w w':=by
 obtain⟨b9,a9,n9,k9,rfl,hb9,hn9,hz9⟩:=hz.parts
 obtain⟨w0,hw0,hb0,h0,h1⟩:=cW w (.cells #[.bool b,.slice a m n] 27) (.cells #[.bool b9,.slice a9 n9 k9] 32)
 obtain⟨k0,k1⟩:=duo h0
 obtain⟨k2,k3⟩:=duo h1
 have HL:=nY _ z.natAbs w0 (hn9.below hb0)
 have HN:=fz c w0
 obtain⟨rs,hA,hc⟩:=h
 have HB0:=aa hb0
 rcases hc with ⟨rfl,hb,hv,ht,hbl⟩|⟨rfl,rfl,hva,hrs,hbl⟩
 ·have i1:¬(67108864:Int)<((blen z.natAbs:Nat):Int):=by omega
  have hlm:rs.length≤1048576:=cQ ht hv (by omega)
  have HI:=f7 _ z (.slice a m n) rs w0 (hz.below hb0) ((hA.arg (by omega)).below hb0) ht hv (by omega)
  rw [←hb] at HI
  clear hA hz hn9 hz9 hb0 h0 h1 hv ht hb9 hb hlm
  generalize blen z.natAbs=l at *
  go_enter Tryz.func11,Tryz.ntmps11
  go_wp2_with fail
  refine HL.mono ?_
  rintro e wn ⟨rfl,hw⟩;rw [hw];clear hw wn HL
  go_wp2_with fail
  refine HN.mono ?_
  rintro e wn ⟨rfl,hw⟩;rw [hw];clear hw wn HN
  go_wp2_with fail
  refine HI.mono ?_
  rintro e w1 ⟨rfl,hb1⟩
  have HB1:=aa (HB0.out.trans (hb1.mono HB0.out.size))
  clear hb1 HI
  go_wp2
  go_ret
  exact⟨rfl,HB1.out⟩
 ·have i1:(67108864:Int)<((blen z.natAbs:Nat):Int):=by omega
  simp only [Value.slice.injEq] at hva
  obtain⟨rfl,rfl,rfl⟩:=hva
  clear hA hz hn9 hz9 hb0 h0 h1 hb9
  generalize blen z.natAbs=l at *
  go_enter Tryz.func11,Tryz.ntmps11
  go_wp2_with fail
  refine HL.mono ?_
  rintro e wn ⟨rfl,hw⟩;rw [hw];clear hw wn HL
  go_wp2_with fail
  refine HN.mono ?_
  rintro e wn ⟨rfl,hw⟩;rw [hw];clear hw wn HN
  go_wp2
  go_ret
  exact⟨rfl,HB0.out⟩

theorem nL (b:Bool)(v:Value)(X:List Nat)(w:World)(hA:Arg w v X)(hf:X.length≤35184372088000) :
  Calls Tryz.prog 5 #[.agg #[.bool b,v]] w fun e w'=>(∃aw mw nw a m n,e=.returned (.tuple #[.slice aw mw nw,.agg #[.bool b,.slice a m n]])∧cS w' (.slice aw mw nw) X∧Arg w' (.slice a m n) X)∧Below w.heap.size w w':=by
 obtain⟨a,n,rfl,_,_,_⟩:=hA.form
 obtain⟨w0,hw0,hb0,h0,hx0⟩:=cW w (.cells #[.bool b,.slice a X.length n] 24) (.cells #[.bool false,.slice none 0 0] 27)
 obtain⟨k0,k1⟩:=duo h0
 have HM:=oI _ X w0 (hA.below hb0) hf
 have HB0:=aa hb0
 have HX0:=aa hx0
 have HK0:=aa h0
 clear hA hb0 h0 hx0
 go_enter Tryz.func5,Tryz.ntmps5
 go_wp2_with fail
 refine HM.mono ?_
 rintro e w1 ⟨⟨vw,vp,rfl,hL,hP⟩,hb1⟩
 obtain⟨gw,rfl,hgw⟩:=hL
 obtain⟨a1,n1,rfl,_,_,_⟩:=hP.form
 have hbx:=af hb1 HX0.out
 have hf1:=ay hbx
 obtain⟨l0,l1⟩:=duo hbx
 obtain⟨j0,j1⟩:=duo (af hb1 HK0.out)
 have HBX:=aa hbx
 have HBE:=aa (HB0.out.trans (hb1.mono HB0.out.size))
 have HP:=aa hP
 have HG:=aa hgw
 clear hbx hb1 HM hw0 k0 k1 hP hgw
 go_wp2
 go_region
 have R5:=aL HBX.out (a':=.bool b) (b':=.slice a1 X.length n1)
 have HD:=aa (And.intro (HP.out.duo (p1:=b) (r1:=.slice a1 X.length n1) HBX.out) (aK HBE.out (g:=w.heap.size+1) (u0:=.bool b) (u1:=.slice a1 X.length n1) (by omega)))
 have hgl:gw≠w.heap.size+1:=by
  rintro rfl
  have h:=HG.out
  unfold Blk at h
  rw [HBX.out] at h
  simp at h
 have HLT:Hid (Blk ((w1.setCell ⟨w.heap.size+1,0,none⟩ (.bool b)).setCell ⟨w.heap.size+1,1,none⟩ (.slice a1 X.length n1)) gw (bs X)):=aa (by
  have h:=HG.out
  unfold Blk at h ⊢
  rw [Below.heap_setCell _ _ _ _ hgl,Below.heap_setCell _ _ _ _ hgl]
  exact h)
 generalize (w1.setCell ⟨w.heap.size+1,0,none⟩ (.bool b)).setCell ⟨w.heap.size+1,1,none⟩ (.slice a1 X.length n1)=w5 at *
 obtain⟨q0,q1⟩:=duo (show w5.drew.heap[w.heap.size+1]?=_ from R5)
 go_wp2
 refine bodyPost_ret (v:=.tuple #[.slice (some ⟨gw,0,none⟩) (X.length+4) (X.length+4),.agg #[.bool b,.slice a1 X.length n1]]) (by simp [results,Tryz.results5,go_sem,q0,q1]) rfl ?_
 exact⟨⟨_,_,_,_,_,_,rfl,⟨gw,rfl,HLT.out⟩,HD.out.1.below (Below.refl _ _).drew⟩,HD.out.2.drew⟩
end Go.Proofs.YtkhckcfikljjhaaGreatDoor

