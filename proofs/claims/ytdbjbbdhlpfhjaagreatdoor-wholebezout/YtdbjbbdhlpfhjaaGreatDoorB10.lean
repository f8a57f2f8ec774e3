/- Package numeral, near numbers: nearPower of any base and exponent; surelyBig. -/
import Derived.Test.YtdbjbbdhlpfhjaaGreatDoorB09
import Derived.Test.YtdbjbbdhlpfhjaaGreatDoorB08
import Derived.Deep.RegionHeld3
import Derived.Laws.IdiomStrings
import Derived.Laws.Cells
import Derived.Test.YtdbjbbdhlpfhjaaGreatDoorB02
import Derived.Test.YtdbjbbdhlpfhjaaGreatDoorB01
import Derived.Test.YtdbjbbdhlpfhjaaGreatDoorB04
set_option maxRecDepth 20000
set_option maxHeartbeats 4000000
namespace Go.Proofs.YtdbjbbdhlpfhjaaGreatDoor
open Go.RowKit
open Lm
attribute [local go_sem ↓] Go.wp_at_zero Go.wp_at_succ

def Pw (b q m f:Nat):Prop:=(q=0∧m=9223372036854775808∧f=0)∨(1≤q∧∃c,c+1≤q∧Nr (b ^ q) m f c)

theorem Pw.range {b q m f:Nat}(h:Pw b q m f):9223372036854775808≤m∧m<18446744073709551616:=by
 rcases h with ⟨_,rfl,_⟩|⟨_,c,_,h⟩
 ·omega
 ·exact⟨h.low,h.high⟩

theorem Pw.exp {b q m f:Nat}(hb:b≤64)(h:Pw b q m f):f≤6*q:=by
 rcases h with ⟨_,_,rfl⟩|⟨_,c,_,h⟩
 ·omega
 ·have h1:=h.ge
  have h2:b ^ q≤2 ^ (6*q):=by rw [Nat.pow_mul];exact Nat.pow_le_pow_left hb q
  exact (Nat.pow_le_pow_iff_right (show 1<2 by omega)).1 (Nat.le_trans h1 h2)

theorem Pw.sq {b q m f:Nat}(h:Pw b q m f):Pw b (2*q) (bK (m*m)) (f+f+bO (m*m)):=by
 rcases h with ⟨rfl,rfl,rfl⟩|⟨hq,c,hc,h⟩
 ·exact .inl ⟨rfl,by decide,by decide⟩
 ·refine .inr ⟨by omega,c+c+1,by omega,?_⟩
  rw [show 2*q=q+q by omega,Nat.pow_add]
  exact h.times h

theorem Pw.mul {b q m f mb fb:Nat}(h:Pw b q m f)(hb:Nr b mb fb 0):Pw b (q+1) (bK (m*mb)) (f+fb+bO (m*mb)):=by
 rcases h with ⟨rfl,rfl,rfl⟩|⟨hq,c,hc,h⟩
 ·obtain⟨e1,e2⟩:=hb.one_times
  rw [e1,e2]
  refine .inr ⟨by omega,0,by omega,?_⟩
  rw [Nat.zero_add,Nat.zero_add,Nat.add_zero,Nat.pow_one]
  exact hb
 ·refine .inr ⟨by omega,c+0+1,by omega,?_⟩
  rw [Nat.pow_succ]
  exact h.times hb

def dd (w:World)(g m:Nat)(f:Nat):Prop:=w.heap[g]?=some (.cells #[.int .u64 m,.int .i64 ((f:Int) - 63)] 192)

theorem pD (b n:Nat)(w:World)(hb:1≤b)(hb2:b≤64)(hn:n≤1125899906842624) :
  Calls Tryz.prog 197 #[.int .u64 b,.int .i64 n] w fun e w'=>∃m f:Nat,e=.returned (.agg #[.int .u64 m,.int .i64 ((f:Int) - 63)])∧Pw b n m f∧Below w.heap.size w w':=by
 have HLN:=fun W=>Tryz.bits_Len (n:Int) W (by omega) (by omega)
 simp only [Int.toNat_natCast] at HLN
 obtain⟨L,hL⟩:∃L,Lib.bitLen n=L:=⟨_,rfl⟩
 have hnl:n<2 ^ L:=by
  rw [←hL]
  rcases Nat.eq_zero_or_pos n with h|h
  ·subst h;decide
  ·exact (Lib.bitLenAux_bounds 64 n (by omega) (by omega)).2.2
 have hL64:L≤64:=by rw [←hL];exact Lib.bitLen_le n 64 (by omega) (by omega)
 rw [hL] at HLN
 have HN1:=fun W=>ig 1 W (by omega) (by omega)
 have HNB:=fun W=>ig b W (by omega) (by omega)
 obtain⟨w0,hw0⟩:∃w0,w.alloc (.cells #[.int .u64 0,.int .i64 0] 192)=w0:=⟨_,rfl⟩
 have hb0:Below w.heap.size w w0:=by rw [←hw0];exact aL _ _
 have h0:w0.heap[w.heap.size]?=some (.cells #[.int .u64 0,.int .i64 0] 192):=by rw [←hw0];exact heap_alloc_new ..
 have HW0:=aa hw0
 have HB0:=aa hb0
 have H0:=aa h0
 have HNL:=aa hnl
 clear hw0 hb0 h0 hL hnl
 go_enter Tryz.func197,Tryz.ntmps197
 go_wp2_with fail
 rw [HW0.out]
 refine (nf w0).mono ?_
 rintro e w1 ⟨rfl,hb1⟩
 have HB1:=aa hb1
 clear hb1 HN1
 go_wp2_with fail
 refine (HNB w1).mono ?_
 rintro e w2 ⟨mb,fb,rfl,hNb,hfb,hb2'⟩
 have hb02:=HB1.out.trans (hb2'.mono HB1.out.size)
 obtain⟨wa,hwa⟩:∃wa,w2.alloc (.cells #[.int .u64 9223372036854775808,.int .i64 (-63)] 192)=wa:=⟨_,rfl⟩
 have hsa:wa.heap.size=w2.heap.size+1:=by rw [←hwa];exact World.size_alloc _ _
 obtain⟨w3,hw3⟩:∃w3,wa.alloc (.cells #[.int .u64 mb,.int .i64 ((fb:Int) - 63)] 192)=w3:=⟨_,rfl⟩
 have hba:Below w2.heap.size w2 wa:=by rw [←hwa];exact aL _ _
 have hb3:Below wa.heap.size wa w3:=by rw [←hw3];exact aL _ _
 have hb23:=hba.trans (hb3.mono hba.size)
 have k5:dd w3 w2.heap.size 9223372036854775808 0:=cY hb3 (by rw [←hwa];exact heap_alloc_new ..)
 have k6:dd w3 (w2.heap.size+1) mb fb:=by
  have h:=heap_alloc_new wa (.cells #[.int .u64 mb,.int .i64 ((fb:Int) - 63)] 192)
  rw [hsa,hw3] at h
  exact h
 have hb03:=hb02.trans (hb23.mono hb02.size)
 have k4:=cY hb03 H0.out
 have HW3:=aa (show (w2.alloc (.cells #[.int .u64 9223372036854775808,.int .i64 (-63)] 192)).alloc (.cells #[.int .u64 mb,.int .i64 ((fb:Int) - 63)] 192)=w3 by rw [hwa,hw3])
 have HB3:=aa (HB0.out.trans (hb03.mono HB0.out.size))
 have hlt:w.heap.size<w2.heap.size:=Nat.lt_of_lt_of_le (lt_of_block H0.out) hb02.size
 obtain⟨g,hg⟩:∃g,w2.heap.size=g:=⟨_,rfl⟩
 obtain⟨g6,hg6⟩:∃g6,g+1=g6:=⟨_,rfl⟩
 rw [hg] at k5 hlt
 rw [hg,hg6] at k6
 have HG:=aa (And.intro hg hg6)
 have hg6':g<g6:=by omega
 have HK:=aa (And.intro k4 (And.intro k5 k6))
 have HNb:=aa hNb
 clear hb2' hb02 hwa hw3 hba hb3 hb23 hb03 hsa k4 k5 k6 hg hg6 hNb HNB
 go_wp2_with fail
 rw [HW3.out]
 refine (HLN _).mono ?_
 rintro e wn ⟨rfl,hw⟩;rw [hw,HG.out.1,HG.out.2];clear hw wn HLN
 go_wp2
 go_loopw [7] (fun i wr=>∃(k m f:Nat),i=.int .i64 ((k:Int) - 1)∧k≤L∧dd wr g m f∧Pw b (n / 2 ^ k) m f∧dd wr g6 mb fb∧wr.heap[w.heap.size]?=some (.cells #[.int .u64 0,.int .i64 0] 192)∧Below w.heap.size w wr) (fun i _=>(intOf i+1).toNat)
 case atStart=>
  exact⟨L,9223372036854775808,0,rfl,Nat.le_refl _,HK.out.2.1,by rw [Nat.div_eq_of_lt HNL.out];exact .inl ⟨rfl,rfl,rfl⟩,HK.out.2.2,HK.out.1,HB3.out⟩
 case round=>
  obtain⟨k,m,f,rfl,hk,hAt,hPw,hAt6,hRes,hbel⟩:=hrel
  have HAt:=aa hAt
  have HPw:=aa hPw
  have HAt6:=aa hAt6
  have HRes:=aa hRes
  have HBW:=aa hbel
  obtain⟨c0,c1⟩:=bt hAt
  clear hAt hPw hAt6 hRes hbel HK HB3
  by_cases hk0:k=0
  ·subst hk0
   obtain⟨d0,d1⟩:=bt HRes.out
   have hf:=fp HRes.out
   go_wp2
   have R5:=ei HRes.out (a':=.int .u64 m) (b':=.int .i64 ((f:Int) - 63))
   have HD:=aa (dM HBW.out (g:=w.heap.size) (u0:=.int .u64 m) (u1:=.int .i64 ((f:Int) - 63)) (Nat.le_refl _))
   generalize (wr.setCell ⟨w.heap.size,0,none⟩ (.int .u64 m)).setCell ⟨w.heap.size,1,none⟩ (.int .i64 ((f:Int) - 63))=w8 at *
   obtain⟨q0,q1⟩:=bt R5
   refine bodyPost_ret (v:=.agg #[.int .u64 m,.int .i64 ((f:Int) - 63)]) (by simp [results,Tryz.results197,go_sem,q0,q1]) rfl ?_
   refine⟨m,f,rfl,?_,HD.out⟩
   have:=HPw.out
   rw [Nat.pow_zero,Nat.div_one] at this
   exact this
  ·obtain⟨j,rfl⟩:∃j,k=j+1:=⟨k - 1,by omega⟩
   have ej:(((j+1:Nat):Int) - 1)=(j:Int):=by omega
   rw [ej]
   have hj0:(0:Int)≤(j:Int):=by omega
   have hj64:j<64:=by omega
   have hst:=jA n j
   have hle:n / 2 ^ j≤n:=Nat.div_le_self _ _
   have hsh:(n:Int) / 2 ^ j=((n / 2 ^ j:Nat):Int):=by rw [Int.natCast_ediv,Int.natCast_pow];rfl
   have hand:=ka ((n / 2 ^ j:Nat):Int)
   have hm2:((n / 2 ^ j:Nat):Int) % 2=((n / 2 ^ j % 2:Nat):Int):=by omega
   rw [hm2] at hand
   have wj:IntKind.i64.wrap (((n / 2 ^ j:Nat)):Int)=(((n / 2 ^ j:Nat)):Int):=by rw [IntKind.wrap_i64];omega
   generalize n / 2 ^ (j+1)=p at *
   obtain⟨q,hq⟩:∃q,n / 2 ^ j=q:=⟨_,rfl⟩
   rw [hq] at hst hle hsh hand hm2 wj
   have HQD:=aa hq
   have HQ:=aa (And.intro hst hle)
   have hfe:=HPw.out.exp hb2
   have hr1:=HPw.out.range
   have F1:=im m m ((f:Int) - 63) ((f:Int) - 63) wr hr1.2 hr1.2 (by omega) (by omega) (by omega) (by omega)
   have hsq:=HPw.out.sq
   obtain⟨f3,hf3,ef3⟩:∃f3:Nat,f+f+bO (m*m)=f3∧(f:Int) - 63+((f:Int) - 63)+63+(bO (m*m):Nat)=(f3:Int) - 63:=⟨_,rfl,by omega⟩
   rw [ef3] at F1
   rw [hf3] at hsq
   generalize bK (m*m)=m3 at *
   have HSQ:=aa hsq
   clear hq hst hfe hr1 hsq hf3 ef3 hk0 ej
   go_wp2_with fail
   refine F1.mono ?_
   rintro e w3' ⟨rfl,hb3⟩
   have k5:=cY hb3 HAt.out
   have k6:=cY hb3 HAt6.out
   have k4:=cY hb3 HRes.out
   have hB3:=HBW.out.trans (hb3.mono HBW.out.size)
   have hf5:=fp k5
   obtain⟨d50,d51⟩:=bt k5
   have s5:=ei k5 (a':=.int .u64 m3) (b':=.int .i64 ((f3:Int) - 63))
   obtain⟨w5,hw5⟩:∃w5,(w3'.setCell ⟨g,0,none⟩ (.int .u64 m3)).setCell ⟨g,1,none⟩ (.int .i64 ((f3:Int) - 63))=w5:=⟨_,rfl⟩
   have s6:dd w5 g6 mb fb:=by rw [←hw5];exact dc (dc k6 (by omega)) (by omega)
   have s4:w5.heap[w.heap.size]?=some (.cells #[.int .u64 0,.int .i64 0] 192):=by rw [←hw5];exact dc (dc k4 (by omega)) (by omega)
   have HB5:=aa (show Below w.heap.size w w5 by rw [←hw5];exact dM hB3 (by omega))
   rw [hw5] at s5
   have HS:=aa (And.intro s4 (And.intro (show dd w5 g m3 f3 from s5) s6))
   have HW5:=aa hw5
   clear F1 hb3 k4 k5 k6 hB3 c0 c1 HAt HAt6 HRes HBW HPw
   rcases Nat.mod_two_eq_zero_or_one q with h0|h1
   ·rw [h0] at hand
    have HEQ:Hid (2*p=q):=aa (by have:=HQ.out.1;omega)
    clear h0 hw5 s4 s5 s6
    go_wp2
    go_roundw
    case rel=>exact⟨j,m3,f3,rfl,by omega,by rw [HW5.out];exact HS.out.2.1,by rw [HQD.out,←HEQ.out];exact HSQ.out,by rw [HW5.out];exact HS.out.2.2,by rw [HW5.out];exact HS.out.1,by rw [HW5.out];exact HB5.out⟩
    case measure=>simp [intOf]
   ·rw [h1] at hand
    have HEQ:Hid (2*p+1=q):=aa (by have:=HQ.out.1;omega)
    have x5:=bt s5
    have x6:=bt s6
    rw [←hw5] at x5 x6
    obtain⟨x50,x51⟩:=x5
    obtain⟨x60,x61⟩:=x6
    have hfe:=HSQ.out.exp hb2
    have hr1:=HSQ.out.range
    have F2:=im m3 mb ((f3:Int) - 63) ((fb:Int) - 63) w5 hr1.2 HNb.out.high (by omega) (by have:=HQ.out;omega) (by omega) (by omega)
    have hmu:=HSQ.out.mul HNb.out
    rw [HEQ.out] at hmu
    obtain⟨f4,hf4,ef4⟩:∃f4:Nat,f3+fb+bO (m3*mb)=f4∧(f3:Int) - 63+((fb:Int) - 63)+63+(bO (m3*mb):Nat)=(f4:Int) - 63:=⟨_,rfl,by omega⟩
    rw [ef4] at F2
    rw [hf4] at hmu
    generalize bK (m3*mb)=m4 at *
    have HMU:=aa hmu
    clear h1 hw5 s4 s5 s6 hfe hr1 hmu hf4 ef4
    go_wp2_with fail
    rw [HW5.out]
    refine F2.mono ?_
    rintro e w6 ⟨rfl,hb6⟩
    have k4:=cY hb6 HS.out.1
    have k5:=cY hb6 HS.out.2.1
    have k6:=cY hb6 HS.out.2.2
    have hB6:=HB5.out.trans (hb6.mono HB5.out.size)
    clear x50 x51 x60 x61 hf5 d50 d51 F2 hb6
    have hf5:=fp k5
    obtain⟨d50,d51⟩:=bt k5
    have t5:=ei k5 (a':=.int .u64 m4) (b':=.int .i64 ((f4:Int) - 63))
    obtain⟨w7,hw7⟩:∃w7,(w6.setCell ⟨g,0,none⟩ (.int .u64 m4)).setCell ⟨g,1,none⟩ (.int .i64 ((f4:Int) - 63))=w7:=⟨_,rfl⟩
    have t6:dd w7 g6 mb fb:=by rw [←hw7];exact dc (dc k6 (by omega)) (by omega)
    have t4:w7.heap[w.heap.size]?=some (.cells #[.int .u64 0,.int .i64 0] 192):=by rw [←hw7];exact dc (dc k4 (by omega)) (by omega)
    have HB7:=aa (show Below w.heap.size w w7 by rw [←hw7];exact dM hB6 (by omega))
    rw [hw7] at t5
    have HS7:=aa (And.intro t4 (And.intro (show dd w7 g m4 f4 from t5) t6))
    have HW7:=aa hw7
    clear k4 k5 k6 hw7 t4 t5 t6 hB6
    go_wp2
    go_roundw
    case rel=>exact⟨j,m4,f4,rfl,by omega,by rw [HW7.out];exact HS7.out.2.1,by rw [HQD.out];exact HMU.out,by rw [HW7.out];exact HS7.out.2.2,by rw [HW7.out];exact HS7.out.1,by rw [HW7.out];exact HB7.out⟩
    case measure=>simp [intOf]

theorem Pw.above {b q m f:Nat}(h:Pw b q m f)(hq:q≤1125899906842624):b ^ q*9223372036854775808≤(m+4*q)*2 ^ f:=by
 rcases h with ⟨rfl,rfl,rfl⟩|⟨_,c,hc,h⟩
 ·simp
 ·refine Nat.le_trans (h.above (by omega)) (Nat.mul_le_mul_right _ (by omega))
end Go.Proofs.YtdbjbbdhlpfhjaaGreatDoor
namespace Go.Proofs.YtdbjbbdhlpfhjaaGreatDoor
open Lm

structure Top (a m f:Nat):Prop where
 low:9223372036854775808≤m
 high:m<18446744073709551616
 below:m*2 ^ f≤a*9223372036854775808
 above:a*9223372036854775808<(m+1)*2 ^ f

theorem iG {f E:Nat}(h:f<E):2*2 ^ f≤2 ^ E:=by
 rw [Nat.mul_comm,←Nat.pow_succ]
 exact Nat.pow_le_pow_right (by omega) h

theorem Pw.over {b n m f a lm E:Nat}(h:Pw b n m f)(t:Top a lm E)(hc:E<f∨(f=E∧lm<m)):a<b ^ n:=by
 have h1:m*2 ^ f≤b ^ n*9223372036854775808:=by
  rcases h with ⟨rfl,rfl,rfl⟩|⟨_,c,_,h⟩
  ·simp
  ·exact h.below
 have h2:=t.above
 have hr:=h.range
 have hl:=t.high
 refine Nat.lt_of_mul_lt_mul_right (a:=9223372036854775808) (Nat.lt_of_lt_of_le h2 (Nat.le_trans ?_ h1))
 rcases hc with hc|⟨rfl,hc⟩
 ·have h3:=iG hc
  have h4:(lm+1)*2 ^ E≤18446744073709551616*2 ^ E:=Nat.mul_le_mul_right _ (by omega)
  have h5:9223372036854775808*2 ^ f≤m*2 ^ f:=Nat.mul_le_mul_right _ hr.1
  omega
 ·exact Nat.mul_le_mul_right _ (by omega)

theorem Pw.under {b n m f a lm E:Nat}(h:Pw b n m f)(t:Top a lm E)(hn:n≤1125899906842624)(hw:m+4*n<18446744073709551616)(hc:f<E∨(f=E∧m+4*n≤lm)):b ^ n≤a:=by
 have h1:=h.above hn
 have h2:=t.below
 have hl:=t.low
 refine Nat.le_of_mul_le_mul_right (c:=9223372036854775808) (Nat.le_trans h1 (Nat.le_trans ?_ h2)) (by omega)
 rcases hc with hc|⟨rfl,hc⟩
 ·have h3:=iG hc
  have h4:(m+4*n)*2 ^ f≤18446744073709551616*2 ^ f:=Nat.mul_le_mul_right _ (by omega)
  have h5:9223372036854775808*2 ^ E≤lm*2 ^ E:=Nat.mul_le_mul_right _ hl
  omega
 ·exact Nat.mul_le_mul_right _ hc

theorem Top.of {a L:Nat}(h1:2 ^ (L - 1)≤a)(h2:a<2 ^ L)(hL:64<L):Top a (a / 2 ^ (L - 64)) (L - 64+63):=by
 obtain⟨e,rfl⟩:∃e,L=e+64:=⟨L - 64,by omega⟩
 rw [show e+64 - 64=e by omega]
 have hp:0<2 ^ e:=Nat.pow_pos (by omega)
 have e1:2 ^ (e+64 - 1)=9223372036854775808*2 ^ e:=by rw [show e+64 - 1=e+63 by omega,Nat.pow_add,Nat.mul_comm]
 have e2:2 ^ (e+64)=18446744073709551616*2 ^ e:=by rw [Nat.pow_add,Nat.mul_comm]
 have e3:2 ^ (e+63)=9223372036854775808*2 ^ e:=by rw [Nat.pow_add,Nat.mul_comm]
 rw [e1] at h1
 rw [e2] at h2
 have d1:=Nat.div_mul_le_self a (2 ^ e)
 have d2:=Nat.lt_div_mul_add (a:=a) hp
 refine⟨(Nat.le_div_iff_mul_le hp).2 h1,(Nat.div_lt_iff_lt_mul hp).2 h2,?_,?_⟩
 ·rw [e3]
  generalize a / 2 ^ e=q at *
  have e4:q*(9223372036854775808*2 ^ e)=q*2 ^ e*9223372036854775808:=by ac_rfl
  rw [e4]
  exact Nat.mul_le_mul_right _ d1
 ·rw [e3]
  generalize a / 2 ^ e=q at *
  have e4:(q+1)*(9223372036854775808*2 ^ e)=(q*2 ^ e+2 ^ e)*9223372036854775808:=by rw [Nat.add_mul q 1,Nat.one_mul,Nat.add_mul];ac_rfl
  rw [e4]
  exact Nat.mul_lt_mul_of_pos_right d2 (by omega)
end Go.Proofs.YtdbjbbdhlpfhjaaGreatDoor
namespace Go.Proofs.YtdbjbbdhlpfhjaaGreatDoor
open Go.RowKit
open Lm
attribute [local go_sem ↓] Go.wp_at_zero Go.wp_at_succ

theorem jy {X:List Nat}(h:Limbs X)(l:Nat)(hl:l<X.length):val X / 18446744073709551616 ^ l=X.getD l 0+18446744073709551616*(val X / 18446744073709551616 ^ (l+1)):=by
 have h1:X.getD l 0=val X / 18446744073709551616 ^ l % 18446744073709551616:=by
  revert l
  induction X with
  | nil=>intro l hl;simp at hl
  | cons a r ih=>
   intro l hl
   have ha:a<18446744073709551616:=h a (List.mem_cons_self ..)
   have hr:Limbs r:=fun z hz=>h z (List.mem_cons_of_mem _ hz)
   cases l with
   | zero=>simp [val];omega
   | succ l=>
    have:=ih hr l (by simpa using hl)
    simp only [List.getD_cons_succ,val]
    rw [this,Nat.pow_succ,Nat.mul_comm (18446744073709551616 ^ l),←Nat.div_div_eq_div_mul]
    congr 2
    omega
 rw [h1,Nat.pow_succ,←Nat.div_div_eq_div_mul]
 omega

theorem mB (x u s:Nat)(hs:s≤64):(x+18446744073709551616*u) / 2 ^ s=x / 2 ^ s+u*2 ^ (64 - s):=by
 have e:18446744073709551616*u=2 ^ s*(u*2 ^ (64 - s)):=by
  rw [Nat.mul_left_comm,←Nat.pow_add,show s+(64 - s)=64 by omega,Nat.mul_comm]
 rw [e,Nat.add_mul_div_left _ _ (Nat.pow_pos (by omega))]

theorem rB (h s l U:Nat)(hs:s≤64)(hl:l<2 ^ s)(hh:h*2 ^ s<18446744073709551616)(hU:U=h*2 ^ s+l):bits BinOp.or IntKind.u64 (l:Int) ((h*2 ^ s:Nat):Int)=(U:Int):=by
 have hll:l<18446744073709551616:=Nat.lt_of_lt_of_le hl (by rw [show (18446744073709551616:Nat)=2 ^ 64 from rfl];exact Nat.pow_le_pow_right (by omega) hs)
 rw [bits_or_u64_nat _ _ hll hh,Nat.or_comm,hU,Nat.mul_comm h,Nat.two_pow_add_eq_or_of_lt hl]

theorem kr (va:Value)(X:List Nat)(w:World)(hA:Arg w va X)(hL:64<blen (val X)) :
  Calls Tryz.prog 195 #[va] w fun e w'=>∃m f:Nat,e=.returned (.agg #[.int .u64 m,.int .i64 ((f:Int) - 63)])∧Top (val X) m f∧f+1=blen (val X)∧Below w.heap.size w w':=by
 have HL:=fun W (hA:Arg W va X)=>aP va X W hA
 obtain⟨ao,cap,rfl,hc,hm,hli⟩:=hA.form
 have hlim:=hA.limbs
 have hfew:=hA.few
 have hv:=val_lt hlim
 obtain⟨L,hLe⟩:∃L,blen (val X)=L:=⟨_,rfl⟩
 have hup:val X<2 ^ L:=(blen_le_iff _ _).1 (by omega)
 have hlo:2 ^ (L - 1)≤val X:=by
  rcases Nat.lt_or_ge (val X) (2 ^ (L - 1)) with h|h
  ·have:=(blen_le_iff _ _).2 h;omega
  ·exact h
 have htop:=Top.of hlo hup (by omega)
 have hLX:L≤64*X.length:=by rw [←hLe];exact (blen_le_iff _ _).2 (by rw [Nat.pow_mul];exact hv)
 rw [hLe]
 simp only [hLe] at HL
 rw [hLe] at hL
 obtain⟨l,s,hls,hs⟩:∃l s,L - 64=64*l+s∧s<64:=⟨(L - 64) / 64,(L - 64) % 64,by omega,by omega⟩
 have hll:l<X.length:=by omega
 have hdiv:val X / 2 ^ (L - 64)=(X.getD l 0+18446744073709551616*(val X / 18446744073709551616 ^ (l+1))) / 2 ^ s:=by
  rw [hls,Nat.pow_add,←Nat.div_div_eq_div_mul,Nat.pow_mul,←jy hlim l hll]
 rw [mB _ _ _ (by omega)] at hdiv
 have hx0:=limb_lt hlim l
 have hnext:s≠0→l+1<X.length∧val X / 18446744073709551616 ^ (l+1)=X.getD (l+1) 0∧X.getD (l+1) 0*2 ^ (64 - s)<18446744073709551616:=by
  intro h0
  have hl1:l+1<X.length:=by omega
  have hu:=jy hlim (l+1) hl1
  have hb:=htop.high
  rw [hdiv] at hb
  have hu2:val X / 18446744073709551616 ^ (l+1)*2 ^ (64 - s)<18446744073709551616:=Nat.lt_of_le_of_lt (Nat.le_add_left _ _) hb
  have hu3:val X / 18446744073709551616 ^ (l+1)<18446744073709551616:=by
   have:val X / 18446744073709551616 ^ (l+1)*1≤val X / 18446744073709551616 ^ (l+1)*2 ^ (64 - s):=Nat.mul_le_mul_left _ (Nat.pow_pos (by omega))
   omega
  have hu4:val X / 18446744073709551616 ^ (l+1)=X.getD (l+1) 0:=by omega
  refine⟨hl1,hu4,?_⟩
  rw [←hu4];exact hu2
 obtain⟨W,hW⟩:∃W,w.alloc (.cells #[.int .u64 0,.int .i64 0] 192)=W:=⟨_,rfl⟩
 have hbW:Below w.heap.size w W:=by rw [←hW];exact aL _ _
 have HLW:=HL W (hA.below hbW)
 obtain⟨b,off,rfl,hcell⟩:∃b off,ao=some ⟨b,off,none⟩∧∀k,k<X.length→W.cell? ⟨b,off+k,none⟩=some (.int .u64 ((X.getD k 0:Nat):Int)):=by
  rcases hli.below hbW with h|h
  ·rw [h] at hll;simp at hll
  ·exact h
 have hc0:=hcell l hll
 have hbox:W.heap[w.heap.size]?=some (.cells #[.int .u64 0,.int .i64 0] 192):=by rw [←hW];exact heap_alloc_new ..
 obtain⟨d0,d1⟩:=bt hbox
 have hfz:=fp hbox
 obtain⟨E,hE,hE2⟩:∃E:Nat,(L:Int) - 64=(E:Int)∧L - 64=E:=⟨L - 64,by omega,rfl⟩
 have hq:(E:Int) / 64=(l:Int):=by omega
 have hr:(E:Int) % 64=(s:Int):=by omega
 have hq':(E:Int).tdiv 64=(l:Int):=by rw [Int.tdiv_eq_ediv_of_nonneg (by omega)];exact hq
 have hr':(E:Int).tmod 64=(s:Int):=by rw [Int.tmod_eq_emod_of_nonneg (by omega)];exact hr
 have hsh:((X.getD l 0:Nat):Int) / 2 ^ s=((X.getD l 0 / 2 ^ s:Nat):Int):=by rw [Int.natCast_ediv,Int.natCast_pow];rfl
 have hs0:(0:Int)≤(s:Int):=by omega
 have hs64:(s:Int)<64:=by omega
 have hl0:(0:Int)≤(l:Int):=by omega
 have hlX:(l:Int)<(X.length:Int):=by omega
 have hfx:((L - 64+63:Nat):Int) - 63=(E:Int):=by omega
 have HT:=aa htop
 have HB:=aa hbW
 have HBox:=aa hbox
 have hxs:X.getD l 0 / 2 ^ s<18446744073709551616:=Nat.lt_of_le_of_lt (Nat.div_le_self _ _) hx0
 by_cases hz:s=0
 ·subst hz
  rw [Nat.pow_zero,Nat.div_one,Nat.sub_zero,show (2:Nat) ^ 64=18446744073709551616 from rfl] at hdiv
  have hM:val X / 2 ^ (L - 64)=X.getD l 0:=by have hb:=htop.high;omega
  rw [hM] at htop
  have HM:=aa htop
  clear htop HT hM hdiv hnext hcell hbox hbW hA hli HL hup hlo hlim hv
  generalize X.getD l 0=M at *
  have R5:=ei HBox.out (a':=.int .u64 M) (b':=.int .i64 (E:Int))
  have HD:=aa (dM HB.out (g:=w.heap.size) (u0:=.int .u64 M) (u1:=.int .i64 (E:Int)) (Nat.le_refl _))
  go_enter Tryz.func195,Tryz.ntmps195
  go_wp2_with fail
  refine HLW.mono ?_
  rintro e wn ⟨rfl,hw⟩;rw [hw];clear hw wn HLW
  go_wp2
  generalize (W.setCell ⟨w.heap.size,0,none⟩ (.int .u64 M)).setCell ⟨w.heap.size,1,none⟩ (.int .i64 (E:Int))=w8 at *
  obtain⟨q0,q1⟩:=bt R5
  refine bodyPost_ret (v:=.agg #[.int .u64 M,.int .i64 (E:Int)]) (by simp [results,Tryz.results195,go_sem,q0,q1]) rfl ?_
  exact⟨M,L - 64+63,by rw [hfx],HM.out,by omega,HD.out⟩
 ·obtain⟨hl1,hu,hfit⟩:=hnext hz
  have hc1:=hcell (l+1) hl1
  rw [hu] at hdiv
  have hor:=rB (X.getD (l+1) 0) (64 - s) (X.getD l 0 / 2 ^ s) (val X / 2 ^ (L - 64)) (by omega) ((Nat.div_lt_iff_lt_mul (Nat.pow_pos (by omega))).2 (by rw [←Nat.pow_add,show 64 - s+s=64 by omega];exact hx0)) hfit (by rw [hdiv];omega)
  have hwr:=cN (X.getD (l+1) 0) (64 - s) (X.getD (l+1) 0*2 ^ (64 - s)) (Nat.mod_eq_of_lt hfit)
  obtain⟨t,ht⟩:∃t:Nat,64 - s=t:=⟨_,rfl⟩
  have hti:(64:Int) - (s:Int)=(t:Int):=by omega
  have htn:t<64:=by omega
  have hgt:(0:Int)<(s:Int):=by omega
  rw [ht] at hor hwr
  have HM:=aa htop
  clear htop HT hdiv hnext hcell hbox hbW hA hli HL hup hlo hlim hv hu hfit
  have hl1':(l:Int)+1<(X.length:Int):=by omega
  generalize val X / 2 ^ (L - 64)=M at *
  generalize X.getD (l+1) 0*2 ^ t=z at *
  generalize X.getD (l+1) 0=x1 at *
  generalize X.getD l 0 / 2 ^ s=y at *
  generalize X.getD l 0=x0 at *
  have R5:=ei HBox.out (a':=.int .u64 M) (b':=.int .i64 (E:Int))
  have HD:=aa (dM HB.out (g:=w.heap.size) (u0:=.int .u64 M) (u1:=.int .i64 (E:Int)) (Nat.le_refl _))
  go_enter Tryz.func195,Tryz.ntmps195
  go_wp2_with fail
  refine HLW.mono ?_
  rintro e wn ⟨rfl,hw⟩;rw [hw];clear hw wn HLW
  go_wp2
  generalize (W.setCell ⟨w.heap.size,0,none⟩ (.int .u64 M)).setCell ⟨w.heap.size,1,none⟩ (.int .i64 (E:Int))=w8 at *
  obtain⟨q0,q1⟩:=bt R5
  refine bodyPost_ret (v:=.agg #[.int .u64 M,.int .i64 (E:Int)]) (by simp [results,Tryz.results195,go_sem,q0,q1]) rfl ?_
  exact⟨M,L - 64+63,by rw [hfx],HM.out,by omega,HD.out⟩

theorem mZ (b n m f a lm E:Nat)(c1 c2 c3:Value)(w:World)(hp:Pw b n m f)(ht:Top a lm E)(hn:n≤1125899906842624)
  (HS:∀W,Below w.heap.size w W→Calls Tryz.prog 198 #[c1,c2,c3] W fun e w'=>e=.returned (.bool (decide (b ^ n≤a)))∧Below W.heap.size W w') :
  Calls Tryz.prog 196 #[.agg #[.int .u64 m,.int .i64 ((f:Int) - 63)],.int .i64 n,.agg #[.int .u64 lm,.int .i64 ((E:Int) - 63)],.func (.func 198) #[] #[c1,c2,c3]] w fun e w'=>e=.returned (.bool (decide (b ^ n≤a)))∧Below w.heap.size w w':=by
 have hr:=hp.range
 have hl:=ht.high
 have hno:=fun h=>hp.over ht h
 have hyes:=fun h1 h2=>hp.under ht hn h1 h2
 have ba:=aL w (.cells #[.int .u64 m,.int .i64 ((f:Int) - 63)] 192)
 have bb:=aL (w.alloc (.cells #[.int .u64 m,.int .i64 ((f:Int) - 63)] 192)) (.cells #[.int .u64 lm,.int .i64 ((E:Int) - 63)] 192)
 have bab:=ba.trans (bb.mono ba.size)
 have HB:=aa bab
 have HS2:=HS _ bab
 have HNO:=aa hno
 have HYES:=aa hyes
 clear hno hyes ba bb bab HS hp ht
 by_cases h1:E<f
 ·have i1:(E:Int) - 63<(f:Int) - 63:=by omega
  have hd:decide (b ^ n≤a)=false:=decide_eq_false (by have:=HNO.out (.inl h1);omega)
  rw [hd]
  clear HS2 HNO HYES hd
  go_enter Tryz.func196,Tryz.ntmps196
  go_wp2
  go_ret
  exact⟨rfl,HB.out⟩
 ·by_cases h2:f=E∧lm<m
  ·obtain⟨rfl,h2⟩:=h2
   have i1:(lm:Int)<(m:Int):=by omega
   have hd:decide (b ^ n≤a)=false:=decide_eq_false (by have:=HNO.out (.inr ⟨rfl,h2⟩);omega)
   rw [hd]
   clear HS2 HNO HYES hd
   go_enter Tryz.func196,Tryz.ntmps196
   go_wp2
   go_ret
   exact⟨rfl,HB.out⟩
  ·have e4:(4:Int)*(n:Int)=((4*n:Nat):Int):=by omega
   have ha:=fun W=>bk m (4*n) W
   have hS0:(m+4*n) / 18446744073709551616=0∨(m+4*n) / 18446744073709551616=1:=by omega
   have hSl:(m+4*n) % 18446744073709551616<18446744073709551616:=by omega
   have n4:4*n<18446744073709551616:=by omega
   have hq:(m+4*n) / 18446744073709551616=0→m+4*n=(m+4*n) % 18446744073709551616:=by omega
   obtain⟨S,hS⟩:∃S,(m+4*n) % 18446744073709551616=S:=⟨_,rfl⟩
   obtain⟨cy,hcy⟩:∃cy,(m+4*n) / 18446744073709551616=cy:=⟨_,rfl⟩
   simp only [hS,hcy] at ha
   rw [hcy] at hS0
   rw [hS,hcy] at hq
   rw [hS] at hSl
   have HQ:=aa hq
   obtain⟨N4,hN4⟩:∃N4,4*n=N4:=⟨_,rfl⟩
   rw [hN4] at e4 n4
   simp only [hN4] at ha
   have HN4:=aa hN4
   have j1:¬((E:Int) - 63<(f:Int) - 63):=by omega
   clear hq hS hcy hN4
   by_cases hc:cy=0∧(f<E∨S≤lm)
   ·obtain⟨rfl,hc⟩:=hc
    have hd:decide (b ^ n≤a)=true:=decide_eq_true (HYES.out (by have:=HQ.out rfl;omega) (by have:=HQ.out rfl;omega))
    rw [hd]
    by_cases hfE:f<E
    ·have i1:(f:Int) - 63<(E:Int) - 63:=by omega
     have i2:¬((f:Int) - 63=(E:Int) - 63):=by omega
     have i3:(((f:Int) - 63) == ((E:Int) - 63))=false:=by rw [beq_eq_false_iff_ne];exact i2
     clear HS2 HNO HYES hd hS0 h1 h2
     go_enter Tryz.func196,Tryz.ntmps196
     go_wp2
     go_ret
     exact⟨rfl,HB.out⟩
    ·obtain rfl:f=E:=by omega
     have i1:¬((lm:Int)<(m:Int)):=by omega
     have i2:(S:Int)≤(lm:Int):=by omega
     clear HS2 HNO HYES hd hS0 h1 h2
     go_enter Tryz.func196,Tryz.ntmps196
     go_wp2
     go_ret
     exact⟨rfl,HB.out⟩
   ·generalize decide (b ^ n≤a)=r at *
    by_cases hfE:f<E
    ·have i1:(f:Int) - 63<(E:Int) - 63:=by omega
     have i2:¬((f:Int) - 63=(E:Int) - 63):=by omega
     have i3:(((f:Int) - 63) == ((E:Int) - 63))=false:=by rw [beq_eq_false_iff_ne];exact i2
     obtain rfl:cy=1:=by omega
     clear HNO HYES hS0 h1 h2 hc
     go_enter Tryz.func196,Tryz.ntmps196
     go_wp2_with fail
     refine HS2.mono ?_
     rintro e w2 ⟨rfl,hb2⟩
     have HB2:=aa (HB.out.trans (hb2.mono HB.out.size))
     clear HS2 hb2
     go_wp2
     go_ret
     exact⟨rfl,HB2.out⟩
    ·obtain rfl:f=E:=by omega
     have i1:¬((lm:Int)<(m:Int)):=by omega
     rcases hS0 with rfl|rfl
     ·have i2:¬((S:Int)≤(lm:Int)):=by omega
      clear HNO HYES h1 h2 hc
      go_enter Tryz.func196,Tryz.ntmps196
      go_wp2_with fail
      refine HS2.mono ?_
      rintro e w2 ⟨rfl,hb2⟩
      have HB2:=aa (HB.out.trans (hb2.mono HB.out.size))
      clear HS2 hb2
      go_wp2
      go_ret
      exact⟨rfl,HB2.out⟩
     ·clear HNO HYES h1 h2 hc
      go_enter Tryz.func196,Tryz.ntmps196
      go_wp2_with fail
      refine HS2.mono ?_
      rintro e w2 ⟨rfl,hb2⟩
      have HB2:=aa (HB.out.trans (hb2.mono HB.out.size))
      clear HS2 hb2
      go_wp2
      go_ret
      exact⟨rfl,HB2.out⟩

theorem mC (a b:Nat)(ha:a<4611686018427387904)(hb:b<4611686018427387904):bits .or .i64 (a:Int) (b:Int)=((a ||| b:Nat):Int):=by
 have hx:a ||| b<2 ^ 62:=Nat.or_lt_two_pow (by omega) (by omega)
 have h1:(BitVec.ofInt 64 (a:Int)).toNat=a:=by
  rw [BitVec.ofInt_natCast,BitVec.toNat_ofNat];exact Nat.mod_eq_of_lt (by omega)
 have h2:(BitVec.ofInt 64 (b:Int)).toNat=b:=by
  rw [BitVec.ofInt_natCast,BitVec.toNat_ofNat];exact Nat.mod_eq_of_lt (by omega)
 show IntKind.i64.wrap ((BitVec.ofInt 64 (a:Int) ||| BitVec.ofInt 64 (b:Int)).toNat:Int)=_
 rw [BitVec.toNat_or,h1,h2,IntKind.wrap_i64]
 omega

theorem rC {m p:Nat}(h:m % 2 ^ (p+1)=0):m ||| 2 ^ p=m+2 ^ p:=by
 have e:m=2 ^ (p+1)*(m / 2 ^ (p+1)):=(Nat.mul_div_cancel' (Nat.dvd_of_mod_eq_zero h)).symm
 rw [e]
 exact (Nat.two_pow_add_eq_or_of_lt (by rw [Nat.pow_succ];have:=Nat.two_pow_pos p;omega) _).symm

theorem pN {m p K:Nat}(h:m % 2 ^ (p+1)=0)(hm:m<2 ^ K)(hp:p+1≤K):m+2 ^ (p+1)≤2 ^ K:=by
 have e:m=m / 2 ^ (p+1)*2 ^ (p+1):=(Nat.div_mul_cancel (Nat.dvd_of_mod_eq_zero h)).symm
 have h4:m / 2 ^ (p+1)<2 ^ (K - (p+1)):=by
  refine Nat.lt_of_mul_lt_mul_right (a:=2 ^ (p+1)) ?_
  rw [←Nat.pow_add,show K - (p+1)+(p+1)=K by omega,←e]
  exact hm
 have h5:=Nat.mul_le_mul_right (2 ^ (p+1)) (Nat.succ_le_of_lt h4)
 rw [←Nat.pow_add,show K - (p+1)+(p+1)=K by omega,Nat.succ_mul,←e] at h5
 exact h5

theorem pg {m p:Nat}(h:m % 2 ^ (p+1)=0):m % 2 ^ p=0∧(m+2 ^ p) % 2 ^ p=0:=by
 have e:m=2 ^ p*(2*(m / 2 ^ (p+1))):=by
  have e:=(Nat.mul_div_cancel' (Nat.dvd_of_mod_eq_zero h)).symm
  rw [Nat.pow_succ,Nat.mul_assoc] at e
  rw [Nat.pow_succ]
  exact e
 refine⟨?_,?_⟩
 ·rw [e];exact Nat.mul_mod_right _ _
 ·rw [Nat.add_mod_right,e];exact Nat.mul_mod_right _ _

theorem iK {w:World}{g:Nat}{a b:Value}{t:TypeId}(h:w.heap[g]?=some (.cells #[a,b] t)):w.cell? ⟨g,0,none⟩=some a∧w.cell? ⟨g,1,none⟩=some b:=⟨by simp [World.cell?,h],by simp [World.cell?,h]⟩

theorem rz (va:Value)(X:List Nat)(b:Nat)(w:World)(hA:Arg w va X)(hT:Tab w)(hl:X.length≤1048576)(hb:2≤b)(hb2:b≤36)(hL:64<blen (val X)) :
  Calls Tryz.prog 180 #[va,.int .u64 b] w fun e w'=>∃n:Nat,e=.returned (.int .i64 n)∧b ^ n≤val X∧val X<b ^ (n+1)∧n≤1152921504606846976∧Below w.heap.size w w':=by
 obtain⟨ao,cap,rfl,_,_,_⟩:=hA.form
 obtain⟨w0,hw0⟩:∃W,(w.alloc (.cells #[.slice ao X.length cap] 25)).alloc (.cells #[.int .u64 b] 61)=W:=⟨_,rfl⟩
 have hb0:Below w.heap.size w w0:=by rw [←hw0];exact bt5 (aL _ _) (aL _ _)
 have x0:w0.heap[w.heap.size]?=some (.cells #[.slice ao X.length cap] 25):=by
  rw [←hw0]
  exact ((aL (w.alloc (.cells #[.slice ao X.length cap] 25)) (.cells #[.int .u64 b] 61)).block w.heap.size (by simp)).trans (heap_alloc_new ..)
 have x1:w0.heap[w.heap.size+1]?=some (.cells #[.int .u64 b] 61):=by
  rw [←hw0]
  have h:=heap_alloc_new (w.alloc (.cells #[.slice ao X.length cap] 25)) (.cells #[.int .u64 b] 61)
  rw [World.size_alloc] at h
  exact h
 have c0:=b9 x0
 have c1:=b9 x1
 have C1:=kr _ X w0 (hA.below hb0) hL
 have hlen:=gM hA.limbs hl
 obtain⟨L,hLe⟩:∃L,blen (val X)=L:=⟨_,rfl⟩
 have hup:val X<2 ^ L:=(blen_le_iff _ _).1 (by omega)
 have LV:=fun W (h:Arg W (.slice ao X.length cap) X)=>aP _ X W h
 rw [hLe] at hlen hL LV
 have HLN:=fun W=>Tryz.bits_Len (L:Int) W (by omega) (by omega)
 simp only [Int.toNat_natCast] at HLN
 obtain⟨K,hK⟩:∃K,Lib.bitLen L=K:=⟨_,rfl⟩
 have hKL:L<2 ^ K:=by rw [←hK];exact (Lib.bitLenAux_bounds 64 L (by omega) (by omega)).2.2
 have hK27:K≤27:=by rw [←hK];exact Lib.bitLen_le L 27 (by omega) (by omega)
 rw [hK] at HLN
 have hpos:1≤val X:=by
  rcases Nat.eq_zero_or_pos (val X) with h|h
  ·rw [h] at hLe;rw [show blen 0=0 from rfl] at hLe;omega
  ·exact h
 have hst:val X<b ^ (2 ^ K):=Nat.lt_of_lt_of_le hup (Nat.le_trans (Nat.pow_le_pow_left hb L) (Nat.pow_le_pow_right (by omega) (Nat.le_of_lt hKL)))
 have HA:=aa (hA.below hb0)
 have HT:=aa (hT.below hb0)
 have HB0:=aa hb0
 have HST:=aa (And.intro hpos hst)
 have X0:=aa x0
 have X1:=aa x1
 have HLV:=aa LV
 have HLN2:=aa HLN
 clear hA hT hb0 hup hKL hpos hst x0 x1 LV HLN hLe hK
 go_enter Tryz.func180,Tryz.ntmps180
 go_wp2_with fail
 refine C1.mono ?_
 rintro e w1 ⟨lm,E,rfl,hTop,_,hb1⟩
 obtain⟨w2,hw2⟩:∃W,w1.alloc (.cells #[.int .u64 lm,.int .i64 ((E:Int) - 63)] 192)=W:=⟨_,rfl⟩
 have hb2':Below w1.heap.size w1 w2:=by rw [←hw2];exact aL _ _
 have x2:w2.heap[w1.heap.size]?=some (.cells #[.int .u64 lm,.int .i64 ((E:Int) - 63)] 192):=by rw [←hw2];exact heap_alloc_new ..
 have hB2:=bt5 hb1 hb2'
 have y0:=(hB2.block _ (lt_of_block X0.out)).trans X0.out
 have y1:=(hB2.block _ (lt_of_block X1.out)).trans X1.out
 have d0:=b9 y0
 have L1:=HLV.out w2 (HA.out.below hB2)
 have Y0:=aa y0
 have Y1:=aa y1
 have Y2:=aa x2
 have HB2:=aa (bt5 HB0.out hB2)
 have HA2:=aa (HA.out.below hB2)
 have HT2:=aa (HT.out.below hB2)
 have HTOP:=aa hTop
 clear C1 hb1 hb2' x2 hB2 y0 y1 X0 X1 HA HT HB0 HLV c0 c1 hTop hw0
 go_wp2_with fail
 refine L1.mono ?_
 rintro e wn ⟨rfl,hw⟩;rw [hw];clear hw wn L1
 have L2:=HLN2.out w2
 go_wp2_with fail
 refine L2.mono ?_
 rintro e wn ⟨rfl,hw⟩;rw [hw];clear hw wn L2
 go_wp2
 clear hw2 d0
 go_loopw [6,7] (fun mv bv wr=>∃m q:Nat,mv=.int .i64 m∧bv=.int .i64 ((q:Int) - 1)∧q≤K∧m % 2 ^ q=0∧m<2 ^ K∧b ^ m≤val X∧val X<b ^ (m+2 ^ q)∧Below w2.heap.size w2 wr) (fun _ bv _=>(intOf bv+1).toNat)
 case atStart=>exact⟨0,K,rfl,rfl,Nat.le_refl _,Nat.zero_mod _,Nat.two_pow_pos _,by rw [Nat.pow_zero];exact HST.out.1,by rw [Nat.zero_add];exact HST.out.2,Below.refl _ _⟩
 case round=>
  obtain⟨m,q,rfl,rfl,hqK,hmq,hmK,hlo,hhi,hbr⟩:=hrel
  have h27:2 ^ K≤134217728:=Nat.pow_le_pow_right (n:=2) (j:=27) (by omega) hK27
  rcases Nat.eq_zero_or_pos q with hq0|hq0
  ·subst hq0
   have HE:=aa (And.intro hlo (And.intro hhi (bt5 HB2.out hbr)))
   have hm9:m≤134217728:=by omega
   clear hlo hhi hbr hmq
   go_wp2
   go_ret
   exact⟨m,rfl,HE.out.1,HE.out.2.1,by omega,HE.out.2.2⟩
  ·obtain⟨p,rfl⟩:∃p,q=p+1:=⟨q - 1,by omega⟩
   have eq:(((p+1:Nat):Int) - 1)=(p:Int):=by omega
   rw [eq]
   have hroom:=pN hmq hmK hqK
   have hhalf:=pg hmq
   have hpp:2 ^ (p+1)=2*2 ^ p:=by rw [Nat.pow_succ];omega
   have hDp:=Nat.two_pow_pos p
   have hor:=mC m (2 ^ p) (by omega) (by omega)
   rw [rC hmq] at hor
   have h2p:(2:Int) ^ p=((2 ^ p:Nat):Int):=by simp
   obtain⟨U,hU9⟩:∃U,m+2 ^ p=U:=⟨_,rfl⟩
   rw [hU9] at hor
   have hUK:U<2 ^ K:=by omega
   have hUe:m+2 ^ (p+1)=U+2 ^ p:=by omega
   have hUb:U≤134217728:=by omega
   have hDb:2 ^ p≤134217728:=by omega
   have hp64:p<64:=by omega
   have hp0:(0:Int)≤(p:Int):=by omega
   have HU:=aa hU9
   have HUK:=aa hUK
   have HUE:=aa hUe
   have HPH:=aa hhalf
   have HLO:=aa hlo
   have HHI:=aa hhi
   obtain⟨w4,hw4⟩:∃W,wr.alloc (.cells #[.int .i64 U] 3)=W:=⟨_,rfl⟩
   have hb4:Below wr.heap.size wr w4:=by rw [←hw4];exact aL _ _
   have x4:w4.heap[wr.heap.size]?=some (.cells #[.int .i64 U] 3):=by rw [←hw4];exact heap_alloc_new ..
   have hB4:=bt5 hbr hb4
   have HB4:=aa hB4
   have KA:=aa (fun (W:World) (hg:Below w4.heap.size w4 W)=>show W.cell? ⟨w.heap.size,0,none⟩=some (.slice ao X.length cap) from b9 (((bt5 hB4 hg).block _ (lt_of_block Y0.out)).trans Y0.out))
   have KS:=aa (fun (W:World) (hg:Below w4.heap.size w4 W)=>show W.cell? ⟨w.heap.size+1,0,none⟩=some (.int .u64 b)∧W.cell? ⟨wr.heap.size,0,none⟩=some (.int .i64 U)∧W.cell? ⟨w1.heap.size,0,none⟩=some (.int .u64 lm)∧W.cell? ⟨w1.heap.size,1,none⟩=some (.int .i64 ((E:Int) - 63)) from
    ⟨b9 (((bt5 hB4 hg).block _ (lt_of_block Y1.out)).trans Y1.out),b9 ((hg.block _ (lt_of_block x4)).trans x4),(iK (((bt5 hB4 hg).block _ (lt_of_block Y2.out)).trans Y2.out)).1,(iK (((bt5 hB4 hg).block _ (lt_of_block Y2.out)).trans Y2.out)).2⟩)
   have NP:=aa (fun (W:World)=>pD b U W (by omega) (by omega) (by omega))
   have NA:=aa (fun (W:World) (pm pf:Nat) (hPw:Pw b U pm pf) (hg:Below w4.heap.size w4 W)=>mZ b U pm pf (val X) lm E (.pointer (some ⟨w.heap.size,0,none⟩)) (.pointer (some ⟨w.heap.size+1,0,none⟩)) (.pointer (some ⟨wr.heap.size,0,none⟩)) W hPw HTOP.out (by omega) (fun W' hW'=>ml w.heap.size (w.heap.size+1) wr.heap.size _ X b U W' (KA.out _ (bt5 hg hW')) (KS.out _ (bt5 hg hW')).1 (KS.out _ (bt5 hg hW')).2.1 (HA2.out.below (bt5 HB4.out (bt5 hg hW'))) (HT2.out.below (bt5 HB4.out (bt5 hg hW'))) hl hb hb2 (by omega)))
   have g0:Below w4.heap.size w4 w4.drew:=(Below.refl _ _).drew
   obtain⟨DD,hDD⟩:∃DD,2 ^ p=DD:=⟨_,rfl⟩
   have HDD:=aa hDD
   rw [hDD] at hor h2p hDb
   clear hlo hhi hbr hmq hhalf hroom hpp hDp hU9 hUK hUe hb4 x4 hB4 hDD eq KA
   by_cases hU:b ^ U≤val X
   ·skip
    have hdec:decide (b ^ U≤val X)=true:=by simpa using hU
    go_wp2_with fail
    go_region_held3 (fun w'=>w'.cell? ⟨w.heap.size+1,0,none⟩=some (.int .u64 b)∧w'.cell? ⟨wr.heap.size,0,none⟩=some (.int .i64 U)∧w'.cell? ⟨w1.heap.size,0,none⟩=some (.int .u64 lm)∧w'.cell? ⟨w1.heap.size,1,none⟩=some (.int .i64 ((E:Int) - 63))) (first|with_reducible exact KS.out _ g2|with_reducible exact KS.out _ g1|with_reducible exact KS.out _ g0) (first
     | (go_at_call 196;refine (NA.out _ pm pf hPw g1).mono ?_;rintro e' t2 ⟨rfl,hb2⟩;have g2:=bt5 g1 hb2)
     | (go_at_call 197;refine (NP.out _).mono ?_;rintro e' t1 ⟨pm,pf,rfl,hPw,hb1⟩;have g1:=bt5 g0 hb1))
    all_goals
     have HBE:=aa (bt5 HB4.out g2)
     obtain⟨_,z1,_,_⟩:=KS.out _ g2
     clear NA NP KS hb1 hb2 g1 g2 g0 hPw hdec
     go_wp2
     go_roundw
     case rel=>exact⟨U,p,rfl,rfl,by omega,by rw [←HU.out];exact HPH.out.2,HUK.out,hU,by have h:=HHI.out;rw [HUE.out] at h;exact h,HBE.out⟩
     case measure=>simp [intOf]
   ·skip
    have hdec:decide (b ^ U≤val X)=false:=by simpa using hU
    go_wp2_with fail
    go_region_held3 (fun w'=>w'.cell? ⟨w.heap.size+1,0,none⟩=some (.int .u64 b)∧w'.cell? ⟨wr.heap.size,0,none⟩=some (.int .i64 U)∧w'.cell? ⟨w1.heap.size,0,none⟩=some (.int .u64 lm)∧w'.cell? ⟨w1.heap.size,1,none⟩=some (.int .i64 ((E:Int) - 63))) (first|with_reducible exact KS.out _ g2|with_reducible exact KS.out _ g1|with_reducible exact KS.out _ g0) (first
     | (go_at_call 196;refine (NA.out _ pm pf hPw g1).mono ?_;rintro e' t2 ⟨rfl,hb2⟩;have g2:=bt5 g1 hb2)
     | (go_at_call 197;refine (NP.out _).mono ?_;rintro e' t1 ⟨pm,pf,rfl,hPw,hb1⟩;have g1:=bt5 g0 hb1))
    all_goals
     have HBE:=aa (bt5 HB4.out g2)
     obtain⟨_,z1,_,_⟩:=KS.out _ g2
     clear NA NP KS hb1 hb2 g1 g2 g0 hPw hdec
     go_wp2
     go_roundw
     case rel=>exact⟨m,p,rfl,rfl,by omega,HPH.out.1,hmK,HLO.out,by rw [HU.out];omega,HBE.out⟩
     case measure=>simp [intOf]

def fig (d:Nat):Nat:=[48,49,50,51,52,53,54,55,56,57,97,98,99,100,101,102,103,104,105,106,107,108,109,110,111,112,113,114,115,116,117,118,119,120,121,122].getD d 0

theorem km (d:Nat):fig d<128:=by
 rcases Nat.lt_or_ge d 36 with h|h
 ·have:∀d:Fin 36,fig d.1<128:=by decide +kernel
  exact this ⟨d,h⟩
 ·unfold fig;rw [List.getD,List.getElem?_eq_none (by simpa using h)];decide

theorem lb (d:Nat)(h:d<(ByteArray.mk #[48,49,50,51,52,53,54,55,56,57,97,98,99,100,101,102,103,104,105,106,107,108,109,110,111,112,113,114,115,116,117,118,119,120,121,122]).size):(ByteArray.mk #[48,49,50,51,52,53,54,55,56,57,97,98,99,100,101,102,103,104,105,106,107,108,109,110,111,112,113,114,115,116,117,118,119,120,121,122])[d].toNat=fig d:=by
 have key:∀d:Fin 36,((ByteArray.mk #[48,49,50,51,52,53,54,55,56,57,97,98,99,100,101,102,103,104,105,106,107,108,109,110,111,112,113,114,115,116,117,118,119,120,121,122])[d.1]'(d.2)).toNat=fig d.1:=by decide +kernel
 exact key ⟨d,h⟩

def fj (L:List Nat):ByteArray:=L.foldl (fun r n=>r.push (UInt8.ofNat n)) ByteArray.empty

theorem pt (L:List Nat):∀r:ByteArray,((L.map fun n=>((n:Nat):Int)).foldl (fun r n=>r.push (UInt8.ofNat n.toNat)) r)=L.foldl (fun r n=>r.push (UInt8.ofNat n)) r:=by
 induction L with
 | nil=>intro r;rfl
 | cons a l ih=>intro r;simp only [List.map_cons,List.foldl_cons,Int.toNat_natCast];exact ih _

theorem oj (gd cap:Nat)(D:List Nat)(w:World)(hd:Byt w gd D) :
  (convert 124 9 (.slice (some ⟨gd,0,none⟩) D.length cap)).run Tryz.prog w=.ok (.string (fj D)) w:=by
 rw [run_convert_bytes_string w 124 9 5 _ _ _ Tryz.underlying124 Tryz.underlying5 Tryz.underlying9]
 rw [run_bytesToString w _ D.length cap (D.map fun n=>((n:Nat):Int)) ?_,pt]
 ·rfl
 ·have h:=run_loadCells_list (P:=Tryz.prog) (w:=w) ⟨gd,0,none⟩ (D.map bv) (fun j v hj=>by
   rw [List.getElem?_map] at hj
   rcases hh:D[j]? with _|z
   ·rw [hh] at hj;cases hj
   ·rw [hh] at hj
    have hjl:j<D.length:=by
     rcases Nat.lt_or_ge j D.length with h|h
     ·exact h
     ·rw [List.getElem?_eq_none h] at hh;cases hh
    have:=hd.cell j hjl
    have e:D.getD j 0=z:=by rw [List.getD,hh];rfl
    rw [e] at this
    simp only [Option.map_some,Option.some.injEq] at hj
    rw [←hj]
    by_cases h0:j=0
    ·subst h0;simpa [Addr.add,bv] using this
    ·simpa [Addr.add,bv,h0] using this)
  rw [List.length_map] at h
  rw [h,List.map_map]
  rfl

theorem kH (gd cap:Nat)(D:List Nat)(w:World)(hd:Byt w gd D)(h36:∀d ∈ D,d<36)(hc:D.length≤cap)(hcm:cap≤9223372036854775807) :
  Calls Tryz.prog 100 #[.slice (some ⟨gd,0,none⟩) D.length cap] w fun e w'=>e=.returned (.string (fj (D.map fig)))∧Fr gd w w':=by
 have HD:=aa hd
 clear hd
 go_enter Tryz.func100,Tryz.ntmps100
 go_wp2
 go_loopw [7] (fun i wr=>∃(k:Nat) (D':List Nat),k≤D.length∧i=.int .i64 k∧Byt wr gd D'∧D'=(D.take k).map fig ++ D.drop k∧Fr gd w wr) (fun i _=>D.length - (intOf i).toNat)
 case atStart=>exact⟨0,D,Nat.zero_le _,rfl,HD.out,by simp,Fr.refl _ _⟩
 case round=>
  obtain⟨k,D',hk,rfl,hB,hD',hF⟩:=hrel
  clear HD
  have hlen:D'.length=D.length:=by rw [hD'];simp;omega
  by_cases hkl:k<D.length
  ·have e1:D.drop k=D.getD k 0 :: D.drop (k+1):=by
    rw [List.drop_eq_getElem_cons hkl,List.getD,List.getElem?_eq_getElem hkl];rfl
   have e2:D'.getD k 0=D.getD k 0:=by
    rw [hD',List.getD,List.getElem?_append_right (by simp;omega)]
    simp [e1,Nat.min_eq_left (Nat.le_of_lt hkl)]
   have hset:D'.set k (fig (D.getD k 0))=(D.take (k+1)).map fig ++ D.drop (k+1):=by
    have hA:((D.take k).map fig).length=k:=by simp;omega
    have e3:D.take (k+1)=D.take k ++ [D.getD k 0]:=by rw [List.take_add_one,List.getD,List.getElem?_eq_getElem hkl];rfl
    rw [hD',List.set_append_right _ _ (by omega),hA,Nat.sub_self,e1,List.set_cons_zero,e3,List.map_append,List.append_assoc]
    rfl
   have h36k:D.getD k 0<36:=h36 _ (by rw [List.getD,List.getElem?_eq_getElem hkl];exact List.getElem_mem _)
   have hco:=hB.cell k (by omega)
   have hfr:=hB.free k
   rw [e2] at hco
   have hfl:=km (D.getD k 0)
   have hfa:=lb (D.getD k 0) h36k
   have HS:=aa hset
   have HB:=aa hB
   have HF:=aa hF
   generalize D.getD k 0=d at *
   clear hB hF hset hD' e1 e2
   go_wp2
   go_roundw
   case rel=>exact⟨k+1,D'.set k (fig d),by omega,by go_num,HB.out.set _ _,HS.out,HF.out.setCell _ _⟩
   case measure=>simp [intOf];omega
  ·have ek:k=D.length:=by omega
   subst ek
   have e1:D'=D.map fig:=by rw [hD'];simp
   subst e1
   have HC:=oj gd cap _ wr hB
   rw [List.length_map] at HC
   have HF:=aa hF
   clear hB hF hD'
   go_wp2
   go_ret
   exact⟨rfl,HF.out⟩

def fg (b a:Nat)(w:World)(e:Ending)(w':World):Prop:=
 ∃(gd:Nat) (D:List Nat),e=.returned (.slice (some ⟨gd,0,none⟩) D.length D.length)∧w.heap.size≤gd∧Byt w' gd D∧bQ b a D.length∧D.length≤9223372036854775807∧(∀i,i<D.length→D.getD i 0=a / b ^ (D.length - 1 - i) % b)∧Below w.heap.size w w'

theorem fg.small {b a:Nat}{D:List Nat}(hb:0<b)(hb2:b≤36)(h:∀i,i<D.length→D.getD i 0=a / b ^ (D.length - 1 - i) % b):∀d ∈ D,d<36:=by
 intro d hd
 obtain⟨i,hi,rfl⟩:=List.getElem_of_mem hd
 have h1:=h i hi
 rw [List.getD,List.getElem?_eq_getElem hi] at h1
 have h2:a / b ^ (D.length - 1 - i) % b<b:=Nat.mod_lt _ hb
 have h3:D[i]=a / b ^ (D.length - 1 - i) % b:=h1
 omega

def pS (b a:Nat)(w:World)(e:Ending)(w':World):Prop:=
 ∃D:List Nat,e=.returned (.tuple #[.string (fj (D.map fig)),.int .i64 0])∧bQ b a D.length∧(∀i,i<D.length→D.getD i 0=a / b ^ (D.length - 1 - i) % b)∧Below w.heap.size w w'

theorem qQ (va:Value)(a b:Nat)(w:World)(hb:2≤b)(hb2:b≤36)(HW:Calls Tryz.prog 101 #[va,.int .i64 b] w (fg b a w)) :
  Calls Tryz.prog 64 #[va,.int .i64 b] w (pS b a w):=by
 have HI:=pI b w hb hb2
 go_enter Tryz.func64,Tryz.ntmps64
 go_wp2_with fail
 refine HI.mono ?_
 rintro e wn ⟨rfl,hw⟩;rw [hw];clear hw wn HI
 go_wp2_with fail
 refine HW.mono ?_
 rintro e w1 ⟨g,D,rfl,hg,hd,hn,hm,hdig,hbe⟩
 have HT:=kH g D.length D w1 hd (fg.small (by omega) hb2 hdig) (Nat.le_refl _) hm
 have hgl:=hd.lt
 have HB:=aa hbe
 have HE:=aa (And.intro hn hdig)
 clear HW hd hbe hn hdig
 go_wp2_with fail
 refine HT.mono ?_
 rintro e w2 ⟨rfl,hf⟩
 have HB2:=aa (HB.out.trans (hf.below (base:=w.heap.size) hg (by have:=HB.out.size;omega)))
 clear HT hf
 go_wp2
 go_returns
 exact⟨D,rfl,HE.out.1,HE.out.2,HB2.out⟩

attribute [local go_sem] fU
end Go.Proofs.YtdbjbbdhlpfhjaaGreatDoor
namespace Go.Proofs.YtdbjbbdhlpfhjaaGreatDoor
open Go.RowKit
open Lm
attribute [local go_sem ↓] Go.wp_at_zero Go.wp_at_succ

theorem s0 (h:0<(ByteArray.mk #[48,48,102,102]).size):(ByteArray.mk #[48,48,102,102])[0].toNat=48:=rfl

theorem s1 (h:1<(ByteArray.mk #[48,48,102,102]).size):(ByteArray.mk #[48,48,102,102])[1].toNat=48:=rfl

theorem s2 (h:2<(ByteArray.mk #[48,48,102,102]).size):(ByteArray.mk #[48,48,102,102])[2].toNat=102:=rfl

theorem s3 (h:3<(ByteArray.mk #[48,48,102,102]).size):(ByteArray.mk #[48,48,102,102])[3].toNat=102:=rfl

attribute [local go_sem] s0 s1 s2 s3
end Go.Proofs.YtdbjbbdhlpfhjaaGreatDoor
namespace Go.Proofs.YtdbjbbdhlpfhjaaGreatDoor
open Go.RowKit
open Lm
attribute [local go_sem ↓] Go.wp_at_zero Go.wp_at_succ

theorem Byt.made {w:World}{base n g:Nat}(h:w.ownsRow base 5 1 (.slice (some ⟨g,0,none⟩) n n) n (madeCells (Value.int .u8 0).cells (n*1)).toList):Byt w g (List.replicate n 0):=by
 have:=oZ h
 unfold Byt
 rw [this,List.map_replicate]
 rfl
end Go.Proofs.YtdbjbbdhlpfhjaaGreatDoor
namespace Go.Proofs.YtdbjbbdhlpfhjaaGreatDoor
open Go.RowKit
open Lm
attribute [local go_sem ↓] Go.wp_at_zero Go.wp_at_succ
attribute [local go_sem] fU

theorem rN (k:Nat)(h:k≠0):1<18446744073709551616 ^ k:=Nat.one_lt_pow h (by omega)

theorem qC (va:Value)(X:List Nat)(b:Nat)(w:World)(hA:Arg w va X)(hT:Tab w)(hl:X.length≤1048576)(hb:2≤b)(hb2:b≤36) :
  Calls Tryz.prog 145 #[va,.int .i64 b] w (js b (val X) w):=
 nQ va X b w hA hT hb hb2 (fun h=>rz va X b w hA hT hl hb hb2 h)

theorem lr {X:List Nat}(k:Nat)(h:Limbs X)(hl:X.length≤k):val X<18446744073709551616 ^ k:=Nat.lt_of_lt_of_le (val_lt h) (Nat.pow_le_pow_right (by omega) hl)

theorem pE {b x n:Nat}{X:List Nat}(hb:2≤b)(hX:Limbs X)(hl:X.length≤1048576)(hx:val X=x)(h:bQ b x n):n≤67108865∧(n≤1∨b ^ (n - 1)≤x):=by
 obtain⟨h1,h2,h3⟩:=h
 refine⟨?_,?_⟩
 ·rcases h3 with h3|h3
  ·omega
  ·have hlen:=gM hX hl
   rw [hx] at hlen
   have h4:2 ^ (n - 1)≤x:=Nat.le_trans (Nat.pow_le_pow_left hb _) h3
   have h5:x<2 ^ blen x:=(blen_le_iff _ _).1 (Nat.le_refl _)
   have h6:=(Nat.pow_lt_pow_iff_right (by omega:1<2)).1 (Nat.lt_of_le_of_lt h4 h5)
   omega
 ·rcases h3 with h3|h3
  ·exact .inl (by omega)
  ·exact .inr h3

theorem nK (va:Value)(X:List Nat)(b:Nat)(w:World)(hA:Arg w va X)(hT:Tab w)(hl:X.length≤1048576)(hb:2≤b)(hb2:b≤36) :
  Calls Tryz.prog 101 #[va,.int .i64 b] w (fg b (val X) w):=by
 obtain⟨i0,hi,hz0,hz1,hz2⟩:=info_parts Tryz.infoB
 obtain⟨ao,cap,rfl,hcap,_,hL⟩:=hA.form
 obtain⟨w0,hw0⟩:∃W,w.alloc (.cells #[.int .i64 b] 3)=W:=⟨_,rfl⟩
 have hb0:Below w.heap.size w w0:=by rw [←hw0];exact aL _ _
 have x0:w0.heap[w.heap.size]?=some (.cells #[.int .i64 b] 3):=by rw [←hw0];exact heap_alloc_new ..
 have c0:=b9 x0
 have C1:=qC _ X b w0 (hA.below hb0) (hT.below hb0) hl hb hb2
 have HA:=aa hA
 have HT:=aa hT
 have HB0:=aa hb0
 have X0:=aa x0
 have hLX:=hL
 clear hA hT hb0 x0 hL
 go_enter Tryz.func101,Tryz.ntmps101
 go_wp2_with fail
 refine C1.mono ?_
 rintro e w1 ⟨n,rfl,hd,hb1⟩
 obtain⟨hn,hlow⟩:=pE hb HA.out.limbs hl rfl hd
 have hB1:=bt5 HB0.out hb1
 have x1:=(hb1.block _ (lt_of_block X0.out)).trans X0.out
 have c1:=b9 x1
 have HB1:=aa hB1
 have X1:=aa x1
 have HD:=aa hd
 clear C1 hb1 hB1 x1 X0 HB0 c0 hd
 have hNB:b ^ (n - 1)<18446744073709551616 ^ 1048576:=by
  rcases hlow with h|h
  ·rw [show n - 1=0 by omega,Nat.pow_zero]
   exact rN 1048576 (by omega)
  ·exact Nat.lt_of_le_of_lt h (lr 1048576 HA.out.limbs hl)
 have hpl:(∃b' off c,Value.slice ao X.length cap=.slice (some ⟨b',off,none⟩) X.length c)∨n≤1:=by
  rcases hLX with rfl|⟨b',off,rfl,_⟩
  ·right
   obtain⟨_,_,h3⟩:=HD.out
   rcases h3 with h3|h3
   ·omega
   ·have:=Nat.pow_pos (n:=n - 1) (show 0<b by omega)
    simp [val] at h3
    omega
  ·exact .inl ⟨b',off,cap,rfl⟩
 have HPL:=aa hpl
 have HNB:=aa hNB
 clear hlow hNB hpl hLX
 go_wp2_with (at_make;refine wpList_make_full _ rfl _ _ 124 rfl w1.heap.size 5 i0 (.int .u8 0) 1 Tryz.underlying124 hi hz0 hz1 .i64 .i64 _ _ n rfl rfl (by omega) (by omega) (by rw [hz2];omega) (by unfold maxLen;omega) (Nat.le_refl _) ?_;intro w2 hown hgrow;have hb2':Below w1.heap.size w1 w2:=(Below.refl w1.heap.size w1).grown hgrow (Nat.le_refl _) (fun k hk=>by cases hk);have x2:=(hb2'.block _ (lt_of_block X1.out)).trans X1.out;have c2:=b9 x2)
 have hY2:=Byt.made hown
 have hB2:=bt5 HB1.out hb2'
 have C2:=pd b n w2 (HT.out.below hB2) hb hb2 (by omega)
 obtain⟨gd,hgd⟩:∃gd,w1.heap.size=gd:=⟨_,rfl⟩
 rw [hgd] at hY2
 have hgdw:w.heap.size<gd:=by rw [←hgd];exact lt_of_block X1.out
 have HY2:=aa hY2
 have HB2:=aa hB2
 have X2:=aa x2
 have HGD:=aa hgd
 clear hown hgrow hi hz0 hz1 hz2 hb2' hY2 hB2 c1 x2 hgd
 go_wp2_with fail
 rw [HGD.out]
 refine C2.mono ?_
 rintro e w3 ⟨⟨vl,rfl,hP⟩,hb3⟩
 obtain⟨al,nl,kl,rfl⟩:∃al nl kl,vl=.slice al nl kl:=by
  obtain⟨l,h1,_⟩:=hP
  rcases h1 with ⟨h1,_⟩|⟨g,cap',h1,_⟩
  ·exact⟨_,_,_,h1⟩
  ·exact⟨_,_,_,h1⟩
 obtain⟨w4,hw4⟩:∃W,w3.alloc (.cells #[.slice al nl kl] 160)=W:=⟨_,rfl⟩
 have hs4:w4.heap.size=w3.heap.size+1:=by rw [←hw4];exact World.size_alloc _ _
 obtain⟨w5,hw5⟩:∃W,w4.alloc (.cells #[.func (.func 147) #[] #[.pointer (some ⟨w3.heap.size,0,none⟩),.pointer (some ⟨w.heap.size,0,none⟩),.pointer (some ⟨w3.heap.size+1,0,none⟩)]] 162)=W:=⟨_,rfl⟩
 have hb4:Below w3.heap.size w3 w4:=by rw [←hw4];exact aL _ _
 have hb5:Below w4.heap.size w4 w5:=by rw [←hw5];exact aL _ _
 have hb35:=bt5 hb4 hb5
 have hb25:=bt5 hb3 hb35
 have cl:=cX hb5 (b9 (show w4.heap[w3.heap.size]?=some (.cells #[.slice al nl kl] 160) by rw [←hw4];exact heap_alloc_new ..))
 have cb5:=cX hb25 (b9 X2.out)
 have cw:w5.cell? ⟨w3.heap.size+1,0,none⟩=some (.func (.func 147) #[] #[.pointer (some ⟨w3.heap.size,0,none⟩),.pointer (some ⟨w.heap.size,0,none⟩),.pointer (some ⟨w3.heap.size+1,0,none⟩)]):=b9 (t:=162) (by
  have h:=heap_alloc_new w4 (.cells #[.func (.func 147) #[] #[.pointer (some ⟨w3.heap.size,0,none⟩),.pointer (some ⟨w.heap.size,0,none⟩),.pointer (some ⟨w3.heap.size+1,0,none⟩)]] 162)
  rw [hs4,hw5] at h
  exact h)
 have hB5:=bt5 HB2.out hb25
 have hY5:Byt w5 gd (List.replicate n 0):=HY2.out.below hb25 HY2.out.lt
 have FW:=gm w3.heap.size w.heap.size (w3.heap.size+1) gd b n (.slice al nl kl) hb hb2 HNB.out (by have:=HT.out.1;omega) (n+1) n 0 n (List.replicate n 0) _ X w5 (by omega) hY5 (by simp) (Nat.le_refl _) (by omega) (Nat.le_refl _) (HA.out.below hB5) hl HPL.out (HT.out.below hB5) cl cb5 cw (fun z e=>by cases e) (hP.below hb35)
 have HW5:=aa (show (w3.alloc (.cells #[.slice al nl kl] 160)).alloc (.cells #[.func (.func 147) #[] #[.pointer (some ⟨w3.heap.size,0,none⟩),.pointer (some ⟨w.heap.size,0,none⟩),.pointer (some ⟨w3.heap.size+1,0,none⟩)]] 162)=w5 by rw [hw4,hw5])
 have HB5:=aa hB5
 rw [←HW5.out] at cw
 clear C2 hb3 hb4 hb5 hb35 hb25 cl cb5 hw4 hw5 hs4 hB5 hY5 hP c2
 go_wp2_with fail
 rw [HW5.out]
 refine FW.mono ?_
 rintro e w6 ⟨rfl,D',hD',hW',hF'⟩
 have hDl:D'.length=n:=by rw [hW'.len];simp
 have HF:=aa (And.intro hD' (And.intro hW' (HB5.out.trans (hF'.below (Nat.le_of_lt hgdw) HB5.out.size))))
 clear FW hD' hW' hF' cw
 go_wp2
 go_ret
 refine⟨gd,D',by rw [hDl];rfl,Nat.le_of_lt hgdw,HF.out.1,by rw [hDl];exact HD.out,by omega,fun i hi=>?_,HF.out.2.2⟩
 rw [hDl] at hi ⊢
 have h:=HF.out.2.1.digs i (Nat.zero_le _) hi
 rw [Nat.zero_add] at h
 exact h
end Go.Proofs.YtdbjbbdhlpfhjaaGreatDoor
namespace Go.Proofs.YtdbjbbdhlpfhjaaGreatDoor
open Go.RowKit
open Lm

def digs (b:Nat):Nat→Nat→List Nat
 | 0,_=>[]
 | n+1,x=>x / b ^ n % b :: digs b n x

theorem fH (b n x:Nat):(digs b n x).length=n:=by
 induction n with
 | zero=>rfl
 | succ n ih=>simp [digs,ih]

theorem mK (b n x:Nat):∀i,i<n→(digs b n x).getD i 0=x / b ^ (n - 1 - i) % b:=by
 induction n with
 | zero=>intro i h;omega
 | succ n ih=>
  intro i h
  cases i with
  | zero=>simp [digs]
  | succ i=>
   rw [show n+1 - 1 - (i+1)=n - 1 - i by omega]
   simpa [digs] using ih i (by omega)

theorem qU {b n x:Nat}{D:List Nat}(hl:D.length=n)(h:∀i,i<D.length→D.getD i 0=x / b ^ (D.length - 1 - i) % b):D=digs b n x:=by
 apply List.ext_getElem?
 intro i
 rcases Nat.lt_or_ge i n with hi|hi
 ·have h1:=h i (by omega)
  have h2:=mK b n x i hi
  rw [hl] at h1
  have e1:D.getD i 0=D[i]:=by simp [List.getD,show i<D.length by omega]
  have e2:(digs b n x).getD i 0=(digs b n x)[i]'(by rw [fH];omega):=by simp [List.getD,show i<(digs b n x).length by rw [fH];omega]
  rw [List.getElem?_eq_getElem (by omega),List.getElem?_eq_getElem (by rw [fH];omega),←e1,←e2,h1,h2]
 ·rw [List.getElem?_eq_none (by omega),List.getElem?_eq_none (by rw [fH];omega)]
end Go.Proofs.YtdbjbbdhlpfhjaaGreatDoor
namespace Go.Proofs.YtdbjbbdhlpfhjaaGreatDoor
namespace Lm

def IsRoot2 (v s:Nat):Prop:=s*s≤v∧v<(s+1)*(s+1)

theorem newton_ge {v s x:Nat}(h:IsRoot2 v s)(hx:0<x):s≤(x+v / x) / 2:=by
 have h1:2*s - x≤v / x:=by
  rw [Nat.le_div_iff_mul_le hx]
  refine Nat.le_trans ?_ h.1
  rcases Nat.le_total (2*s) x with hc|hc
  ·rw [Nat.sub_eq_zero_of_le hc,Nat.zero_mul];exact Nat.zero_le _
  ·obtain⟨d,hd⟩:∃d,2*s=x+d:=⟨2*s - x,by omega⟩
   rw [hd,Nat.add_sub_cancel_left]
   rcases Nat.le_total d x with hdx|hdx
   ·obtain⟨e,rfl⟩:∃e,x=d+e:=⟨x - d,by omega⟩
    obtain⟨f,rfl⟩:∃f,e=2*f:=⟨e / 2,by omega⟩
    have hs:s=d+f:=by omega
    subst hs
    have:(d+f)*(d+f)=d*(d+2*f)+f*f:=by grind
    omega
   ·obtain⟨e,rfl⟩:∃e,d=x+e:=⟨d - x,by omega⟩
    obtain⟨f,rfl⟩:∃f,e=2*f:=⟨e / 2,by omega⟩
    have hs:s=x+f:=by omega
    subst hs
    have:(x+f)*(x+f)=(x+2*f)*x+f*f:=by grind
    omega
 omega

theorem newton_end {v s x:Nat}(h:IsRoot2 v s)(hx:0<x)(hs:s≤x)(hn:x≤(x+v / x) / 2):x=s:=by
 have h1:x≤v / x:=by omega
 have h2:=(Nat.le_div_iff_mul_le hx).1 h1
 refine Nat.le_antisymm (Nat.le_of_not_lt fun hlt=>?_) hs
 have:=Nat.mul_le_mul (Nat.succ_le_of_lt hlt) (Nat.succ_le_of_lt hlt)
 have h3:=h.2
 simp only [Nat.succ_eq_add_one] at this
 omega

theorem newton_first {v s k:Nat}(h:IsRoot2 v s)(hv:v<2 ^ (k+k)):s≤2 ^ k:=by
 rw [Nat.pow_add] at hv
 refine Nat.le_of_not_lt fun hlt=>?_
 have:=Nat.mul_le_mul (Nat.le_of_lt hlt) (Nat.le_of_lt hlt)
 have:=h.1
 omega

theorem newton_room {v s x:Nat}(h:IsRoot2 v s)(hs:s≤x)(h0:0<s)(hx:x≤4294967296):x+v / x<18446744073709551616:=by
 have h1:v / x≤v / s:=Nat.div_le_div_left hs h0
 have h2:v / s≤s+2:=by
  have h3:v<(s+3)*s:=by
   have:=h.2
   have e1:(s+1)*(s+1)=s*s+2*s+1:=by grind
   have e2:(s+3)*s=s*s+3*s:=by grind
   omega
  have:=(Nat.div_lt_iff_lt_mul h0).2 h3
  omega
 omega

end Lm
end Go.Proofs.YtdbjbbdhlpfhjaaGreatDoor
namespace Go.Proofs.YtdbjbbdhlpfhjaaGreatDoor
open Go.RowKit
open Lm
attribute [local go_sem ↓] Go.wp_at_zero Go.wp_at_succ

theorem lH (v s:Nat)(w:World)(hv:v<18446744073709551616)(hs:IsRoot2 v s)(h0:0<v) :
  Calls Tryz.prog 136 #[.int .u64 v] w fun e w'=>e=.returned (.int .u64 (s:Int))∧w'=w:=by
 have HLN:=Tryz.bits_Len64 (v:Int) w (by omega) (by omega)
 rw [Int.toNat_natCast] at HLN
 have hbl:v<2 ^ Lib.bitLen v:=by
  obtain⟨_,_,h3⟩:=Lib.bitLenAux_bounds 64 v hv (by omega)
  exact h3
 have hb64:Lib.bitLen v≤64:=Lib.bitLen_le v 64 (by omega) hv
 obtain⟨k,ek,hk1,hk2⟩:∃k:Nat,((Lib.bitLen v:Int)+1) / 2=(k:Int)∧Lib.bitLen v≤k+k∧k≤32:=⟨(Lib.bitLen v+1) / 2,by omega,by omega,by omega⟩
 have hfirst:s≤2 ^ k:=newton_first hs (Nat.lt_of_lt_of_le hbl (Nat.pow_le_pow_right (by omega) hk1))
 have hp32:2 ^ k≤4294967296:=Nat.pow_le_pow_right (n:=2) (by omega) hk2
 have hs0:0<s:=by
  rcases Nat.eq_zero_or_pos s with z|z
  ·have:=hs.2;rw [z] at this;omega
  ·exact z
 have hne:((v:Int) == 0)=false:=by rw [beq_eq_false_iff_ne];omega
 have HS:=aa hs
 have rsh:=cN 1 k (2 ^ k) (by rw [Nat.one_mul];exact Nat.mod_eq_of_lt (by omega))
 have rsh2:IntKind.u64.wrap ((2:Int) ^ k)=(2:Int) ^ k:=by
  have h:=rsh
  rw [show ((1:Nat):Int)*2 ^ k=(2:Int) ^ k by simp] at h
  rw [h];simp
 generalize Lib.bitLen v=L at *
 clear hs hbl
 go_enter Tryz.func136,Tryz.ntmps136
 go_wp2_with fail
 refine HLN.mono ?_
 rintro e wn ⟨rfl,hw⟩;rw [hw];clear hw wn HLN
 go_wp2
 go_loop [3] (fun x=>∃c:Nat,x=.int .u64 c∧s≤c∧c≤4294967296) (fun x=>(intOf x).toNat)
 case atStart=>exact⟨2 ^ k,by simp,hfirst,hp32⟩
 case round=>
  obtain⟨c,rfl,hc1,hc2⟩:=hrel
  have hc0:0<c:=by omega
  have hz:((c:Int) == 0)=false:=by rw [beq_eq_false_iff_ne];omega
  have hdiv:(v:Int) / (c:Int)=((v / c:Nat):Int):=by omega
  have hroom:=newton_room HS.out hc1 hs0 hc2
  have hge:=newton_ge HS.out hc0
  have hend:=fun h=>newton_end HS.out hc0 hc1 h
  generalize v / c=q at *
  obtain⟨t,et,ht1,ht2⟩:∃t:Nat,(c:Int)+(q:Int)=(t:Int)∧t<18446744073709551616∧c+q=t:=⟨c+q,by omega,by omega,rfl⟩
  rw [ht2] at hge hend
  obtain⟨n,en,hn1,hn2⟩:∃n:Nat,(t:Int) / 2=(n:Int)∧n≤t∧t / 2=n:=⟨t / 2,by omega,by omega,rfl⟩
  rw [hn2] at hge hend
  clear hroom ht2 hn2 rsh rsh2
  by_cases hcn:c≤n
  ·have hcs:=hend hcn
   subst hcs
   have i1:(c:Int)≤(n:Int):=by omega
   clear hend
   go_wp2
   go_ret
   exact⟨rfl,rfl⟩
  ·have i1:¬((c:Int)≤(n:Int)):=by omega
   clear hend
   go_wp2
   go_round
   case rel=>exact⟨n,rfl,hge,by omega⟩
   case measure=>simp [intOf];omega

theorem oW (vb:Value)(X:List Nat)(s:Nat)(w:World)(hA:Arg w vb X)(hX:0<val X)(h1:(tr X).length≤1)(hs:IsRoot2 (val X) s) :
  Calls Tryz.prog 98 #[vb] w fun e w'=>(∃v1 v2 r1 r2,e=.returned (.tuple #[v1,v2])∧Ans w' w.heap.size v1 r1∧Ans w' w.heap.size v2 r2∧val r1=s∧tr r1=r1∧val r2=val X - s*s∧tr r2=r2)∧Below w.heap.size w w':=by
 have HS:=gY vb X w hA
 rw [if_pos h1,decide_eq_true h1] at HS
 have hx1:val X<18446744073709551616:=by
  have h2:=val_lt (limbs_tr hA.limbs)
  rw [val_tr] at h2
  exact Nat.lt_of_lt_of_le h2 (Nat.le_trans (Nat.pow_le_pow_right (by omega) h1) (by simp))
 have hg:(tr X).getD 0 0=val X:=by
  rw [←val_tr X] at hX ⊢
  match h:tr X,h1,hX with
  | [],_,hX=>simp [val] at hX
  | [a],_,_=>simp [val]
  | a :: b :: c,h1,_=>simp at h1
 rw [hg] at HS
 have HR:=lH (val X) s w hx1 hs hX
 have hsq:s*s≤val X:=hs.1
 have hs1:s<18446744073709551616:=by
  rcases Nat.eq_zero_or_pos s with z|z
  ·omega
  ·exact Nat.lt_of_le_of_lt (Nat.le_mul_of_pos_left s z) (by omega)
 have HF:=cH s w hs1
 obtain⟨a1,k1,rfl,_,_,_⟩:=hA.form
 generalize val X=v at *
 obtain⟨q,hq,hq1⟩:∃q:Nat,(s:Int)*(s:Int)=(q:Int)∧s*s=q:=⟨s*s,by rw [Int.natCast_mul],rfl⟩
 rw [hq1] at hsq ⊢
 obtain⟨d,hd,hd1⟩:∃d:Nat,(v:Int) - (q:Int)=(d:Int)∧v - q=d:=⟨v - q,by omega,rfl⟩
 rw [hd1]
 have hdl:d<18446744073709551616:=by omega
 have hql:q<18446744073709551616:=by omega
 clear hA hX h1 hs hg hq1 hd1
 go_enter Tryz.func98,Tryz.ntmps98
 go_wp2_with fail
 refine HS.mono ?_
 rintro e wn ⟨rfl,hw⟩;rw [hw];clear hw wn HS
 go_wp2_with fail
 refine HR.mono ?_
 rintro e wn ⟨rfl,hw⟩;rw [hw];clear hw wn HR
 go_wp2_with fail
 refine HF.mono ?_
 rintro e w1 ⟨⟨v1,rfl,A1⟩,hb1⟩
 have HF2:=cH d w1 hdl
 have H1:=aa (And.intro A1 hb1)
 clear HF A1 hb1
 go_wp2_with fail
 refine HF2.mono ?_
 rintro e w2 ⟨⟨v2,rfl,A2⟩,hb2⟩
 have H2:=aa (And.intro A2 hb2)
 clear HF2 A2 hb2
 go_wp2
 go_ret2
 have e1:∀t:Nat,val (tr [t])=t:=fun t=>by rw [val_tr];simp [val]
 exact⟨⟨v1,v2,tr [s],tr [d],rfl,H1.out.1.below H2.out.2,H2.out.1.base H1.out.2.size,e1 s,tr_tr _,e1 d,tr_tr _⟩,H1.out.2.trans (H2.out.2.mono H1.out.2.size)⟩

theorem qK (vb:Value)(X:List Nat)(w:World)(hA:Arg w vb X) :
  Calls Tryz.prog 96 #[vb,.int .i64 2] w fun e w'=>e=.returned (.int .i64 (((blen (val X)+1) / 2:Nat):Int))∧w'=w:=by
 have HL:=aP _ _ w hA
 have hb:blen (val X)≤64*X.length:=(blen_le_iff _ _).2 (by have:=val_lt hA.limbs;rw [show (18446744073709551616:Nat)=2 ^ 64 from rfl,←Nat.pow_mul] at this;exact this)
 have hf:=hA.few
 obtain⟨a1,k1,rfl,_,_,_⟩:=hA.form
 generalize blen (val X)=L at *
 clear hA
 obtain⟨q,eq,hq⟩:∃q:Nat,(L:Int) / 2=(q:Int)∧L / 2=q:=⟨L / 2,by omega,rfl⟩
 rcases Nat.mod_two_eq_zero_or_one L with h0|h1
 ·have e2:(L:Int) % 2=0:=by omega
  have er:(L+1) / 2=q:=by omega
  rw [er]
  clear er h0 hq
  go_enter Tryz.func96,Tryz.ntmps96
  go_wp2_with fail
  refine HL.mono ?_
  rintro e wn ⟨rfl,hw⟩;subst hw
  clear HL
  go_wp2
  go_ret
  exact⟨rfl,rfl⟩
 ·have e2:(L:Int) % 2=1:=by omega
  obtain⟨q',eq',hq'⟩:∃q':Nat,(q:Int)+1=(q':Int)∧q+1=q':=⟨q+1,by omega,rfl⟩
  have er:(L+1) / 2=q':=by omega
  rw [er]
  clear er h1 hq hq'
  go_enter Tryz.func96,Tryz.ntmps96
  go_wp2_with fail
  refine HL.mono ?_
  rintro e wn ⟨rfl,hw⟩;subst hw
  clear HL
  go_wp2
  go_ret
  exact⟨rfl,rfl⟩

theorem ou (v1 v2:Value)(r2:List Nat)(w:World)(hA:Arg w v2 r2)(h:blen (val r2)≤67108864) :
  Calls Tryz.prog 97 #[v1,v2] w fun e w'=>e=.returned (.tuple #[v1,v2,.int .i64 0])∧w'=w:=by
 have HL:=aP _ _ w hA
 have i1:¬((67108864:Int)<(blen (val r2):Int)):=by omega
 have HA:Calls Tryz.prog 134 #[v2] w fun e w'=>e=.returned (.tuple #[v2,.int .i64 0])∧w'=w:=by
  obtain⟨a1,k1,rfl,_,_,_⟩:=hA.form
  generalize blen (val r2)=L at *
  clear hA h
  go_enter Tryz.func134,Tryz.ntmps134
  go_wp2_with fail
  refine HL.mono ?_
  rintro e wn ⟨rfl,hw⟩;subst hw
  clear HL
  go_wp2
  go_ret2
  exact⟨rfl,rfl⟩
 clear HL i1 hA h
 go_enter Tryz.func97,Tryz.ntmps97
 go_wp2_with fail
 refine HA.mono ?_
 rintro e wn ⟨rfl,hw⟩;subst hw
 clear HA
 go_wp2
 go_returns
 exact⟨rfl,rfl⟩

theorem oM (vb:Value)(X:List Nat)(s:Nat)(w:World)(hA:Arg w vb X)(hX:0<val X)(h1:(tr X).length≤1)(hs:IsRoot2 (val X) s) :
  Calls Tryz.prog 63 #[vb] w fun e w'=>(∃v1 v2 r1 r2,e=.returned (.tuple #[v1,v2,.int .i64 0])∧Ans w' w.heap.size v1 r1∧Ans w' w.heap.size v2 r2∧val r1=s∧tr r1=r1∧val r2=val X - s*s∧tr r2=r2)∧Below w.heap.size w w':=by
 have HR:=qK vb X w hA
 have HS:=oW vb X s w hA hX h1 hs
 have hx1:val X<18446744073709551616:=by
  have h2:=val_lt (limbs_tr hA.limbs)
  rw [val_tr] at h2
  exact Nat.lt_of_lt_of_le h2 (Nat.le_trans (Nat.pow_le_pow_right (by omega) h1) (by simp))
 have hb64:blen (val X)≤64:=(blen_le_iff _ 64).2 hx1
 have i1:¬((67108864:Int)<(((blen (val X)+1) / 2:Nat):Int)):=by omega
 obtain⟨a1,k1,rfl,_,_,_⟩:=hA.form
 have HX1:=aa hx1
 generalize (blen (val X)+1) / 2=L at *
 clear hA hX h1 hs hb64 hx1
 go_enter Tryz.func63,Tryz.ntmps63
 go_wp2_with fail
 refine HR.mono ?_
 rintro e wn ⟨rfl,hw⟩;rw [hw];clear hw wn HR
 go_wp2_with fail
 refine HS.mono ?_
 rintro e w1 ⟨⟨v1,v2,r1,r2,rfl,A1,A2,e1,t1,e2,t2⟩,hb1⟩
 have hv2:blen (val r2)≤64:=(blen_le_iff _ 64).2 (by rw [e2];exact Nat.lt_of_le_of_lt (Nat.sub_le _ _) HX1.out)
 have l2:r2.length≤1:=by
  have:=few_limbs r2 1 (by omega)
  rwa [t2] at this
 have HA:=ou v1 v2 r2 w1 (A2.arg (by omega)) (by omega)
 have H1:=aa (And.intro A1 (And.intro A2 (And.intro e1 (And.intro t1 (And.intro e2 (And.intro t2 hb1))))))
 clear HS A1 A2 e1 t1 e2 t2 hb1 hv2 l2
 go_wp2_with fail
 refine HA.mono ?_
 rintro e wn ⟨rfl,hw⟩;subst hw
 clear HA
 go_wp2
 go_returns
 obtain⟨q1,q2,q3,q4,q5,q6,q7⟩:=H1.out
 exact⟨⟨v1,v2,r1,r2,rfl,q1,q2,q3,q4,q5,q6⟩,q7⟩

theorem pk (x y b:Nat)(hb:b≤1)(w:World) :
  (callFunc 127 #[.int .u64 x,.int .u64 y,.int .u64 b]).run Tryz.prog w =
   .ok (.value (.tuple #[.int .u64 (((x+18446744073709551616 - y - b) % 18446744073709551616:Nat):Int),.int .u64 ((bor x y b:Nat):Int)])) w:=by
 rw [run_callFunc_extern Tryz.func127 (by kernel_rfl) (by kernel_rfl) (by kernel_rfl) (e:=sub64Entry) (by kernel_rfl),run_sub64 x y b hb]
 rfl

theorem kU (x y b:Nat):bor x y b≤1:=by unfold bor;split <;> omega

theorem rG {Z Y out:List Nat}(ho:Limbs out)(hl:out.length=Z.length)(hyl:Y.length≤Z.length)(hle:val Y≤val Z)(bw:Nat)(_hbw:bw≤1)
  (h:val (out.take Z.length)+val (Y.take Z.length)=val (Z.take Z.length)+bw*18446744073709551616 ^ Z.length):val out=val Z - val Y:=by
 rw [List.take_of_length_le (by omega),List.take_of_length_le (by omega),List.take_length] at h
 have h1:=val_lt ho
 rw [hl] at h1
 rcases Nat.eq_zero_or_pos bw with h0|h0
 ·subst h0;omega
 ·have e:bw=1:=by omega
  subst e
  omega

theorem fs (v1 v2:Value)(zs ys:List Nat)(w:World)(h1:Arg w v1 zs)(h2:Arg w v2 ys)(f1:zs.length≤35184372088831) :
  Calls Tryz.prog 103 #[v1,v2] w fun e w'=>Below w.heap.size w w' ∧
   ((val zs<val ys∧e=.returned (.tuple #[.slice none 0 0,.int .i64 10]))∨(val ys≤val zs∧Res w' w.heap.size e (val zs - val ys))):=by
 have HC:=b7 v1 v2 zs ys w h1 h2
 by_cases hlt:val zs<val ys
 ·rw [cmpN_lt hlt] at HC
  obtain⟨a1,c1,rfl,hc1,hm1,hl1⟩:=h1.form
  obtain⟨a2,c2,rfl,hc2,hm2,hl2⟩:=h2.form
  clear hl1 hl2 h1 h2
  have HX:Hid (val zs<val ys):=hlt
  clear hlt
  go_enter Tryz.func103,Tryz.ntmps103
  go_wp2_with fail
  refine HC.mono ?_
  rintro e w1 ⟨rfl,hs⟩
  go_wp2
  go_ret2
  exact⟨hs.below _,.inl ⟨HX.out,rfl⟩⟩
 ·have hcm:(0:Int)≤cmpN (val zs) (val ys):=by
   rcases cmpN_range (val zs) (val ys) with h|h|h <;> omega
  have hcr:cmpN (val zs) (val ys)≤1:=by
   rcases cmpN_range (val zs) (val ys) with h|h|h <;> omega
  have HX:Hid (val ys≤val zs):=Nat.le_of_not_lt hlt
  have HLen:Hid ((tr ys).length≤(tr zs).length):=by
   refine Nat.le_of_not_lt fun h=>?_
   have:=shorter_lt h1.limbs h
   rw [val_tr,val_tr] at this
   exact hlt this
  clear hlt
  generalize cmpN (val zs) (val ys)=cc at *
  obtain⟨i0,hi,hz0,hz1,hz2⟩:=info_parts Tryz.infoU
  obtain⟨a1,c1,rfl,hc1,hm1,hl1⟩:=h1.form
  obtain⟨a2,c2,rfl,hc2,hm2,hl2⟩:=h2.form
  have M1:=limbs_tr h1.limbs
  have M2:=limbs_tr h2.limbs
  have l1:=tr_length_le zs
  have l2:=tr_length_le ys
  go_enter Tryz.func103,Tryz.ntmps103
  go_wp2_with fail
  refine HC.mono ?_
  rintro e w1 ⟨rfl,hs⟩
  have H1:=bR a1 c1 zs w1 hc1 hm1 (hl1.below (hs.below _))
  have H2:=bR a2 c2 ys w1 hc2 hm2 (hl2.below (hs.below _))
  have L1:=(hl1.below (hs.below _)).tr
  have L2:=(hl2.below (hs.below _)).tr
  have HS:Hid (Below w.heap.size w w1∧w1.heap.size=w.heap.size):=⟨hs.below _,hs.size⟩
  clear hs HC
  go_wp2_with fail
  refine H1.mono ?_
  rintro e w' ⟨rfl,rfl⟩
  go_wp2_with fail
  refine H2.mono ?_
  rintro e w' ⟨rfl,rfl⟩
  clear H1 H2
  go_wp2_with (at_make;refine wpList_make_full _ rfl _ _ 25 rfl w'.heap.size 61 i0 (.int .u64 0) 1 Tryz.underlying25 hi hz0 hz1 .i64 .i64 _ _ (tr zs).length rfl rfl (by omega) (by omega) (by rw [hz2];omega) (by unfold maxLen;omega) (Nat.le_refl _) ?_;intro wm hown hgrow)
  have hb1:=Blk.made hown
  have hbel:Below w'.heap.size w' wm:=(Below.refl _ _).grown hgrow (Nat.le_refl _) (fun k hk=>by cases hk)
  clear hown hgrow hi hz0 hz1 hz2
  go_loopw [7,22] (fun c i wr=>∃(k cy:Nat) (out:List Nat),k≤(tr zs).length∧i=.int .i64 k∧c=.int .u64 cy∧cy≤1∧out.length=(tr zs).length∧Limbs out∧Blk wr w'.heap.size out∧Below w'.heap.size w' wr ∧
    val (out.take k)+val ((tr ys).take k)=val ((tr zs).take k)+cy*18446744073709551616 ^ k) (fun _ i _=>(tr zs).length - (intOf i).toNat)
  case atStart=>exact⟨0,0,_,Nat.zero_le _,rfl,rfl,by omega,by simp,limbs_replicate _,hb1,hbel,by simp [val]⟩
  case round=>
   obtain⟨k,cy,out,hk,rfl,rfl,hcy,hlen,hlo,hblk,hbl,hval⟩:=hrel
   clear hb1 hbel
   have HV:Hid (val (out.take k)+val ((tr ys).take k)=val ((tr zs).take k)+cy*18446744073709551616 ^ k):=hval
   clear hval
   have HB:Hid (Blk wr w'.heap.size out):=hblk
   have HL:Hid (Below w'.heap.size w' wr):=hbl
   by_cases hkl:k<(tr zs).length
   ·rcases L1.below hbl with h0|⟨b,off,rfl,hcell⟩
    ·simp [h0] at hkl
    ·have H42:=dR a2 c2 (tr ys) k wr.drew (by omega) hm2 (L2.below hbl.drew)
     have hck:=hcell k hkl
     have hbw:=an.block (L1:an w' (some ⟨b,off,none⟩) (tr zs)) (by omega)
     have hne1:¬b=w'.heap.size:=by omega
     have hne2:¬w'.heap.size=b:=by omega
     have hfr:=hblk.free k
     have hco:=hblk.cell k (by omega)
     have ha:=pk ((tr zs).getD k 0) ((tr ys).getD k 0) cy hcy
     have z1:=limb_lt M1 k
     have z2:=limb_lt M2 k
     have hst:=sub_step (tr zs) (tr ys) out k cy (by omega) z1 z2 hcy HV.out
     have hd1:=kU ((tr zs).getD k 0) ((tr ys).getD k 0) cy
     generalize bor ((tr zs).getD k 0) ((tr ys).getD k 0) cy=d at *
     generalize (tr zs).getD k 0=x at *
     generalize (tr ys).getD k 0=y at *
     generalize out.getD k 0=o at *
     have hs1:(x+18446744073709551616 - y - cy) % 18446744073709551616<18446744073709551616:=Nat.mod_lt _ (by omega)
     generalize (x+18446744073709551616 - y - cy) % 18446744073709551616=s at *
     have HS':Hid (val ((out.set k s).take (k+1))+val ((tr ys).take (k+1))=val ((tr zs).take (k+1))+d*18446744073709551616 ^ (k+1)):=hst
     clear hst hcell hblk hbl HV L1 L2 M1 M2 hl1 hl2 h1 h2
     have hi1:(0:Int)≤(k:Int):=by omega
     have hi2:(k:Int)<((tr zs).length:Int):=by omega
     go_wp2
     go_region_held3 (fun w'=>w'.cell? ⟨b,off+k,none⟩=some (.int .u64 x)) (go_keep) (first | (go_at_call 152;refine H42.mono ?_;rintro e w2 ⟨rfl,rfl⟩))
     go_wp2
     go_roundw
     case rel=>exact⟨k+1,d,out.set k s,by omega,by go_num,rfl,hd1,by simp;omega,limbs_set hlo _ _ hs1,HB.out.set k s,(HL.out.setCell (Nat.le_refl _) _).drew,HS'.out⟩
     case measure=>simp [intOf];omega
   ·have ek:k=(tr zs).length:=by omega
    subst ek
    have HA:=eW _ w'.heap.size _ _ hblk hlo (Nat.le_refl _) (by omega)
    have hvl:val out=val zs - val ys:=by
     have:=rG hlo hlen HLen.out (by rw [val_tr,val_tr];exact HX.out) cy hcy HV.out
     rw [val_tr,val_tr] at this;exact this
    rw [hlen,hvl] at HA
    clear hvl hblk hbl HV L1 L2 M1 M2 hl1 hl2 h1 h2 HB hlo
    go_wp2_with fail
    refine HA.mono ?_
    rintro e w2 ⟨rfl,hres⟩
    unfold Res at hres
    obtain⟨v,c,rs,rfl,hans,hcase⟩:=hres
    rw [HS.out.2] at hans
    have HX2:Hid (Ans _ w.heap.size v rs∧((c=0∧val rs=val zs - val ys∧tr rs=rs∧blen (val zs - val ys)≤67108864)∨(c=3∧rs=[]∧67108864<blen (val zs - val ys)))):=⟨hans,hcase⟩
    clear hans hcase
    go_wp2
    go_ret2
    refine⟨HS.out.1.trans ?_,.inr ⟨HX.out,v,c,rs,rfl,HX2.out⟩⟩
    have:=HL.out
    rw [HS.out.2] at this
    exact this
end Go.Proofs.YtdbjbbdhlpfhjaaGreatDoor

