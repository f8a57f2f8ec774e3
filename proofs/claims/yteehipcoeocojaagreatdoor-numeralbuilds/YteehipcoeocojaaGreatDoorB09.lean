/- Package numeral, near numbers: nearPower of any base and exponent; surelyBig. -/
import Derived.Test.YteehipcoeocojaaGreatDoorB08
import Derived.Test.YteehipcoeocojaaGreatDoorB07
import Derived.Laws.IdiomStrings
import Derived.Laws.Cells
import Derived.Test.YteehipcoeocojaaGreatDoorB02
import Derived.Test.YteehipcoeocojaaGreatDoorB04
import Derived.Deep.QuietTactic
import Derived.BigQuiet
set_option maxRecDepth 20000
set_option maxHeartbeats 4000000
namespace Go.Proofs.YteehipcoeocojaaGreatDoor
open Go.RowKit
open Lm
attribute [local go_sem ↓] Go.wp_at_zero Go.wp_at_succ

def Pw (b q m f:Nat):Prop:=(q=0∧m=9223372036854775808∧f=0)∨(1≤q∧∃c,c+1≤q∧Nr (b ^ q) m f c)

theorem Pw.range {b q m f:Nat}(h:Pw b q m f):9223372036854775808≤m∧m<18446744073709551616:=by
 rcases h with ⟨_,rfl,_⟩|⟨_,c,_,h⟩
 ·omega
 ·exact⟨h.low,h.high⟩

theorem Pw.exp {b q m f:Nat}(hb:b≤64)(h:Pw b q m f):f≤6*q:=by
 rcases h with ⟨_,_,rfl⟩|⟨_,c,_,h⟩
 ·omega
 ·have h1:=h.ge
  have h2:b ^ q≤2 ^ (6*q):=by rw [Nat.pow_mul];exact Nat.pow_le_pow_left hb q
  exact (Nat.pow_le_pow_iff_right (show 1<2 by omega)).1 (Nat.le_trans h1 h2)

theorem Pw.sq {b q m f:Nat}(h:Pw b q m f):Pw b (2*q) (ay (m*m)) (f+f+az (m*m)):=by
 rcases h with ⟨rfl,rfl,rfl⟩|⟨hq,c,hc,h⟩
 ·exact .inl ⟨rfl,by decide,by decide⟩
 ·refine .inr ⟨by omega,c+c+1,by omega,?_⟩
  rw [show 2*q=q+q by omega,Nat.pow_add]
  exact h.times h

theorem Pw.mul {b q m f mb fb:Nat}(h:Pw b q m f)(hb:Nr b mb fb 0):Pw b (q+1) (ay (m*mb)) (f+fb+az (m*mb)):=by
 rcases h with ⟨rfl,rfl,rfl⟩|⟨hq,c,hc,h⟩
 ·obtain⟨e1,e2⟩:=hb.one_times
  rw [e1,e2]
  refine .inr ⟨by omega,0,by omega,?_⟩
  rw [Nat.zero_add,Nat.zero_add,Nat.add_zero,Nat.pow_one]
  exact hb
 ·refine .inr ⟨by omega,c+0+1,by omega,?_⟩
  rw [Nat.pow_succ]
  exact h.times hb

def aS (w:World)(g m:Nat)(f:Nat):Prop:=w.heap[g]?=some (.cells #[.int .u64 m,.int .i64 ((f:Int) - 63)] 128)

theorem gc (b n:Nat)(w:World)(hb:1≤b)(hb2:b≤64)(hn:n≤1125899906842624) :
  Calls Tryz.prog 88 #[.int .u64 b,.int .i64 n] w fun e w'=>∃m f:Nat,e=.returned (.agg #[.int .u64 m,.int .i64 ((f:Int) - 63)])∧Pw b n m f∧Below w.heap.size w w':=by
 have HLN:=fun W=>Tryz.bits_Len (n:Int) W (by omega) (by omega)
 simp only [Int.toNat_natCast] at HLN
 obtain⟨L,hL⟩:∃L,Lib.bitLen n=L:=⟨_,rfl⟩
 have hnl:n<2 ^ L:=by
  rw [←hL]
  rcases Nat.eq_zero_or_pos n with h|h
  ·subst h;decide
  ·exact (Lib.bitLenAux_bounds 64 n (by omega) (by omega)).2.2
 have hL64:L≤64:=by rw [←hL];exact Lib.bitLen_le n 64 (by omega) (by omega)
 rw [hL] at HLN
 have HN1:=fun W=>eG 1 W (by omega) (by omega)
 have HNB:=fun W=>eG b W (by omega) (by omega)
 obtain⟨w0,hw0⟩:∃w0,w.alloc (.cells #[.int .u64 0,.int .i64 0] 128)=w0:=⟨_,rfl⟩
 have hb0:Below w.heap.size w w0:=by rw [←hw0];exact ac _ _
 have h0:w0.heap[w.heap.size]?=some (.cells #[.int .u64 0,.int .i64 0] 128):=by rw [←hw0];exact heap_alloc_new ..
 have HW0:=aa hw0
 have HB0:=aa hb0
 have H0:=aa h0
 have HNL:=aa hnl
 clear hw0 hb0 h0 hL hnl
 go_enter Tryz.func88,Tryz.ntmps88
 go_wp2_with fail
 rw [HW0.out]
 refine (dd w0).mono ?_
 rintro e w1 ⟨rfl,hb1⟩
 have HB1:=aa hb1
 clear hb1 HN1
 go_wp2_with fail
 refine (HNB w1).mono ?_
 rintro e w2 ⟨mb,fb,rfl,hNb,hfb,hb2'⟩
 have hb02:=HB1.out.trans (hb2'.mono HB1.out.size)
 obtain⟨wa,hwa⟩:∃wa,w2.alloc (.cells #[.int .u64 9223372036854775808,.int .i64 (-63)] 128)=wa:=⟨_,rfl⟩
 have hsa:wa.heap.size=w2.heap.size+1:=by rw [←hwa];exact World.size_alloc _ _
 obtain⟨w3,hw3⟩:∃w3,wa.alloc (.cells #[.int .u64 mb,.int .i64 ((fb:Int) - 63)] 128)=w3:=⟨_,rfl⟩
 have hba:Below w2.heap.size w2 wa:=by rw [←hwa];exact ac _ _
 have hb3:Below wa.heap.size wa w3:=by rw [←hw3];exact ac _ _
 have hb23:=hba.trans (hb3.mono hba.size)
 have k5:aS w3 w2.heap.size 9223372036854775808 0:=an hb3 (by rw [←hwa];exact heap_alloc_new ..)
 have k6:aS w3 (w2.heap.size+1) mb fb:=by
  have h:=heap_alloc_new wa (.cells #[.int .u64 mb,.int .i64 ((fb:Int) - 63)] 128)
  rw [hsa,hw3] at h
  exact h
 have hb03:=hb02.trans (hb23.mono hb02.size)
 have k4:=an hb03 H0.out
 have HW3:=aa (show (w2.alloc (.cells #[.int .u64 9223372036854775808,.int .i64 (-63)] 128)).alloc (.cells #[.int .u64 mb,.int .i64 ((fb:Int) - 63)] 128)=w3 by rw [hwa,hw3])
 have HB3:=aa (HB0.out.trans (hb03.mono HB0.out.size))
 have hlt:w.heap.size<w2.heap.size:=Nat.lt_of_lt_of_le (lt_of_block H0.out) hb02.size
 obtain⟨g,hg⟩:∃g,w2.heap.size=g:=⟨_,rfl⟩
 obtain⟨g6,hg6⟩:∃g6,g+1=g6:=⟨_,rfl⟩
 rw [hg] at k5 hlt
 rw [hg,hg6] at k6
 have HG:=aa (And.intro hg hg6)
 have hg6':g<g6:=by omega
 have HK:=aa (And.intro k4 (And.intro k5 k6))
 have HNb:=aa hNb
 clear hb2' hb02 hwa hw3 hba hb3 hb23 hb03 hsa k4 k5 k6 hg hg6 hNb HNB
 go_wp2_with fail
 rw [HW3.out]
 refine (HLN _).mono ?_
 rintro e wn ⟨rfl,hw⟩;rw [hw,HG.out.1,HG.out.2];clear hw wn HLN
 go_wp2
 go_loopw [7] (fun i wr=>∃(k m f:Nat),i=.int .i64 ((k:Int) - 1)∧k≤L∧aS wr g m f∧Pw b (n / 2 ^ k) m f∧aS wr g6 mb fb∧wr.heap[w.heap.size]?=some (.cells #[.int .u64 0,.int .i64 0] 128)∧Below w.heap.size w wr) (fun i _=>(intOf i+1).toNat)
 case atStart=>
  exact⟨L,9223372036854775808,0,rfl,Nat.le_refl _,HK.out.2.1,by rw [Nat.div_eq_of_lt HNL.out];exact .inl ⟨rfl,rfl,rfl⟩,HK.out.2.2,HK.out.1,HB3.out⟩
 case round=>
  obtain⟨k,m,f,rfl,hk,hAt,hPw,hAt6,hRes,hbel⟩:=hrel
  have HAt:=aa hAt
  have HPw:=aa hPw
  have HAt6:=aa hAt6
  have HRes:=aa hRes
  have HBW:=aa hbel
  obtain⟨c0,c1⟩:=ak hAt
  clear hAt hPw hAt6 hRes hbel HK HB3
  by_cases hk0:k=0
  ·subst hk0
   obtain⟨d0,d1⟩:=ak HRes.out
   have hf:=bu HRes.out
   go_wp2
   have R5:=br HRes.out (a':=.int .u64 m) (b':=.int .i64 ((f:Int) - 63))
   have HD:=aa (bk HBW.out (g:=w.heap.size) (u0:=.int .u64 m) (u1:=.int .i64 ((f:Int) - 63)) (Nat.le_refl _))
   generalize (wr.setCell ⟨w.heap.size,0,none⟩ (.int .u64 m)).setCell ⟨w.heap.size,1,none⟩ (.int .i64 ((f:Int) - 63))=w8 at *
   obtain⟨q0,q1⟩:=ak R5
   refine bodyPost_ret (v:=.agg #[.int .u64 m,.int .i64 ((f:Int) - 63)]) (by simp [results,Tryz.results88,go_sem,q0,q1]) rfl ?_
   refine⟨m,f,rfl,?_,HD.out⟩
   have:=HPw.out
   rw [Nat.pow_zero,Nat.div_one] at this
   exact this
  ·obtain⟨j,rfl⟩:∃j,k=j+1:=⟨k - 1,by omega⟩
   have ej:(((j+1:Nat):Int) - 1)=(j:Int):=by omega
   rw [ej]
   have hj0:(0:Int)≤(j:Int):=by omega
   have hj64:j<64:=by omega
   have hst:=eE n j
   have hle:n / 2 ^ j≤n:=Nat.div_le_self _ _
   have hsh:(n:Int) / 2 ^ j=((n / 2 ^ j:Nat):Int):=by rw [Int.natCast_ediv,Int.natCast_pow];rfl
   have hand:=dS ((n / 2 ^ j:Nat):Int)
   have hm2:((n / 2 ^ j:Nat):Int) % 2=((n / 2 ^ j % 2:Nat):Int):=by omega
   rw [hm2] at hand
   have wj:IntKind.i64.wrap (((n / 2 ^ j:Nat)):Int)=(((n / 2 ^ j:Nat)):Int):=by rw [IntKind.wrap_i64];omega
   generalize n / 2 ^ (j+1)=p at *
   obtain⟨q,hq⟩:∃q,n / 2 ^ j=q:=⟨_,rfl⟩
   rw [hq] at hst hle hsh hand hm2 wj
   have HQD:=aa hq
   have HQ:=aa (And.intro hst hle)
   have hfe:=HPw.out.exp hb2
   have hr1:=HPw.out.range
   have F1:=eX m m ((f:Int) - 63) ((f:Int) - 63) wr hr1.2 hr1.2 (by omega) (by omega) (by omega) (by omega)
   have hsq:=HPw.out.sq
   obtain⟨f3,hf3,ef3⟩:∃f3:Nat,f+f+az (m*m)=f3∧(f:Int) - 63+((f:Int) - 63)+63+(az (m*m):Nat)=(f3:Int) - 63:=⟨_,rfl,by omega⟩
   rw [ef3] at F1
   rw [hf3] at hsq
   generalize ay (m*m)=m3 at *
   have HSQ:=aa hsq
   clear hq hst hfe hr1 hsq hf3 ef3 hk0 ej
   go_wp2_with fail
   refine F1.mono ?_
   rintro e w3' ⟨rfl,hb3⟩
   have k5:=an hb3 HAt.out
   have k6:=an hb3 HAt6.out
   have k4:=an hb3 HRes.out
   have hB3:=HBW.out.trans (hb3.mono HBW.out.size)
   have hf5:=bu k5
   obtain⟨d50,d51⟩:=ak k5
   have s5:=br k5 (a':=.int .u64 m3) (b':=.int .i64 ((f3:Int) - 63))
   obtain⟨w5,hw5⟩:∃w5,(w3'.setCell ⟨g,0,none⟩ (.int .u64 m3)).setCell ⟨g,1,none⟩ (.int .i64 ((f3:Int) - 63))=w5:=⟨_,rfl⟩
   have s6:aS w5 g6 mb fb:=by rw [←hw5];exact aD (aD k6 (by omega)) (by omega)
   have s4:w5.heap[w.heap.size]?=some (.cells #[.int .u64 0,.int .i64 0] 128):=by rw [←hw5];exact aD (aD k4 (by omega)) (by omega)
   have HB5:=aa (show Below w.heap.size w w5 by rw [←hw5];exact bk hB3 (by omega))
   rw [hw5] at s5
   have HS:=aa (And.intro s4 (And.intro (show aS w5 g m3 f3 from s5) s6))
   have HW5:=aa hw5
   clear F1 hb3 k4 k5 k6 hB3 c0 c1 HAt HAt6 HRes HBW HPw
   rcases Nat.mod_two_eq_zero_or_one q with h0|h1
   ·rw [h0] at hand
    have HEQ:Hid (2*p=q):=aa (by have:=HQ.out.1;omega)
    clear h0 hw5 s4 s5 s6
    go_wp2
    go_roundw
    case rel=>exact⟨j,m3,f3,rfl,by omega,by rw [HW5.out];exact HS.out.2.1,by rw [HQD.out,←HEQ.out];exact HSQ.out,by rw [HW5.out];exact HS.out.2.2,by rw [HW5.out];exact HS.out.1,by rw [HW5.out];exact HB5.out⟩
    case measure=>simp [intOf]
   ·rw [h1] at hand
    have HEQ:Hid (2*p+1=q):=aa (by have:=HQ.out.1;omega)
    have x5:=ak s5
    have x6:=ak s6
    rw [←hw5] at x5 x6
    obtain⟨x50,x51⟩:=x5
    obtain⟨x60,x61⟩:=x6
    have hfe:=HSQ.out.exp hb2
    have hr1:=HSQ.out.range
    have F2:=eX m3 mb ((f3:Int) - 63) ((fb:Int) - 63) w5 hr1.2 HNb.out.high (by omega) (by have:=HQ.out;omega) (by omega) (by omega)
    have hmu:=HSQ.out.mul HNb.out
    rw [HEQ.out] at hmu
    obtain⟨f4,hf4,ef4⟩:∃f4:Nat,f3+fb+az (m3*mb)=f4∧(f3:Int) - 63+((fb:Int) - 63)+63+(az (m3*mb):Nat)=(f4:Int) - 63:=⟨_,rfl,by omega⟩
    rw [ef4] at F2
    rw [hf4] at hmu
    generalize ay (m3*mb)=m4 at *
    have HMU:=aa hmu
    clear h1 hw5 s4 s5 s6 hfe hr1 hmu hf4 ef4
    go_wp2_with fail
    rw [HW5.out]
    refine F2.mono ?_
    rintro e w6 ⟨rfl,hb6⟩
    have k4:=an hb6 HS.out.1
    have k5:=an hb6 HS.out.2.1
    have k6:=an hb6 HS.out.2.2
    have hB6:=HB5.out.trans (hb6.mono HB5.out.size)
    clear x50 x51 x60 x61 hf5 d50 d51 F2 hb6
    have hf5:=bu k5
    obtain⟨d50,d51⟩:=ak k5
    have t5:=br k5 (a':=.int .u64 m4) (b':=.int .i64 ((f4:Int) - 63))
    obtain⟨w7,hw7⟩:∃w7,(w6.setCell ⟨g,0,none⟩ (.int .u64 m4)).setCell ⟨g,1,none⟩ (.int .i64 ((f4:Int) - 63))=w7:=⟨_,rfl⟩
    have t6:aS w7 g6 mb fb:=by rw [←hw7];exact aD (aD k6 (by omega)) (by omega)
    have t4:w7.heap[w.heap.size]?=some (.cells #[.int .u64 0,.int .i64 0] 128):=by rw [←hw7];exact aD (aD k4 (by omega)) (by omega)
    have HB7:=aa (show Below w.heap.size w w7 by rw [←hw7];exact bk hB6 (by omega))
    rw [hw7] at t5
    have HS7:=aa (And.intro t4 (And.intro (show aS w7 g m4 f4 from t5) t6))
    have HW7:=aa hw7
    clear k4 k5 k6 hw7 t4 t5 t6 hB6
    go_wp2
    go_roundw
    case rel=>exact⟨j,m4,f4,rfl,by omega,by rw [HW7.out];exact HS7.out.2.1,by rw [HQD.out];exact HMU.out,by rw [HW7.out];exact HS7.out.2.2,by rw [HW7.out];exact HS7.out.1,by rw [HW7.out];exact HB7.out⟩
    case measure=>simp [intOf]

theorem Pw.ge {b q m f:Nat}(h:Pw b q m f):2 ^ f≤b ^ q:=by
 rcases h with ⟨rfl,_,rfl⟩|⟨_,c,_,h⟩
 ·simp
 ·exact h.ge

theorem Pw.above {b q m f:Nat}(h:Pw b q m f)(hq:q≤1125899906842624):b ^ q*9223372036854775808≤(m+4*q)*2 ^ f:=by
 rcases h with ⟨rfl,rfl,rfl⟩|⟨_,c,hc,h⟩
 ·simp
 ·refine Nat.le_trans (h.above (by omega)) (Nat.mul_le_mul_right _ (by omega))

theorem Pw.lt {b q m f:Nat}(h:Pw b q m f)(hq:q≤1125899906842624):b ^ q<2 ^ (f+2):=by
 have h1:=h.above hq
 have h2:=h.range
 have h3:(m+4*q)*2 ^ f<36893488147419103232*2 ^ f:=Nat.mul_lt_mul_of_pos_right (by omega) (Nat.pow_pos (by omega))
 rw [Nat.pow_add]
 generalize 2 ^ f=F at *
 generalize b ^ q=V at *
 omega

theorem Pw.blen_gt {b q m f:Nat}(h:Pw b q m f):f<blen (b ^ q):=by
 rcases Nat.lt_or_ge f (blen (b ^ q)) with h1|h1
 ·exact h1
 ·have:=(blen_le_iff _ _).1 h1
  have:=h.ge
  omega

theorem dr (b n:Nat)(w:World)(hb:1≤b)(hb2:b≤64)(hn:n≤1125899906842624) :
  Calls Tryz.prog 91 #[.int .i64 n,.int .u64 b] w fun e w'=>∃r:Bool,e=.returned (.bool r)∧(r=true→67108864<blen (b ^ (n - 1)))∧(r=false→blen (b ^ (n - 1))≤67108865)∧Below w.heap.size w w':=by
 obtain⟨k,hk,hk2⟩:∃k:Nat,max ((n:Int) - 1) 0=(k:Int)∧n - 1=k:=⟨n - 1,by omega,rfl⟩
 have HP:=gc b k w hb hb2 (by omega)
 rw [hk2]
 clear hk2
 go_enter Tryz.func91,Tryz.ntmps91
 go_wp2_with fail
 refine HP.mono ?_
 rintro e w1 ⟨m,f,rfl,hPw,hb1⟩
 have HB:=aa (hb1.trans ((ac w1 (.cells #[.int .u64 m,.int .i64 ((f:Int) - 63)] 128)).mono hb1.size))
 have hfe:=hPw.exp hb2
 have HPw:=aa hPw
 clear hb1 hPw HP
 by_cases hf:67108864≤f
 ·have h1:(67108864:Int)<(f:Int) - 63+64:=by omega
  have h2:decide ((67108864:Int)<(f:Int) - 63+64)=true:=decide_eq_true h1
  go_wp2
  go_ret
  exact⟨true,rfl,(fun _=>by have:=HPw.out.blen_gt;omega),(fun h=>by cases h),HB.out⟩
 ·have h1:¬((67108864:Int)<(f:Int) - 63+64):=by omega
  have h2:decide ((67108864:Int)<(f:Int) - 63+64)=false:=decide_eq_false h1
  go_wp2
  go_ret
  exact⟨false,rfl,(fun h=>by cases h),(fun _=>by have:=(blen_le_iff (b ^ k) (f+2)).2 (HPw.out.lt (by omega));omega),HB.out⟩
end Go.Proofs.YteehipcoeocojaaGreatDoor
namespace Go.Proofs.YteehipcoeocojaaGreatDoor
open Go.RowKit
open Lm
attribute [local go_sem ↓] Go.wp_at_zero Go.wp_at_succ
attribute [local go_sem] cT

theorem fL {b o n:Nat}{D:List Nat}(hn:1≤n)(h0:D.getD o 0≠0):b ^ (n - 1)≤dvr b D o n:=by
 obtain⟨m,rfl⟩:∃m,n=1+m:=⟨n - 1,by omega⟩
 rw [bA,show 1+m - 1=m by omega]
 have h1:dvr b D o 1=D.getD o 0:=by simp [dvr]
 have h2:1*b ^ m≤dvr b D o 1*b ^ m:=Nat.mul_le_mul_right _ (by rw [h1];omega)
 omega

theorem js (gd o n b:Nat)(D:List Nat)(w:World)(hT:Tab w)(hD:Byt w gd D)(ho:o+n≤D.length)(hn1:1≤n)(hn:n≤1125899906842624)(hdig:∀i,i<n→D.getD (o+i) 0<b)(h0:D.getD o 0≠0)(hb:2≤b)(hb2:b≤36) :
  Calls Tryz.prog 63 #[.slice (some ⟨gd,o,none⟩) n n,.int .i64 b] w (bZ b o n D w):=by
 obtain⟨w0,hw0⟩:∃W,w.alloc (.cells #[.int .i64 b] 3)=W:=⟨_,rfl⟩
 have hb0:Below w.heap.size w w0:=by rw [←hw0];exact ac _ _
 have x0:w0.heap[w.heap.size]?=some (.cells #[.int .i64 b] 3):=by rw [←hw0];exact heap_alloc_new ..
 have c0:=aN x0
 have C:=dr b n w0 (by omega) (by omega) hn
 have hge:=fL (b:=b) hn1 h0
 have HD:=aa hD
 have HT:=aa hT
 have HB0:=aa hb0
 have X0:=aa x0
 have HDG:=aa hdig
 have HGE:=aa hge
 have H00:=aa h0
 clear hD hT hb0 x0 hdig hge h0
 go_enter Tryz.func63,Tryz.ntmps63
 go_wp2_with fail
 refine C.mono ?_
 rintro e w1 ⟨r,rfl,hr1,hr2,hb1⟩
 have HB1:=aa (bt5 HB0.out hb1)
 have X1:=aa ((hb1.block _ (lt_of_block X0.out)).trans X0.out)
 cases r
 ·have hNB:=hr2 rfl
  have hn9:n≤67108867:=by
   have h4:2 ^ (n - 1)≤b ^ (n - 1):=Nat.pow_le_pow_left hb _
   have h5:b ^ (n - 1)<2 ^ blen (b ^ (n - 1)):=(blen_le_iff _ _).1 (Nat.le_refl _)
   have h6:=(Nat.pow_lt_pow_iff_right (by omega:1<2)).1 (Nat.lt_of_le_of_lt h4 h5)
   omega
  have C2:=dD b n w1 (HT.out.below HB1.out) hb hb2 hn
  have c1:=aN X1.out
  have HNB:=aa hNB
  clear C hr1 hr2 hb1 c0 HB0 X0 hNB
  go_wp2_with fail
  refine C2.mono ?_
  rintro e w3 ⟨⟨vl,rfl,hP⟩,hb3⟩
  obtain⟨al,nl,kl,rfl⟩:∃al nl kl,vl=.slice al nl kl:=by
   obtain⟨l,h1,_⟩:=hP
   rcases h1 with ⟨h1,_⟩|⟨g,cap',h1,_⟩
   ·exact⟨_,_,_,h1⟩
   ·exact⟨_,_,_,h1⟩
  obtain⟨w4,hw4⟩:∃W,w3.alloc (.cells #[.slice al nl kl] 84)=W:=⟨_,rfl⟩
  have hs4:w4.heap.size=w3.heap.size+1:=by rw [←hw4];exact World.size_alloc _ _
  obtain⟨w5,hw5⟩:∃W,w4.alloc (.cells #[.func (.func 92) #[] #[.pointer (some ⟨w3.heap.size,0,none⟩),.pointer (some ⟨w.heap.size,0,none⟩),.pointer (some ⟨w3.heap.size+1,0,none⟩)]] 134)=W:=⟨_,rfl⟩
  have hb4:Below w3.heap.size w3 w4:=by rw [←hw4];exact ac _ _
  have hb5:Below w4.heap.size w4 w5:=by rw [←hw5];exact ac _ _
  have hb35:=bt5 hb4 hb5
  have hb15:=bt5 hb3 hb35
  have cl:=aA hb5 (aN (show w4.heap[w3.heap.size]?=some (.cells #[.slice al nl kl] 84) by rw [←hw4];exact heap_alloc_new ..))
  have cb5:=aA hb15 (aN X1.out)
  have cw:w5.cell? ⟨w3.heap.size+1,0,none⟩=some (.func (.func 92) #[] #[.pointer (some ⟨w3.heap.size,0,none⟩),.pointer (some ⟨w.heap.size,0,none⟩),.pointer (some ⟨w3.heap.size+1,0,none⟩)]):=aN (t:=134) (by
   have h:=heap_alloc_new w4 (.cells #[.func (.func 92) #[] #[.pointer (some ⟨w3.heap.size,0,none⟩),.pointer (some ⟨w.heap.size,0,none⟩),.pointer (some ⟨w3.heap.size+1,0,none⟩)]] 134)
   rw [hs4,hw5] at h
   exact h)
  have hB5:=bt5 HB1.out hb15
  have FW:=ct w3.heap.size w.heap.size (w3.heap.size+1) gd b n (.slice al nl kl) hb hb2 HNB.out hn9 (n+1) n o n D w5 (by omega) (HD.out.below hB5 HD.out.lt) ho (Nat.le_refl _) (by omega) (Nat.le_refl _) HDG.out (HT.out.below hB5) cl cb5 cw (hP.below hb35)
  have HW5:=aa (show (w3.alloc (.cells #[.slice al nl kl] 84)).alloc (.cells #[.func (.func 92) #[] #[.pointer (some ⟨w3.heap.size,0,none⟩),.pointer (some ⟨w.heap.size,0,none⟩),.pointer (some ⟨w3.heap.size+1,0,none⟩)]] 134)=w5 by rw [hw4,hw5])
  have HB5:=aa hB5
  rw [←HW5.out] at cw
  clear C2 hb3 hb4 hb5 hb35 hb15 cl cb5 hw4 hw5 hs4 hB5 hP c1
  go_wp2_with fail
  rw [HW5.out]
  refine FW.mono ?_
  rintro e w6 ⟨hb6,hc6⟩
  have HB6:=aa (bt5 HB5.out hb6)
  have hbs:=HB5.out.size
  rcases hc6 with ⟨v6,Z6,rfl,hZ6,hl6,hv6,ht6⟩|⟨rfl,hbig⟩
  ·have HF:=aa (And.intro (hZ6.base hbs) (And.intro hl6 (And.intro hv6 (ht6 H00.out))))
   clear FW hb6 hZ6 hl6 hv6 ht6 cw
   go_wp2
   go_ret2
   exact⟨HB6.out,.inl ⟨v6,Z6,rfl,HF.out.1,by have:=HF.out.2.1;omega,HF.out.2.2.1,HF.out.2.2.2⟩⟩
  ·have HBG:=aa hbig
   clear FW hb6 hbig cw
   go_wp2
   go_ret2
   exact⟨HB6.out,.inr ⟨_,rfl,HBG.out⟩⟩
 ·have HBG:Hid (67108864<blen (dvr b D o n)):=aa (Nat.lt_of_lt_of_le (hr1 rfl) (bn HGE.out))
  clear C hr1 hr2 hb1
  go_wp2
  go_ret2
  exact⟨HB1.out,.inr ⟨_,rfl,HBG.out⟩⟩

theorem fq (ao:Option Addr)(cap b:Nat)(w:World)(hb:2≤b)(hb2:b≤36) :
  Calls Tryz.prog 93 #[.slice ao 0 cap,.int .i64 b] w fun e w'=>e=.returned (.slice none 0 0)∧w'=w:=by
 have HU:=ei b w hb hb2
 go_enter Tryz.func93,Tryz.ntmps93
 go_wp2_with fail
 refine HU.mono ?_
 rintro e wn ⟨d,p,rfl,hu,hw⟩;rw [hw];clear hw wn HU hu
 go_wp2
 refine wp_loop_rounds 1 ?_
 rw [rounds_succ]
 go_wp2
 go_ret
 exact⟨rfl,rfl⟩

theorem jc (gl gb gw b cap:Nat)(ao:Option Addr)(vl:Value)(w:World)(hb:2≤b)(hb2:b≤36)
  (cl:w.cell? ⟨gl,0,none⟩=some vl) (cb:w.cell? ⟨gb,0,none⟩=some (.int .i64 b)) (hP:bj w vl b 0) :
  Calls Tryz.prog 92 #[.slice ao 0 cap,.pointer (some ⟨gl,0,none⟩),.pointer (some ⟨gb,0,none⟩),.pointer (some ⟨gw,0,none⟩)] w fun e w'=>e=.returned (.tuple #[.slice none 0 0,.int .i64 0])∧Below w.heap.size w w':=by
 obtain⟨l,hPA,_⟩:=hP
 have C:=dV vl 0 l w hPA
 clear hPA
 go_enter Tryz.func92,Tryz.ntmps92
 go_wp2_with fail
 refine C.mono ?_
 rintro e w1 ⟨hcase,hb1⟩
 rcases hcase with ⟨i,d,ov,s,hli,hdn,_,he⟩|⟨_,he⟩
 ·exact absurd hdn (Nat.not_lt_zero d)
 ·obtain⟨x0,a0,n0,c0,y0,rfl,_⟩:∃(x0:Int) (a0:Option Addr) (n0 c0:Nat) (y0:Int),e=.returned (.tuple #[.agg #[.int .i64 x0,.slice a0 n0 c0,.int .i64 y0],.bool false])∧True:=⟨0,none,0,0,0,he,trivial⟩
  clear he
  obtain⟨w2,hw2⟩:∃W,w1.alloc (.cells #[.int .i64 x0,.slice a0 n0 c0,.int .i64 y0] 88)=W:=⟨_,rfl⟩
  have hb2':Below w1.heap.size w1 w2:=by rw [←hw2];exact ac _ _
  have hB2:=bt5 hb1 hb2'
  have cb2:=aA hB2 cb
  have C2:=fq ao cap b w2 hb hb2
  have HB2:=aa hB2
  clear C hb1 hb2' hB2
  go_wp2_with fail
  refine C2.mono ?_
  rintro e wn ⟨rfl,hw⟩;rw [hw];clear hw wn C2
  go_wp2
  go_ret2
  exact⟨rfl,HB2.out⟩

theorem jb (ao:Option Addr)(cap o b:Nat)(D:List Nat)(w:World)(hT:Tab w)(hb:2≤b)(hb2:b≤36) :
  Calls Tryz.prog 63 #[.slice ao 0 cap,.int .i64 b] w (bZ b o 0 D w):=by
 obtain⟨w0,hw0⟩:∃W,w.alloc (.cells #[.int .i64 b] 3)=W:=⟨_,rfl⟩
 have hb0:Below w.heap.size w w0:=by rw [←hw0];exact ac _ _
 have x0:w0.heap[w.heap.size]?=some (.cells #[.int .i64 b] 3):=by rw [←hw0];exact heap_alloc_new ..
 have c0:=aN x0
 have C:=dr b 0 w0 (by omega) (by omega) (by omega)
 have HT:=aa hT
 have HB0:=aa hb0
 have X0:=aa x0
 clear hT hb0 x0
 go_enter Tryz.func63,Tryz.ntmps63
 go_wp2_with fail
 refine C.mono ?_
 rintro e w1 ⟨r,rfl,hr1,hr2,hb1⟩
 have HB1:=aa (bt5 HB0.out hb1)
 have X1:=aa ((hb1.block _ (lt_of_block X0.out)).trans X0.out)
 cases r
 ·have C2:=dD b 0 w1 (HT.out.below HB1.out) hb hb2 (by omega)
  have c1:=aN X1.out
  clear C hr1 hr2 hb1 c0 HB0 X0
  go_wp2_with fail
  refine C2.mono ?_
  rintro e w3 ⟨⟨vl,rfl,hP⟩,hb3⟩
  obtain⟨al,nl,kl,rfl⟩:∃al nl kl,vl=.slice al nl kl:=by
   obtain⟨l,h1,_⟩:=hP
   rcases h1 with ⟨h1,_⟩|⟨g,cap',h1,_⟩
   ·exact⟨_,_,_,h1⟩
   ·exact⟨_,_,_,h1⟩
  obtain⟨w4,hw4⟩:∃W,w3.alloc (.cells #[.slice al nl kl] 84)=W:=⟨_,rfl⟩
  have hs4:w4.heap.size=w3.heap.size+1:=by rw [←hw4];exact World.size_alloc _ _
  obtain⟨w5,hw5⟩:∃W,w4.alloc (.cells #[.func (.func 92) #[] #[.pointer (some ⟨w3.heap.size,0,none⟩),.pointer (some ⟨w.heap.size,0,none⟩),.pointer (some ⟨w3.heap.size+1,0,none⟩)]] 134)=W:=⟨_,rfl⟩
  have hb4:Below w3.heap.size w3 w4:=by rw [←hw4];exact ac _ _
  have hb5:Below w4.heap.size w4 w5:=by rw [←hw5];exact ac _ _
  have hb35:=bt5 hb4 hb5
  have hb15:=bt5 hb3 hb35
  have cl:=aA hb5 (aN (show w4.heap[w3.heap.size]?=some (.cells #[.slice al nl kl] 84) by rw [←hw4];exact heap_alloc_new ..))
  have cb5:=aA hb15 (aN X1.out)
  have cw:w5.cell? ⟨w3.heap.size+1,0,none⟩=some (.func (.func 92) #[] #[.pointer (some ⟨w3.heap.size,0,none⟩),.pointer (some ⟨w.heap.size,0,none⟩),.pointer (some ⟨w3.heap.size+1,0,none⟩)]):=aN (t:=134) (by
   have h:=heap_alloc_new w4 (.cells #[.func (.func 92) #[] #[.pointer (some ⟨w3.heap.size,0,none⟩),.pointer (some ⟨w.heap.size,0,none⟩),.pointer (some ⟨w3.heap.size+1,0,none⟩)]] 134)
   rw [hs4,hw5] at h
   exact h)
  have hB5:=bt5 HB1.out hb15
  have FW:=jc w3.heap.size w.heap.size (w3.heap.size+1) b cap ao (.slice al nl kl) w5 hb hb2 cl cb5 (hP.below hb35)
  have HW5:=aa (show (w3.alloc (.cells #[.slice al nl kl] 84)).alloc (.cells #[.func (.func 92) #[] #[.pointer (some ⟨w3.heap.size,0,none⟩),.pointer (some ⟨w.heap.size,0,none⟩),.pointer (some ⟨w3.heap.size+1,0,none⟩)]] 134)=w5 by rw [hw4,hw5])
  have HB5:=aa hB5
  rw [←HW5.out] at cw
  clear C2 hb3 hb4 hb5 hb35 hb15 cl cb5 hw4 hw5 hs4 hB5 hP c1
  go_wp2_with fail
  rw [HW5.out]
  refine FW.mono ?_
  rintro e w6 ⟨rfl,hb6⟩
  have HB6:=aa (bt5 HB5.out hb6)
  clear FW hb6 cw
  go_wp2
  go_ret2
  exact⟨HB6.out,.inl ⟨_,[],rfl,Ans.nil _ _,Nat.zero_le _,rfl,rfl⟩⟩
 ·have h:=hr1 rfl
  have h1:blen (b ^ (0 - 1))≤1:=(blen_le_iff _ 1).2 (by simp)
  exact absurd h (by omega)

theorem iy (b n g:Nat)(W:World)(D:List Nat)(k:Nat)(ao:Option Addr)(cc:Nat)(hb:2≤b)(hb2:b≤36)(hn:n≤1125899906842624)(hT:Tab W)(hD:Byt W g D)(hl:D.length=n)(hk:k≤n)(hd:∀i,i<n→D.getD i 0<b)(h:k<n→ao=some ⟨g,k,none⟩∧cc=n - k∧D.getD k 0≠0) :
  Calls Tryz.prog 63 #[.slice ao (n - k) cc,.int .i64 b] W (bZ b k (n - k) D W):=by
 rcases Nat.lt_or_ge k n with hkn|hkn
 ·obtain⟨rfl,rfl,h0⟩:=h hkn
  exact js g k (n - k) b D W hT hD (by omega) (by omega) (by omega) (fun i hi=>hd (k+i) (by omega)) h0 hb hb2
 ·rw [show n - k=0 by omega]
  exact jb ao cc k b D W hT hb hb2
end Go.Proofs.YteehipcoeocojaaGreatDoor
namespace Go.Proofs.YteehipcoeocojaaGreatDoor
open Go.RowKit
open Lm
attribute [local go_sem ↓] Go.wp_at_zero Go.wp_at_succ


end Go.Proofs.YteehipcoeocojaaGreatDoor
namespace Go.Proofs.YteehipcoeocojaaGreatDoor
open Go.RowKit
open Lm
end Go.Proofs.YteehipcoeocojaaGreatDoor
namespace Go.Proofs.YteehipcoeocojaaGreatDoor
open Go.RowKit
open Lm
attribute [local go_sem ↓] Go.wp_at_zero Go.wp_at_succ

theorem bM.up {b n:Nat}{dg:Nat→Int}{w w0:World}{e:Ending}{w':World}(hb:Below w.heap.size w w0)(h:bM b n dg w0 e w'):bM b n dg w e w':=by
 obtain⟨h1,h2⟩:=h
 refine⟨hb.trans (h1.mono hb.size),?_⟩
 rcases h2 with h2|⟨D,hl,hd,v,c,rs,he,hA,hc⟩
 ·exact .inl h2
 ·exact .inr ⟨D,hl,hd,v,c,rs,he,hA.base hb.size,hc⟩



theorem c8 {ds:List Nat}(hd:Digs 4294967296 ds)(ht:tr ds=ds)(L:Nat)(hb:blen (vb 4294967296 ds)≤32*L):ds.length≤L:=by
 refine Nat.le_of_not_lt fun hlt=>?_
 obtain⟨n,hn⟩:∃n,ds.length=n+1:=⟨ds.length - 1,by omega⟩
 have h1:=blen_vb hd ht n hn
 have h2:=blen_half _ (tr_last' ds n ht hn)
 omega

theorem bB {ds:List Nat}(n:Nat)(h:ds.length≤n):vb 4294967296 (ds.take n)=vb 4294967296 ds:=by rw [List.take_of_length_le h]

theorem cZ {X Y out:List Nat}(hX:Digs 4294967296 X)(hY:Digs 4294967296 Y)(n cy:Nat)(h1:X.length≤n)(h2:Y.length≤n)(ho:out.length=n+1)
  (h:vb 4294967296 (out.take (n+1))+cy*4294967296 ^ (n+1)=vb 4294967296 (X.take (n+1))+vb 4294967296 (Y.take (n+1))):vb 4294967296 out=vb 4294967296 X+vb 4294967296 Y:=by
 rw [bB _ (by omega),bB _ (by omega),bB _ (by omega)] at h
 have a:=vb_take_lt hX n
 have b:=vb_take_lt hY n
 rw [bB _ h1] at a
 rw [bB _ h2] at b
 rcases Nat.eq_zero_or_pos cy with h0|h0
 ·subst h0;omega
 ·exfalso
  have:=Nat.mul_le_mul_right (4294967296 ^ (n+1)) h0
  rw [Nat.pow_succ,B_pow] at this h
  omega

theorem fd (v1 v2:Value)(x y:Nat)(w:World)(h1:Num w v1 x)(h2:Num w v2 y)(f1:blen x≤1125899906840000)(f2:blen y≤1125899906840000) :
  Calls Tryz.prog 44 #[v1,v2] w fun e w'=>(∃v',e=.returned v'∧Num w' v' (x+y)∧New w.heap.size v')∧Below w.heap.size w w':=by
 obtain⟨X,A1,hX,hXt,rfl,_⟩:=h1
 obtain⟨Y,A2,hY,hYt,rfl,_⟩:=h2
 have lX:=c8 hX hXt 35184372088750 (by omega)
 have lY:=c8 hY hYt 35184372088750 (by omega)
 obtain⟨a1,c1,rfl,hc1,hm1,_⟩:=A1.form
 obtain⟨a2,c2,rfl,hc2,hm2,_⟩:=A2.form
 obtain⟨i0,hi,hz0,hz1,hz2⟩:=info_parts Tryz.infoU
 clear f1 f2 hXt hYt
 by_cases hl:X.length<Y.length
 ·have i1:(X.length:Int)<(Y.length:Int):=by omega
  go_enter Tryz.func44,Tryz.ntmps44
  go_wp2_with (at_make;refine wpList_make_full _ rfl _ _ 26 rfl w.heap.size 63 i0 (.int .u64 0) 1 Tryz.underlying26 hi hz0 hz1 .i64 .i64 _ _ (Y.length+1) rfl rfl (by omega) (by omega) (by rw [hz2];omega) (by unfold maxLen;omega) (Nat.le_refl _) ?_;intro w1 hown hgrow)
  have hb1:=Blk.made hown
  have hbel:Below w.heap.size w w1:=(Below.refl _ _).grown hgrow (Nat.le_refl _) (fun k hk=>by cases hk)
  clear hown hgrow hi hz0 hz1 hz2
  go_loopw [7,8] (fun c i wr=>∃(k cy:Nat) (out:List Nat),k≤Y.length+1∧i=.int .i64 k∧c=.int .u64 cy∧cy≤1∧out.length=Y.length+1∧Digs 4294967296 out∧Blk wr w.heap.size out∧Below w.heap.size w wr ∧
    vb 4294967296 (out.take k)+cy*4294967296 ^ k=vb 4294967296 (X.take k)+vb 4294967296 (Y.take k)) (fun _ i _=>Y.length+1 - (intOf i).toNat)
  case atStart=>exact⟨0,0,_,Nat.zero_le _,rfl,rfl,by omega,by simp,digs_replicate (by omega) _,hb1,hbel,by simp [vb]⟩
  case round=>
   obtain⟨k,cy,out,hk,rfl,rfl,hcy,hlen,hdo,hblk,hbl,hval⟩:=hrel
   clear hb1 hbel
   have HB:=aa hblk
   have HL:=aa hbl
   by_cases hkl:k≤Y.length
   ·have H1:=cf _ X k wr (A1.below hbl)
    have H2:=cf _ Y k wr (A2.below hbl)
    have hfr:=hblk.free k
    have hco:=hblk.cell k (by omega)
    generalize out.getD k 0=o at *
    have z1:=dig_lt (by omega) hX k
    have z2:=dig_lt (by omega) hY k
    have HV:=aa (vb_add_step X Y out k cy (by omega) hval)
    generalize X.getD k 0=x at *
    generalize Y.getD k 0=y at *
    have e0:(x:Int)+(y:Int)+(cy:Int)=((x+y+cy:Nat):Int):=by omega
    have b0:x+y+cy<18446744073709551616:=by omega
    have e1:((x+y+cy:Nat):Int) % 4294967296=(((x+y+cy) % 4294967296:Nat):Int):=by omega
    have e2:((x+y+cy:Nat):Int) / 4294967296=(((x+y+cy) / 4294967296:Nat):Int):=by omega
    have b1:(x+y+cy) % 4294967296<4294967296:=by omega
    have b2:(x+y+cy) / 4294967296≤1:=by omega
    generalize (x+y+cy) % 4294967296=m at *
    generalize (x+y+cy) / 4294967296=d at *
    generalize x+y+cy=s at *
    clear hval hblk hbl A1 A2 hX hY
    go_wp2_with fail
    refine H1.mono ?_
    rintro e w2 ⟨rfl,rfl⟩
    go_wp2_with fail
    refine H2.mono ?_
    rintro e w2 ⟨rfl,rfl⟩
    clear H1 H2
    go_wp2
    go_roundw
    case rel=>exact⟨k+1,d,out.set k m,by omega,by go_num,rfl,b2,by simp;omega,digs_set hdo _ _ b1,HB.out.set k m,HL.out.setCell (Nat.le_refl _) _,HV.out⟩
    case measure=>simp [intOf];omega
   ·have ek:k=Y.length+1:=by omega
    subst ek
    have hve:=cZ hX hY Y.length cy (by omega) (by omega) hlen hval
    have hA:=Ans.of_blk (base:=w.heap.size) (zs:=out) (Nat.le_refl _) hblk List.take_length.symm (Nat.le_refl _) (by omega) (digs_limbs hdo)
    have H:=cq w.heap.size _ _ _ (hA.arg (by omega)) hdo (by omega) (New.at _ _ _ _ _ (Nat.le_refl _))
    rw [hlen,hve] at H
    clear hval hblk hbl A1 A2 hX hY hA hve HB
    have hd1:decide ((Y.length:Int)+1≤(Y.length:Int))=false:=decide_eq_false (by omega)
    go_wp2_with fail
    refine H.mono ?_
    rintro e w2 ⟨⟨v',rfl,hnum,hnw⟩,rfl⟩
    have HN:=aa (And.intro hnum hnw)
    clear hnum hnw H
    go_wp2
    go_ret
    exact⟨⟨v',rfl,HN.out.1,HN.out.2⟩,HL.out⟩
 ·have hd0:decide ((X.length:Int)<(Y.length:Int))=false:=decide_eq_false (by omega)
  go_enter Tryz.func44,Tryz.ntmps44
  go_wp2_with (at_make;refine wpList_make_full _ rfl _ _ 26 rfl w.heap.size 63 i0 (.int .u64 0) 1 Tryz.underlying26 hi hz0 hz1 .i64 .i64 _ _ (X.length+1) rfl rfl (by omega) (by omega) (by rw [hz2];omega) (by unfold maxLen;omega) (Nat.le_refl _) ?_;intro w1 hown hgrow)
  have hb1:=Blk.made hown
  have hbel:Below w.heap.size w w1:=(Below.refl _ _).grown hgrow (Nat.le_refl _) (fun k hk=>by cases hk)
  clear hown hgrow hi hz0 hz1 hz2
  go_loopw [7,8] (fun c i wr=>∃(k cy:Nat) (out:List Nat),k≤X.length+1∧i=.int .i64 k∧c=.int .u64 cy∧cy≤1∧out.length=X.length+1∧Digs 4294967296 out∧Blk wr w.heap.size out∧Below w.heap.size w wr ∧
    vb 4294967296 (out.take k)+cy*4294967296 ^ k=vb 4294967296 (X.take k)+vb 4294967296 (Y.take k)) (fun _ i _=>X.length+1 - (intOf i).toNat)
  case atStart=>exact⟨0,0,_,Nat.zero_le _,rfl,rfl,by omega,by simp,digs_replicate (by omega) _,hb1,hbel,by simp [vb]⟩
  case round=>
   obtain⟨k,cy,out,hk,rfl,rfl,hcy,hlen,hdo,hblk,hbl,hval⟩:=hrel
   clear hb1 hbel
   have HB:=aa hblk
   have HL:=aa hbl
   by_cases hkl:k≤X.length
   ·have H1:=cf _ X k wr (A1.below hbl)
    have H2:=cf _ Y k wr (A2.below hbl)
    have hfr:=hblk.free k
    have hco:=hblk.cell k (by omega)
    generalize out.getD k 0=o at *
    have z1:=dig_lt (by omega) hX k
    have z2:=dig_lt (by omega) hY k
    have HV:=aa (vb_add_step X Y out k cy (by omega) hval)
    generalize X.getD k 0=x at *
    generalize Y.getD k 0=y at *
    have e0:(x:Int)+(y:Int)+(cy:Int)=((x+y+cy:Nat):Int):=by omega
    have b0:x+y+cy<18446744073709551616:=by omega
    have e1:((x+y+cy:Nat):Int) % 4294967296=(((x+y+cy) % 4294967296:Nat):Int):=by omega
    have e2:((x+y+cy:Nat):Int) / 4294967296=(((x+y+cy) / 4294967296:Nat):Int):=by omega
    have b1:(x+y+cy) % 4294967296<4294967296:=by omega
    have b2:(x+y+cy) / 4294967296≤1:=by omega
    generalize (x+y+cy) % 4294967296=m at *
    generalize (x+y+cy) / 4294967296=d at *
    generalize x+y+cy=s at *
    clear hval hblk hbl A1 A2 hX hY
    go_wp2_with fail
    refine H1.mono ?_
    rintro e w2 ⟨rfl,rfl⟩
    go_wp2_with fail
    refine H2.mono ?_
    rintro e w2 ⟨rfl,rfl⟩
    clear H1 H2
    go_wp2
    go_roundw
    case rel=>exact⟨k+1,d,out.set k m,by omega,by go_num,rfl,b2,by simp;omega,digs_set hdo _ _ b1,HB.out.set k m,HL.out.setCell (Nat.le_refl _) _,HV.out⟩
    case measure=>simp [intOf];omega
   ·have ek:k=X.length+1:=by omega
    subst ek
    have hve:=cZ hX hY X.length cy (by omega) (by omega) hlen hval
    have hA:=Ans.of_blk (base:=w.heap.size) (zs:=out) (Nat.le_refl _) hblk List.take_length.symm (Nat.le_refl _) (by omega) (digs_limbs hdo)
    have H:=cq w.heap.size _ _ _ (hA.arg (by omega)) hdo (by omega) (New.at _ _ _ _ _ (Nat.le_refl _))
    rw [hlen,hve] at H
    clear hval hblk hbl A1 A2 hX hY hA hve HB
    have hd1:decide ((X.length:Int)+1≤(X.length:Int))=false:=decide_eq_false (by omega)
    go_wp2_with fail
    refine H.mono ?_
    rintro e w2 ⟨⟨v',rfl,hnum,hnw⟩,rfl⟩
    have HN:=aa (And.intro hnum hnw)
    clear hnum hnw H
    go_wp2
    go_ret
    exact⟨⟨v',rfl,HN.out.1,HN.out.2⟩,HL.out⟩

theorem ir (v1 v2:Value)(x y:Nat)(w:World)(h1:Num w v1 x)(h2:Num w v2 y)(f1:blen x≤1125899906840000)(f2:blen y≤1125899906840000) :
  Calls Tryz.prog 44 #[v1,v2] w fun e w'=>(∃v',e=.returned v'∧Num w' v' (x+y))∧Below w.heap.size w w':=
 (fd v1 v2 x y w h1 h2 f1 f2).mono fun _ _ ⟨⟨v',h1,h2,_⟩,h3⟩=>⟨⟨v',h1,h2⟩,h3⟩



theorem ik (n k:Nat):(List.replicate n 0).getD k 0=0:=by
 by_cases h:k<n
 ·simp [List.getD,h]
 ·simp [List.getD,h]

theorem fh (B n:Nat):vb B (List.replicate n 0)=0:=by
 induction n with
 | zero=>rfl
 | succ n ih=>rw [List.replicate_succ,vb,ih];simp
end Go.Proofs.YteehipcoeocojaaGreatDoor
namespace Go.Proofs.YteehipcoeocojaaGreatDoor
open Lm

theorem dN (B:Nat):∀(out:List Nat) (j n z:Nat),j<n→n≤out.length→vb B ((out.set j z).take n)+B ^ j*out.getD j 0=vb B (out.take n)+B ^ j*z
 | [],j,n,z,h1,h2=>by simp at h2;omega
 | a :: r,0,n+1,z,_,_=>by
  simp only [List.set_cons_zero,List.take_succ_cons,vb,List.getD_cons_zero,Nat.pow_zero,Nat.one_mul]
  omega
 | a :: r,j+1,n+1,z,h1,h2=>by
  have ih:=dN B r j n z (by omega) (by simpa using h2)
  simp only [List.set_cons_succ,List.take_succ_cons,vb,List.getD_cons_succ]
  rw [show B ^ (j+1)=B*B ^ j by rw [Nat.pow_succ,Nat.mul_comm]]
  grind

theorem gU (B:Nat)(Y out:List Nat)(i k n x cy s V:Nat)(hk:i+k<n)(hn:n≤out.length)
  (h:vb B (out.take n)+cy*B ^ (i+k)=V+B ^ i*(x*vb B (Y.take k))) (hs:s=x*Y.getD k 0+out.getD (i+k) 0+cy) :
  vb B ((out.set (i+k) (s % B)).take n)+s / B*B ^ (i+(k+1))=V+B ^ i*(x*vb B (Y.take (k+1))):=by
 have h1:=dN B out (i+k) n (s % B) hk hn
 have h2:=Nat.mod_add_div s B
 rw [vb_take_next Y k]
 have e1:B ^ (i+(k+1))=B ^ (i+k)*B:=by rw [←Nat.add_assoc,Nat.pow_succ]
 have e2:B ^ (i+k)=B ^ i*B ^ k:=Nat.pow_add _ _ _
 rw [e1]
 rw [e2] at h h1 ⊢
 generalize out.getD (i+k) 0=o at *
 generalize Y.getD k 0=y at *
 generalize vb B (Y.take k)=U at *
 generalize vb B (out.take n)=W at *
 generalize vb B ((out.set (i+k) (s % B)).take n)=W' at *
 generalize s % B=m at *
 generalize s / B=d at *
 generalize B ^ i=I at *
 generalize B ^ k=K at *
 subst hs
 grind

theorem gA (B:Nat)(X Y out0 out:List Nat)(i x cy:Nat)(hx:x=X.getD i 0)(hn:i+Y.length<out.length)
  (h0:vb B (out0.take (i+Y.length))=vb B (X.take i)*vb B Y)
  (h:vb B (out.take (i+Y.length))+cy*B ^ (i+Y.length)=vb B (out0.take (i+Y.length))+B ^ i*(x*vb B (Y.take Y.length))) :
  vb B ((out.set (i+Y.length) cy).take (i+1+Y.length))=vb B (X.take (i+1))*vb B Y:=by
 rw [show i+1+Y.length=i+Y.length+1 by omega,vb_set_succ _ _ _ hn,vb_take_next X i,←hx]
 rw [List.take_length,h0] at h
 grind

theorem i7 (x y o cy:Nat)(hx:x<4294967296)(hy:y<4294967296)(ho:o<4294967296)(hc:cy<4294967296):x*y≤18446744065119617025∧x*y+o+cy<18446744073709551616:=by
 have:=Nat.mul_le_mul (Nat.le_sub_one_of_lt hx) (Nat.le_sub_one_of_lt hy)
 omega
end Go.Proofs.YteehipcoeocojaaGreatDoor
namespace Go.Proofs.YteehipcoeocojaaGreatDoor
open Go.RowKit
open Lm
attribute [local go_sem ↓] Go.wp_at_zero Go.wp_at_succ

theorem dP (out:List Nat)(j n z:Nat)(h:j≠n):(out.set j z).getD n 0=out.getD n 0:=by
 simp [List.getD,h]

theorem eT {ds:List Nat}(hd:Digs 4294967296 ds)(ht:tr ds=ds):ds.length*32≤blen (vb 4294967296 ds)+31:=by
 rcases Nat.eq_zero_or_pos ds.length with h|h
 ·omega
 ·obtain⟨m,hm⟩:∃m,ds.length=m+1:=⟨ds.length - 1,by omega⟩
  have h1:=blen_vb hd ht m hm
  have h2:=blen_half _ (tr_last' ds m ht hm)
  omega

theorem ju (v1 v2:Value)(x y:Nat)(w:World)(h1:Num w v1 x)(h2:Num w v2 y)(hf:blen x+blen y≤1125899906840000) :
  Calls Tryz.prog 45 #[v1,v2] w fun e w'=>(∃v',e=.returned v'∧Num w' v' (x*y))∧Below w.heap.size w w':=by
 obtain⟨X,A1,hX,hXt,rfl,_⟩:=h1
 obtain⟨Y,A2,hY,hYt,rfl,_⟩:=h2
 have lX:=eT hX hXt
 have lY:=eT hY hYt
 have lXY:X.length+Y.length≤35184372088752:=by omega
 obtain⟨a1,c1,rfl,hc1,hm1,L1⟩:=A1.form
 obtain⟨a2,c2,rfl,hc2,hm2,L2⟩:=A2.form
 obtain⟨i0,hi,hz0,hz1,hz2⟩:=info_parts Tryz.infoU
 clear hf hXt hYt lX lY A1 A2
 obtain⟨N,hN1,hN2,eN⟩:∃N,N≤X.length+Y.length+1∧X.length+Y.length+1≤N∧(X.length:Int)+(Y.length:Int)+1=(N:Int):=⟨X.length+Y.length+1,by omega,by omega,by omega⟩
 go_enter Tryz.func45,Tryz.ntmps45
 go_wp2_with (at_make;refine wpList_make_full _ rfl _ _ 26 rfl w.heap.size 63 i0 (.int .u64 0) 1 Tryz.underlying26 hi hz0 hz1 .i64 .i64 _ _ N rfl rfl (by omega) (by omega) (by rw [hz2];omega) (by unfold maxLen;omega) (Nat.le_refl _) ?_;intro w1 hown hgrow)
 have hb1:=Blk.made hown
 have hbel:Below w.heap.size w w1:=(Below.refl _ _).grown hgrow (Nat.le_refl _) (fun k hk=>by cases hk)
 clear hown hgrow hi hz0 hz1 hz2
 go_loopw [21] (fun i wr=>∃(k:Nat) (out:List Nat),k≤X.length∧i=.int .i64 k∧out.length=N∧out.getD (X.length+Y.length) 0=0∧Digs 4294967296 out∧Blk wr w.heap.size out∧Below w.heap.size w wr ∧
   vb 4294967296 (out.take (k+Y.length))=vb 4294967296 (X.take k)*vb 4294967296 Y) (fun i _=>X.length - (intOf i).toNat)
 case atStart=>exact⟨0,_,Nat.zero_le _,rfl,by simp,ik _ _,digs_replicate (by omega) _,hb1,hbel,by rw [List.take_replicate,fh];simp [vb]⟩
 case round=>
  obtain⟨k,out,hk,rfl,hlen,htop,hdo,hblk,hbl,hval⟩:=hrel
  clear hb1 hbel
  have HT:=aa htop
  by_cases hkl:k<X.length
  ·rcases L1.below hbl with h0|⟨b,off,rfl,hcell⟩
   ·rw [h0] at hkl;simp at hkl
   ·have hck:=hcell k hkl
    have z1:=dig_lt (by omega) hX k
    have HX:Hid (X.getD k 0=X.getD k 0):=rfl
    obtain⟨x,hx⟩:∃x,x=X.getD k 0:=⟨_,rfl⟩
    rw [←hx] at hck z1
    have HXX:=aa hx
    have HV:=aa hval
    have HB:=aa hblk
    have HL:=aa hbl
    have HY:=aa hY
    clear hx htop hval hblk hbl hcell L1 hX HX hY
    go_wp2
    go_loopw [8,28] (fun c i wr2=>∃(j cy:Nat) (out2:List Nat),j≤Y.length∧i=.int .i64 j∧c=.int .u64 cy∧cy<4294967296∧out2.length=N∧out2.getD (X.length+Y.length) 0=0∧Digs 4294967296 out2∧Blk wr2 w.heap.size out2∧Below w.heap.size w wr2 ∧
      vb 4294967296 (out2.take (k+Y.length))+cy*4294967296 ^ (k+j)=vb 4294967296 (out.take (k+Y.length))+4294967296 ^ k*(x*vb 4294967296 (Y.take j))) (fun _ i _=>Y.length - (intOf i).toNat)
    case atStart=>exact⟨0,0,out,Nat.zero_le _,rfl,rfl,by omega,hlen,HT.out,hdo,HB.out,HL.out,by simp [vb]⟩
    case round=>
     obtain⟨j,cy,out2,hj,rfl,rfl,hcy,hlen2,htop2,hdo2,hblk,hbl,hval2⟩:=hrel
     have HT2:=aa htop2
     clear htop2
     by_cases hjl:j<Y.length
     ·rcases L2.below hbl with h0|⟨b2,off2,rfl,hcell⟩
      ·rw [h0] at hjl;simp at hjl
      ·have hcj:=hcell j hjl
       have hbw:=af.block (L2:af w (some ⟨b2,off2,none⟩) Y) (by omega)
       have hne1:¬b2=w.heap.size:=by omega
       have hne2:¬w.heap.size=b2:=by omega
       have z2:=dig_lt (by omega) HY.out j
       have hfr:=hblk.free (k+j)
       have hco:=hblk.cell (k+j) (by omega)
       have z3:=dig_lt (by omega) hdo2 (k+j)
       obtain⟨bP,bS⟩:=i7 x (Y.getD j 0) (out2.getD (k+j) 0) cy z1 z2 z3 hcy
       have HV2:=aa (gU 4294967296 Y out2 k j (k+Y.length) x cy _ _ (by omega) (by omega) hval2 rfl)
       generalize Y.getD j 0=y at *
       generalize out2.getD (k+j) 0=o at *
       have e0:(x:Int)*(y:Int)=((x*y:Nat):Int):=by push_cast;rfl
       generalize x*y=P at *
       have e1:(P:Int)+(o:Int)=((P+o:Nat):Int):=by omega
       have b1:P+o<18446744073709551616:=by omega
       generalize P+o=S1 at *
       have e2:(S1:Int)+(cy:Int)=((S1+cy:Nat):Int):=by omega
       generalize S1+cy=S at *
       have e3:(S:Int) % 4294967296=((S % 4294967296:Nat):Int):=by omega
       have e4:(S:Int) / 4294967296=((S / 4294967296:Nat):Int):=by omega
       have bm:S % 4294967296<4294967296:=by omega
       have bd:S / 4294967296<4294967296:=by omega
       generalize S % 4294967296=m at *
       generalize S / 4294967296=d at *
       have HB2:=aa hblk
       have HL2:=aa hbl
       clear hval2 hblk hbl hcell L2 HB HL HV
       go_wp2
       go_roundw
       case rel=>exact⟨j+1,d,out2.set (k+j) m,by omega,by go_num,rfl,bd,by simp;omega,by rw [dP _ _ _ _ (by omega)];exact HT2.out,digs_set hdo2 _ _ bm,HB2.out.set (k+j) m,HL2.out.setCell (Nat.le_refl _) _,HV2.out⟩
       case measure=>simp [intOf];omega
     ·have ej:j=Y.length:=by omega
      subst ej
      have HV3:=aa (gA 4294967296 X Y out out2 k x cy HXX.out (by omega) HV.out hval2)
      have hfr:=hblk.free (k+Y.length)
      have hco:=hblk.cell (k+Y.length) (by omega)
      generalize out2.getD (k+Y.length) 0=o at *
      have HB2:=aa hblk
      have HL2:=aa hbl
      clear hval2 hblk hbl L2 HB HL HV
      go_wp2
      go_roundw
      case rel=>exact⟨k+1,out2.set (k+Y.length) cy,by omega,by go_num,by simp;omega,by rw [dP _ _ _ _ (by omega)];exact HT2.out,digs_set hdo2 _ _ hcy,HB2.out.set _ cy,HL2.out.setCell (Nat.le_refl _) _,HV3.out⟩
      case measure=>simp [intOf];omega
  ·have ek:k=X.length:=by omega
   subst ek
   have hA:=Ans.of_blk (base:=w.heap.size) (zs:=out) (Nat.le_refl _) hblk List.take_length.symm (Nat.le_refl _) (by omega) (digs_limbs hdo)
   have H:=ew _ _ _ (hA.arg (by omega)) hdo (by omega)
   have HL:=aa hbl
   have hve:vb 4294967296 out=vb 4294967296 X*vb 4294967296 Y:=by
    rw [List.take_length] at hval
    rw [←hval,←bB (X.length+Y.length+1) (by omega:out.length≤_),vb_take_next,htop];simp
   rw [hlen,hve] at H
   clear hval hblk hbl hX hY hA hve L1 L2
   go_wp2_with fail
   refine H.mono ?_
   rintro e w2 ⟨⟨v',rfl,hnum⟩,rfl⟩
   have HN:=aa hnum
   clear hnum H
   go_wp2
   go_ret
   exact⟨⟨v',rfl,HN.out⟩,HL.out⟩
end Go.Proofs.YteehipcoeocojaaGreatDoor
namespace Go.Proofs.YteehipcoeocojaaGreatDoor
open Lm
end Go.Proofs.YteehipcoeocojaaGreatDoor
namespace Go.Proofs.YteehipcoeocojaaGreatDoor
open Go.RowKit
open Lm
attribute [local go_sem ↓] Go.wp_at_zero Go.wp_at_succ

theorem dB (c:Nat)(w:World)(hc:c<9223372036854775808):Calls Tryz.prog 35 #[.int .i64 c] w fun e w'=>(∃v,e=.returned v∧Num w' v c)∧Below w.heap.size w w':=by
 have hA:=Arg.lits w [c] #[.int .u64 (c:Int)] 1 rfl rfl (by intro z hz;simp at hz;omega) (by simp)
 have hb:Below w.heap.size w (w.alloc (.cells #[.int .u64 (c:Int)] 63)):=(Below.refl _ _).alloc (Nat.le_refl _) _
 have HO:=iq _ [c] _ hA (by simp)
 rw [show val [c]=c by simp [val]] at HO
 have HB:=aa hb
 clear hA hb
 go_enter Tryz.func35,Tryz.ntmps35
 go_wp2_with fail
 refine HO.mono ?_
 rintro e w2 ⟨⟨v,rfl,N⟩,hb2⟩
 have HX:=aa (And.intro N (HB.out.trans (hb2.mono HB.out.size)))
 clear N hb2 HO
 go_wp2
 go_ret
 exact⟨⟨v,rfl,HX.out.1⟩,HX.out.2⟩

theorem jM:(Tryz.prog.info? 3).map (fun i=>(i.zero,i.size,i.bytes))=some (some (.int .i64 0),1,8):=by kernel_rfl

def IRz (w:World)(v:Value)(L:List Int):Prop:=∃a c,v=.slice a L.length c∧L.length≤c∧c≤9223372036854775807∧(∀i,-9223372036854775808≤L.getD i 0∧L.getD i 0≤9223372036854775807)∧(L=[]∨∃g off,a=some ⟨g,off,none⟩∧g<w.heap.size∧∀i,i<L.length→w.cell? ⟨g,off+i,none⟩=some (.int .i64 (L.getD i 0)))

theorem IRz.below {w w':World}{v:Value}{L:List Int}(h:IRz w v L)(hb:Below w.heap.size w w'):IRz w' v L:=by
 obtain⟨a,c,h1,h2,h3,h0,h4⟩:=h
 refine⟨a,c,h1,h2,h3,h0,?_⟩
 rcases h4 with h4|⟨g,off,h5,h6,h7⟩
 ·exact .inl h4
 ·exact .inr ⟨g,off,h5,Nat.lt_of_lt_of_le h6 hb.size,fun i hi=>by rw [hb.cell (p:=⟨g,off+i,none⟩) h6];exact h7 i hi⟩

theorem ia (gs i:Nat)(v:Value)(L:List Int)(w:World)(h:w.cell? ⟨gs,0,none⟩=some v)(hv:IRz w v L)(hi:i<L.length) :
  Calls Tryz.prog 43 #[.int .i64 i,.pointer (some ⟨gs,0,none⟩)] w fun e w'=>e=.returned (.int .i64 (L.getD i 0))∧w'=w:=by
 obtain⟨a,c,rfl,h2,h3,h0,h4⟩:=hv
 rcases h4 with h4|⟨g,off,rfl,h6,h7⟩
 ·rw [h4] at hi;simp at hi
 ·have hc:=h7 i hi
  have hb:=h0 i
  have hi0:(0:Int)≤(i:Int):=by omega
  have hi1:(i:Int)<(L.length:Int):=by omega
  clear h7 h0
  generalize L.getD i 0=z at *
  go_enter Tryz.func43,Tryz.ntmps43
  go_wp2
  go_ret
  exact⟨rfl,rfl⟩

theorem iz (a:Option Addr)(n c:Nat)(b:Int)(w:World)(h:b<2∨36<b) :
  Calls Tryz.prog 23 #[.int .i64 b,.slice a n c] w fun e w'=>e=.returned (.tuple #[.slice none 0 0,.int .i64 50])∧Below w.heap.size w w':=by
 have HB:=aa (ac w (.cells #[.slice a n c] 33))
 have HI:=gk b (w.alloc (.cells #[.slice a n c] 33)) h
 clear h
 go_enter Tryz.func23,Tryz.ntmps23
 go_wp2_with fail
 refine HI.mono ?_
 rintro e wn ⟨rfl,hw⟩;rw [hw];clear hw wn HI
 go_wp2
 go_ret2
 exact⟨rfl,HB.out⟩

theorem cS (v:Value)(L:List Int)(b:Nat)(w:World)(hT:Tab w)(hv:IRz w v L)(hb:2≤b)(hb2:b≤36)(hn:L.length≤140737488351232) :
  Calls Tryz.prog 23 #[.int .i64 b,v] w (bM b L.length (fun i=>L.getD i 0) w):=by
 obtain⟨a,c,e1,_⟩:=id hv
 have hv':IRz w (.slice a L.length c) L:=by rw [←e1];exact hv
 rw [e1]
 obtain⟨w0,hw0⟩:∃w0,w.alloc (.cells #[.slice a L.length c] 33)=w0:=⟨_,rfl⟩
 have hb0:Below w.heap.size w w0:=by rw [←hw0];exact ac _ _
 have cs:w0.cell? ⟨w.heap.size,0,none⟩=some (.slice a L.length c):=aX (by rw [←hw0];exact heap_alloc_new ..)
 have HI:=f9 b w0 hb hb2
 have FN:=gf (.pointer (some ⟨w.heap.size,0,none⟩)) b L.length (fun i=>L.getD i 0) w0 (hT.below hb0) hb hb2 hn (fun i hi W hW=>ia w.heap.size i _ L W (aA hW cs) ((hv'.below hb0).below hW) hi) (fun W D k ao cc h1 h2 h3 h4 h5 h6=>iy b L.length w0.heap.size W D k ao cc hb hb2 (by omega) h1 h2 h3 h4 h5 h6)
 have HW0:=aa hw0
 have HB0:=aa hb0
 clear hT hw0 hb0 hv hv' e1
 go_enter Tryz.func23,Tryz.ntmps23
 go_wp2_with fail
 rw [HW0.out]
 refine HI.mono ?_
 rintro e wn ⟨rfl,hw⟩;rw [hw];clear hw wn HI
 go_wp2_with fail
 refine FN.mono ?_
 rintro e w1 hD
 have hD:=hD.up HB0.out
 obtain⟨v,c,e2⟩:∃v c,e=.returned (.tuple #[v,.int .i64 c]):=by
  rcases hD.2 with ⟨_,_,_,he⟩|⟨_,_,_,v,c,_,he,_⟩
  ·exact⟨_,_,he⟩
  ·exact⟨_,_,he⟩
 subst e2
 have HD:=aa hD
 clear FN hD
 go_wp2
 go_ret2
 exact HD.out

def gN (b:Nat)(L:List Int)(w:World)(e:Ending)(w':World):Prop:=
 Below w.heap.size w w'∧((∃i,i<L.length∧(L.getD i 0<0∨(b:Int)≤L.getD i 0)∧e=.returned (.tuple #[.slice none 0 0,.int .i64 51])) ∨
  (∃(D:List Nat) (v:Value),D.length=L.length∧(∀i,i<L.length→((D.getD i 0:Nat):Int)=L.getD i 0∧D.getD i 0<b)∧e=.returned (.tuple #[v,.int .i64 0])∧Num w' v (dvr b D 0 L.length)))

theorem f6 (v:Value)(b:Int)(w:World)(h:b<2∨36<b) :
  Calls Tryz.prog 24 #[.int .i64 b,v] w fun e w'=>e=.returned (.tuple #[.slice none 0 0,.int .i64 50])∧w'=w:=by
 by_cases h1:b<2
 ·clear h
  go_enter Tryz.func24,Tryz.ntmps24
  go_wp2
  go_ret2
  exact⟨rfl,rfl⟩
 ·have h2:36<b:=by omega
  clear h
  go_enter Tryz.func24,Tryz.ntmps24
  go_wp2
  go_ret2
  exact⟨rfl,rfl⟩

theorem fC (x y:Nat):blen (x*y)≤blen x+blen y:=by
 refine (blen_le_iff _ _).2 ?_
 have h1:=(blen_le_iff x _).1 (Nat.le_refl _)
 have h2:=(blen_le_iff y _).1 (Nat.le_refl _)
 rw [Nat.pow_add]
 exact Nat.mul_lt_mul_of_lt_of_lt h1 h2

theorem jE {b:Nat}{D:List Nat}{k:Nat}(hb:2≤b)(hb2:b≤36)(hd:∀i,i<k→D.getD i 0<b):blen (dvr b D 0 k)≤6*k:=by
 rcases Nat.eq_zero_or_pos k with h|h
 ·subst h;simp [dvr,blen]
 ·have h1:=bN b D 0 (by omega) k (fun i hi=>by rw [Nat.zero_add];exact hd i hi)
  exact Nat.le_trans (bn (Nat.le_of_lt h1)) (gQ hb2 h)

theorem cF (v:Value)(L:List Int)(b:Nat)(w:World)(hv:IRz w v L)(hb:2≤b)(hb2:b≤36)(hn:L.length≤140737488351232) :
  Calls Tryz.prog 24 #[.int .i64 b,v] w (gN b L w):=by
 have HV:=aa hv
 obtain⟨a,c,rfl,h2,h3,h0,h4⟩:=hv
 obtain⟨D,hD⟩:∃D,D=L.map Int.toNat:=⟨_,rfl⟩
 have hDl:D.length=L.length:=by rw [hD];simp
 have hDg:∀i,D.getD i 0=(L.getD i 0).toNat:=by
  intro i
  rw [hD]
  rcases Nat.lt_or_ge i L.length with h|h
  ·simp [List.getD,h]
  ·simp [List.getD,h]
 have HDL:=aa (And.intro hDl hDg)
 have H4:=aa h4
 have H0:=aa h0
 clear hD hDl hDg h4 h0
 have hi36:¬(36<(b:Int)):=by omega
 have hi2:¬((b:Int)<2):=by omega
 go_enter Tryz.func24,Tryz.ntmps24
 go_wp2
 go_loop [20] (fun i=>∃k:Nat,k≤L.length∧i=.int .i64 k∧∀j,j<k→0≤L.getD j 0∧L.getD j 0<(b:Int)) (fun i=>L.length - (intOf i).toNat)
 case atStart=>exact⟨0,Nat.zero_le _,rfl,fun j hj=>by omega⟩
 case round=>
  obtain⟨k,hk,rfl,hok⟩:=hrel
  have HOK:=aa hok
  clear hok
  by_cases hkn:k<L.length
  ·rcases H4.out with h4|⟨g,off,rfl,hg,hc⟩
   ·rw [h4] at hkn;simp at hkn
   ·have hck:=hc k hkn
    have hbk:=H0.out k
    obtain⟨z,hz⟩:∃z,L.getD k 0=z:=⟨_,rfl⟩
    rw [hz] at hck hbk
    have HZ:=aa hz
    clear hz hc
    have hk1:(k:Int)<(L.length:Int):=by omega
    by_cases hz0:z<0
    ·go_wp2
     go_ret2
     exact⟨Below.refl _ _,.inl ⟨k,hkn,.inl (by rw [HZ.out];exact hz0),rfl⟩⟩
    ·by_cases hzb:(b:Int)≤z
     ·go_wp2
      go_ret2
      exact⟨Below.refl _ _,.inl ⟨k,hkn,.inr (by rw [HZ.out];exact hzb),rfl⟩⟩
     ·go_wp2
      go_round
      case rel=>
       refine⟨k+1,by omega,by go_num,fun j hj=>?_⟩
       rcases Nat.lt_or_ge j k with h|h
       ·exact HOK.out j h
       ·obtain rfl:j=k:=by omega
        rw [HZ.out]
        omega
      case measure=>simp [intOf];omega
  ·have hkk:¬((k:Int)<(L.length:Int)):=by omega
   have HOK2:Hid (∀j,j<L.length→((D.getD j 0:Nat):Int)=L.getD j 0∧D.getD j 0<b):=aa (fun j hj=>by
    have h:=HOK.out j (by omega)
    rw [HDL.out.2 j]
    omega)
   have C1:=dB b w (by omega)
   clear HOK
   go_wp2_with fail
   refine C1.mono ?_
   rintro e w1 ⟨⟨vb,rfl,hNb⟩,hb1⟩
   have HNb:=aa hNb
   have HB1:=aa hb1
   clear C1 hNb hb1
   go_wp2
   go_loopw [8,36] (fun o i wr=>∃(k:Nat) (vo:Value),k≤L.length∧vo=o∧i=.int .i64 k∧Num wr vo (dvr b D 0 k)∧Below w1.heap.size w1 wr) (fun _ i _=>L.length - (intOf i).toNat)
   case atStart=>exact⟨0,_,Nat.zero_le _,rfl,rfl,Num.nil _,Below.refl _ _⟩
   case round=>
    obtain⟨k,vo,hk,rfl,rfl,hNo,hbr⟩:=hrel
    by_cases hkn:k<L.length
    ·rcases H4.out with h4|⟨g,off,rfl,hg,hc⟩
     ·rw [h4] at hkn;simp at hkn
     ·have hB:=bt5 HB1.out hbr
      have hck:=hc k hkn
      rw [←hB.cell (p:=⟨g,off+k,none⟩) hg] at hck
      obtain⟨hz,hzb⟩:=HOK2.out k hkn
      rw [←hz] at hck
      have hbl:=jE (k:=k) hb hb2 (fun i hi=>(HOK2.out i (by omega)).2)
      have hbb:blen b≤6:=(blen_le_iff _ _).2 (by omega)
      have hbm:blen (dvr b D 0 k*b)≤1125899906840000:=by
       have h:=fC (dvr b D 0 k) b
       omega
      have C2:=ju vo vb _ b wr hNo (HNb.out.below hbr) (by omega)
      have hst:dvr b D 0 k*b+D.getD k 0=dvr b D 0 (k+1):=by rw [dvr,Nat.zero_add]
      obtain⟨d,hd⟩:∃d,D.getD k 0=d:=⟨_,rfl⟩
      rw [hd] at hck hst hzb
      have hbd:blen d≤6:=(blen_le_iff _ _).2 (by omega)
      have HST:=aa hst
      have HBM:=aa hbm
      have HBR:=aa hbr
      have hk1:(k:Int)<(L.length:Int):=by omega
      have hk0:(0:Int)≤(k:Int):=by omega
      clear hc hz hd hst hbl hbm hNo hbr hB
      go_wp2_with fail
      refine C2.mono ?_
      rintro e w2 ⟨⟨v2,rfl,hN2⟩,hb2'⟩
      have C3:=dB d w2 (by omega)
      have HN2:=aa hN2
      have HB2:=aa (bt5 HBR.out hb2')
      clear C2 hN2 hb2'
      go_wp2_with fail
      refine C3.mono ?_
      rintro e w3 ⟨⟨v3,rfl,hN3⟩,hb3⟩
      have C4:=ir v2 v3 _ d w3 (HN2.out.below hb3) hN3 HBM.out (by omega)
      rw [HST.out] at C4
      have HB3:=aa (bt5 HB2.out hb3)
      clear C3 hN3 hb3 hck
      go_wp2_with fail
      refine C4.mono ?_
      rintro e w4 ⟨⟨v4,rfl,hN4⟩,hb4⟩
      have HN4:=aa hN4
      have HB4:=aa (bt5 HB3.out hb4)
      clear C4 hN4 hb4
      go_wp2
      go_roundw
      case rel=>exact⟨k+1,v4,by omega,rfl,by go_num,HN4.out,HB4.out⟩
      case measure=>simp [intOf];omega
    ·have ek:k=L.length:=by omega
     have hkk:¬((k:Int)<(L.length:Int)):=by omega
     have HF:=aa (And.intro hNo (bt5 HB1.out hbr))
     clear hNo hbr
     go_wp2
     go_ret2
     refine⟨HF.out.2,.inr ⟨D,vo,HDL.out.1,HOK2.out,rfl,?_⟩⟩
     have h:=HF.out.1
     rw [ek] at h
     exact h

def iz5 (z:Int):Value:=.int .i64 z

theorem IRz.own {w:World}{base:Nat}{v:Value}{L:List Int}(h:w.ownsRow base 3 1 v L.length (L.map iz5))(hL:∀i,-9223372036854775808≤L.getD i 0∧L.getD i 0≤9223372036854775807):IRz w v L:=by
 obtain⟨h1,h2⟩:=h
 rcases h2 with ⟨rfl,h3⟩|⟨g,cap,cur,rfl,hge,hh,hle,hml,hsz,htk⟩
 ·obtain rfl:=List.length_eq_zero_iff.1 h3
  exact⟨none,0,rfl,Nat.le_refl _,by omega,hL,.inl rfl⟩
 ·refine⟨_,cap,rfl,hle,by have:maxLen=9223372036854775807:=rfl;omega,hL,.inr ⟨g,0,rfl,lt_of_block hh,fun i hi=>?_⟩⟩
  have e:(L.map iz5)[i]?=cur.toList[i]?:=by rw [←htk,List.getElem?_take,if_pos (by omega)]
  have e2:w.cell? ⟨g,i,none⟩=(L.map iz5)[i]?:=by rw [e];simp [World.cell?,hh]
  rw [Nat.zero_add,e2,List.getElem?_map,List.getElem?_eq_getElem hi]
  simp [iz5,List.getD,hi]

theorem gm (va vx:Value)(rs:List Nat)(x:Nat)(w:World)(hA:Arg w va rs)(hN:Num w vx x)(hv:val rs=x)(ht:tr rs=rs)(hx:blen x≤67108864) :
  Calls Tryz.prog 21 #[va,.int .i64 0,vx,.int .i64 0] w fun e w'=>e=.returned (.bool true)∧Below w.heap.size w w':=by
 have C1:=eY vx x w hN
 have C2:=iR vx va x rs w hN hA ht hv (by omega)
 obtain⟨l,hl⟩:∃l,blen x=l:=⟨_,rfl⟩
 rw [hl] at C1 hx
 have hl2:¬((67108864:Int)<(l:Int)):=by omega
 have hl3:decide ((67108864:Int)<(l:Int))=false:=decide_eq_false hl2
 clear hA hN hv ht hl
 go_enter Tryz.func21,Tryz.ntmps21
 go_wp2_with fail
 refine C1.mono ?_
 rintro e wn ⟨rfl,hw⟩;rw [hw];clear hw wn C1
 go_wp2_with fail
 refine C2.mono ?_
 rintro e w2 ⟨rfl,hb2⟩
 have HB:=aa hb2
 clear C2 hb2
 go_wp2
 go_ret
 exact⟨rfl,HB.out⟩

theorem dR {b:Nat}{D E:List Nat}:∀ {n:Nat},(∀i,i<n→D.getD i 0=E.getD i 0)→dvr b D 0 n=dvr b E 0 n
 | 0,_=>rfl
 | n+1,h=>by rw [dvr,dvr,dR (fun i hi=>h i (by omega)),Nat.zero_add,h n (by omega)]

theorem dj (w:World)(z:Nat)(hz:z<18446744073709551616):Arg (w.alloc (.cells #[.int .u64 (z:Int)] 63)) (.slice (some ⟨w.heap.size,0,none⟩) 1 1) [z]:=by
 have hb:Blk (w.alloc (.cells #[.int .u64 (z:Int)] 63)) w.heap.size [z]:=by
  unfold Blk
  rw [heap_alloc_new]
  rfl
 exact⟨⟨_,_,rfl,Nat.le_refl _,by simp,.inr ⟨_,0,rfl,fun k hk=>by rw [Nat.zero_add];exact hb.cell k hk⟩⟩,by intro y hy;simp at hy;omega,by simp,fun n c e=>by cases e⟩

theorem dc (w:World)(hT:Tab w):Calls Tryz.prog 18 #[] w fun e w'=>e=.returned (.bool true)∧Below w.heap.size w w':=by
 obtain⟨w0,hw0⟩:∃w0,w.alloc (.cells #[.int .u64 255] 63)=w0:=⟨_,rfl⟩
 have hb0:Below w.heap.size w w0:=by rw [←hw0];exact ac _ _
 have hA:Arg w0 (.slice (some ⟨w.heap.size,0,none⟩) 1 1) [255]:=by
  rw [←hw0]
  exact dj w 255 (by omega)
 have FP:=iE _ [255] w0 hA (hT.below hb0) (by decide) rfl
 have HW0:=aa hw0
 have HB0:=aa hb0
 have HT:=aa hT
 clear hT hw0 hb0 hA
 go_enter Tryz.func18,Tryz.ntmps18
 go_wp2_with fail
 rw [HW0.out]
 refine FP.mono ?_
 rintro e w1 ⟨rfl,hb1⟩
 have HB1:=aQ HB0 hb1
 have FR:=jO w1 (HT.out.below HB1.out)
 clear FP hb1
 go_wp2_with fail
 refine FR.mono ?_
 rintro e w2 ⟨⟨v,rfl,hA⟩,hb2⟩
 have HB2:=aQ HB1 hb2
 obtain⟨ao,n,cap,rfl⟩:=hA.slice
 have hn:n=1:=by
  rcases hA.form with ⟨_,e⟩|⟨g,c,e,_⟩
  ·cases e
  ·injection e
 subst hn
 obtain⟨w3,hw3⟩:∃w3,w2.alloc (.cells #[.int .u64 255] 63)=w3:=⟨_,rfl⟩
 have hb3:Below w2.heap.size w2 w3:=by rw [←hw3];exact ac _ _
 have hA3:Arg w3 (.slice (some ⟨w2.heap.size,0,none⟩) 1 1) [255]:=by
  rw [←hw3]
  exact dj w2 255 (by omega)
 have FC:=dF _ _ [255] [255] w3 ((hA.below hb3).arg (by simp)) hA3
 rw [cmpN_self] at FC
 have HB3:=aQ HB2 hb3
 have HW3:=aa hw3
 clear FR hA hb2 hb3 hw3 hA3
 go_wp2_with fail
 rw [HW3.out]
 refine FC.mono ?_
 rintro e w4 ⟨rfl,hsm⟩
 have HB4:=aQ HB3 (hsm.below w3.heap.size)
 clear FC hsm
 go_wp2
 go_ret
 exact⟨rfl,HB4.out⟩
end Go.Proofs.YteehipcoeocojaaGreatDoor

