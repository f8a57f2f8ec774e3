/- Package numeral: top, the highest bits of a number. -/
import Derived.Test.YtiagnfghnfhlnaaGreatDoorB09
import Derived.Test.YtiagnfghnfhlnaaGreatDoorB08
import Derived.Deep.RegionHeld3
import Derived.Laws.IdiomStrings
import Derived.Laws.Cells
import Derived.Test.YtiagnfghnfhlnaaGreatDoorB02
import Derived.Test.YtiagnfghnfhlnaaGreatDoorB01
import Derived.Test.YtiagnfghnfhlnaaGreatDoorB03
import Derived.Handy
import Derived.Test.YtiagnfghnfhlnaaGreatDoorB07
import Derived.Test.YtiagnfghnfhlnaaGreatDoorB05
set_option maxRecDepth 20000
set_option maxHeartbeats 4000000
namespace Go.Proofs.YtiagnfghnfhlnaaGreatDoor
open Go.RowKit
open Lm
attribute [local go_sem ↓] Go.wp_at_zero Go.wp_at_succ

theorem fw {X:List Nat}(h:Limbs X)(l:Nat)(hl:l<X.length):val X / 18446744073709551616 ^ l=X.getD l 0+18446744073709551616*(val X / 18446744073709551616 ^ (l+1)):=by
 have h1:X.getD l 0=val X / 18446744073709551616 ^ l % 18446744073709551616:=by
  revert l
  induction X with
  | nil=>intro l hl;simp at hl
  | cons a r ih=>
   intro l hl
   have ha:a<18446744073709551616:=h a (List.mem_cons_self ..)
   have hr:Limbs r:=fun z hz=>h z (List.mem_cons_of_mem _ hz)
   cases l with
   | zero=>simp [val];omega
   | succ l=>
    have:=ih hr l (by simpa using hl)
    simp only [List.getD_cons_succ,val]
    rw [this,Nat.pow_succ,Nat.mul_comm (18446744073709551616 ^ l),←Nat.div_div_eq_div_mul]
    congr 2
    omega
 rw [h1,Nat.pow_succ,←Nat.div_div_eq_div_mul]
 omega

theorem jN (x u s:Nat)(hs:s≤64):(x+18446744073709551616*u) / 2 ^ s=x / 2 ^ s+u*2 ^ (64 - s):=by
 have e:18446744073709551616*u=2 ^ s*(u*2 ^ (64 - s)):=by
  rw [Nat.mul_left_comm,←Nat.pow_add,show s+(64 - s)=64 by omega,Nat.mul_comm]
 rw [e,Nat.add_mul_div_left _ _ (Nat.pow_pos (by omega))]

theorem lp (h s l U:Nat)(hs:s≤64)(hl:l<2 ^ s)(hh:h*2 ^ s<18446744073709551616)(hU:U=h*2 ^ s+l):bits BinOp.or IntKind.u64 (l:Int) ((h*2 ^ s:Nat):Int)=(U:Int):=by
 have hll:l<18446744073709551616:=Nat.lt_of_lt_of_le hl (by rw [show (18446744073709551616:Nat)=2 ^ 64 from rfl];exact Nat.pow_le_pow_right (by omega) hs)
 rw [bits_or_u64_nat _ _ hll hh,Nat.or_comm,hU,Nat.mul_comm h,Nat.two_pow_add_eq_or_of_lt hl]

theorem kb (va:Value)(X:List Nat)(w:World)(hA:Arg w va X)(hL:64<blen (val X)) :
  Calls Tryz.prog 100 #[va] w fun e w'=>∃m f:Nat,e=.returned (.agg #[.int .u64 m,.int .i64 ((f:Int) - 63)])∧Top (val X) m f∧f+1=blen (val X)∧Below w.heap.size w w':=by
 have HL:=fun W (hA:Arg W va X)=>az va X W hA
 obtain⟨ao,cap,rfl,hc,hm,hli⟩:=hA.form
 have hlim:=hA.limbs
 have hfew:=hA.few
 have hv:=val_lt hlim
 obtain⟨L,hLe⟩:∃L,blen (val X)=L:=⟨_,rfl⟩
 have hup:val X<2 ^ L:=(blen_le_iff _ _).1 (by omega)
 have hlo:2 ^ (L - 1)≤val X:=by
  rcases Nat.lt_or_ge (val X) (2 ^ (L - 1)) with h|h
  ·have:=(blen_le_iff _ _).2 h;omega
  ·exact h
 have htop:=Top.of hlo hup (by omega)
 have hLX:L≤64*X.length:=by rw [←hLe];exact (blen_le_iff _ _).2 (by rw [Nat.pow_mul];exact hv)
 rw [hLe]
 simp only [hLe] at HL
 rw [hLe] at hL
 obtain⟨l,s,hls,hs⟩:∃l s,L - 64=64*l+s∧s<64:=⟨(L - 64) / 64,(L - 64) % 64,by omega,by omega⟩
 have hll:l<X.length:=by omega
 have hdiv:val X / 2 ^ (L - 64)=(X.getD l 0+18446744073709551616*(val X / 18446744073709551616 ^ (l+1))) / 2 ^ s:=by
  rw [hls,Nat.pow_add,←Nat.div_div_eq_div_mul,Nat.pow_mul,←fw hlim l hll]
 rw [jN _ _ _ (by omega)] at hdiv
 have hx0:=limb_lt hlim l
 have hnext:s≠0→l+1<X.length∧val X / 18446744073709551616 ^ (l+1)=X.getD (l+1) 0∧X.getD (l+1) 0*2 ^ (64 - s)<18446744073709551616:=by
  intro h0
  have hl1:l+1<X.length:=by omega
  have hu:=fw hlim (l+1) hl1
  have hb:=htop.high
  rw [hdiv] at hb
  have hu2:val X / 18446744073709551616 ^ (l+1)*2 ^ (64 - s)<18446744073709551616:=Nat.lt_of_le_of_lt (Nat.le_add_left _ _) hb
  have hu3:val X / 18446744073709551616 ^ (l+1)<18446744073709551616:=by
   have:val X / 18446744073709551616 ^ (l+1)*1≤val X / 18446744073709551616 ^ (l+1)*2 ^ (64 - s):=Nat.mul_le_mul_left _ (Nat.pow_pos (by omega))
   omega
  have hu4:val X / 18446744073709551616 ^ (l+1)=X.getD (l+1) 0:=by omega
  refine⟨hl1,hu4,?_⟩
  rw [←hu4];exact hu2
 obtain⟨W,hW⟩:∃W,w.alloc (.cells #[.int .u64 0,.int .i64 0] 114)=W:=⟨_,rfl⟩
 have hbW:Below w.heap.size w W:=by rw [←hW];exact an _ _
 have HLW:=HL W (hA.below hbW)
 obtain⟨b,off,rfl,hcell⟩:∃b off,ao=some ⟨b,off,none⟩∧∀k,k<X.length→W.cell? ⟨b,off+k,none⟩=some (.int .u64 ((X.getD k 0:Nat):Int)):=by
  rcases hli.below hbW with h|h
  ·rw [h] at hll;simp at hll
  ·exact h
 have hc0:=hcell l hll
 have hbox:W.heap[w.heap.size]?=some (.cells #[.int .u64 0,.int .i64 0] 114):=by rw [←hW];exact heap_alloc_new ..
 obtain⟨d0,d1⟩:=aF hbox
 have hfz:=cS hbox
 obtain⟨E,hE,hE2⟩:∃E:Nat,(L:Int) - 64=(E:Int)∧L - 64=E:=⟨L - 64,by omega,rfl⟩
 have hq:(E:Int) / 64=(l:Int):=by omega
 have hr:(E:Int) % 64=(s:Int):=by omega
 have hq':(E:Int).tdiv 64=(l:Int):=by rw [Int.tdiv_eq_ediv_of_nonneg (by omega)];exact hq
 have hr':(E:Int).tmod 64=(s:Int):=by rw [Int.tmod_eq_emod_of_nonneg (by omega)];exact hr
 have hsh:((X.getD l 0:Nat):Int) / 2 ^ s=((X.getD l 0 / 2 ^ s:Nat):Int):=by rw [Int.natCast_ediv,Int.natCast_pow];rfl
 have hs0:(0:Int)≤(s:Int):=by omega
 have hs64:(s:Int)<64:=by omega
 have hl0:(0:Int)≤(l:Int):=by omega
 have hlX:(l:Int)<(X.length:Int):=by omega
 have hfx:((L - 64+63:Nat):Int) - 63=(E:Int):=by omega
 have HT:=aa htop
 have HB:=aa hbW
 have HBox:=aa hbox
 have hxs:X.getD l 0 / 2 ^ s<18446744073709551616:=Nat.lt_of_le_of_lt (Nat.div_le_self _ _) hx0
 by_cases hz:s=0
 ·subst hz
  rw [Nat.pow_zero,Nat.div_one,Nat.sub_zero,show (2:Nat) ^ 64=18446744073709551616 from rfl] at hdiv
  have hM:val X / 2 ^ (L - 64)=X.getD l 0:=by have hb:=htop.high;omega
  rw [hM] at htop
  have HM:=aa htop
  clear htop HT hM hdiv hnext hcell hbox hbW hA hli HL hup hlo hlim hv
  generalize X.getD l 0=M at *
  have R5:=cG HBox.out (a':=.int .u64 M) (b':=.int .i64 (E:Int))
  have HD:=aa (cE HB.out (g:=w.heap.size) (u0:=.int .u64 M) (u1:=.int .i64 (E:Int)) (Nat.le_refl _))
  go_enter Tryz.func100,Tryz.ntmps100
  go_wp2_with fail
  refine HLW.mono ?_
  rintro e wn ⟨rfl,hw⟩;rw [hw];clear hw wn HLW
  go_wp2
  generalize (W.setCell ⟨w.heap.size,0,none⟩ (.int .u64 M)).setCell ⟨w.heap.size,1,none⟩ (.int .i64 (E:Int))=w8 at *
  obtain⟨q0,q1⟩:=aF R5
  refine bodyPost_ret (v:=.agg #[.int .u64 M,.int .i64 (E:Int)]) (by simp [results,Tryz.results100,go_sem,q0,q1]) rfl ?_
  exact⟨M,L - 64+63,by rw [hfx],HM.out,by omega,HD.out⟩
 ·obtain⟨hl1,hu,hfit⟩:=hnext hz
  have hc1:=hcell (l+1) hl1
  rw [hu] at hdiv
  have hor:=lp (X.getD (l+1) 0) (64 - s) (X.getD l 0 / 2 ^ s) (val X / 2 ^ (L - 64)) (by omega) ((Nat.div_lt_iff_lt_mul (Nat.pow_pos (by omega))).2 (by rw [←Nat.pow_add,show 64 - s+s=64 by omega];exact hx0)) hfit (by rw [hdiv];omega)
  have hwr:=bP (X.getD (l+1) 0) (64 - s) (X.getD (l+1) 0*2 ^ (64 - s)) (Nat.mod_eq_of_lt hfit)
  obtain⟨t,ht⟩:∃t:Nat,64 - s=t:=⟨_,rfl⟩
  have hti:(64:Int) - (s:Int)=(t:Int):=by omega
  have htn:t<64:=by omega
  have hgt:(0:Int)<(s:Int):=by omega
  rw [ht] at hor hwr
  have HM:=aa htop
  clear htop HT hdiv hnext hcell hbox hbW hA hli HL hup hlo hlim hv hu hfit
  have hl1':(l:Int)+1<(X.length:Int):=by omega
  generalize val X / 2 ^ (L - 64)=M at *
  generalize X.getD (l+1) 0*2 ^ t=z at *
  generalize X.getD (l+1) 0=x1 at *
  generalize X.getD l 0 / 2 ^ s=y at *
  generalize X.getD l 0=x0 at *
  have R5:=cG HBox.out (a':=.int .u64 M) (b':=.int .i64 (E:Int))
  have HD:=aa (cE HB.out (g:=w.heap.size) (u0:=.int .u64 M) (u1:=.int .i64 (E:Int)) (Nat.le_refl _))
  go_enter Tryz.func100,Tryz.ntmps100
  go_wp2_with fail
  refine HLW.mono ?_
  rintro e wn ⟨rfl,hw⟩;rw [hw];clear hw wn HLW
  go_wp2
  generalize (W.setCell ⟨w.heap.size,0,none⟩ (.int .u64 M)).setCell ⟨w.heap.size,1,none⟩ (.int .i64 (E:Int))=w8 at *
  obtain⟨q0,q1⟩:=aF R5
  refine bodyPost_ret (v:=.agg #[.int .u64 M,.int .i64 (E:Int)]) (by simp [results,Tryz.results100,go_sem,q0,q1]) rfl ?_
  exact⟨M,L - 64+63,by rw [hfx],HM.out,by omega,HD.out⟩

theorem lk (b n m f a lm E:Nat)(c1 c2 c3:Value)(w:World)(hp:Pw b n m f)(ht:Top a lm E)(hn:n≤1125899906842624)
  (HS:∀W,Below w.heap.size w W→Calls Tryz.prog 103 #[c1,c2,c3] W fun e w'=>e=.returned (.bool (decide (b ^ n≤a)))∧Below W.heap.size W w') :
  Calls Tryz.prog 101 #[.agg #[.int .u64 m,.int .i64 ((f:Int) - 63)],.int .i64 n,.agg #[.int .u64 lm,.int .i64 ((E:Int) - 63)],.func (.func 103) #[] #[c1,c2,c3]] w fun e w'=>e=.returned (.bool (decide (b ^ n≤a)))∧Below w.heap.size w w':=by
 have hr:=hp.range
 have hl:=ht.high
 have hno:=fun h=>hp.over ht h
 have hyes:=fun h1 h2=>hp.under ht hn h1 h2
 have ba:=an w (.cells #[.int .u64 m,.int .i64 ((f:Int) - 63)] 114)
 have bb:=an (w.alloc (.cells #[.int .u64 m,.int .i64 ((f:Int) - 63)] 114)) (.cells #[.int .u64 lm,.int .i64 ((E:Int) - 63)] 114)
 have bab:=ba.trans (bb.mono ba.size)
 have HB:=aa bab
 have HS2:=HS _ bab
 have HNO:=aa hno
 have HYES:=aa hyes
 clear hno hyes ba bb bab HS hp ht
 by_cases h1:E<f
 ·have i1:(E:Int) - 63<(f:Int) - 63:=by omega
  have hd:decide (b ^ n≤a)=false:=decide_eq_false (by have:=HNO.out (.inl h1);omega)
  rw [hd]
  clear HS2 HNO HYES hd
  go_enter Tryz.func101,Tryz.ntmps101
  go_wp2
  go_ret
  exact⟨rfl,HB.out⟩
 ·by_cases h2:f=E∧lm<m
  ·obtain⟨rfl,h2⟩:=h2
   have i1:(lm:Int)<(m:Int):=by omega
   have hd:decide (b ^ n≤a)=false:=decide_eq_false (by have:=HNO.out (.inr ⟨rfl,h2⟩);omega)
   rw [hd]
   clear HS2 HNO HYES hd
   go_enter Tryz.func101,Tryz.ntmps101
   go_wp2
   go_ret
   exact⟨rfl,HB.out⟩
  ·have e4:(4:Int)*(n:Int)=((4*n:Nat):Int):=by omega
   have ha:=fun W=>aZ m (4*n) W
   have hS0:(m+4*n) / 18446744073709551616=0∨(m+4*n) / 18446744073709551616=1:=by omega
   have hSl:(m+4*n) % 18446744073709551616<18446744073709551616:=by omega
   have n4:4*n<18446744073709551616:=by omega
   have hq:(m+4*n) / 18446744073709551616=0→m+4*n=(m+4*n) % 18446744073709551616:=by omega
   obtain⟨S,hS⟩:∃S,(m+4*n) % 18446744073709551616=S:=⟨_,rfl⟩
   obtain⟨cy,hcy⟩:∃cy,(m+4*n) / 18446744073709551616=cy:=⟨_,rfl⟩
   simp only [hS,hcy] at ha
   rw [hcy] at hS0
   rw [hS,hcy] at hq
   rw [hS] at hSl
   have HQ:=aa hq
   obtain⟨N4,hN4⟩:∃N4,4*n=N4:=⟨_,rfl⟩
   rw [hN4] at e4 n4
   simp only [hN4] at ha
   have HN4:=aa hN4
   have j1:¬((E:Int) - 63<(f:Int) - 63):=by omega
   clear hq hS hcy hN4
   by_cases hc:cy=0∧(f<E∨S≤lm)
   ·obtain⟨rfl,hc⟩:=hc
    have hd:decide (b ^ n≤a)=true:=decide_eq_true (HYES.out (by have:=HQ.out rfl;omega) (by have:=HQ.out rfl;omega))
    rw [hd]
    by_cases hfE:f<E
    ·have i1:(f:Int) - 63<(E:Int) - 63:=by omega
     have i2:¬((f:Int) - 63=(E:Int) - 63):=by omega
     have i3:(((f:Int) - 63) == ((E:Int) - 63))=false:=by rw [beq_eq_false_iff_ne];exact i2
     clear HS2 HNO HYES hd hS0 h1 h2
     go_enter Tryz.func101,Tryz.ntmps101
     go_wp2
     go_ret
     exact⟨rfl,HB.out⟩
    ·obtain rfl:f=E:=by omega
     have i1:¬((lm:Int)<(m:Int)):=by omega
     have i2:(S:Int)≤(lm:Int):=by omega
     clear HS2 HNO HYES hd hS0 h1 h2
     go_enter Tryz.func101,Tryz.ntmps101
     go_wp2
     go_ret
     exact⟨rfl,HB.out⟩
   ·generalize decide (b ^ n≤a)=r at *
    by_cases hfE:f<E
    ·have i1:(f:Int) - 63<(E:Int) - 63:=by omega
     have i2:¬((f:Int) - 63=(E:Int) - 63):=by omega
     have i3:(((f:Int) - 63) == ((E:Int) - 63))=false:=by rw [beq_eq_false_iff_ne];exact i2
     obtain rfl:cy=1:=by omega
     clear HNO HYES hS0 h1 h2 hc
     go_enter Tryz.func101,Tryz.ntmps101
     go_wp2_with fail
     refine HS2.mono ?_
     rintro e w2 ⟨rfl,hb2⟩
     have HB2:=aa (HB.out.trans (hb2.mono HB.out.size))
     clear HS2 hb2
     go_wp2
     go_ret
     exact⟨rfl,HB2.out⟩
    ·obtain rfl:f=E:=by omega
     have i1:¬((lm:Int)<(m:Int)):=by omega
     rcases hS0 with rfl|rfl
     ·have i2:¬((S:Int)≤(lm:Int)):=by omega
      clear HNO HYES h1 h2 hc
      go_enter Tryz.func101,Tryz.ntmps101
      go_wp2_with fail
      refine HS2.mono ?_
      rintro e w2 ⟨rfl,hb2⟩
      have HB2:=aa (HB.out.trans (hb2.mono HB.out.size))
      clear HS2 hb2
      go_wp2
      go_ret
      exact⟨rfl,HB2.out⟩
     ·clear HNO HYES h1 h2 hc
      go_enter Tryz.func101,Tryz.ntmps101
      go_wp2_with fail
      refine HS2.mono ?_
      rintro e w2 ⟨rfl,hb2⟩
      have HB2:=aa (HB.out.trans (hb2.mono HB.out.size))
      clear HS2 hb2
      go_wp2
      go_ret
      exact⟨rfl,HB2.out⟩

theorem jM (a b:Nat)(ha:a<4611686018427387904)(hb:b<4611686018427387904):bits .or .i64 (a:Int) (b:Int)=((a ||| b:Nat):Int):=by
 have hx:a ||| b<2 ^ 62:=Nat.or_lt_two_pow (by omega) (by omega)
 have h1:(BitVec.ofInt 64 (a:Int)).toNat=a:=by
  rw [BitVec.ofInt_natCast,BitVec.toNat_ofNat];exact Nat.mod_eq_of_lt (by omega)
 have h2:(BitVec.ofInt 64 (b:Int)).toNat=b:=by
  rw [BitVec.ofInt_natCast,BitVec.toNat_ofNat];exact Nat.mod_eq_of_lt (by omega)
 show IntKind.i64.wrap ((BitVec.ofInt 64 (a:Int) ||| BitVec.ofInt 64 (b:Int)).toNat:Int)=_
 rw [BitVec.toNat_or,h1,h2,IntKind.wrap_i64]
 omega

theorem iN {m p:Nat}(h:m % 2 ^ (p+1)=0):m ||| 2 ^ p=m+2 ^ p:=by
 have e:m=2 ^ (p+1)*(m / 2 ^ (p+1)):=(Nat.mul_div_cancel' (Nat.dvd_of_mod_eq_zero h)).symm
 rw [e]
 exact (Nat.two_pow_add_eq_or_of_lt (by rw [Nat.pow_succ];have:=Nat.two_pow_pos p;omega) _).symm

theorem jk {m p K:Nat}(h:m % 2 ^ (p+1)=0)(hm:m<2 ^ K)(hp:p+1≤K):m+2 ^ (p+1)≤2 ^ K:=by
 have e:m=m / 2 ^ (p+1)*2 ^ (p+1):=(Nat.div_mul_cancel (Nat.dvd_of_mod_eq_zero h)).symm
 have h4:m / 2 ^ (p+1)<2 ^ (K - (p+1)):=by
  refine Nat.lt_of_mul_lt_mul_right (a:=2 ^ (p+1)) ?_
  rw [←Nat.pow_add,show K - (p+1)+(p+1)=K by omega,←e]
  exact hm
 have h5:=Nat.mul_le_mul_right (2 ^ (p+1)) (Nat.succ_le_of_lt h4)
 rw [←Nat.pow_add,show K - (p+1)+(p+1)=K by omega,Nat.succ_mul,←e] at h5
 exact h5

theorem gE {m p:Nat}(h:m % 2 ^ (p+1)=0):m % 2 ^ p=0∧(m+2 ^ p) % 2 ^ p=0:=by
 have e:m=2 ^ p*(2*(m / 2 ^ (p+1))):=by
  have e:=(Nat.mul_div_cancel' (Nat.dvd_of_mod_eq_zero h)).symm
  rw [Nat.pow_succ,Nat.mul_assoc] at e
  rw [Nat.pow_succ]
  exact e
 refine⟨?_,?_⟩
 ·rw [e];exact Nat.mul_mod_right _ _
 ·rw [Nat.add_mod_right,e];exact Nat.mul_mod_right _ _

theorem fD {w:World}{g:Nat}{a b:Value}{t:TypeId}(h:w.heap[g]?=some (.cells #[a,b] t)):w.cell? ⟨g,0,none⟩=some a∧w.cell? ⟨g,1,none⟩=some b:=⟨by simp [World.cell?,h],by simp [World.cell?,h]⟩

theorem iV (va:Value)(X:List Nat)(b:Nat)(w:World)(hA:Arg w va X)(hT:Tab w)(hl:X.length≤1048576)(hb:2≤b)(hb2:b≤36)(hL:64<blen (val X)) :
  Calls Tryz.prog 85 #[va,.int .u64 b] w fun e w'=>∃n:Nat,e=.returned (.int .i64 n)∧b ^ n≤val X∧val X<b ^ (n+1)∧n≤1152921504606846976∧Below w.heap.size w w':=by
 obtain⟨ao,cap,rfl,_,_,_⟩:=hA.form
 obtain⟨w0,hw0⟩:∃W,(w.alloc (.cells #[.slice ao X.length cap] 23)).alloc (.cells #[.int .u64 b] 33)=W:=⟨_,rfl⟩
 have hb0:Below w.heap.size w w0:=by rw [←hw0];exact bt5 (an _ _) (an _ _)
 have x0:w0.heap[w.heap.size]?=some (.cells #[.slice ao X.length cap] 23):=by
  rw [←hw0]
  exact ((an (w.alloc (.cells #[.slice ao X.length cap] 23)) (.cells #[.int .u64 b] 33)).block w.heap.size (by simp)).trans (heap_alloc_new ..)
 have x1:w0.heap[w.heap.size+1]?=some (.cells #[.int .u64 b] 33):=by
  rw [←hw0]
  have h:=heap_alloc_new (w.alloc (.cells #[.slice ao X.length cap] 23)) (.cells #[.int .u64 b] 33)
  rw [World.size_alloc] at h
  exact h
 have c0:=aY x0
 have c1:=aY x1
 have C1:=kb _ X w0 (hA.below hb0) hL
 have hlen:=dJ hA.limbs hl
 obtain⟨L,hLe⟩:∃L,blen (val X)=L:=⟨_,rfl⟩
 have hup:val X<2 ^ L:=(blen_le_iff _ _).1 (by omega)
 have LV:=fun W (h:Arg W (.slice ao X.length cap) X)=>az _ X W h
 rw [hLe] at hlen hL LV
 have HLN:=fun W=>Tryz.bits_Len (L:Int) W (by omega) (by omega)
 simp only [Int.toNat_natCast] at HLN
 obtain⟨K,hK⟩:∃K,Lib.bitLen L=K:=⟨_,rfl⟩
 have hKL:L<2 ^ K:=by rw [←hK];exact (Lib.bitLenAux_bounds 64 L (by omega) (by omega)).2.2
 have hK27:K≤27:=by rw [←hK];exact Lib.bitLen_le L 27 (by omega) (by omega)
 rw [hK] at HLN
 have hpos:1≤val X:=by
  rcases Nat.eq_zero_or_pos (val X) with h|h
  ·rw [h] at hLe;rw [show blen 0=0 from rfl] at hLe;omega
  ·exact h
 have hst:val X<b ^ (2 ^ K):=Nat.lt_of_lt_of_le hup (Nat.le_trans (Nat.pow_le_pow_left hb L) (Nat.pow_le_pow_right (by omega) (Nat.le_of_lt hKL)))
 have HA:=aa (hA.below hb0)
 have HT:=aa (hT.below hb0)
 have HB0:=aa hb0
 have HST:=aa (And.intro hpos hst)
 have X0:=aa x0
 have X1:=aa x1
 have HLV:=aa LV
 have HLN2:=aa HLN
 clear hA hT hb0 hup hKL hpos hst x0 x1 LV HLN hLe hK
 go_enter Tryz.func85,Tryz.ntmps85
 go_wp2_with fail
 refine C1.mono ?_
 rintro e w1 ⟨lm,E,rfl,hTop,_,hb1⟩
 obtain⟨w2,hw2⟩:∃W,w1.alloc (.cells #[.int .u64 lm,.int .i64 ((E:Int) - 63)] 114)=W:=⟨_,rfl⟩
 have hb2':Below w1.heap.size w1 w2:=by rw [←hw2];exact an _ _
 have x2:w2.heap[w1.heap.size]?=some (.cells #[.int .u64 lm,.int .i64 ((E:Int) - 63)] 114):=by rw [←hw2];exact heap_alloc_new ..
 have hB2:=bt5 hb1 hb2'
 have y0:=(hB2.block _ (lt_of_block X0.out)).trans X0.out
 have y1:=(hB2.block _ (lt_of_block X1.out)).trans X1.out
 have d0:=aY y0
 have L1:=HLV.out w2 (HA.out.below hB2)
 have Y0:=aa y0
 have Y1:=aa y1
 have Y2:=aa x2
 have HB2:=aa (bt5 HB0.out hB2)
 have HA2:=aa (HA.out.below hB2)
 have HT2:=aa (HT.out.below hB2)
 have HTOP:=aa hTop
 clear C1 hb1 hb2' x2 hB2 y0 y1 X0 X1 HA HT HB0 HLV c0 c1 hTop hw0
 go_wp2_with fail
 refine L1.mono ?_
 rintro e wn ⟨rfl,hw⟩;rw [hw];clear hw wn L1
 have L2:=HLN2.out w2
 go_wp2_with fail
 refine L2.mono ?_
 rintro e wn ⟨rfl,hw⟩;rw [hw];clear hw wn L2
 go_wp2
 clear hw2 d0
 go_loopw [6,7] (fun mv bv wr=>∃m q:Nat,mv=.int .i64 m∧bv=.int .i64 ((q:Int) - 1)∧q≤K∧m % 2 ^ q=0∧m<2 ^ K∧b ^ m≤val X∧val X<b ^ (m+2 ^ q)∧Below w2.heap.size w2 wr) (fun _ bv _=>(intOf bv+1).toNat)
 case atStart=>exact⟨0,K,rfl,rfl,Nat.le_refl _,Nat.zero_mod _,Nat.two_pow_pos _,by rw [Nat.pow_zero];exact HST.out.1,by rw [Nat.zero_add];exact HST.out.2,Below.refl _ _⟩
 case round=>
  obtain⟨m,q,rfl,rfl,hqK,hmq,hmK,hlo,hhi,hbr⟩:=hrel
  have h27:2 ^ K≤134217728:=Nat.pow_le_pow_right (n:=2) (j:=27) (by omega) hK27
  rcases Nat.eq_zero_or_pos q with hq0|hq0
  ·subst hq0
   have HE:=aa (And.intro hlo (And.intro hhi (bt5 HB2.out hbr)))
   have hm9:m≤134217728:=by omega
   clear hlo hhi hbr hmq
   go_wp2
   go_ret
   exact⟨m,rfl,HE.out.1,HE.out.2.1,by omega,HE.out.2.2⟩
  ·obtain⟨p,rfl⟩:∃p,q=p+1:=⟨q - 1,by omega⟩
   have eq:(((p+1:Nat):Int) - 1)=(p:Int):=by omega
   rw [eq]
   have hroom:=jk hmq hmK hqK
   have hhalf:=gE hmq
   have hpp:2 ^ (p+1)=2*2 ^ p:=by rw [Nat.pow_succ];omega
   have hDp:=Nat.two_pow_pos p
   have hor:=jM m (2 ^ p) (by omega) (by omega)
   rw [iN hmq] at hor
   have h2p:(2:Int) ^ p=((2 ^ p:Nat):Int):=by simp
   obtain⟨U,hU9⟩:∃U,m+2 ^ p=U:=⟨_,rfl⟩
   rw [hU9] at hor
   have hUK:U<2 ^ K:=by omega
   have hUe:m+2 ^ (p+1)=U+2 ^ p:=by omega
   have hUb:U≤134217728:=by omega
   have hDb:2 ^ p≤134217728:=by omega
   have hp64:p<64:=by omega
   have hp0:(0:Int)≤(p:Int):=by omega
   have HU:=aa hU9
   have HUK:=aa hUK
   have HUE:=aa hUe
   have HPH:=aa hhalf
   have HLO:=aa hlo
   have HHI:=aa hhi
   obtain⟨w4,hw4⟩:∃W,wr.alloc (.cells #[.int .i64 U] 3)=W:=⟨_,rfl⟩
   have hb4:Below wr.heap.size wr w4:=by rw [←hw4];exact an _ _
   have x4:w4.heap[wr.heap.size]?=some (.cells #[.int .i64 U] 3):=by rw [←hw4];exact heap_alloc_new ..
   have hB4:=bt5 hbr hb4
   have HB4:=aa hB4
   have KA:=aa (fun (W:World) (hg:Below w4.heap.size w4 W)=>show W.cell? ⟨w.heap.size,0,none⟩=some (.slice ao X.length cap) from aY (((bt5 hB4 hg).block _ (lt_of_block Y0.out)).trans Y0.out))
   have KS:=aa (fun (W:World) (hg:Below w4.heap.size w4 W)=>show W.cell? ⟨w.heap.size+1,0,none⟩=some (.int .u64 b)∧W.cell? ⟨wr.heap.size,0,none⟩=some (.int .i64 U)∧W.cell? ⟨w1.heap.size,0,none⟩=some (.int .u64 lm)∧W.cell? ⟨w1.heap.size,1,none⟩=some (.int .i64 ((E:Int) - 63)) from
    ⟨aY (((bt5 hB4 hg).block _ (lt_of_block Y1.out)).trans Y1.out),aY ((hg.block _ (lt_of_block x4)).trans x4),(fD (((bt5 hB4 hg).block _ (lt_of_block Y2.out)).trans Y2.out)).1,(fD (((bt5 hB4 hg).block _ (lt_of_block Y2.out)).trans Y2.out)).2⟩)
   have NP:=aa (fun (W:World)=>iB b U W (by omega) (by omega) (by omega))
   have NA:=aa (fun (W:World) (pm pf:Nat) (hPw:Pw b U pm pf) (hg:Below w4.heap.size w4 W)=>lk b U pm pf (val X) lm E (.pointer (some ⟨w.heap.size,0,none⟩)) (.pointer (some ⟨w.heap.size+1,0,none⟩)) (.pointer (some ⟨wr.heap.size,0,none⟩)) W hPw HTOP.out (by omega) (fun W' hW'=>iG w.heap.size (w.heap.size+1) wr.heap.size _ X b U W' (KA.out _ (bt5 hg hW')) (KS.out _ (bt5 hg hW')).1 (KS.out _ (bt5 hg hW')).2.1 (HA2.out.below (bt5 HB4.out (bt5 hg hW'))) (HT2.out.below (bt5 HB4.out (bt5 hg hW'))) hl hb hb2 (by omega)))
   have g0:Below w4.heap.size w4 w4.drew:=(Below.refl _ _).drew
   obtain⟨DD,hDD⟩:∃DD,2 ^ p=DD:=⟨_,rfl⟩
   have HDD:=aa hDD
   rw [hDD] at hor h2p hDb
   clear hlo hhi hbr hmq hhalf hroom hpp hDp hU9 hUK hUe hb4 x4 hB4 hDD eq KA
   by_cases hU:b ^ U≤val X
   ·skip
    have hdec:decide (b ^ U≤val X)=true:=by simpa using hU
    go_wp2_with fail
    go_region_held3 (fun w'=>w'.cell? ⟨w.heap.size+1,0,none⟩=some (.int .u64 b)∧w'.cell? ⟨wr.heap.size,0,none⟩=some (.int .i64 U)∧w'.cell? ⟨w1.heap.size,0,none⟩=some (.int .u64 lm)∧w'.cell? ⟨w1.heap.size,1,none⟩=some (.int .i64 ((E:Int) - 63))) (first|with_reducible exact KS.out _ g2|with_reducible exact KS.out _ g1|with_reducible exact KS.out _ g0) (first
     | (go_at_call 101;refine (NA.out _ pm pf hPw g1).mono ?_;rintro e' t2 ⟨rfl,hb2⟩;have g2:=bt5 g1 hb2)
     | (go_at_call 102;refine (NP.out _).mono ?_;rintro e' t1 ⟨pm,pf,rfl,hPw,hb1⟩;have g1:=bt5 g0 hb1))
    all_goals
     have HBE:=aa (bt5 HB4.out g2)
     obtain⟨_,z1,_,_⟩:=KS.out _ g2
     clear NA NP KS hb1 hb2 g1 g2 g0 hPw hdec
     go_wp2
     go_roundw
     case rel=>exact⟨U,p,rfl,rfl,by omega,by rw [←HU.out];exact HPH.out.2,HUK.out,hU,by have h:=HHI.out;rw [HUE.out] at h;exact h,HBE.out⟩
     case measure=>simp [intOf]
   ·skip
    have hdec:decide (b ^ U≤val X)=false:=by simpa using hU
    go_wp2_with fail
    go_region_held3 (fun w'=>w'.cell? ⟨w.heap.size+1,0,none⟩=some (.int .u64 b)∧w'.cell? ⟨wr.heap.size,0,none⟩=some (.int .i64 U)∧w'.cell? ⟨w1.heap.size,0,none⟩=some (.int .u64 lm)∧w'.cell? ⟨w1.heap.size,1,none⟩=some (.int .i64 ((E:Int) - 63))) (first|with_reducible exact KS.out _ g2|with_reducible exact KS.out _ g1|with_reducible exact KS.out _ g0) (first
     | (go_at_call 101;refine (NA.out _ pm pf hPw g1).mono ?_;rintro e' t2 ⟨rfl,hb2⟩;have g2:=bt5 g1 hb2)
     | (go_at_call 102;refine (NP.out _).mono ?_;rintro e' t1 ⟨pm,pf,rfl,hPw,hb1⟩;have g1:=bt5 g0 hb1))
    all_goals
     have HBE:=aa (bt5 HB4.out g2)
     obtain⟨_,z1,_,_⟩:=KS.out _ g2
     clear NA NP KS hb1 hb2 g1 g2 g0 hPw hdec
     go_wp2
     go_roundw
     case rel=>exact⟨m,p,rfl,rfl,by omega,HPH.out.1,hmK,HLO.out,by rw [HU.out];omega,HBE.out⟩
     case measure=>simp [intOf]

def fig (d:Nat):Nat:=[48,49,50,51,52,53,54,55,56,57,97,98,99,100,101,102,103,104,105,106,107,108,109,110,111,112,113,114,115,116,117,118,119,120,121,122].getD d 0

theorem jB (d:Nat):fig d<128:=by
 rcases Nat.lt_or_ge d 36 with h|h
 ·have:∀d:Fin 36,fig d.1<128:=by decide +kernel
  exact this ⟨d,h⟩
 ·unfold fig;rw [List.getD,List.getElem?_eq_none (by simpa using h)];decide

theorem gU (d:Nat)(h:d<(ByteArray.mk #[48,49,50,51,52,53,54,55,56,57,97,98,99,100,101,102,103,104,105,106,107,108,109,110,111,112,113,114,115,116,117,118,119,120,121,122]).size):(ByteArray.mk #[48,49,50,51,52,53,54,55,56,57,97,98,99,100,101,102,103,104,105,106,107,108,109,110,111,112,113,114,115,116,117,118,119,120,121,122])[d].toNat=fig d:=by
 have key:∀d:Fin 36,((ByteArray.mk #[48,49,50,51,52,53,54,55,56,57,97,98,99,100,101,102,103,104,105,106,107,108,109,110,111,112,113,114,115,116,117,118,119,120,121,122])[d.1]'(d.2)).toNat=fig d.1:=by decide +kernel
 exact key ⟨d,h⟩

def cW (L:List Nat):ByteArray:=L.foldl (fun r n=>r.push (UInt8.ofNat n)) ByteArray.empty

theorem kc (L:List Nat):∀r:ByteArray,((L.map fun n=>((n:Nat):Int)).foldl (fun r n=>r.push (UInt8.ofNat n.toNat)) r)=L.foldl (fun r n=>r.push (UInt8.ofNat n)) r:=by
 induction L with
 | nil=>intro r;rfl
 | cons a l ih=>intro r;simp only [List.map_cons,List.foldl_cons,Int.toNat_natCast];exact ih _

theorem g5 (gd cap:Nat)(D:List Nat)(w:World)(hd:Byt w gd D) :
  (convert 68 9 (.slice (some ⟨gd,0,none⟩) D.length cap)).run Tryz.prog w=.ok (.string (cW D)) w:=by
 rw [run_convert_bytes_string w 68 9 5 _ _ _ Tryz.underlying68 Tryz.underlying5 Tryz.underlying9]
 rw [run_bytesToString w _ D.length cap (D.map fun n=>((n:Nat):Int)) ?_,kc]
 ·rfl
 ·have h:=run_loadCells_list (P:=Tryz.prog) (w:=w) ⟨gd,0,none⟩ (D.map bv) (fun j v hj=>by
   rw [List.getElem?_map] at hj
   rcases hh:D[j]? with _|z
   ·rw [hh] at hj;cases hj
   ·rw [hh] at hj
    have hjl:j<D.length:=by
     rcases Nat.lt_or_ge j D.length with h|h
     ·exact h
     ·rw [List.getElem?_eq_none h] at hh;cases hh
    have:=hd.cell j hjl
    have e:D.getD j 0=z:=by rw [List.getD,hh];rfl
    rw [e] at this
    simp only [Option.map_some,Option.some.injEq] at hj
    rw [←hj]
    by_cases h0:j=0
    ·subst h0;simpa [Addr.add,bv] using this
    ·simpa [Addr.add,bv,h0] using this)
  rw [List.length_map] at h
  rw [h,List.map_map]
  rfl

theorem ij (gd cap:Nat)(D:List Nat)(w:World)(hd:Byt w gd D)(h36:∀d ∈ D,d<36)(hc:D.length≤cap)(hcm:cap≤9223372036854775807) :
  Calls Tryz.prog 41 #[.slice (some ⟨gd,0,none⟩) D.length cap] w fun e w'=>e=.returned (.string (cW (D.map fig)))∧Fr gd w w':=by
 have HD:=aa hd
 clear hd
 go_enter Tryz.func41,Tryz.ntmps41
 go_wp2
 go_loopw [7] (fun i wr=>∃(k:Nat) (D':List Nat),k≤D.length∧i=.int .i64 k∧Byt wr gd D'∧D'=(D.take k).map fig ++ D.drop k∧Fr gd w wr) (fun i _=>D.length - (intOf i).toNat)
 case atStart=>exact⟨0,D,Nat.zero_le _,rfl,HD.out,by simp,Fr.refl _ _⟩
 case round=>
  obtain⟨k,D',hk,rfl,hB,hD',hF⟩:=hrel
  clear HD
  have hlen:D'.length=D.length:=by rw [hD'];simp;omega
  by_cases hkl:k<D.length
  ·have e1:D.drop k=D.getD k 0 :: D.drop (k+1):=by
    rw [List.drop_eq_getElem_cons hkl,List.getD,List.getElem?_eq_getElem hkl];rfl
   have e2:D'.getD k 0=D.getD k 0:=by
    rw [hD',List.getD,List.getElem?_append_right (by simp;omega)]
    simp [e1,Nat.min_eq_left (Nat.le_of_lt hkl)]
   have hset:D'.set k (fig (D.getD k 0))=(D.take (k+1)).map fig ++ D.drop (k+1):=by
    have hA:((D.take k).map fig).length=k:=by simp;omega
    have e3:D.take (k+1)=D.take k ++ [D.getD k 0]:=by rw [List.take_add_one,List.getD,List.getElem?_eq_getElem hkl];rfl
    rw [hD',List.set_append_right _ _ (by omega),hA,Nat.sub_self,e1,List.set_cons_zero,e3,List.map_append,List.append_assoc]
    rfl
   have h36k:D.getD k 0<36:=h36 _ (by rw [List.getD,List.getElem?_eq_getElem hkl];exact List.getElem_mem _)
   have hco:=hB.cell k (by omega)
   have hfr:=hB.free k
   rw [e2] at hco
   have hfl:=jB (D.getD k 0)
   have hfa:=gU (D.getD k 0) h36k
   have HS:=aa hset
   have HB:=aa hB
   have HF:=aa hF
   generalize D.getD k 0=d at *
   clear hB hF hset hD' e1 e2
   go_wp2
   go_roundw
   case rel=>exact⟨k+1,D'.set k (fig d),by omega,by go_num,HB.out.set _ _,HS.out,HF.out.setCell _ _⟩
   case measure=>simp [intOf];omega
  ·have ek:k=D.length:=by omega
   subst ek
   have e1:D'=D.map fig:=by rw [hD'];simp
   subst e1
   have HC:=g5 gd cap _ wr hB
   rw [List.length_map] at HC
   have HF:=aa hF
   clear hB hF hD'
   go_wp2
   go_ret
   exact⟨rfl,HF.out⟩

def dn (b a:Nat)(w:World)(e:Ending)(w':World):Prop:=
 ∃(gd:Nat) (D:List Nat),e=.returned (.slice (some ⟨gd,0,none⟩) D.length D.length)∧w.heap.size≤gd∧Byt w' gd D∧aN b a D.length∧D.length≤9223372036854775807∧(∀i,i<D.length→D.getD i 0=a / b ^ (D.length - 1 - i) % b)∧Below w.heap.size w w'

theorem dn.small {b a:Nat}{D:List Nat}(hb:0<b)(hb2:b≤36)(h:∀i,i<D.length→D.getD i 0=a / b ^ (D.length - 1 - i) % b):∀d ∈ D,d<36:=by
 intro d hd
 obtain⟨i,hi,rfl⟩:=List.getElem_of_mem hd
 have h1:=h i hi
 rw [List.getD,List.getElem?_eq_getElem hi] at h1
 have h2:a / b ^ (D.length - 1 - i) % b<b:=Nat.mod_lt _ hb
 have h3:D[i]=a / b ^ (D.length - 1 - i) % b:=h1
 omega

def kW (b a:Nat)(w:World)(e:Ending)(w':World):Prop:=
 ∃D:List Nat,e=.returned (.tuple #[.string (cW (D.map fig)),.int .i64 0])∧aN b a D.length∧(∀i,i<D.length→D.getD i 0=a / b ^ (D.length - 1 - i) % b)∧Below w.heap.size w w'

theorem io (va:Value)(a b:Nat)(w:World)(hb:2≤b)(hb2:b≤36)(HW:Calls Tryz.prog 42 #[va,.int .i64 b] w (dn b a w)) :
  Calls Tryz.prog 17 #[va,.int .i64 b] w (kW b a w):=by
 have HI:=g4 b w hb hb2
 go_enter Tryz.func17,Tryz.ntmps17
 go_wp2_with fail
 refine HI.mono ?_
 rintro e wn ⟨rfl,hw⟩;rw [hw];clear hw wn HI
 go_wp2_with fail
 refine HW.mono ?_
 rintro e w1 ⟨g,D,rfl,hg,hd,hn,hm,hdig,hbe⟩
 have HT:=ij g D.length D w1 hd (dn.small (by omega) hb2 hdig) (Nat.le_refl _) hm
 have hgl:=hd.lt
 have HB:=aa hbe
 have HE:=aa (And.intro hn hdig)
 clear HW hd hbe hn hdig
 go_wp2_with fail
 refine HT.mono ?_
 rintro e w2 ⟨rfl,hf⟩
 have HB2:=aa (HB.out.trans (hf.below (base:=w.heap.size) hg (by have:=HB.out.size;omega)))
 clear HT hf
 go_wp2
 go_returns
 exact⟨D,rfl,HE.out.1,HE.out.2,HB2.out⟩

attribute [local go_sem] dN
end Go.Proofs.YtiagnfghnfhlnaaGreatDoor
namespace Go.Proofs.YtiagnfghnfhlnaaGreatDoor
open Go.RowKit
open Lm
attribute [local go_sem ↓] Go.wp_at_zero Go.wp_at_succ

theorem s0 (h:0<(ByteArray.mk #[48,48,102,102]).size):(ByteArray.mk #[48,48,102,102])[0].toNat=48:=rfl

theorem s1 (h:1<(ByteArray.mk #[48,48,102,102]).size):(ByteArray.mk #[48,48,102,102])[1].toNat=48:=rfl

theorem s2 (h:2<(ByteArray.mk #[48,48,102,102]).size):(ByteArray.mk #[48,48,102,102])[2].toNat=102:=rfl

theorem s3 (h:3<(ByteArray.mk #[48,48,102,102]).size):(ByteArray.mk #[48,48,102,102])[3].toNat=102:=rfl

attribute [local go_sem] s0 s1 s2 s3
end Go.Proofs.YtiagnfghnfhlnaaGreatDoor
namespace Go.Proofs.YtiagnfghnfhlnaaGreatDoor
open Go.RowKit
open Lm
attribute [local go_sem ↓] Go.wp_at_zero Go.wp_at_succ

theorem Byt.made {w:World}{base n g:Nat}(h:w.ownsRow base 5 1 (.slice (some ⟨g,0,none⟩) n n) n (madeCells (Value.int .u8 0).cells (n*1)).toList):Byt w g (List.replicate n 0):=by
 have:=ma h
 unfold Byt
 rw [this,List.map_replicate]
 rfl
end Go.Proofs.YtiagnfghnfhlnaaGreatDoor
namespace Go.Proofs.YtiagnfghnfhlnaaGreatDoor
open Go.RowKit
open Lm
attribute [local go_sem ↓] Go.wp_at_zero Go.wp_at_succ
attribute [local go_sem] dN

theorem gT (k:Nat)(h:k≠0):1<18446744073709551616 ^ k:=Nat.one_lt_pow h (by omega)

theorem ic (va:Value)(X:List Nat)(b:Nat)(w:World)(hA:Arg w va X)(hT:Tab w)(hl:X.length≤1048576)(hb:2≤b)(hb2:b≤36) :
  Calls Tryz.prog 67 #[va,.int .i64 b] w (fd b (val X) w):=
 kK va X b w hA hT hb hb2 (fun h=>iV va X b w hA hT hl hb hb2 h)

theorem kr {X:List Nat}(k:Nat)(h:Limbs X)(hl:X.length≤k):val X<18446744073709551616 ^ k:=Nat.lt_of_lt_of_le (val_lt h) (Nat.pow_le_pow_right (by omega) hl)

theorem lA {b x n:Nat}{X:List Nat}(hb:2≤b)(hX:Limbs X)(hl:X.length≤1048576)(hx:val X=x)(h:aN b x n):n≤67108865∧(n≤1∨b ^ (n - 1)≤x):=by
 obtain⟨h1,h2,h3⟩:=h
 refine⟨?_,?_⟩
 ·rcases h3 with h3|h3
  ·omega
  ·have hlen:=dJ hX hl
   rw [hx] at hlen
   have h4:2 ^ (n - 1)≤x:=Nat.le_trans (Nat.pow_le_pow_left hb _) h3
   have h5:x<2 ^ blen x:=(blen_le_iff _ _).1 (Nat.le_refl _)
   have h6:=(Nat.pow_lt_pow_iff_right (by omega:1<2)).1 (Nat.lt_of_le_of_lt h4 h5)
   omega
 ·rcases h3 with h3|h3
  ·exact .inl (by omega)
  ·exact .inr h3

theorem kH (va:Value)(X:List Nat)(b:Nat)(w:World)(hA:Arg w va X)(hT:Tab w)(hl:X.length≤1048576)(hb:2≤b)(hb2:b≤36) :
  Calls Tryz.prog 42 #[va,.int .i64 b] w (dn b (val X) w):=by
 obtain⟨i0,hi,hz0,hz1,hz2⟩:=info_parts Tryz.infoB
 obtain⟨ao,cap,rfl,hcap,_,hL⟩:=hA.form
 obtain⟨w0,hw0⟩:∃W,w.alloc (.cells #[.int .i64 b] 3)=W:=⟨_,rfl⟩
 have hb0:Below w.heap.size w w0:=by rw [←hw0];exact an _ _
 have x0:w0.heap[w.heap.size]?=some (.cells #[.int .i64 b] 3):=by rw [←hw0];exact heap_alloc_new ..
 have c0:=aY x0
 have C1:=ic _ X b w0 (hA.below hb0) (hT.below hb0) hl hb hb2
 have HA:=aa hA
 have HT:=aa hT
 have HB0:=aa hb0
 have X0:=aa x0
 have hLX:=hL
 clear hA hT hb0 x0 hL
 go_enter Tryz.func42,Tryz.ntmps42
 go_wp2_with fail
 refine C1.mono ?_
 rintro e w1 ⟨n,rfl,hd,hb1⟩
 obtain⟨hn,hlow⟩:=lA hb HA.out.limbs hl rfl hd
 have hB1:=bt5 HB0.out hb1
 have x1:=(hb1.block _ (lt_of_block X0.out)).trans X0.out
 have c1:=aY x1
 have HB1:=aa hB1
 have X1:=aa x1
 have HD:=aa hd
 clear C1 hb1 hB1 x1 X0 HB0 c0 hd
 have hNB:b ^ (n - 1)<18446744073709551616 ^ 1048576:=by
  rcases hlow with h|h
  ·rw [show n - 1=0 by omega,Nat.pow_zero]
   exact gT 1048576 (by omega)
  ·exact Nat.lt_of_le_of_lt h (kr 1048576 HA.out.limbs hl)
 have hpl:(∃b' off c,Value.slice ao X.length cap=.slice (some ⟨b',off,none⟩) X.length c)∨n≤1:=by
  rcases hLX with rfl|⟨b',off,rfl,_⟩
  ·right
   obtain⟨_,_,h3⟩:=HD.out
   rcases h3 with h3|h3
   ·omega
   ·have:=Nat.pow_pos (n:=n - 1) (show 0<b by omega)
    simp [val] at h3
    omega
  ·exact .inl ⟨b',off,cap,rfl⟩
 have HPL:=aa hpl
 have HNB:=aa hNB
 clear hlow hNB hpl hLX
 go_wp2_with (at_make;refine wpList_make_full _ rfl _ _ 68 rfl w1.heap.size 5 i0 (.int .u8 0) 1 Tryz.underlying68 hi hz0 hz1 .i64 .i64 _ _ n rfl rfl (by omega) (by omega) (by rw [hz2];omega) (by unfold maxLen;omega) (Nat.le_refl _) ?_;intro w2 hown hgrow;have hb2':Below w1.heap.size w1 w2:=(Below.refl w1.heap.size w1).grown hgrow (Nat.le_refl _) (fun k hk=>by cases hk);have x2:=(hb2'.block _ (lt_of_block X1.out)).trans X1.out;have c2:=aY x2)
 have hY2:=Byt.made hown
 have hB2:=bt5 HB1.out hb2'
 have C2:=j7 b n w2 (HT.out.below hB2) hb hb2 (by omega)
 obtain⟨gd,hgd⟩:∃gd,w1.heap.size=gd:=⟨_,rfl⟩
 rw [hgd] at hY2
 have hgdw:w.heap.size<gd:=by rw [←hgd];exact lt_of_block X1.out
 have HY2:=aa hY2
 have HB2:=aa hB2
 have X2:=aa x2
 have HGD:=aa hgd
 clear hown hgrow hi hz0 hz1 hz2 hb2' hY2 hB2 c1 x2 hgd
 go_wp2_with fail
 rw [HGD.out]
 refine C2.mono ?_
 rintro e w3 ⟨⟨vl,rfl,hP⟩,hb3⟩
 obtain⟨al,nl,kl,rfl⟩:∃al nl kl,vl=.slice al nl kl:=by
  obtain⟨l,h1,_⟩:=hP
  rcases h1 with ⟨h1,_⟩|⟨g,cap',h1,_⟩
  ·exact⟨_,_,_,h1⟩
  ·exact⟨_,_,_,h1⟩
 obtain⟨w4,hw4⟩:∃W,w3.alloc (.cells #[.slice al nl kl] 81)=W:=⟨_,rfl⟩
 have hs4:w4.heap.size=w3.heap.size+1:=by rw [←hw4];exact World.size_alloc _ _
 obtain⟨w5,hw5⟩:∃W,w4.alloc (.cells #[.func (.func 69) #[] #[.pointer (some ⟨w3.heap.size,0,none⟩),.pointer (some ⟨w.heap.size,0,none⟩),.pointer (some ⟨w3.heap.size+1,0,none⟩)]] 83)=W:=⟨_,rfl⟩
 have hb4:Below w3.heap.size w3 w4:=by rw [←hw4];exact an _ _
 have hb5:Below w4.heap.size w4 w5:=by rw [←hw5];exact an _ _
 have hb35:=bt5 hb4 hb5
 have hb25:=bt5 hb3 hb35
 have cl:=bX hb5 (aY (show w4.heap[w3.heap.size]?=some (.cells #[.slice al nl kl] 81) by rw [←hw4];exact heap_alloc_new ..))
 have cb5:=bX hb25 (aY X2.out)
 have cw:w5.cell? ⟨w3.heap.size+1,0,none⟩=some (.func (.func 69) #[] #[.pointer (some ⟨w3.heap.size,0,none⟩),.pointer (some ⟨w.heap.size,0,none⟩),.pointer (some ⟨w3.heap.size+1,0,none⟩)]):=aY (t:=83) (by
  have h:=heap_alloc_new w4 (.cells #[.func (.func 69) #[] #[.pointer (some ⟨w3.heap.size,0,none⟩),.pointer (some ⟨w.heap.size,0,none⟩),.pointer (some ⟨w3.heap.size+1,0,none⟩)]] 83)
  rw [hs4,hw5] at h
  exact h)
 have hB5:=bt5 HB2.out hb25
 have hY5:Byt w5 gd (List.replicate n 0):=HY2.out.below hb25 HY2.out.lt
 have FW:=dS w3.heap.size w.heap.size (w3.heap.size+1) gd b n (.slice al nl kl) hb hb2 HNB.out (by have:=HT.out.1;omega) (n+1) n 0 n (List.replicate n 0) _ X w5 (by omega) hY5 (by simp) (Nat.le_refl _) (by omega) (Nat.le_refl _) (HA.out.below hB5) hl HPL.out (HT.out.below hB5) cl cb5 cw (fun z e=>by cases e) (hP.below hb35)
 have HW5:=aa (show (w3.alloc (.cells #[.slice al nl kl] 81)).alloc (.cells #[.func (.func 69) #[] #[.pointer (some ⟨w3.heap.size,0,none⟩),.pointer (some ⟨w.heap.size,0,none⟩),.pointer (some ⟨w3.heap.size+1,0,none⟩)]] 83)=w5 by rw [hw4,hw5])
 have HB5:=aa hB5
 rw [←HW5.out] at cw
 clear C2 hb3 hb4 hb5 hb35 hb25 cl cb5 hw4 hw5 hs4 hB5 hY5 hP c2
 go_wp2_with fail
 rw [HW5.out]
 refine FW.mono ?_
 rintro e w6 ⟨rfl,D',hD',hW',hF'⟩
 have hDl:D'.length=n:=by rw [hW'.len];simp
 have HF:=aa (And.intro hD' (And.intro hW' (HB5.out.trans (hF'.below (Nat.le_of_lt hgdw) HB5.out.size))))
 clear FW hD' hW' hF' cw
 go_wp2
 go_ret
 refine⟨gd,D',by rw [hDl];rfl,Nat.le_of_lt hgdw,HF.out.1,by rw [hDl];exact HD.out,by omega,fun i hi=>?_,HF.out.2.2⟩
 rw [hDl] at hi ⊢
 have h:=HF.out.2.1.digs i (Nat.zero_le _) hi
 rw [Nat.zero_add] at h
 exact h
end Go.Proofs.YtiagnfghnfhlnaaGreatDoor
namespace Go.Proofs.YtiagnfghnfhlnaaGreatDoor
open Go.RowKit
open Lm

def digs (b:Nat):Nat→Nat→List Nat
 | 0,_=>[]
 | n+1,x=>x / b ^ n % b :: digs b n x

theorem dt (b n x:Nat):(digs b n x).length=n:=by
 induction n with
 | zero=>rfl
 | succ n ih=>simp [digs,ih]

theorem lW (b n x:Nat):∀i,i<n→(digs b n x).getD i 0=x / b ^ (n - 1 - i) % b:=by
 induction n with
 | zero=>intro i h;omega
 | succ n ih=>
  intro i h
  cases i with
  | zero=>simp [digs]
  | succ i=>
   rw [show n+1 - 1 - (i+1)=n - 1 - i by omega]
   simpa [digs] using ih i (by omega)

theorem gL {b n x:Nat}{D:List Nat}(hl:D.length=n)(h:∀i,i<D.length→D.getD i 0=x / b ^ (D.length - 1 - i) % b):D=digs b n x:=by
 apply List.ext_getElem?
 intro i
 rcases Nat.lt_or_ge i n with hi|hi
 ·have h1:=h i (by omega)
  have h2:=lW b n x i hi
  rw [hl] at h1
  have e1:D.getD i 0=D[i]:=by simp [List.getD,show i<D.length by omega]
  have e2:(digs b n x).getD i 0=(digs b n x)[i]'(by rw [dt];omega):=by simp [List.getD,show i<(digs b n x).length by rw [dt];omega]
  rw [List.getElem?_eq_getElem (by omega),List.getElem?_eq_getElem (by rw [dt];omega),←e1,←e2,h1,h2]
 ·rw [List.getElem?_eq_none (by omega),List.getElem?_eq_none (by rw [dt];omega)]
end Go.Proofs.YtiagnfghnfhlnaaGreatDoor
namespace Go.Proofs.YtiagnfghnfhlnaaGreatDoor
namespace Lm

def IsRoot2 (v s:Nat):Prop:=s*s≤v∧v<(s+1)*(s+1)

theorem root2_is:∀v:Nat,∃s,IsRoot2 v s
 | 0=>⟨0,by simp,by simp⟩
 | v+1=>by
  obtain⟨s,h1,h2⟩:=root2_is v
  by_cases h:(s+1)*(s+1)≤v+1
  ·refine⟨s+1,h,?_⟩
   have:(s+1+1)*(s+1+1)=(s+1)*(s+1)+2*(s+1)+1:=by
    rw [Nat.add_mul (s+1) 1,Nat.mul_add (s+1)];omega
   omega
  ·exact⟨s,by omega,by omega⟩

theorem root2_uniq {v s t:Nat}(h:IsRoot2 v s)(k:IsRoot2 v t):s=t:=by
 have key:∀s t,s<t→IsRoot2 v s→IsRoot2 v t→False:=by
  intro s t hlt h k
  have:=Nat.mul_le_mul (Nat.succ_le_of_lt hlt) (Nat.succ_le_of_lt hlt)
  have h2:=h.2
  have k1:=k.1
  simp only [Nat.succ_eq_add_one] at this
  omega
 rcases Nat.lt_trichotomy s t with h1|h1|h1
 ·exact (key s t h1 h k).elim
 ·exact h1
 ·exact (key t s h1 k h).elim

theorem newton_ge {v s x:Nat}(h:IsRoot2 v s)(hx:0<x):s≤(x+v / x) / 2:=by
 have h1:2*s - x≤v / x:=by
  rw [Nat.le_div_iff_mul_le hx]
  refine Nat.le_trans ?_ h.1
  rcases Nat.le_total (2*s) x with hc|hc
  ·rw [Nat.sub_eq_zero_of_le hc,Nat.zero_mul];exact Nat.zero_le _
  ·obtain⟨d,hd⟩:∃d,2*s=x+d:=⟨2*s - x,by omega⟩
   rw [hd,Nat.add_sub_cancel_left]
   rcases Nat.le_total d x with hdx|hdx
   ·obtain⟨e,rfl⟩:∃e,x=d+e:=⟨x - d,by omega⟩
    obtain⟨f,rfl⟩:∃f,e=2*f:=⟨e / 2,by omega⟩
    have hs:s=d+f:=by omega
    subst hs
    have:(d+f)*(d+f)=d*(d+2*f)+f*f:=by grind
    omega
   ·obtain⟨e,rfl⟩:∃e,d=x+e:=⟨d - x,by omega⟩
    obtain⟨f,rfl⟩:∃f,e=2*f:=⟨e / 2,by omega⟩
    have hs:s=x+f:=by omega
    subst hs
    have:(x+f)*(x+f)=(x+2*f)*x+f*f:=by grind
    omega
 omega

theorem newton_end {v s x:Nat}(h:IsRoot2 v s)(hx:0<x)(hs:s≤x)(hn:x≤(x+v / x) / 2):x=s:=by
 have h1:x≤v / x:=by omega
 have h2:=(Nat.le_div_iff_mul_le hx).1 h1
 refine Nat.le_antisymm (Nat.le_of_not_lt fun hlt=>?_) hs
 have:=Nat.mul_le_mul (Nat.succ_le_of_lt hlt) (Nat.succ_le_of_lt hlt)
 have h3:=h.2
 simp only [Nat.succ_eq_add_one] at this
 omega

theorem newton_first {v s k:Nat}(h:IsRoot2 v s)(hv:v<2 ^ (k+k)):s≤2 ^ k:=by
 rw [Nat.pow_add] at hv
 refine Nat.le_of_not_lt fun hlt=>?_
 have:=Nat.mul_le_mul (Nat.le_of_lt hlt) (Nat.le_of_lt hlt)
 have:=h.1
 omega

theorem newton_room {v s x:Nat}(h:IsRoot2 v s)(hs:s≤x)(h0:0<s)(hx:x≤4294967296):x+v / x<18446744073709551616:=by
 have h1:v / x≤v / s:=Nat.div_le_div_left hs h0
 have h2:v / s≤s+2:=by
  have h3:v<(s+3)*s:=by
   have:=h.2
   have e1:(s+1)*(s+1)=s*s+2*s+1:=by grind
   have e2:(s+3)*s=s*s+3*s:=by grind
   omega
  have:=(Nat.div_lt_iff_lt_mul h0).2 h3
  omega
 omega

end Lm
end Go.Proofs.YtiagnfghnfhlnaaGreatDoor
namespace Go.Proofs.YtiagnfghnfhlnaaGreatDoor
open Go.RowKit
open Lm
attribute [local go_sem ↓] Go.wp_at_zero Go.wp_at_succ

theorem gv (v s:Nat)(w:World)(hv:v<18446744073709551616)(hs:IsRoot2 v s)(h0:0<v) :
  Calls Tryz.prog 49 #[.int .u64 v] w fun e w'=>e=.returned (.int .u64 (s:Int))∧w'=w:=by
 have HLN:=Tryz.bits_Len64 (v:Int) w (by omega) (by omega)
 rw [Int.toNat_natCast] at HLN
 have hbl:v<2 ^ Lib.bitLen v:=by
  obtain⟨_,_,h3⟩:=Lib.bitLenAux_bounds 64 v hv (by omega)
  exact h3
 have hb64:Lib.bitLen v≤64:=Lib.bitLen_le v 64 (by omega) hv
 obtain⟨k,ek,hk1,hk2⟩:∃k:Nat,((Lib.bitLen v:Int)+1) / 2=(k:Int)∧Lib.bitLen v≤k+k∧k≤32:=⟨(Lib.bitLen v+1) / 2,by omega,by omega,by omega⟩
 have hfirst:s≤2 ^ k:=newton_first hs (Nat.lt_of_lt_of_le hbl (Nat.pow_le_pow_right (by omega) hk1))
 have hp32:2 ^ k≤4294967296:=Nat.pow_le_pow_right (n:=2) (by omega) hk2
 have hs0:0<s:=by
  rcases Nat.eq_zero_or_pos s with z|z
  ·have:=hs.2;rw [z] at this;omega
  ·exact z
 have hne:((v:Int) == 0)=false:=by rw [beq_eq_false_iff_ne];omega
 have HS:=aa hs
 have rsh:=bP 1 k (2 ^ k) (by rw [Nat.one_mul];exact Nat.mod_eq_of_lt (by omega))
 have rsh2:IntKind.u64.wrap ((2:Int) ^ k)=(2:Int) ^ k:=by
  have h:=rsh
  rw [show ((1:Nat):Int)*2 ^ k=(2:Int) ^ k by simp] at h
  rw [h];simp
 generalize Lib.bitLen v=L at *
 clear hs hbl
 go_enter Tryz.func49,Tryz.ntmps49
 go_wp2_with fail
 refine HLN.mono ?_
 rintro e wn ⟨rfl,hw⟩;rw [hw];clear hw wn HLN
 go_wp2
 go_loop [3] (fun x=>∃c:Nat,x=.int .u64 c∧s≤c∧c≤4294967296) (fun x=>(intOf x).toNat)
 case atStart=>exact⟨2 ^ k,by simp,hfirst,hp32⟩
 case round=>
  obtain⟨c,rfl,hc1,hc2⟩:=hrel
  have hc0:0<c:=by omega
  have hz:((c:Int) == 0)=false:=by rw [beq_eq_false_iff_ne];omega
  have hdiv:(v:Int) / (c:Int)=((v / c:Nat):Int):=by omega
  have hroom:=newton_room HS.out hc1 hs0 hc2
  have hge:=newton_ge HS.out hc0
  have hend:=fun h=>newton_end HS.out hc0 hc1 h
  generalize v / c=q at *
  obtain⟨t,et,ht1,ht2⟩:∃t:Nat,(c:Int)+(q:Int)=(t:Int)∧t<18446744073709551616∧c+q=t:=⟨c+q,by omega,by omega,rfl⟩
  rw [ht2] at hge hend
  obtain⟨n,en,hn1,hn2⟩:∃n:Nat,(t:Int) / 2=(n:Int)∧n≤t∧t / 2=n:=⟨t / 2,by omega,by omega,rfl⟩
  rw [hn2] at hge hend
  clear hroom ht2 hn2 rsh rsh2
  by_cases hcn:c≤n
  ·have hcs:=hend hcn
   subst hcs
   have i1:(c:Int)≤(n:Int):=by omega
   clear hend
   go_wp2
   go_ret
   exact⟨rfl,rfl⟩
  ·have i1:¬((c:Int)≤(n:Int)):=by omega
   clear hend
   go_wp2
   go_round
   case rel=>exact⟨n,rfl,hge,by omega⟩
   case measure=>simp [intOf];omega

theorem gj (vb:Value)(X:List Nat)(s:Nat)(w:World)(hA:Arg w vb X)(hX:0<val X)(h1:(tr X).length≤1)(hs:IsRoot2 (val X) s) :
  Calls Tryz.prog 24 #[vb] w fun e w'=>(∃v1 v2 r1 r2,e=.returned (.tuple #[v1,v2])∧Ans w' w.heap.size v1 r1∧Ans w' w.heap.size v2 r2∧val r1=s∧tr r1=r1∧val r2=val X - s*s∧tr r2=r2)∧Below w.heap.size w w':=by
 have HS:=dp vb X w hA
 rw [if_pos h1,decide_eq_true h1] at HS
 have hx1:val X<18446744073709551616:=by
  have h2:=val_lt (limbs_tr hA.limbs)
  rw [val_tr] at h2
  exact Nat.lt_of_lt_of_le h2 (Nat.le_trans (Nat.pow_le_pow_right (by omega) h1) (by simp))
 have hg:(tr X).getD 0 0=val X:=by
  rw [←val_tr X] at hX ⊢
  match h:tr X,h1,hX with
  | [],_,hX=>simp [val] at hX
  | [a],_,_=>simp [val]
  | a :: b :: c,h1,_=>simp at h1
 rw [hg] at HS
 have HR:=gv (val X) s w hx1 hs hX
 have hsq:s*s≤val X:=hs.1
 have hs1:s<18446744073709551616:=by
  rcases Nat.eq_zero_or_pos s with z|z
  ·omega
  ·exact Nat.lt_of_le_of_lt (Nat.le_mul_of_pos_left s z) (by omega)
 have HF:=bM s w hs1
 obtain⟨a1,k1,rfl,_,_,_⟩:=hA.form
 generalize val X=v at *
 obtain⟨q,hq,hq1⟩:∃q:Nat,(s:Int)*(s:Int)=(q:Int)∧s*s=q:=⟨s*s,by rw [Int.natCast_mul],rfl⟩
 rw [hq1] at hsq ⊢
 obtain⟨d,hd,hd1⟩:∃d:Nat,(v:Int) - (q:Int)=(d:Int)∧v - q=d:=⟨v - q,by omega,rfl⟩
 rw [hd1]
 have hdl:d<18446744073709551616:=by omega
 have hql:q<18446744073709551616:=by omega
 clear hA hX h1 hs hg hq1 hd1
 go_enter Tryz.func24,Tryz.ntmps24
 go_wp2_with fail
 refine HS.mono ?_
 rintro e wn ⟨rfl,hw⟩;rw [hw];clear hw wn HS
 go_wp2_with fail
 refine HR.mono ?_
 rintro e wn ⟨rfl,hw⟩;rw [hw];clear hw wn HR
 go_wp2_with fail
 refine HF.mono ?_
 rintro e w1 ⟨⟨v1,rfl,A1⟩,hb1⟩
 have HF2:=bM d w1 hdl
 have H1:=aa (And.intro A1 hb1)
 clear HF A1 hb1
 go_wp2_with fail
 refine HF2.mono ?_
 rintro e w2 ⟨⟨v2,rfl,A2⟩,hb2⟩
 have H2:=aa (And.intro A2 hb2)
 clear HF2 A2 hb2
 go_wp2
 go_ret2
 have e1:∀t:Nat,val (tr [t])=t:=fun t=>by rw [val_tr];simp [val]
 exact⟨⟨v1,v2,tr [s],tr [d],rfl,H1.out.1.below H2.out.2,H2.out.1.base H1.out.2.size,e1 s,tr_tr _,e1 d,tr_tr _⟩,H1.out.2.trans (H2.out.2.mono H1.out.2.size)⟩

theorem fu (vb:Value)(X:List Nat)(w:World)(hA:Arg w vb X) :
  Calls Tryz.prog 19 #[vb,.int .i64 2] w fun e w'=>e=.returned (.int .i64 (((blen (val X)+1) / 2:Nat):Int))∧w'=w:=by
 have HL:=az _ _ w hA
 have hb:blen (val X)≤64*X.length:=(blen_le_iff _ _).2 (by have:=val_lt hA.limbs;rw [show (18446744073709551616:Nat)=2 ^ 64 from rfl,←Nat.pow_mul] at this;exact this)
 have hf:=hA.few
 obtain⟨a1,k1,rfl,_,_,_⟩:=hA.form
 generalize blen (val X)=L at *
 clear hA
 obtain⟨q,eq,hq⟩:∃q:Nat,(L:Int) / 2=(q:Int)∧L / 2=q:=⟨L / 2,by omega,rfl⟩
 rcases Nat.mod_two_eq_zero_or_one L with h0|h1
 ·have e2:(L:Int) % 2=0:=by omega
  have er:(L+1) / 2=q:=by omega
  rw [er]
  clear er h0 hq
  go_enter Tryz.func19,Tryz.ntmps19
  go_wp2_with fail
  refine HL.mono ?_
  rintro e wn ⟨rfl,hw⟩;subst hw
  clear HL
  go_wp2
  go_ret
  exact⟨rfl,rfl⟩
 ·have e2:(L:Int) % 2=1:=by omega
  obtain⟨q',eq',hq'⟩:∃q':Nat,(q:Int)+1=(q':Int)∧q+1=q':=⟨q+1,by omega,rfl⟩
  have er:(L+1) / 2=q':=by omega
  rw [er]
  clear er h1 hq hq'
  go_enter Tryz.func19,Tryz.ntmps19
  go_wp2_with fail
  refine HL.mono ?_
  rintro e wn ⟨rfl,hw⟩;subst hw
  clear HL
  go_wp2
  go_ret
  exact⟨rfl,rfl⟩

theorem km (v1 v2:Value)(r2:List Nat)(w:World)(hA:Arg w v2 r2)(h:blen (val r2)≤67108864) :
  Calls Tryz.prog 22 #[v1,v2] w fun e w'=>e=.returned (.tuple #[v1,v2,.int .i64 0])∧w'=w:=by
 have HL:=az _ _ w hA
 have i1:¬((67108864:Int)<(blen (val r2):Int)):=by omega
 have HA:Calls Tryz.prog 45 #[v2] w fun e w'=>e=.returned (.tuple #[v2,.int .i64 0])∧w'=w:=by
  obtain⟨a1,k1,rfl,_,_,_⟩:=hA.form
  generalize blen (val r2)=L at *
  clear hA h
  go_enter Tryz.func45,Tryz.ntmps45
  go_wp2_with fail
  refine HL.mono ?_
  rintro e wn ⟨rfl,hw⟩;subst hw
  clear HL
  go_wp2
  go_ret2
  exact⟨rfl,rfl⟩
 clear HL i1 hA h
 go_enter Tryz.func22,Tryz.ntmps22
 go_wp2_with fail
 refine HA.mono ?_
 rintro e wn ⟨rfl,hw⟩;subst hw
 clear HA
 go_wp2
 go_returns
 exact⟨rfl,rfl⟩

theorem ie (vb:Value)(X:List Nat)(s:Nat)(w:World)(hA:Arg w vb X)(hX:0<val X)(h1:(tr X).length≤1)(hs:IsRoot2 (val X) s) :
  Calls Tryz.prog 12 #[vb] w fun e w'=>(∃v1 v2 r1 r2,e=.returned (.tuple #[v1,v2,.int .i64 0])∧Ans w' w.heap.size v1 r1∧Ans w' w.heap.size v2 r2∧val r1=s∧tr r1=r1∧val r2=val X - s*s∧tr r2=r2)∧Below w.heap.size w w':=by
 have HR:=fu vb X w hA
 have HS:=gj vb X s w hA hX h1 hs
 have hx1:val X<18446744073709551616:=by
  have h2:=val_lt (limbs_tr hA.limbs)
  rw [val_tr] at h2
  exact Nat.lt_of_lt_of_le h2 (Nat.le_trans (Nat.pow_le_pow_right (by omega) h1) (by simp))
 have hb64:blen (val X)≤64:=(blen_le_iff _ 64).2 hx1
 have i1:¬((67108864:Int)<(((blen (val X)+1) / 2:Nat):Int)):=by omega
 obtain⟨a1,k1,rfl,_,_,_⟩:=hA.form
 have HX1:=aa hx1
 generalize (blen (val X)+1) / 2=L at *
 clear hA hX h1 hs hb64 hx1
 go_enter Tryz.func12,Tryz.ntmps12
 go_wp2_with fail
 refine HR.mono ?_
 rintro e wn ⟨rfl,hw⟩;rw [hw];clear hw wn HR
 go_wp2_with fail
 refine HS.mono ?_
 rintro e w1 ⟨⟨v1,v2,r1,r2,rfl,A1,A2,e1,t1,e2,t2⟩,hb1⟩
 have hv2:blen (val r2)≤64:=(blen_le_iff _ 64).2 (by rw [e2];exact Nat.lt_of_le_of_lt (Nat.sub_le _ _) HX1.out)
 have l2:r2.length≤1:=by
  have:=few_limbs r2 1 (by omega)
  rwa [t2] at this
 have HA:=km v1 v2 r2 w1 (A2.arg (by omega)) (by omega)
 have H1:=aa (And.intro A1 (And.intro A2 (And.intro e1 (And.intro t1 (And.intro e2 (And.intro t2 hb1))))))
 clear HS A1 A2 e1 t1 e2 t2 hb1 hv2 l2
 go_wp2_with fail
 refine HA.mono ?_
 rintro e wn ⟨rfl,hw⟩;subst hw
 clear HA
 go_wp2
 go_returns
 obtain⟨q1,q2,q3,q4,q5,q6,q7⟩:=H1.out
 exact⟨⟨v1,v2,r1,r2,rfl,q1,q2,q3,q4,q5,q6⟩,q7⟩



theorem bY (w:World)(o1:Obj):∃w0,w.alloc o1=w0∧Below w.heap.size w w0∧w0.heap[w.heap.size]?=some o1:=⟨_,rfl,(Below.refl _ _).alloc (Nat.le_refl _) _,heap_alloc_new ..⟩

theorem gQ (w:World)(o1 o2:Obj):∃w0,(w.alloc o1).alloc o2=w0∧Below w.heap.size w w0∧w0.heap[w.heap.size]?=some o1∧w0.heap[w.heap.size+1]?=some o2:=by
 obtain⟨w1,h1,b1,c1⟩:=bY w o1
 obtain⟨w2,h2,b2,c2⟩:=bY w1 o2
 have hs:w1.heap.size=w.heap.size+1:=by rw [←h1];exact World.size_alloc _ _
 refine⟨w2,by rw [h1];exact h2,b1.trans (b2.mono b1.size),?_,by rw [←hs];exact c2⟩
 rw [b2.block w.heap.size (lt_of_block c1)];exact c1

theorem duo {w:World}{h:Nat}{a b:Value}{t:TypeId}(e:w.heap[h]?=some (.cells #[a,b] t)):w.cell? ⟨h,0,none⟩=some a∧w.cell? ⟨h,1,none⟩=some b:=⟨by simp [World.cell?,e],by simp [World.cell?,e]⟩

theorem iX (w:World)(o:Obj):Below w.heap.size w (w.alloc o):=(Below.refl _ _).alloc (Nat.le_refl _) _

theorem eA (x:Nat):blen x=0 ↔ x=0:=by
 have h:=blen_le_iff x 0
 rw [Nat.pow_zero] at h
 omega

theorem js (v:Value)(X:List Nat)(w:World)(hA:Arg w v X) :
  Calls Tryz.prog 43 #[v] w fun e w'=>e=.returned (.bool (decide (val X=0)))∧w'=w:=by
 have L:=az v X w hA
 obtain⟨a,c,rfl,_,_,_⟩:=hA.form
 have hz:=eA (val X)
 clear hA
 generalize blen (val X)=l at *
 by_cases h0:l=0
 ·have h2:((l:Int) == 0)=true:=by rw [beq_iff_eq];omega
  rw [decide_eq_true (hz.1 h0)]
  go_enter Tryz.func43,Tryz.ntmps43
  go_wp2_with fail
  refine L.mono ?_
  rintro e wn ⟨rfl,hw⟩;rw [hw];clear hw wn L
  go_wp2
  go_ret
  exact⟨rfl,rfl⟩
 ·have h1:¬val X=0:=fun h=>h0 (hz.2 h)
  have h2:((l:Int) == 0)=false:=by rw [beq_eq_false_iff_ne];omega
  rw [decide_eq_false h1]
  go_enter Tryz.func43,Tryz.ntmps43
  go_wp2_with fail
  refine L.mono ?_
  rintro e wn ⟨rfl,hw⟩;rw [hw];clear hw wn L
  go_wp2
  go_ret
  exact⟨rfl,rfl⟩

def sg (b:Bool)(x:Nat):Int:=if x=0 then 0 else if b then -1 else 1

theorem jb (b:Bool)(v:Value)(X:List Nat)(w:World)(hA:Arg w v X) :
  Calls Tryz.prog 18 #[.agg #[.bool b,v]] w fun e w'=>e=.returned (.int .i64 (sg b (val X)))∧Below w.heap.size w w':=by
 obtain⟨a,c,rfl,_,_,_⟩:=hA.form
 obtain⟨w0,hw0⟩:∃w0,w.alloc (.cells #[.bool b,.slice a X.length c] 47)=w0:=⟨_,rfl⟩
 have hb0:Below w.heap.size w w0:=by rw [←hw0];exact iX _ _
 have h0:w0.heap[w.heap.size]?=some (.cells #[.bool b,.slice a X.length c] 47):=by rw [←hw0];exact heap_alloc_new ..
 obtain⟨k0,k1⟩:=duo h0
 have HZ:=js _ X w0 (hA.below hb0)
 have HB:=aa hb0
 unfold sg
 clear hA h0 hb0
 by_cases hx:val X=0
 ·rw [if_pos hx]
  rw [decide_eq_true hx] at HZ
  go_enter Tryz.func18,Tryz.ntmps18
  go_wp2_with fail
  refine HZ.mono ?_
  rintro e wn ⟨rfl,hw⟩;rw [hw];clear hw wn HZ
  go_wp2
  go_ret
  exact⟨rfl,HB.out⟩
 ·rw [if_neg hx]
  rw [decide_eq_false hx] at HZ
  cases b
  ·go_enter Tryz.func18,Tryz.ntmps18
   go_wp2_with fail
   refine HZ.mono ?_
   rintro e wn ⟨rfl,hw⟩;rw [hw];clear hw wn HZ
   go_wp2
   go_ret
   exact⟨rfl,HB.out⟩
  ·go_enter Tryz.func18,Tryz.ntmps18
   go_wp2_with fail
   refine HZ.mono ?_
   rintro e wn ⟨rfl,hw⟩;rw [hw];clear hw wn HZ
   go_wp2
   go_ret
   exact⟨rfl,HB.out⟩

theorem Ans.shape {w:World}{base:Nat}{v:Value}{rs:List Nat}(h:Ans w base v rs):∃a c,v=.slice a rs.length c:=by
 rcases h.form with ⟨rfl,h⟩|⟨g,cap,rfl,_⟩
 ·exact⟨none,0,by simp_all⟩
 ·exact⟨_,_,rfl⟩

theorem gW:cW ((digs 10 2 42).map fig)=⟨#[52,50]⟩:=by decide +kernel

theorem de {rs:List Nat}{x n:Nat}(ht:tr rs=rs)(hv:val rs=x)(hb:blen x≤n*64):rs.length≤n:=by
 rw [←ht]
 refine ay rs n ?_
 rw [hv]
 have h:=(blen_le_iff x _).1 hb
 rw [Nat.mul_comm,Nat.pow_mul] at h
 exact h

theorem bt9 {W0 W t:World}(h:Below W0.heap.size W0 W)(h2:Below W.heap.size W t):Below W0.heap.size W0 t:=h.trans (h2.mono h.size)

theorem ct {w:World}{g p:Nat}(h:w.heap[g]?=some (.cells #[.int .u64 (p:Int)] 33))(hp:p<18446744073709551616):Arg w (.slice (some ⟨g,0,none⟩) 1 1) [p]:=by
 have hblk:Blk w g [p]:=h
 exact (Ans.of_blk (base:=0) (zs:=[p]) (Nat.zero_le _) hblk (by simp) (by simp) (by simp) (by intro z hz;simp at hz;omega)).arg (by simp)

theorem bS (p:Nat):val [p]=p:=by simp [val]

theorem eE (w:World)(hT:Tab w):Calls Tryz.prog 5 #[] w fun e w'=>e=.returned (.bool true)∧Below w.heap.size w w':=by
 obtain⟨w0,hw0,hb0,h0,h1⟩:=gQ w (.cells #[.int .u64 6] 33) (.cells #[.int .u64 7] 33)
 have hq:∀x,x≤100→blen x≤64:=fun x hx=>by have:blen x≤10:=(blen_le_iff _ _).2 (by omega);omega
 have HQ:=aa hq
 have C:=bO _ _ [6] [7] w0 (ct h0 (by omega)) (ct h1 (by omega)) (hT.below hb0) (by simp)
 rw [bS,bS] at C
 have HB:=aa hb0
 have HT:=aa (hT.below hb0)
 clear h0 h1 hb0 hT hq
 go_enter Tryz.func5,Tryz.ntmps5
 go_wp2_with fail
 refine C.mono ?_
 rintro e w1 ⟨hb,v1,c,r1,rfl,hans,hres⟩
 obtain⟨rfl,hv1,ht1⟩:c=0∧val r1=42∧tr r1=r1:=by
  rcases hres with ⟨h1,h2,h3,_⟩|⟨_,_,h⟩
  ·exact⟨h1,h2,h3⟩
  ·have h9:=HQ.out (6*7) (by omega)
   omega
 have hl1:r1.length≤1:=de ht1 hv1 (HQ.out 42 (by omega))
 obtain⟨a1,k1,rfl⟩:=hans.shape
 replace HB:=aa (bt9 HB.out hb)
 replace HT:=aa (HT.out.below hb)
 have HA:=aa (hans.arg (by omega))
 have HV:=aa (And.intro hv1 hl1)
 clear C hb hans hres hv1 ht1 hl1 hw0
 obtain⟨u1,hu1,hbu,hxu⟩:=bY w1 (.cells #[.int .u64 49] 33)
 have C:=ie _ [49] 7 u1 (ct hxu (by omega)) (by rw [bS];omega) (by decide) ⟨by rw [bS];omega,by rw [bS];omega⟩
 replace HB:=aa (bt9 HB.out hbu)
 replace HT:=aa (HT.out.below hbu)
 replace HA:=aa (HA.out.below hbu)
 clear hbu hxu
 go_wp2_with fail
 refine C.mono ?_
 rintro e w2 ⟨⟨v2,v3,r2,r3,rfl,A2,A3,e2,t2,_,_⟩,hb⟩
 replace HB:=aa (bt9 HB.out hb)
 replace HT:=aa (HT.out.below hb)
 replace HA:=aa (HA.out.below hb)
 have hl2:r2.length≤1:=de t2 e2 (HQ.out 7 (by omega))
 obtain⟨a2,k2,rfl⟩:=A2.shape
 obtain⟨a3,k3,rfl⟩:=A3.shape
 have HA2:=aa (A2.arg (by omega))
 have HV2:=aa e2
 have C:=io _ (val r1) 10 w2 (by omega) (by omega) (kH _ r1 10 w2 HA.out HT.out (by have:=HV.out.2;omega) (by omega) (by omega))
 rw [HV.out.1] at C
 clear hb A2 A3 e2 t2 hl2 hu1
 go_wp2_with fail
 refine C.mono ?_
 rintro e w3 ⟨D,rfl,hd,hdig,hb⟩
 obtain⟨n,hn⟩:∃n,D.length=n:=⟨_,rfl⟩
 have hDe:=gL hn hdig
 rw [hn] at hd
 have hn2:n=2:=hd.unique (by omega) ⟨by omega,by omega,.inr (by omega)⟩
 subst hn2
 subst hDe
 rw [gW]
 replace HB:=aa (bt9 HB.out hb)
 replace HA2:=aa (HA2.out.below hb)
 clear C hd hdig hb hn
 obtain⟨u3,hu3,hbu,hxu⟩:=bY w3 (.cells #[.int .u64 7] 33)
 have C:=cu _ _ r2 [7] u3 (HA2.out.below hbu) (ct hxu (by omega))
 rw [bS,HV2.out,cmpN_self] at C
 replace HB:=aa (bt9 HB.out hbu)
 clear hbu hxu HA2
 go_wp2_with fail
 refine C.mono ?_
 rintro e w4 ⟨rfl,hs⟩
 have hb:Below u3.heap.size u3 w4:=hs.below _
 replace HB:=aa (bt9 HB.out hb)
 clear hs hb C hu3
 obtain⟨u4,hu4,hbu,hxu⟩:=bY w4 (.cells #[.int .u64 1] 33)
 have C:=jb true _ [1] u4 (ct hxu (by omega))
 rw [bS] at C
 have e1:sg true 1=-1:=by decide
 rw [e1] at C
 replace HB:=aa (bt9 HB.out hbu)
 clear hbu hxu e1
 go_wp2_with fail
 refine C.mono ?_
 rintro e w5 ⟨rfl,hb⟩
 replace HB:=aa (bt9 HB.out hb)
 clear hb C
 go_wp2
 go_ret
 exact⟨rfl,HB.out⟩

theorem ks (b off cap:Nat)(zs:List Nat)(w:World)(hcap:zs.length≤cap)(hmax:cap≤9223372036854775807)
  (hc:∀k,k<zs.length→w.cell? ⟨b,off+k,none⟩=some (.int .u64 ((zs.getD k 0:Nat):Int))) :
  Calls Tryz.prog 46 #[.slice (some ⟨b,off,none⟩) zs.length cap] w fun e w'=>e=.returned (.slice (some ⟨b,off,none⟩) (tr zs).length cap)∧w'=w:=by
 go_enter Tryz.func46,Tryz.ntmps46
 go_wp2
 go_loop [3] (fun n=>∃k:Nat,k≤zs.length∧n=.int .i64 k∧tr (zs.take k)=tr zs) (fun n=>(intOf n).toNat)
 case atStart=>exact⟨zs.length,Nat.le_refl _,rfl,by rw [List.take_length]⟩
 case round=>
  obtain⟨k,hk,rfl,ht⟩:=hrel
  have HT:Hid (tr (zs.take k)=tr zs):=ht
  clear ht
  by_cases h0:k=0
  ·subst h0
   go_wp2
   go_ret
   have e:=HT.out
   simp only [List.take_zero,tr] at e
   rw [←e]
   exact⟨rfl,rfl⟩
  ·obtain⟨j,rfl⟩:∃j,k=j+1:=⟨k - 1,by omega⟩
   have hcj:=hc j (by omega)
   clear hc
   by_cases hz:zs.getD j 0=0
   ·have HZ:Hid (tr (zs.take j)=tr zs):=by rw [←tr_step zs j (by omega) hz];exact HT.out
    rw [hz] at hcj
    clear hz HT
    go_wp2
    go_round
    case rel=>exact⟨j,by omega,by go_num,HZ.out⟩
    case measure=>simp [intOf]
   ·have HZ:Hid (tr zs=zs.take (j+1)):=by rw [←HT.out];exact tr_stop zs j (by omega) hz
    clear HT
    generalize zs.getD j 0=z at hcj hz
    have hne:((z:Int) == 0)=false:=by rw [beq_eq_false_iff_ne];omega
    clear hz
    go_wp2
    go_ret
    rw [HZ.out]
    have e:(zs.take (j+1)).length=j+1:=by simp;omega
    rw [e]
    exact⟨rfl,rfl⟩

theorem gO (ao:Option Addr)(cap:Nat)(w:World)(_hmax:cap≤9223372036854775807) :
  Calls Tryz.prog 46 #[.slice ao 0 cap] w fun e w'=>e=.returned (.slice ao 0 cap)∧w'=w:=by
 go_enter Tryz.func46,Tryz.ntmps46
 go_wp2
 refine wp_loop_rounds 1 ?_
 rw [rounds_succ]
 go_wp2
 go_ret
 exact⟨rfl,rfl⟩

theorem cH (ao:Option Addr)(cap:Nat)(zs:List Nat)(w:World)(hcap:zs.length≤cap)(hmax:cap≤9223372036854775807)(hl:ag w ao zs) :
  Calls Tryz.prog 46 #[.slice ao zs.length cap] w fun e w'=>e=.returned (.slice ao (tr zs).length cap)∧w'=w:=by
 rcases hl with rfl|⟨b,off,rfl,hc⟩
 ·exact gO ao cap w hmax
 ·exact ks b off cap zs w hcap hmax hc

theorem cY (bz zo n cap:Nat)(Z:List Nat)(va:Value)(X:List Nat)(w:World)(hB:Blk w bz Z)(hLZ:Limbs Z)(hA:Arg w va X)(ho:0<X.length→Off va bz zo (zo+n))
  (hzo:zo+n≤Z.length) (hc1:n≤cap) (hc2:cap≤9223372036854775807) (hXn:X.length≤n) (hfit:sv Z zo n+val X<18446744073709551616 ^ n) :
  Calls Tryz.prog 75 #[.slice (some ⟨bz,zo,none⟩) n cap,va] w (af bz zo n Z w (sv Z zo n+val X)):=by
 obtain⟨a1,c1,rfl,hcc1,hcm1,hl1⟩:=hA.form
 have hX:=hA.few
 have M1:=hA.limbs
 have hao:0<X.length→∀b off,a1=some ⟨b,off,none⟩→b≠bz∨off+X.length≤zo∨zo+n≤off:=fun h b off e=>by
  subst e
  exact ho h b off _ _ rfl
 have L1:=hl1
 have hln:=hXn
 clear ho hA hl1 hXn
 generalize X=P at *
 have HFIT:=aa hfit
 have HB0:=aa hB
 have HLZ:=aa hLZ
 clear hfit
 go_enter Tryz.func75,Tryz.ntmps75
 go_wp2
 go_loopw [4,10] (fun c i wr=>∃(k cy:Nat) (Z':List Nat),k≤P.length∧i=.int .i64 k∧c=.int .u64 cy∧cy≤1∧Out Z Z' zo (zo+k)∧Limbs Z'∧Blk wr bz Z'∧Fr bz w wr ∧
   sv Z' zo k+cy*18446744073709551616 ^ k=sv Z zo k+val (P.take k)) (fun _ i _=>P.length - (intOf i).toNat)
 case atStart=>exact⟨0,0,Z,Nat.zero_le _,rfl,rfl,by omega,Out.refl _ _ _,HLZ.out,HB0.out,Fr.refl _ _,by simp [au,val]⟩
 case round=>
  obtain⟨k,cy,Z',hk,rfl,rfl,hcy,hout,hlz,hblk,hfr0,hval⟩:=hrel
  have HV:=aa hval
  have HB:=aa hblk
  have HF:=aa hfr0
  have HO:=aa hout
  have hl:=hout.len
  clear hval
  by_cases hkl:k<P.length
  ·rcases L1.fr (hao (by omega)) hfr0 hB hblk (hout.wider (Nat.le_refl _) (by omega)) with h0|⟨b,off,rfl,hcell⟩
   ·rw [h0] at hkl;simp at hkl
   ·have hck:=hcell k hkl
    have hfr:=hblk.free (zo+k)
    have hco:=hblk.cell (zo+k) (by omega)
    have z1:=limb_lt M1 k
    have z2:=limb_lt hlz (zo+k)
    have hsame:=hout.same (zo+k) (by omega)
    have ha:=cf (Z'.getD (zo+k) 0) (P.getD k 0) cy hcy
    obtain⟨q1,q2,q3⟩:=ch (Z'.getD (zo+k) 0) (P.getD k 0) cy z2 z1 hcy
    have HS:=aa (b8 Z Z' zo k cy _ _ (P.getD k 0) _ (by omega) hl HV.out (by rw [←hsame];exact q1))
    rw [←val_take_next P k] at HS
    generalize Z'.getD (zo+k) 0=z at *
    generalize P.getD k 0=x at *
    clear hsame q1
    generalize (z+x+cy) % 18446744073709551616=s at *
    generalize (z+x+cy) / 18446744073709551616=c2 at *
    clear hcell hblk hfr0 hout HV M1 L1 hB hLZ
    go_wp2
    go_roundw
    case rel=>exact⟨k+1,c2,Z'.set (zo+k) s,by omega,by go_num,rfl,q2,(HO.out.wider (Nat.le_refl _) (by omega)).set _ _ (by omega) (by omega),limbs_set hlz _ _ q3,HB.out.set _ s,HF.out.setCell _ _,HS.out⟩
    case measure=>simp [intOf];omega
  ·have ek:k=P.length:=by omega
   subst ek
   rw [List.take_length] at HV
   clear hblk hfr0 hout L1 hB M1 hLZ hl
   go_wp2
   go_loopw [4,7] (fun c i wr2=>∃(k cy:Nat) (Z2:List Nat),k≤n∧i=.int .i64 k∧c=.int .u64 cy∧cy≤1∧Out Z Z2 zo (zo+k)∧Limbs Z2∧Blk wr2 bz Z2∧Fr bz w wr2 ∧
     sv Z2 zo k+cy*18446744073709551616 ^ k=sv Z zo k+val P) (fun _ i _=>n - (intOf i).toNat)
   case atStart=>exact⟨P.length,cy,Z',hln,rfl,rfl,hcy,HO.out,hlz,HB.out,HF.out,HV.out⟩
   case round=>
    obtain⟨k,cy2,Z2,hk2,rfl,rfl,hcy2,hout2,hlz2,hblk2,hfr2,hval2⟩:=hrel
    clear HV HB HF HO
    have HV:=aa hval2
    have HB:=aa hblk2
    have HF:=aa hfr2
    have HO:=aa hout2
    have hl:=hout2.len
    clear hval2
    by_cases hc0:cy2=0
    ·subst hc0
     have HR:=aa (cZ Z Z2 zo k n _ hk2 hzo hout2 (by have h:=HV.out;rw [Nat.zero_mul,Nat.add_zero] at h;exact h))
     clear hblk2 hfr2 hout2 HV
     go_wp2
     go_end0
     exact⟨rfl,Z2,HO.out.wider (Nat.le_refl _) (by omega),hlz2,HB.out,HF.out,HR.out⟩
    ·have hpos:(0:Int)<(cy2:Int):=by omega
     have hkn:k<n:=by
      rcases Nat.lt_or_ge k n with h|h
      ·exact h
      ·have ek:k=n:=by omega
       subst ek
       exact absurd (dA Z Z2 zo k cy2 (val P) HFIT.out HV.out) hc0
     have hfr:=hblk2.free (zo+k)
     have hco:=hblk2.cell (zo+k) (by omega)
     have z2:=limb_lt hlz2 (zo+k)
     have hsame:=hout2.same (zo+k) (by omega)
     have ha:=aZ (Z2.getD (zo+k) 0) cy2
     obtain⟨q1,q2,q3⟩:=ch (Z2.getD (zo+k) 0) 0 cy2 z2 (by omega) hcy2
     have HS:=aa (b8 Z Z2 zo k cy2 _ _ 0 _ (by omega) hl HV.out (by rw [←hsame];exact q1))
     rw [Nat.mul_zero,Nat.add_zero] at HS
     rw [Nat.add_zero] at HS q2 q3
     generalize Z2.getD (zo+k) 0=z at *
     clear hsame q1
     generalize (z+cy2) % 18446744073709551616=s at *
     generalize (z+cy2) / 18446744073709551616=c2 at *
     clear hblk2 hfr2 hout2 HV hc0
     go_wp2
     go_roundw
     case rel=>exact⟨k+1,c2,Z2.set (zo+k) s,by omega,by go_num,rfl,q2,(HO.out.wider (Nat.le_refl _) (by omega)).set _ _ (by omega) (by omega),limbs_set hlz2 _ _ q3,HB.out.set _ s,HF.out.setCell _ _,HS.out⟩
     case measure=>simp [intOf];omega

def aw (w:World)(x:Nat)(e:Ending)(w':World):Prop:=
 (∃v rs,e=.returned v∧Ans w' w.heap.size v rs∧val rs=x∧tr rs=rs)∧Below w.heap.size w w'

theorem Arg.rtrim {w:World}{v:Value}{X:List Nat}(h:Arg w v X):∃ao cap,v=.slice ao X.length cap∧(∀w',Below w.heap.size w w'→Calls Tryz.prog 46 #[v] w' fun e w''=>e=.returned (.slice ao (tr X).length cap)∧w''=w')∧Arg w (.slice ao (tr X).length cap) (tr X):=by
 obtain⟨ao,cap,rfl,h1,h2,h3⟩:=h.form
 exact⟨ao,cap,rfl,fun w' hb=>cH ao cap X w' h1 h2 (h3.below hb),h.trim⟩

theorem Arg.rlies {w:World}{a:Option Addr}{n c:Nat}{X:List Nat}(h:Arg w (.slice a n c) X):ag w a X:=by
 obtain⟨_,_,e,_,_,hl⟩:=h.form
 cases e
 exact hl

theorem aw.trimmed {w w':World}{g:Nat}{Z:List Nat}{x:Nat}(hg:w.heap.size≤g)(hb:Blk w' g Z)(hl:Limbs Z)(hz:Z.length≤1125899906842624)(hx:val Z=x)(hbel:Below w.heap.size w w') :
  Calls Tryz.prog 46 #[.slice (some ⟨g,0,none⟩) Z.length Z.length] w' fun e w''=>e=.returned (.slice (some ⟨g,0,none⟩) (tr Z).length Z.length)∧w''=w'∧aw w x e w'':=by
 have A1:=Ans.of_blk (base:=w.heap.size) (zs:=Z) hg hb List.take_length.symm (Nat.le_refl _) (by omega) hl
 have hA:=A1.arg hz
 obtain⟨ao,cap,e0,hT,_⟩:=hA.rtrim
 cases e0
 refine (hT w' (Below.refl _ _)).mono ?_
 rintro e w2 ⟨rfl,rfl⟩
 exact⟨rfl,rfl,⟨_,tr Z,rfl,A1.trim,by rw [val_tr];exact hx,tr_tr Z⟩,hbel⟩

theorem jO (va vb:Value)(X Y:List Nat)(w:World)(hA:Arg w va X)(hB:Arg w vb Y)(hx:X.length≤17592186044416)(hy:Y.length≤17592186044416) :
  Calls Tryz.prog 55 #[va,vb] w (aw w (val X+val Y)):=by
 obtain⟨a1,c1,rfl,T1,A1⟩:=hA.rtrim
 obtain⟨a2,c2,rfl,T2,A2⟩:=hB.rtrim
 have f1:=A1.few
 have f2:=A2.few
 have g1:=tr_length_le X
 have g2:=tr_length_le Y
 rw [←val_tr X,←val_tr Y]
 have HT1:=T1 w (Below.refl _ _)
 have HT2:=T2 w (Below.refl _ _)
 clear T1 T2
 generalize tr X=P at *
 generalize tr Y=Q at *
 clear hA hB
 obtain⟨i0,hi,hz0,hz1,hz2⟩:=info_parts Tryz.infoU
 go_enter Tryz.func55,Tryz.ntmps55
 go_wp2_with fail
 refine HT1.mono ?_
 rintro e wn ⟨rfl,hw⟩;rw [hw];clear hw wn HT1
 go_wp2_with fail
 refine HT2.mono ?_
 rintro e wn ⟨rfl,hw⟩;rw [hw];clear hw wn HT2
 by_cases hlt:P.length<Q.length
 ·have i1:(P.length:Int)<(Q.length:Int):=by omega
  obtain⟨H',eH,hH1,hH2⟩:∃H':Nat,(Q.length:Int)+1=(H':Int)∧H'≤Q.length+1∧Q.length+1≤H':=⟨Q.length+1,by omega,by omega,by omega⟩
  go_wp2_with (at_make;refine wpList_make_full _ rfl _ _ 23 rfl w.heap.size 33 i0 (.int .u64 0) 1 Tryz.underlying23 hi hz0 hz1 .i64 .i64 _ _ H' rfl rfl (by omega) (by omega) (by rw [hz2];omega) (by unfold maxLen;omega) (Nat.le_refl _) ?_;intro w1 hown hgrow;obtain⟨w2,M2,hcp,B2,L2,F2,O2,S2⟩:=aH w.heap.size 0 H' H' (List.replicate H' 0) a2 c2 Q w1 (Blk.made hown) (limbs_replicate _) A2.limbs (aI H' 0 H') (by simp) (by omega) (A2.below ((Below.refl w.heap.size w).grown hgrow (Nat.le_refl _) (fun k hk=>by cases hk))).rlies)
  have hb1:Below w.heap.size w w1:=(Below.refl w.heap.size w).grown hgrow (Nat.le_refl _) (fun k hk=>by cases hk)
  have hb2:Below w.heap.size w w2:=hb1.trans (F2.below (Nat.le_refl _) hb1.size)
  have l2:M2.length=H':=by rw [O2.len,List.length_replicate]
  have s2:sv M2 0 H'=val Q:=S2
  have hfit:sv M2 0 H'+val P<18446744073709551616 ^ H':=by
   rw [s2]
   have h1:=val_lt A2.limbs
   have h2:=val_lt A1.limbs
   have h3:18446744073709551616 ^ P.length≤18446744073709551616 ^ Q.length:=Nat.pow_le_pow_right (by omega) (by omega)
   have h4:18446744073709551616 ^ H'=18446744073709551616 ^ Q.length*18446744073709551616:=by rw [show H'=Q.length+1 by omega,Nat.pow_succ]
   omega
  have HP:=cY w.heap.size 0 H' H' M2 _ P w2 B2 L2 (A1.below hb2) (fun h0 b off n c e=>.inl (by cases e;have:=A1.block h0;omega)) (by omega) (Nat.le_refl _) (by omega) (by omega) hfit
  clear B2 L2 F2 O2 S2 hown hgrow hb1
  refine HP.mono ?_
  rintro e w3 ⟨rfl,M3,O3,L3,B3,F3,S3⟩
  have HR:=aw.trimmed (w:=w) (x:=val Q+val P) (Nat.le_refl _) B3 L3 (by rw [O3.len];omega) (by rw [←s2,←S3,←l2,←O3.len,aC]) (hb2.trans (F3.below (Nat.le_refl _) hb2.size))
  have l3:M3.length=H':=by rw [O3.len];exact l2
  rw [l3] at HR
  clear HP O3 L3 B3 F3 S3 hb2 s2 hfit
  go_wp2_with fail
  refine HR.mono ?_
  rintro e w4 ⟨rfl,rfl,hd⟩
  have HD:=aa hd
  go_wp2
  go_returns
  rw [Nat.add_comm];exact HD.out
 ·have i1:¬(P.length:Int)<(Q.length:Int):=by omega
  obtain⟨H',eH,hH1,hH2⟩:∃H':Nat,(P.length:Int)+1=(H':Int)∧H'≤P.length+1∧P.length+1≤H':=⟨P.length+1,by omega,by omega,by omega⟩
  go_wp2_with (at_make;refine wpList_make_full _ rfl _ _ 23 rfl w.heap.size 33 i0 (.int .u64 0) 1 Tryz.underlying23 hi hz0 hz1 .i64 .i64 _ _ H' rfl rfl (by omega) (by omega) (by rw [hz2];omega) (by unfold maxLen;omega) (Nat.le_refl _) ?_;intro w1 hown hgrow;obtain⟨w2,M2,hcp,B2,L2,F2,O2,S2⟩:=aH w.heap.size 0 H' H' (List.replicate H' 0) a1 c1 P w1 (Blk.made hown) (limbs_replicate _) A1.limbs (aI H' 0 H') (by simp) (by omega) (A1.below ((Below.refl w.heap.size w).grown hgrow (Nat.le_refl _) (fun k hk=>by cases hk))).rlies)
  have hb1:Below w.heap.size w w1:=(Below.refl w.heap.size w).grown hgrow (Nat.le_refl _) (fun k hk=>by cases hk)
  have hb2:Below w.heap.size w w2:=hb1.trans (F2.below (Nat.le_refl _) hb1.size)
  have l2:M2.length=H':=by rw [O2.len,List.length_replicate]
  have s2:sv M2 0 H'=val P:=S2
  have hfit:sv M2 0 H'+val Q<18446744073709551616 ^ H':=by
   rw [s2]
   have h1:=val_lt A1.limbs
   have h2:=val_lt A2.limbs
   have h3:18446744073709551616 ^ Q.length≤18446744073709551616 ^ P.length:=Nat.pow_le_pow_right (by omega) (by omega)
   have h4:18446744073709551616 ^ H'=18446744073709551616 ^ P.length*18446744073709551616:=by rw [show H'=P.length+1 by omega,Nat.pow_succ]
   omega
  have HP:=cY w.heap.size 0 H' H' M2 _ Q w2 B2 L2 (A2.below hb2) (fun h0 b off n c e=>.inl (by cases e;have:=A2.block h0;omega)) (by omega) (Nat.le_refl _) (by omega) (by omega) hfit
  clear B2 L2 F2 O2 S2 hown hgrow hb1
  refine HP.mono ?_
  rintro e w3 ⟨rfl,M3,O3,L3,B3,F3,S3⟩
  have HR:=aw.trimmed (w:=w) (x:=val P+val Q) (Nat.le_refl _) B3 L3 (by rw [O3.len];omega) (by rw [←s2,←S3,←l2,←O3.len,aC]) (hb2.trans (F3.below (Nat.le_refl _) hb2.size))
  have l3:M3.length=H':=by rw [O3.len];exact l2
  rw [l3] at HR
  clear HP O3 L3 B3 F3 S3 hb2 s2 hfit
  go_wp2_with fail
  refine HR.mono ?_
  rintro e w4 ⟨rfl,rfl,hd⟩
  have HD:=aa hd
  go_wp2
  go_returns
  exact HD.out
end Go.Proofs.YtiagnfghnfhlnaaGreatDoor

