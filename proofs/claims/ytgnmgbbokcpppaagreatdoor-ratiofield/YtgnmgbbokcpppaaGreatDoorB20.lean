/- Package numeral: top, the highest bits of a number. -/
import Derived.Test.YtgnmgbbokcpppaaGreatDoorB19
import Derived.Test.YtgnmgbbokcpppaaGreatDoorB18
import Derived.Deep.RegionHeld3
import Derived.Test.YtgnmgbbokcpppaaGreatDoorB01
import Derived.Test.YtgnmgbbokcpppaaGreatDoorB08
import Derived.Deep.QuietTactic
import Derived.BigQuiet
import Derived.Test.YtgnmgbbokcpppaaGreatDoorB17
import Derived.Test.YtgnmgbbokcpppaaGreatDoorB16
import Derived.Test.YtgnmgbbokcpppaaGreatDoorB03
set_option maxRecDepth 20000
set_option maxHeartbeats 4000000
namespace Go.Proofs.YtgnmgbbokcpppaaGreatDoor
open Go.RowKit
open Lm
attribute [local go_sem ↓] Go.wp_at_zero Go.wp_at_succ

theorem jQ {X:List Nat}(h:Limbs X)(l:Nat)(hl:l<X.length):val X / 18446744073709551616 ^ l=X.getD l 0+18446744073709551616*(val X / 18446744073709551616 ^ (l+1)):=by
 have h1:X.getD l 0=val X / 18446744073709551616 ^ l % 18446744073709551616:=by
  revert l
  induction X with
  | nil=>intro l hl;simp at hl
  | cons a r ih=>
   intro l hl
   have ha:a<18446744073709551616:=h a (List.mem_cons_self ..)
   have hr:Limbs r:=fun z hz=>h z (List.mem_cons_of_mem _ hz)
   cases l with
   | zero=>simp [val];omega
   | succ l=>
    have:=ih hr l (by simpa using hl)
    simp only [List.getD_cons_succ,val]
    rw [this,Nat.pow_succ,Nat.mul_comm (18446744073709551616 ^ l),←Nat.div_div_eq_div_mul]
    congr 2
    omega
 rw [h1,Nat.pow_succ,←Nat.div_div_eq_div_mul]
 omega

theorem qy (x u s:Nat)(hs:s≤64):(x+18446744073709551616*u) / 2 ^ s=x / 2 ^ s+u*2 ^ (64 - s):=by
 have e:18446744073709551616*u=2 ^ s*(u*2 ^ (64 - s)):=by
  rw [Nat.mul_left_comm,←Nat.pow_add,show s+(64 - s)=64 by omega,Nat.mul_comm]
 rw [e,Nat.add_mul_div_left _ _ (Nat.pow_pos (by omega))]

theorem qi (h s l U:Nat)(hs:s≤64)(hl:l<2 ^ s)(hh:h*2 ^ s<18446744073709551616)(hU:U=h*2 ^ s+l):bits BinOp.or IntKind.u64 (l:Int) ((h*2 ^ s:Nat):Int)=(U:Int):=by
 have hll:l<18446744073709551616:=Nat.lt_of_lt_of_le hl (by rw [show (18446744073709551616:Nat)=2 ^ 64 from rfl];exact Nat.pow_le_pow_right (by omega) hs)
 rw [bits_or_u64_nat _ _ hll hh,Nat.or_comm,hU,Nat.mul_comm h,Nat.two_pow_add_eq_or_of_lt hl]

theorem mP (va:Value)(X:List Nat)(w:World)(hA:Arg w va X)(hL:64<blen (val X)) :
  Calls Tryz.prog 163 #[va] w fun e w'=>∃m f:Nat,e=.returned (.agg #[.int .u64 m,.int .i64 ((f:Int) - 63)])∧Top (val X) m f∧f+1=blen (val X)∧Below w.heap.size w w':=by
 have HL:=fun W (hA:Arg W va X)=>aK va X W hA
 obtain⟨ao,cap,rfl,hc,hm,hli⟩:=hA.form
 have hlim:=hA.limbs
 have hfew:=hA.few
 have hv:=val_lt hlim
 obtain⟨L,hLe⟩:∃L,blen (val X)=L:=⟨_,rfl⟩
 have hup:val X<2 ^ L:=(blen_le_iff _ _).1 (by omega)
 have hlo:2 ^ (L - 1)≤val X:=by
  rcases Nat.lt_or_ge (val X) (2 ^ (L - 1)) with h|h
  ·have:=(blen_le_iff _ _).2 h;omega
  ·exact h
 have htop:=Top.of hlo hup (by omega)
 have hLX:L≤64*X.length:=by rw [←hLe];exact (blen_le_iff _ _).2 (by rw [Nat.pow_mul];exact hv)
 rw [hLe]
 simp only [hLe] at HL
 rw [hLe] at hL
 obtain⟨l,s,hls,hs⟩:∃l s,L - 64=64*l+s∧s<64:=⟨(L - 64) / 64,(L - 64) % 64,by omega,by omega⟩
 have hll:l<X.length:=by omega
 have hdiv:val X / 2 ^ (L - 64)=(X.getD l 0+18446744073709551616*(val X / 18446744073709551616 ^ (l+1))) / 2 ^ s:=by
  rw [hls,Nat.pow_add,←Nat.div_div_eq_div_mul,Nat.pow_mul,←jQ hlim l hll]
 rw [qy _ _ _ (by omega)] at hdiv
 have hx0:=limb_lt hlim l
 have hnext:s≠0→l+1<X.length∧val X / 18446744073709551616 ^ (l+1)=X.getD (l+1) 0∧X.getD (l+1) 0*2 ^ (64 - s)<18446744073709551616:=by
  intro h0
  have hl1:l+1<X.length:=by omega
  have hu:=jQ hlim (l+1) hl1
  have hb:=htop.high
  rw [hdiv] at hb
  have hu2:val X / 18446744073709551616 ^ (l+1)*2 ^ (64 - s)<18446744073709551616:=Nat.lt_of_le_of_lt (Nat.le_add_left _ _) hb
  have hu3:val X / 18446744073709551616 ^ (l+1)<18446744073709551616:=by
   have:val X / 18446744073709551616 ^ (l+1)*1≤val X / 18446744073709551616 ^ (l+1)*2 ^ (64 - s):=Nat.mul_le_mul_left _ (Nat.pow_pos (by omega))
   omega
  have hu4:val X / 18446744073709551616 ^ (l+1)=X.getD (l+1) 0:=by omega
  refine⟨hl1,hu4,?_⟩
  rw [←hu4];exact hu2
 obtain⟨W,hW⟩:∃W,w.alloc (.cells #[.int .u64 0,.int .i64 0] 168)=W:=⟨_,rfl⟩
 have hbW:Below w.heap.size w W:=by rw [←hW];exact aA _ _
 have HLW:=HL W (hA.below hbW)
 obtain⟨b,off,rfl,hcell⟩:∃b off,ao=some ⟨b,off,none⟩∧∀k,k<X.length→W.cell? ⟨b,off+k,none⟩=some (.int .u64 ((X.getD k 0:Nat):Int)):=by
  rcases hli.below hbW with h|h
  ·rw [h] at hll;simp at hll
  ·exact h
 have hc0:=hcell l hll
 have hbox:W.heap[w.heap.size]?=some (.cells #[.int .u64 0,.int .i64 0] 168):=by rw [←hW];exact heap_alloc_new ..
 obtain⟨d0,d1⟩:=aX hbox
 have hfz:=fi hbox
 obtain⟨E,hE,hE2⟩:∃E:Nat,(L:Int) - 64=(E:Int)∧L - 64=E:=⟨L - 64,by omega,rfl⟩
 have hq:(E:Int) / 64=(l:Int):=by omega
 have hr:(E:Int) % 64=(s:Int):=by omega
 have hq':(E:Int).tdiv 64=(l:Int):=by rw [Int.tdiv_eq_ediv_of_nonneg (by omega)];exact hq
 have hr':(E:Int).tmod 64=(s:Int):=by rw [Int.tmod_eq_emod_of_nonneg (by omega)];exact hr
 have hsh:((X.getD l 0:Nat):Int) / 2 ^ s=((X.getD l 0 / 2 ^ s:Nat):Int):=by rw [Int.natCast_ediv,Int.natCast_pow];rfl
 have hs0:(0:Int)≤(s:Int):=by omega
 have hs64:(s:Int)<64:=by omega
 have hl0:(0:Int)≤(l:Int):=by omega
 have hlX:(l:Int)<(X.length:Int):=by omega
 have hfx:((L - 64+63:Nat):Int) - 63=(E:Int):=by omega
 have HT:=ac htop
 have HB:=ac hbW
 have HBox:=ac hbox
 have hxs:X.getD l 0 / 2 ^ s<18446744073709551616:=Nat.lt_of_le_of_lt (Nat.div_le_self _ _) hx0
 by_cases hz:s=0
 ·subst hz
  rw [Nat.pow_zero,Nat.div_one,Nat.sub_zero,show (2:Nat) ^ 64=18446744073709551616 from rfl] at hdiv
  have hM:val X / 2 ^ (L - 64)=X.getD l 0:=by have hb:=htop.high;omega
  rw [hM] at htop
  have HM:=ac htop
  clear htop HT hM hdiv hnext hcell hbox hbW hA hli HL hup hlo hlim hv
  generalize X.getD l 0=M at *
  have R5:=dP HBox.out (a':=.int .u64 M) (b':=.int .i64 (E:Int))
  have HD:=ac (dV HB.out (g:=w.heap.size) (u0:=.int .u64 M) (u1:=.int .i64 (E:Int)) (Nat.le_refl _))
  go_enter Tryz.func163,Tryz.ntmps163
  go_wp2_with fail
  refine HLW.mono ?_
  rintro e wn ⟨rfl,hw⟩;rw [hw];clear hw wn HLW
  go_wp2
  generalize (W.setCell ⟨w.heap.size,0,none⟩ (.int .u64 M)).setCell ⟨w.heap.size,1,none⟩ (.int .i64 (E:Int))=w8 at *
  obtain⟨q0,q1⟩:=aX R5
  refine bodyPost_ret (v:=.agg #[.int .u64 M,.int .i64 (E:Int)]) (by simp [results,Tryz.results163,go_sem,q0,q1]) rfl ?_
  exact⟨M,L - 64+63,by rw [hfx],HM.out,by omega,HD.out⟩
 ·obtain⟨hl1,hu,hfit⟩:=hnext hz
  have hc1:=hcell (l+1) hl1
  rw [hu] at hdiv
  have hor:=qi (X.getD (l+1) 0) (64 - s) (X.getD l 0 / 2 ^ s) (val X / 2 ^ (L - 64)) (by omega) ((Nat.div_lt_iff_lt_mul (Nat.pow_pos (by omega))).2 (by rw [←Nat.pow_add,show 64 - s+s=64 by omega];exact hx0)) hfit (by rw [hdiv];omega)
  have hwr:=cQ (X.getD (l+1) 0) (64 - s) (X.getD (l+1) 0*2 ^ (64 - s)) (Nat.mod_eq_of_lt hfit)
  obtain⟨t,ht⟩:∃t:Nat,64 - s=t:=⟨_,rfl⟩
  have hti:(64:Int) - (s:Int)=(t:Int):=by omega
  have htn:t<64:=by omega
  have hgt:(0:Int)<(s:Int):=by omega
  rw [ht] at hor hwr
  have HM:=ac htop
  clear htop HT hdiv hnext hcell hbox hbW hA hli HL hup hlo hlim hv hu hfit
  have hl1':(l:Int)+1<(X.length:Int):=by omega
  generalize val X / 2 ^ (L - 64)=M at *
  generalize X.getD (l+1) 0*2 ^ t=z at *
  generalize X.getD (l+1) 0=x1 at *
  generalize X.getD l 0 / 2 ^ s=y at *
  generalize X.getD l 0=x0 at *
  have R5:=dP HBox.out (a':=.int .u64 M) (b':=.int .i64 (E:Int))
  have HD:=ac (dV HB.out (g:=w.heap.size) (u0:=.int .u64 M) (u1:=.int .i64 (E:Int)) (Nat.le_refl _))
  go_enter Tryz.func163,Tryz.ntmps163
  go_wp2_with fail
  refine HLW.mono ?_
  rintro e wn ⟨rfl,hw⟩;rw [hw];clear hw wn HLW
  go_wp2
  generalize (W.setCell ⟨w.heap.size,0,none⟩ (.int .u64 M)).setCell ⟨w.heap.size,1,none⟩ (.int .i64 (E:Int))=w8 at *
  obtain⟨q0,q1⟩:=aX R5
  refine bodyPost_ret (v:=.agg #[.int .u64 M,.int .i64 (E:Int)]) (by simp [results,Tryz.results163,go_sem,q0,q1]) rfl ?_
  exact⟨M,L - 64+63,by rw [hfx],HM.out,by omega,HD.out⟩

theorem oT (b n m f a lm E:Nat)(c1 c2 c3:Value)(w:World)(hp:Pw b n m f)(ht:Top a lm E)(hn:n≤1125899906842624)
  (HS:∀W,Below w.heap.size w W→Calls Tryz.prog 166 #[c1,c2,c3] W fun e w'=>e=.returned (.bool (decide (b ^ n≤a)))∧Below W.heap.size W w') :
  Calls Tryz.prog 164 #[.agg #[.int .u64 m,.int .i64 ((f:Int) - 63)],.int .i64 n,.agg #[.int .u64 lm,.int .i64 ((E:Int) - 63)],.func (.func 166) #[] #[c1,c2,c3]] w fun e w'=>e=.returned (.bool (decide (b ^ n≤a)))∧Below w.heap.size w w':=by
 have hr:=hp.range
 have hl:=ht.high
 have hno:=fun h=>hp.over ht h
 have hyes:=fun h1 h2=>hp.under ht hn h1 h2
 have ba:=aA w (.cells #[.int .u64 m,.int .i64 ((f:Int) - 63)] 168)
 have bb:=aA (w.alloc (.cells #[.int .u64 m,.int .i64 ((f:Int) - 63)] 168)) (.cells #[.int .u64 lm,.int .i64 ((E:Int) - 63)] 168)
 have bab:=ba.trans (bb.mono ba.size)
 have HB:=ac bab
 have HS2:=HS _ bab
 have HNO:=ac hno
 have HYES:=ac hyes
 clear hno hyes ba bb bab HS hp ht
 by_cases h1:E<f
 ·have i1:(E:Int) - 63<(f:Int) - 63:=by omega
  have hd:decide (b ^ n≤a)=false:=decide_eq_false (by have:=HNO.out (.inl h1);omega)
  rw [hd]
  clear HS2 HNO HYES hd
  go_enter Tryz.func164,Tryz.ntmps164
  go_wp2
  go_ret
  exact⟨rfl,HB.out⟩
 ·by_cases h2:f=E∧lm<m
  ·obtain⟨rfl,h2⟩:=h2
   have i1:(lm:Int)<(m:Int):=by omega
   have hd:decide (b ^ n≤a)=false:=decide_eq_false (by have:=HNO.out (.inr ⟨rfl,h2⟩);omega)
   rw [hd]
   clear HS2 HNO HYES hd
   go_enter Tryz.func164,Tryz.ntmps164
   go_wp2
   go_ret
   exact⟨rfl,HB.out⟩
  ·have e4:(4:Int)*(n:Int)=((4*n:Nat):Int):=by omega
   have ha:=fun W=>bK m (4*n) W
   have hS0:(m+4*n) / 18446744073709551616=0∨(m+4*n) / 18446744073709551616=1:=by omega
   have hSl:(m+4*n) % 18446744073709551616<18446744073709551616:=by omega
   have n4:4*n<18446744073709551616:=by omega
   have hq:(m+4*n) / 18446744073709551616=0→m+4*n=(m+4*n) % 18446744073709551616:=by omega
   obtain⟨S,hS⟩:∃S,(m+4*n) % 18446744073709551616=S:=⟨_,rfl⟩
   obtain⟨cy,hcy⟩:∃cy,(m+4*n) / 18446744073709551616=cy:=⟨_,rfl⟩
   simp only [hS,hcy] at ha
   rw [hcy] at hS0
   rw [hS,hcy] at hq
   rw [hS] at hSl
   have HQ:=ac hq
   obtain⟨N4,hN4⟩:∃N4,4*n=N4:=⟨_,rfl⟩
   rw [hN4] at e4 n4
   simp only [hN4] at ha
   have HN4:=ac hN4
   have j1:¬((E:Int) - 63<(f:Int) - 63):=by omega
   clear hq hS hcy hN4
   by_cases hc:cy=0∧(f<E∨S≤lm)
   ·obtain⟨rfl,hc⟩:=hc
    have hd:decide (b ^ n≤a)=true:=decide_eq_true (HYES.out (by have:=HQ.out rfl;omega) (by have:=HQ.out rfl;omega))
    rw [hd]
    by_cases hfE:f<E
    ·have i1:(f:Int) - 63<(E:Int) - 63:=by omega
     have i2:¬((f:Int) - 63=(E:Int) - 63):=by omega
     have i3:(((f:Int) - 63) == ((E:Int) - 63))=false:=by rw [beq_eq_false_iff_ne];exact i2
     clear HS2 HNO HYES hd hS0 h1 h2
     go_enter Tryz.func164,Tryz.ntmps164
     go_wp2
     go_ret
     exact⟨rfl,HB.out⟩
    ·obtain rfl:f=E:=by omega
     have i1:¬((lm:Int)<(m:Int)):=by omega
     have i2:(S:Int)≤(lm:Int):=by omega
     clear HS2 HNO HYES hd hS0 h1 h2
     go_enter Tryz.func164,Tryz.ntmps164
     go_wp2
     go_ret
     exact⟨rfl,HB.out⟩
   ·generalize decide (b ^ n≤a)=r at *
    by_cases hfE:f<E
    ·have i1:(f:Int) - 63<(E:Int) - 63:=by omega
     have i2:¬((f:Int) - 63=(E:Int) - 63):=by omega
     have i3:(((f:Int) - 63) == ((E:Int) - 63))=false:=by rw [beq_eq_false_iff_ne];exact i2
     obtain rfl:cy=1:=by omega
     clear HNO HYES hS0 h1 h2 hc
     go_enter Tryz.func164,Tryz.ntmps164
     go_wp2_with fail
     refine HS2.mono ?_
     rintro e w2 ⟨rfl,hb2⟩
     have HB2:=ac (HB.out.trans (hb2.mono HB.out.size))
     clear HS2 hb2
     go_wp2
     go_ret
     exact⟨rfl,HB2.out⟩
    ·obtain rfl:f=E:=by omega
     have i1:¬((lm:Int)<(m:Int)):=by omega
     rcases hS0 with rfl|rfl
     ·have i2:¬((S:Int)≤(lm:Int)):=by omega
      clear HNO HYES h1 h2 hc
      go_enter Tryz.func164,Tryz.ntmps164
      go_wp2_with fail
      refine HS2.mono ?_
      rintro e w2 ⟨rfl,hb2⟩
      have HB2:=ac (HB.out.trans (hb2.mono HB.out.size))
      clear HS2 hb2
      go_wp2
      go_ret
      exact⟨rfl,HB2.out⟩
     ·clear HNO HYES h1 h2 hc
      go_enter Tryz.func164,Tryz.ntmps164
      go_wp2_with fail
      refine HS2.mono ?_
      rintro e w2 ⟨rfl,hb2⟩
      have HB2:=ac (HB.out.trans (hb2.mono HB.out.size))
      clear HS2 hb2
      go_wp2
      go_ret
      exact⟨rfl,HB2.out⟩

theorem qH (a b:Nat)(ha:a<4611686018427387904)(hb:b<4611686018427387904):bits .or .i64 (a:Int) (b:Int)=((a ||| b:Nat):Int):=by
 have hx:a ||| b<2 ^ 62:=Nat.or_lt_two_pow (by omega) (by omega)
 have h1:(BitVec.ofInt 64 (a:Int)).toNat=a:=by
  rw [BitVec.ofInt_natCast,BitVec.toNat_ofNat];exact Nat.mod_eq_of_lt (by omega)
 have h2:(BitVec.ofInt 64 (b:Int)).toNat=b:=by
  rw [BitVec.ofInt_natCast,BitVec.toNat_ofNat];exact Nat.mod_eq_of_lt (by omega)
 show IntKind.i64.wrap ((BitVec.ofInt 64 (a:Int) ||| BitVec.ofInt 64 (b:Int)).toNat:Int)=_
 rw [BitVec.toNat_or,h1,h2,IntKind.wrap_i64]
 omega

theorem kN {m p:Nat}(h:m % 2 ^ (p+1)=0):m ||| 2 ^ p=m+2 ^ p:=by
 have e:m=2 ^ (p+1)*(m / 2 ^ (p+1)):=(Nat.mul_div_cancel' (Nat.dvd_of_mod_eq_zero h)).symm
 rw [e]
 exact (Nat.two_pow_add_eq_or_of_lt (by rw [Nat.pow_succ];have:=Nat.two_pow_pos p;omega) _).symm

theorem oJ {m p K:Nat}(h:m % 2 ^ (p+1)=0)(hm:m<2 ^ K)(hp:p+1≤K):m+2 ^ (p+1)≤2 ^ K:=by
 have e:m=m / 2 ^ (p+1)*2 ^ (p+1):=(Nat.div_mul_cancel (Nat.dvd_of_mod_eq_zero h)).symm
 have h4:m / 2 ^ (p+1)<2 ^ (K - (p+1)):=by
  refine Nat.lt_of_mul_lt_mul_right (a:=2 ^ (p+1)) ?_
  rw [←Nat.pow_add,show K - (p+1)+(p+1)=K by omega,←e]
  exact hm
 have h5:=Nat.mul_le_mul_right (2 ^ (p+1)) (Nat.succ_le_of_lt h4)
 rw [←Nat.pow_add,show K - (p+1)+(p+1)=K by omega,Nat.succ_mul,←e] at h5
 exact h5

theorem oM {m p:Nat}(h:m % 2 ^ (p+1)=0):m % 2 ^ p=0∧(m+2 ^ p) % 2 ^ p=0:=by
 have e:m=2 ^ p*(2*(m / 2 ^ (p+1))):=by
  have e:=(Nat.mul_div_cancel' (Nat.dvd_of_mod_eq_zero h)).symm
  rw [Nat.pow_succ,Nat.mul_assoc] at e
  rw [Nat.pow_succ]
  exact e
 refine⟨?_,?_⟩
 ·rw [e];exact Nat.mul_mod_right _ _
 ·rw [Nat.add_mod_right,e];exact Nat.mul_mod_right _ _

theorem jC {w:World}{g:Nat}{a b:Value}{t:TypeId}(h:w.heap[g]?=some (.cells #[a,b] t)):w.cell? ⟨g,0,none⟩=some a∧w.cell? ⟨g,1,none⟩=some b:=⟨by simp [World.cell?,h],by simp [World.cell?,h]⟩

theorem oy (va:Value)(X:List Nat)(b:Nat)(w:World)(hA:Arg w va X)(hT:Tab w)(hl:X.length≤1048576)(hb:2≤b)(hb2:b≤36)(hL:64<blen (val X)) :
  Calls Tryz.prog 150 #[va,.int .u64 b] w fun e w'=>∃n:Nat,e=.returned (.int .i64 n)∧b ^ n≤val X∧val X<b ^ (n+1)∧n≤1152921504606846976∧Below w.heap.size w w':=by
 obtain⟨ao,cap,rfl,_,_,_⟩:=hA.form
 obtain⟨w0,hw0⟩:∃W,(w.alloc (.cells #[.slice ao X.length cap] 23)).alloc (.cells #[.int .u64 b] 62)=W:=⟨_,rfl⟩
 have hb0:Below w.heap.size w w0:=by rw [←hw0];exact bt5 (aA _ _) (aA _ _)
 have x0:w0.heap[w.heap.size]?=some (.cells #[.slice ao X.length cap] 23):=by
  rw [←hw0]
  exact ((aA (w.alloc (.cells #[.slice ao X.length cap] 23)) (.cells #[.int .u64 b] 62)).block w.heap.size (by simp)).trans (heap_alloc_new ..)
 have x1:w0.heap[w.heap.size+1]?=some (.cells #[.int .u64 b] 62):=by
  rw [←hw0]
  have h:=heap_alloc_new (w.alloc (.cells #[.slice ao X.length cap] 23)) (.cells #[.int .u64 b] 62)
  rw [World.size_alloc] at h
  exact h
 have c0:=bM x0
 have c1:=bM x1
 have C1:=mP _ X w0 (hA.below hb0) hL
 have hlen:=gt hA.limbs hl
 obtain⟨L,hLe⟩:∃L,blen (val X)=L:=⟨_,rfl⟩
 have hup:val X<2 ^ L:=(blen_le_iff _ _).1 (by omega)
 have LV:=fun W (h:Arg W (.slice ao X.length cap) X)=>aK _ X W h
 rw [hLe] at hlen hL LV
 have HLN:=fun W=>Tryz.bits_Len (L:Int) W (by omega) (by omega)
 simp only [Int.toNat_natCast] at HLN
 obtain⟨K,hK⟩:∃K,Lib.bitLen L=K:=⟨_,rfl⟩
 have hKL:L<2 ^ K:=by rw [←hK];exact (Lib.bitLenAux_bounds 64 L (by omega) (by omega)).2.2
 have hK27:K≤27:=by rw [←hK];exact Lib.bitLen_le L 27 (by omega) (by omega)
 rw [hK] at HLN
 have hpos:1≤val X:=by
  rcases Nat.eq_zero_or_pos (val X) with h|h
  ·rw [h] at hLe;rw [show blen 0=0 from rfl] at hLe;omega
  ·exact h
 have hst:val X<b ^ (2 ^ K):=Nat.lt_of_lt_of_le hup (Nat.le_trans (Nat.pow_le_pow_left hb L) (Nat.pow_le_pow_right (by omega) (Nat.le_of_lt hKL)))
 have HA:=ac (hA.below hb0)
 have HT:=ac (hT.below hb0)
 have HB0:=ac hb0
 have HST:=ac (And.intro hpos hst)
 have X0:=ac x0
 have X1:=ac x1
 have HLV:=ac LV
 have HLN2:=ac HLN
 clear hA hT hb0 hup hKL hpos hst x0 x1 LV HLN hLe hK
 go_enter Tryz.func150,Tryz.ntmps150
 go_wp2_with fail
 refine C1.mono ?_
 rintro e w1 ⟨lm,E,rfl,hTop,_,hb1⟩
 obtain⟨w2,hw2⟩:∃W,w1.alloc (.cells #[.int .u64 lm,.int .i64 ((E:Int) - 63)] 168)=W:=⟨_,rfl⟩
 have hb2':Below w1.heap.size w1 w2:=by rw [←hw2];exact aA _ _
 have x2:w2.heap[w1.heap.size]?=some (.cells #[.int .u64 lm,.int .i64 ((E:Int) - 63)] 168):=by rw [←hw2];exact heap_alloc_new ..
 have hB2:=bt5 hb1 hb2'
 have y0:=(hB2.block _ (lt_of_block X0.out)).trans X0.out
 have y1:=(hB2.block _ (lt_of_block X1.out)).trans X1.out
 have d0:=bM y0
 have L1:=HLV.out w2 (HA.out.below hB2)
 have Y0:=ac y0
 have Y1:=ac y1
 have Y2:=ac x2
 have HB2:=ac (bt5 HB0.out hB2)
 have HA2:=ac (HA.out.below hB2)
 have HT2:=ac (HT.out.below hB2)
 have HTOP:=ac hTop
 clear C1 hb1 hb2' x2 hB2 y0 y1 X0 X1 HA HT HB0 HLV c0 c1 hTop hw0
 go_wp2_with fail
 refine L1.mono ?_
 rintro e wn ⟨rfl,hw⟩;rw [hw];clear hw wn L1
 have L2:=HLN2.out w2
 go_wp2_with fail
 refine L2.mono ?_
 rintro e wn ⟨rfl,hw⟩;rw [hw];clear hw wn L2
 go_wp2
 clear hw2 d0
 go_loopw [6,7] (fun mv bv wr=>∃m q:Nat,mv=.int .i64 m∧bv=.int .i64 ((q:Int) - 1)∧q≤K∧m % 2 ^ q=0∧m<2 ^ K∧b ^ m≤val X∧val X<b ^ (m+2 ^ q)∧Below w2.heap.size w2 wr) (fun _ bv _=>(intOf bv+1).toNat)
 case atStart=>exact⟨0,K,rfl,rfl,Nat.le_refl _,Nat.zero_mod _,Nat.two_pow_pos _,by rw [Nat.pow_zero];exact HST.out.1,by rw [Nat.zero_add];exact HST.out.2,Below.refl _ _⟩
 case round=>
  obtain⟨m,q,rfl,rfl,hqK,hmq,hmK,hlo,hhi,hbr⟩:=hrel
  have h27:2 ^ K≤134217728:=Nat.pow_le_pow_right (n:=2) (j:=27) (by omega) hK27
  rcases Nat.eq_zero_or_pos q with hq0|hq0
  ·subst hq0
   have HE:=ac (And.intro hlo (And.intro hhi (bt5 HB2.out hbr)))
   have hm9:m≤134217728:=by omega
   clear hlo hhi hbr hmq
   go_wp2
   go_ret
   exact⟨m,rfl,HE.out.1,HE.out.2.1,by omega,HE.out.2.2⟩
  ·obtain⟨p,rfl⟩:∃p,q=p+1:=⟨q - 1,by omega⟩
   have eq:(((p+1:Nat):Int) - 1)=(p:Int):=by omega
   rw [eq]
   have hroom:=oJ hmq hmK hqK
   have hhalf:=oM hmq
   have hpp:2 ^ (p+1)=2*2 ^ p:=by rw [Nat.pow_succ];omega
   have hDp:=Nat.two_pow_pos p
   have hor:=qH m (2 ^ p) (by omega) (by omega)
   rw [kN hmq] at hor
   have h2p:(2:Int) ^ p=((2 ^ p:Nat):Int):=by simp
   obtain⟨U,hU9⟩:∃U,m+2 ^ p=U:=⟨_,rfl⟩
   rw [hU9] at hor
   have hUK:U<2 ^ K:=by omega
   have hUe:m+2 ^ (p+1)=U+2 ^ p:=by omega
   have hUb:U≤134217728:=by omega
   have hDb:2 ^ p≤134217728:=by omega
   have hp64:p<64:=by omega
   have hp0:(0:Int)≤(p:Int):=by omega
   have HU:=ac hU9
   have HUK:=ac hUK
   have HUE:=ac hUe
   have HPH:=ac hhalf
   have HLO:=ac hlo
   have HHI:=ac hhi
   obtain⟨w4,hw4⟩:∃W,wr.alloc (.cells #[.int .i64 U] 3)=W:=⟨_,rfl⟩
   have hb4:Below wr.heap.size wr w4:=by rw [←hw4];exact aA _ _
   have x4:w4.heap[wr.heap.size]?=some (.cells #[.int .i64 U] 3):=by rw [←hw4];exact heap_alloc_new ..
   have hB4:=bt5 hbr hb4
   have HB4:=ac hB4
   have KA:=ac (fun (W:World) (hg:Below w4.heap.size w4 W)=>show W.cell? ⟨w.heap.size,0,none⟩=some (.slice ao X.length cap) from bM (((bt5 hB4 hg).block _ (lt_of_block Y0.out)).trans Y0.out))
   have KS:=ac (fun (W:World) (hg:Below w4.heap.size w4 W)=>show W.cell? ⟨w.heap.size+1,0,none⟩=some (.int .u64 b)∧W.cell? ⟨wr.heap.size,0,none⟩=some (.int .i64 U)∧W.cell? ⟨w1.heap.size,0,none⟩=some (.int .u64 lm)∧W.cell? ⟨w1.heap.size,1,none⟩=some (.int .i64 ((E:Int) - 63)) from
    ⟨bM (((bt5 hB4 hg).block _ (lt_of_block Y1.out)).trans Y1.out),bM ((hg.block _ (lt_of_block x4)).trans x4),(jC (((bt5 hB4 hg).block _ (lt_of_block Y2.out)).trans Y2.out)).1,(jC (((bt5 hB4 hg).block _ (lt_of_block Y2.out)).trans Y2.out)).2⟩)
   have NP:=ac (fun (W:World)=>kq b U W (by omega) (by omega) (by omega))
   have NA:=ac (fun (W:World) (pm pf:Nat) (hPw:Pw b U pm pf) (hg:Below w4.heap.size w4 W)=>oT b U pm pf (val X) lm E (.pointer (some ⟨w.heap.size,0,none⟩)) (.pointer (some ⟨w.heap.size+1,0,none⟩)) (.pointer (some ⟨wr.heap.size,0,none⟩)) W hPw HTOP.out (by omega) (fun W' hW'=>l7 w.heap.size (w.heap.size+1) wr.heap.size _ X b U W' (KA.out _ (bt5 hg hW')) (KS.out _ (bt5 hg hW')).1 (KS.out _ (bt5 hg hW')).2.1 (HA2.out.below (bt5 HB4.out (bt5 hg hW'))) (HT2.out.below (bt5 HB4.out (bt5 hg hW'))) hl hb hb2 (by omega)))
   have g0:Below w4.heap.size w4 w4.drew:=(Below.refl _ _).drew
   obtain⟨DD,hDD⟩:∃DD,2 ^ p=DD:=⟨_,rfl⟩
   have HDD:=ac hDD
   rw [hDD] at hor h2p hDb
   clear hlo hhi hbr hmq hhalf hroom hpp hDp hU9 hUK hUe hb4 x4 hB4 hDD eq KA
   by_cases hU:b ^ U≤val X
   ·skip
    have hdec:decide (b ^ U≤val X)=true:=by simpa using hU
    go_wp2_with fail
    go_region_held3 (fun w'=>w'.cell? ⟨w.heap.size+1,0,none⟩=some (.int .u64 b)∧w'.cell? ⟨wr.heap.size,0,none⟩=some (.int .i64 U)∧w'.cell? ⟨w1.heap.size,0,none⟩=some (.int .u64 lm)∧w'.cell? ⟨w1.heap.size,1,none⟩=some (.int .i64 ((E:Int) - 63))) (first|with_reducible exact KS.out _ g2|with_reducible exact KS.out _ g1|with_reducible exact KS.out _ g0) (first
     | (go_at_call 164;refine (NA.out _ pm pf hPw g1).mono ?_;rintro e' t2 ⟨rfl,hb2⟩;have g2:=bt5 g1 hb2)
     | (go_at_call 165;refine (NP.out _).mono ?_;rintro e' t1 ⟨pm,pf,rfl,hPw,hb1⟩;have g1:=bt5 g0 hb1))
    all_goals
     have HBE:=ac (bt5 HB4.out g2)
     obtain⟨_,z1,_,_⟩:=KS.out _ g2
     clear NA NP KS hb1 hb2 g1 g2 g0 hPw hdec
     go_wp2
     go_roundw
     case rel=>exact⟨U,p,rfl,rfl,by omega,by rw [←HU.out];exact HPH.out.2,HUK.out,hU,by have h:=HHI.out;rw [HUE.out] at h;exact h,HBE.out⟩
     case measure=>simp [intOf]
   ·skip
    have hdec:decide (b ^ U≤val X)=false:=by simpa using hU
    go_wp2_with fail
    go_region_held3 (fun w'=>w'.cell? ⟨w.heap.size+1,0,none⟩=some (.int .u64 b)∧w'.cell? ⟨wr.heap.size,0,none⟩=some (.int .i64 U)∧w'.cell? ⟨w1.heap.size,0,none⟩=some (.int .u64 lm)∧w'.cell? ⟨w1.heap.size,1,none⟩=some (.int .i64 ((E:Int) - 63))) (first|with_reducible exact KS.out _ g2|with_reducible exact KS.out _ g1|with_reducible exact KS.out _ g0) (first
     | (go_at_call 164;refine (NA.out _ pm pf hPw g1).mono ?_;rintro e' t2 ⟨rfl,hb2⟩;have g2:=bt5 g1 hb2)
     | (go_at_call 165;refine (NP.out _).mono ?_;rintro e' t1 ⟨pm,pf,rfl,hPw,hb1⟩;have g1:=bt5 g0 hb1))
    all_goals
     have HBE:=ac (bt5 HB4.out g2)
     obtain⟨_,z1,_,_⟩:=KS.out _ g2
     clear NA NP KS hb1 hb2 g1 g2 g0 hPw hdec
     go_wp2
     go_roundw
     case rel=>exact⟨m,p,rfl,rfl,by omega,HPH.out.1,hmK,HLO.out,by rw [HU.out];omega,HBE.out⟩
     case measure=>simp [intOf]

attribute [local go_sem] gB
end Go.Proofs.YtgnmgbbokcpppaaGreatDoor
namespace Go.Proofs.YtgnmgbbokcpppaaGreatDoor
open Go.RowKit
open Lm
attribute [local go_sem ↓] Go.wp_at_zero Go.wp_at_succ

theorem s0 (h:0<(ByteArray.mk #[48,48,102,102]).size):(ByteArray.mk #[48,48,102,102])[0].toNat=48:=rfl

theorem s1 (h:1<(ByteArray.mk #[48,48,102,102]).size):(ByteArray.mk #[48,48,102,102])[1].toNat=48:=rfl

theorem s2 (h:2<(ByteArray.mk #[48,48,102,102]).size):(ByteArray.mk #[48,48,102,102])[2].toNat=102:=rfl

theorem s3 (h:3<(ByteArray.mk #[48,48,102,102]).size):(ByteArray.mk #[48,48,102,102])[3].toNat=102:=rfl

attribute [local go_sem] s0 s1 s2 s3
end Go.Proofs.YtgnmgbbokcpppaaGreatDoor
namespace Go.Proofs.YtgnmgbbokcpppaaGreatDoor
open Go.RowKit
open Lm
attribute [local go_sem ↓] Go.wp_at_zero Go.wp_at_succ

theorem Byt.made {w:World}{base n g:Nat}(h:w.ownsRow base 5 1 (.slice (some ⟨g,0,none⟩) n n) n (madeCells (Value.int .u8 0).cells (n*1)).toList):Byt w g (List.replicate n 0):=by
 have:=kV h
 unfold Byt
 rw [this,List.map_replicate]
 rfl
end Go.Proofs.YtgnmgbbokcpppaaGreatDoor
namespace Go.Proofs.YtgnmgbbokcpppaaGreatDoor
open Go.RowKit
open Lm
attribute [local go_sem ↓] Go.wp_at_zero Go.wp_at_succ
attribute [local go_sem] gB

theorem po (k:Nat)(h:k≠0):1<18446744073709551616 ^ k:=Nat.one_lt_pow h (by omega)

theorem kG (va:Value)(X:List Nat)(b:Nat)(w:World)(hA:Arg w va X)(hT:Tab w)(hl:X.length≤1048576)(hb:2≤b)(hb2:b≤36) :
  Calls Tryz.prog 129 #[va,.int .i64 b] w (jV b (val X) w):=
 lr va X b w hA hT hb hb2 (fun h=>oy va X b w hA hT hl hb hb2 h)

theorem pM {X:List Nat}(k:Nat)(h:Limbs X)(hl:X.length≤k):val X<18446744073709551616 ^ k:=Nat.lt_of_lt_of_le (val_lt h) (Nat.pow_le_pow_right (by omega) hl)

theorem dJ {b x n:Nat}{X:List Nat}(hb:2≤b)(hX:Limbs X)(hl:X.length≤1048576)(hx:val X=x)(h:aN b x n):n≤67108865∧(n≤1∨b ^ (n - 1)≤x):=by
 obtain⟨h1,h2,h3⟩:=h
 refine⟨?_,?_⟩
 ·rcases h3 with h3|h3
  ·omega
  ·have hlen:=gt hX hl
   rw [hx] at hlen
   have h4:2 ^ (n - 1)≤x:=Nat.le_trans (Nat.pow_le_pow_left hb _) h3
   have h5:x<2 ^ blen x:=(blen_le_iff _ _).1 (Nat.le_refl _)
   have h6:=(Nat.pow_lt_pow_iff_right (by omega:1<2)).1 (Nat.lt_of_le_of_lt h4 h5)
   omega
 ·rcases h3 with h3|h3
  ·exact .inl (by omega)
  ·exact .inr h3

theorem gv (va:Value)(X:List Nat)(b:Nat)(w:World)(hA:Arg w va X)(hT:Tab w)(hl:X.length≤1048576)(hb:2≤b)(hb2:b≤36) :
  Calls Tryz.prog 107 #[va,.int .i64 b] w (fp b (val X) w):=by
 obtain⟨i0,hi,hz0,hz1,hz2⟩:=info_parts Tryz.infoB
 obtain⟨ao,cap,rfl,hcap,_,hL⟩:=hA.form
 obtain⟨w0,hw0⟩:∃W,w.alloc (.cells #[.int .i64 b] 3)=W:=⟨_,rfl⟩
 have hb0:Below w.heap.size w w0:=by rw [←hw0];exact aA _ _
 have x0:w0.heap[w.heap.size]?=some (.cells #[.int .i64 b] 3):=by rw [←hw0];exact heap_alloc_new ..
 have c0:=bM x0
 have C1:=kG _ X b w0 (hA.below hb0) (hT.below hb0) hl hb hb2
 have HA:=ac hA
 have HT:=ac hT
 have HB0:=ac hb0
 have X0:=ac x0
 have hLX:=hL
 clear hA hT hb0 x0 hL
 go_enter Tryz.func107,Tryz.ntmps107
 go_wp2_with fail
 refine C1.mono ?_
 rintro e w1 ⟨n,rfl,hd,hb1⟩
 obtain⟨hn,hlow⟩:=dJ hb HA.out.limbs hl rfl hd
 have hB1:=bt5 HB0.out hb1
 have x1:=(hb1.block _ (lt_of_block X0.out)).trans X0.out
 have c1:=bM x1
 have HB1:=ac hB1
 have X1:=ac x1
 have HD:=ac hd
 clear C1 hb1 hB1 x1 X0 HB0 c0 hd
 have hNB:b ^ (n - 1)<18446744073709551616 ^ 1048576:=by
  rcases hlow with h|h
  ·rw [show n - 1=0 by omega,Nat.pow_zero]
   exact po 1048576 (by omega)
  ·exact Nat.lt_of_le_of_lt h (pM 1048576 HA.out.limbs hl)
 have hpl:(∃b' off c,Value.slice ao X.length cap=.slice (some ⟨b',off,none⟩) X.length c)∨n≤1:=by
  rcases hLX with rfl|⟨b',off,rfl,_⟩
  ·right
   obtain⟨_,_,h3⟩:=HD.out
   rcases h3 with h3|h3
   ·omega
   ·have:=Nat.pow_pos (n:=n - 1) (show 0<b by omega)
    simp [val] at h3
    omega
  ·exact .inl ⟨b',off,cap,rfl⟩
 have HPL:=ac hpl
 have HNB:=ac hNB
 clear hlow hNB hpl hLX
 go_wp2_with (at_make;refine wpList_make_full _ rfl _ _ 112 rfl w1.heap.size 5 i0 (.int .u8 0) 1 Tryz.underlying112 hi hz0 hz1 .i64 .i64 _ _ n rfl rfl (by omega) (by omega) (by rw [hz2];omega) (by unfold maxLen;omega) (Nat.le_refl _) ?_;intro w2 hown hgrow;have hb2':Below w1.heap.size w1 w2:=(Below.refl w1.heap.size w1).grown hgrow (Nat.le_refl _) (fun k hk=>by cases hk);have x2:=(hb2'.block _ (lt_of_block X1.out)).trans X1.out;have c2:=bM x2)
 have hY2:=Byt.made hown
 have hB2:=bt5 HB1.out hb2'
 have C2:=ku b n w2 (HT.out.below hB2) hb hb2 (by omega)
 obtain⟨gd,hgd⟩:∃gd,w1.heap.size=gd:=⟨_,rfl⟩
 rw [hgd] at hY2
 have hgdw:w.heap.size<gd:=by rw [←hgd];exact lt_of_block X1.out
 have HY2:=ac hY2
 have HB2:=ac hB2
 have X2:=ac x2
 have HGD:=ac hgd
 clear hown hgrow hi hz0 hz1 hz2 hb2' hY2 hB2 c1 x2 hgd
 go_wp2_with fail
 rw [HGD.out]
 refine C2.mono ?_
 rintro e w3 ⟨⟨vl,rfl,hP⟩,hb3⟩
 obtain⟨al,nl,kl,rfl⟩:∃al nl kl,vl=.slice al nl kl:=by
  obtain⟨l,h1,_⟩:=hP
  rcases h1 with ⟨h1,_⟩|⟨g,cap',h1,_⟩
  ·exact⟨_,_,_,h1⟩
  ·exact⟨_,_,_,h1⟩
 obtain⟨w4,hw4⟩:∃W,w3.alloc (.cells #[.slice al nl kl] 136)=W:=⟨_,rfl⟩
 have hs4:w4.heap.size=w3.heap.size+1:=by rw [←hw4];exact World.size_alloc _ _
 obtain⟨w5,hw5⟩:∃W,w4.alloc (.cells #[.func (.func 131) #[] #[.pointer (some ⟨w3.heap.size,0,none⟩),.pointer (some ⟨w.heap.size,0,none⟩),.pointer (some ⟨w3.heap.size+1,0,none⟩)]] 138)=W:=⟨_,rfl⟩
 have hb4:Below w3.heap.size w3 w4:=by rw [←hw4];exact aA _ _
 have hb5:Below w4.heap.size w4 w5:=by rw [←hw5];exact aA _ _
 have hb35:=bt5 hb4 hb5
 have hb25:=bt5 hb3 hb35
 have cl:=cC hb5 (bM (show w4.heap[w3.heap.size]?=some (.cells #[.slice al nl kl] 136) by rw [←hw4];exact heap_alloc_new ..))
 have cb5:=cC hb25 (bM X2.out)
 have cw:w5.cell? ⟨w3.heap.size+1,0,none⟩=some (.func (.func 131) #[] #[.pointer (some ⟨w3.heap.size,0,none⟩),.pointer (some ⟨w.heap.size,0,none⟩),.pointer (some ⟨w3.heap.size+1,0,none⟩)]):=bM (t:=138) (by
  have h:=heap_alloc_new w4 (.cells #[.func (.func 131) #[] #[.pointer (some ⟨w3.heap.size,0,none⟩),.pointer (some ⟨w.heap.size,0,none⟩),.pointer (some ⟨w3.heap.size+1,0,none⟩)]] 138)
  rw [hs4,hw5] at h
  exact h)
 have hB5:=bt5 HB2.out hb25
 have hY5:Byt w5 gd (List.replicate n 0):=HY2.out.below hb25 HY2.out.lt
 have FW:=fL w3.heap.size w.heap.size (w3.heap.size+1) gd b n (.slice al nl kl) hb hb2 HNB.out (by have:=HT.out.1;omega) (n+1) n 0 n (List.replicate n 0) _ X w5 (by omega) hY5 (by simp) (Nat.le_refl _) (by omega) (Nat.le_refl _) (HA.out.below hB5) hl HPL.out (HT.out.below hB5) cl cb5 cw (fun z e=>by cases e) (hP.below hb35)
 have HW5:=ac (show (w3.alloc (.cells #[.slice al nl kl] 136)).alloc (.cells #[.func (.func 131) #[] #[.pointer (some ⟨w3.heap.size,0,none⟩),.pointer (some ⟨w.heap.size,0,none⟩),.pointer (some ⟨w3.heap.size+1,0,none⟩)]] 138)=w5 by rw [hw4,hw5])
 have HB5:=ac hB5
 rw [←HW5.out] at cw
 clear C2 hb3 hb4 hb5 hb35 hb25 cl cb5 hw4 hw5 hs4 hB5 hY5 hP c2
 go_wp2_with fail
 rw [HW5.out]
 refine FW.mono ?_
 rintro e w6 ⟨rfl,D',hD',hW',hF'⟩
 have hDl:D'.length=n:=by rw [hW'.len];simp
 have HF:=ac (And.intro hD' (And.intro hW' (HB5.out.trans (hF'.below (Nat.le_of_lt hgdw) HB5.out.size))))
 clear FW hD' hW' hF' cw
 go_wp2
 go_ret
 refine⟨gd,D',by rw [hDl];rfl,Nat.le_of_lt hgdw,HF.out.1,by rw [hDl];exact HD.out,by omega,fun i hi=>?_,HF.out.2.2⟩
 rw [hDl] at hi ⊢
 have h:=HF.out.2.1.digs i (Nat.zero_le _) hi
 rw [Nat.zero_add] at h
 exact h
end Go.Proofs.YtgnmgbbokcpppaaGreatDoor
namespace Go.Proofs.YtgnmgbbokcpppaaGreatDoor
open Go.RowKit
open Lm
attribute [local go_sem ↓] Go.wp_at_zero Go.wp_at_succ

theorem ij (base n cap:Nat)(a:Option Addr)(L:List Nat)(w:World)(h:w.ownsRow base 5 1 (.slice a n cap) n (L.map bv))(hn:0<n) :
  (convert 112 9 (.slice a n cap)).run Tryz.prog w=.ok (.string (aI L)) w:=by
 obtain⟨h1,h2⟩:=h
 have hl:L.length=n:=by simpa using h1
 rcases h2 with ⟨_,h3⟩|⟨g,cap',cur,he,hge,hh,hle,hml,hsz,htk⟩
 ·omega
 ·obtain⟨rfl,rfl⟩:a=some ⟨g,0,none⟩∧cap'=cap:=by simp at he;exact⟨he.1,he.2.symm⟩
  rw [run_convert_bytes_string w 112 9 5 _ _ _ Tryz.underlying112 Tryz.underlying5 Tryz.underlying9]
  rw [run_bytesToString w _ n _ (L.map fun n=>((n:Nat):Int)) ?_,iJ]
  ·rfl
  ·have hc:=run_loadCells_list (P:=Tryz.prog) (w:=w) ⟨g,0,none⟩ (L.map bv) (fun j v hj=>by
    have hjl:j<L.length:=by
     rcases Nat.lt_or_ge j L.length with h|h
     ·exact h
     ·rw [List.getElem?_eq_none (by simpa using h)] at hj;cases hj
    have e:(L.map bv)[j]?=cur.toList[j]?:=by rw [←htk,List.getElem?_take,if_pos (by omega)]
    have e2:w.cell? ⟨g,j,none⟩=(L.map bv)[j]?:=by rw [e];simp [World.cell?,hh]
    rw [←hj,←e2]
    by_cases h0:j=0
    ·subst h0;simp [Addr.add]
    ·simp [Addr.add,h0])
   rw [List.length_map,hl] at hc
   rw [hc,List.map_map]
   rfl

theorem fW {w:World}{base n:Nat}{t:TypeId}{v:Value}{xs:List Value}(h:w.ownsRow base t 1 v n xs)(hn:0<n):∃a c,v=.slice a n c:=by
 rcases h.2 with ⟨_,h2⟩|⟨g,cap,cur,h1,_⟩
 ·omega
 ·exact⟨_,_,h1⟩

theorem nE (b:Bool)(v:Value)(X:List Nat)(w:World)(hA:Arg w v X)(hT:Tab w)(hl:X.length≤1048576) :
  Calls Tryz.prog 75 #[.agg #[.bool b,v]] w fun e w'=>∃n,e=.returned (.string (bH (zz b (val X)) n))∧aN 10 (val X) n∧Below w.heap.size w w':=by
 obtain⟨i0,hi,hz0,hz1,hz2⟩:=info_parts Tryz.infoB
 obtain⟨a,c,rfl,_,_,_⟩:=hA.form
 obtain⟨w0,hw0,hb0,h0⟩:=an w (.cells #[.bool b,.slice a X.length c] 25)
 have HN:=ou b _ X w0 (hA.below hb0)
 have HLM:=ac hA.limbs
 have HA:=ac (hA.below hb0)
 have HT:=ac (hT.below hb0)
 have HB0:=ac hb0
 have HX0:=ac h0
 have HZA:=ac (aM b (val X))
 obtain⟨k0,k1⟩:=duo h0
 obtain⟨z,hzz⟩:∃z,zz b (val X)=z:=⟨_,rfl⟩
 rw [hzz] at HN HZA ⊢
 clear hA hT hb0 h0 hzz
 by_cases hz:z<0
 ·rw [decide_eq_true hz] at HN
  have HZ:=ac hz
  clear hz
  go_enter Tryz.func75,Tryz.ntmps75
  go_wp2_with fail
  refine HN.mono ?_
  rintro e w1 ⟨rfl,hb1⟩
  have HB1:=ac (bt5 HB0.out hb1)
  have HX1:=ac (ae hb1 HX0.out)
  have HA1:=ac (HA.out.below hb1)
  have HT1:=ac (HT.out.below hb1)
  have hsz1:=HB1.out.size
  clear HN hb1 k0 k1 HX0 HB0 HA HT hw0
  go_wp2_with (at_builtin;refine wpList_append_own _ rfl _ _ 112 rfl w1.heap.size 5 i0 (.int .u8 0) 1 1 Tryz.underlying112 hi hz0 hz1 hz2 rfl (by decide) (.slice none 0 0) 0 [] rfl (World.ownsRow_nil _ _ _ _) ⟨w1.heap.size,0,none⟩ 1 1 [.int .u8 45] rfl rfl (gj [.int .u8 45] 5) (by intro u hu;simp at hu;subst hu;rfl) (by unfold maxLen;omega) (by omega) (by simp) ?_;intro v2 w2 hown hgrow _;have hb2:Below w1.heap.size w1 w2:=((Below.refl w1.heap.size w1).alloc (Nat.le_refl _) _).grown hgrow (by simp) (fun g e=>by cases e);obtain⟨a2,c2,rfl⟩:=fW hown (by omega);have hx2:=ae hb2 HX1.out;obtain⟨k0,k1⟩:=duo hx2;clear hgrow)
  have HB2:=ac (bt5 HB1.out hb2)
  have C:=fH (.slice a X.length c) (val X) 10 w2 (by omega) (by omega) (gv _ X 10 w2 (HA1.out.below hb2) (HT1.out.below hb2) hl (by omega) (by omega))
  have HOW:=ac hown
  have hw12:w1.heap.size≤w2.heap.size:=hb2.size
  clear hown hb2 hx2 HX1 HA1 HT1
  refine C.mono ?_
  rintro e w3 ⟨D,rfl,hd,hg,hb3⟩
  obtain⟨n,hn⟩:∃n,D.length=n:=⟨_,rfl⟩
  have hDe:=gK hn hg
  rw [hn] at hd
  subst hDe
  obtain⟨hn9,_⟩:=dJ (by omega) HLM.out hl rfl hd
  obtain⟨S,hS⟩:∃S,aI ((digs 10 n (val X)).map fig)=S:=⟨_,rfl⟩
  have hSs:S.size=n:=by rw [←hS,eD,cF]
  have hSc:Lib.strCells S=((digs 10 n (val X)).map fig).map bv:=by rw [←hS];exact ic _
  rw [hS]
  have HW:Hid (bH z n=aI (45 :: (digs 10 n (val X)).map fig)):=ac (by rw [ob n (by have:=HZ.out;omega),HZA.out,oQ])
  have HSC:=ac hSc
  have HH:=ac (And.intro hd (bt5 HB2.out hb3))
  have HO3:=ac (gU HOW.out hb3)
  have HGE:=ac (fD HOW.out)
  have hsz3:=HH.out.2.size
  have hw13:w1.heap.size≤w3.heap.size:=Nat.le_trans hw12 hb3.size
  clear C hd hg hb3 HOW HB2 k0 k1 hS hSc hn
  go_wp2_with (at_builtin;refine Lib.wpList_append_own_string _ rfl _ _ 112 9 rfl w1.heap.size 5 i0 Tryz.underlying112 Tryz.underlying9 hi hz0 hz1 hz2 (.slice a2 (0+1) c2) (0+1) _ rfl HO3.out S rfl (by unfold maxLen;omega) (by omega) hw13 ?_;intro v4 w4 hown hgrow _;rw [hSs,Nat.zero_add] at hown;obtain⟨a4,c4,rfl⟩:=fW hown (by omega);have HC:=ij _ _ _ _ (45 :: (digs 10 n (val X)).map fig) _ (by rw [HSC.out] at hown;exact hown) (by omega))
  have HB4:=ac (HH.out.2.grown hgrow (by omega) (fun g e=>by have:=HGE.out g e;omega))
  clear hown hgrow
  go_wp2
  go_ret
  exact⟨n,by rw [HW.out];rfl,HH.out.1,HB4.out⟩
 ·rw [decide_eq_false hz] at HN
  have HZ:=ac hz
  clear hz
  go_enter Tryz.func75,Tryz.ntmps75
  go_wp2_with fail
  refine HN.mono ?_
  rintro e w1 ⟨rfl,hb1⟩
  have HB1:=ac (bt5 HB0.out hb1)
  have hx1:=ae hb1 HX0.out
  have C:=fH (.slice a X.length c) (val X) 10 w1 (by omega) (by omega) (gv _ X 10 w1 (HA.out.below hb1) (HT.out.below hb1) hl (by omega) (by omega))
  obtain⟨k0,k1⟩:=duo hx1
  clear HN hb1 HX0 HB0 HA HT hw0 hx1
  go_wp2_with fail
  refine C.mono ?_
  rintro e w3 ⟨D,rfl,hd,hg,hb3⟩
  obtain⟨n,hn⟩:∃n,D.length=n:=⟨_,rfl⟩
  have hDe:=gK hn hg
  rw [hn] at hd
  have hd1:=hd.1
  subst hDe
  obtain⟨hn9,_⟩:=dJ (by omega) HLM.out hl rfl hd
  obtain⟨S,hS⟩:∃S,aI ((digs 10 n (val X)).map fig)=S:=⟨_,rfl⟩
  have hSs:S.size=n:=by rw [←hS,eD,cF]
  have hSc:Lib.strCells S=((digs 10 n (val X)).map fig).map bv:=by rw [←hS];exact ic _
  rw [hS]
  have HW:Hid (bH z n=aI ((digs 10 n (val X)).map fig)):=ac (by rw [pj n (by have:=HZ.out;omega),HZA.out])
  have HSC:=ac hSc
  have HH:=ac (And.intro hd (bt5 HB1.out hb3))
  have hsz3:=HH.out.2.size
  clear C hd hg hb3 k0 k1 hS hSc hn
  go_wp2_with (at_builtin;refine Lib.wpList_append_own_string _ rfl _ _ 112 9 rfl w.heap.size 5 i0 Tryz.underlying112 Tryz.underlying9 hi hz0 hz1 hz2 (.slice none 0 0) 0 [] rfl (World.ownsRow_nil _ _ _ _) S rfl (by unfold maxLen;omega) (by omega) hsz3 ?_;intro v4 w4 hown hgrow _;rw [hSs,Nat.zero_add] at hown;obtain⟨a4,c4,rfl⟩:=fW hown (by omega);have HC:=ij _ _ _ _ ((digs 10 n (val X)).map fig) _ (by rw [HSC.out] at hown;exact hown) (by omega))
  have HB4:=ac (HH.out.2.grown hgrow (by omega) (fun g e=>by cases e))
  clear hown hgrow
  go_wp2
  go_ret
  exact⟨n,by rw [HW.out];rfl,HH.out.1,HB4.out⟩
end Go.Proofs.YtgnmgbbokcpppaaGreatDoor
namespace Go.Proofs.YtgnmgbbokcpppaaGreatDoor
open Go.RowKit
open Lm

theorem np (x:Nat):∃n,aN 10 x n:=by
 induction x using Nat.strongRecOn with
 | ind x ih=>
  by_cases h:x<10
  ·exact⟨1,Nat.le_refl _,by omega,.inl rfl⟩
  ·obtain⟨n,h1,h2,h3⟩:=ih (x / 10) (by omega)
   refine⟨n+1,by omega,?_,.inr ?_⟩
   ·rw [Nat.pow_succ]
    omega
   ·rw [Nat.add_sub_cancel]
    rcases h3 with h3|h3
    ·subst h3;omega
    ·obtain⟨m,rfl⟩:∃m,n=m+1:=⟨n - 1,by omega⟩
     rw [Nat.add_sub_cancel] at h3
     rw [Nat.pow_succ]
     omega

theorem kJ (p:Addr)(w:World) :
  CallsD Tryz.prog 103 #[.pointer (some p)] .returning w fun e u' w'=>e=.returned (.tuple #[])∧u'=.returning∧w'=w:=by
 refine callsD_of_wpS Tryz.func103 rfl fun c₀ cs hu=>?_
 apply wpS_seq
 apply wpS_region
 simp [wpOpsS,go_sem,recoverD,hu,Tryz.ntmps103,Exit.thenS]
 refine wpS_of_wp ?_
 go_wp2
 cases c₀
 simp_all [bodyPostS,results,Tryz.results103]

theorem lb (p:Addr)(s:ByteArray)(w:World)
  (hw:∀W,Below w.heap.size w W→Calls Tryz.prog 74 #[.pointer (some p)] W (fun e w'=>e=.returned (.string s)∧Below W.heap.size W w')) :
  Calls Tryz.prog 73 #[.func (.func 74) #[] #[.pointer (some p)]] w fun e w'=>e=.returned (.tuple #[.string s,.int .i64 0])∧Below w.heap.size w w':=by
 have hmf:∀(fn:Fn) (first cap:Array Value) (w:World),(Instr.makeFunc fn first cap).run Tryz.prog w=.ok (.func fn first cap) w:=fun _ _ _ _=>rfl
 obtain⟨w0,hw0,hb0,h1⟩:=an w (.cells #[.int .i64 0] 33)
 have HW:=hw w0 hb0
 have HB0:=ac hb0
 have H1:=ac h1
 clear hw hb0 h1
 go_enter_defers Tryz.func73,Tryz.ntmps73
 go_wp2_with fail
 refine HW.mono ?_
 rintro e w1 ⟨rfl,hb1⟩
 have k1:=ae hb1 H1.out
 have c3:w1.cell? ⟨w.heap.size,0,none⟩=some (.int .i64 0):=by simp [World.cell?,k1]
 have f3:w1.frozen? ⟨w.heap.size,0,none⟩=false:=by simp [World.frozen?,k1]
 go_wp2
 have x2:=aj (k:=0) k1 (.int .i64 0)
 have HFIN:=ac ((HB0.out.trans (hb1.mono HB0.out.size)).setCell (p:=⟨w.heap.size,0,none⟩) (Nat.le_refl _) (.int .i64 0))
 clear c3 f3 k1 hb1
 generalize w1.setCell ⟨w.heap.size,0,none⟩ (.int .i64 0)=w5 at *
 have m3:w5.cell? ⟨w.heap.size,0,none⟩=some (.int .i64 0):=by simp [World.cell?,x2]
 refine leaves_cons (f:=103) (args:=#[.pointer (some ⟨w.heap.size,0,none⟩)]) (by simp) (by simp [go_sem]) ?_
 refine (kJ ⟨w.heap.size,0,none⟩ w5).mono ?_
 rintro e u' w'' ⟨rfl,rfl,rfl⟩
 simp [Leaves,settle,results,Tryz.results73,go_sem,m3]
 exact HFIN.out
end Go.Proofs.YtgnmgbbokcpppaaGreatDoor
namespace Go.Proofs.YtgnmgbbokcpppaaGreatDoor
open Go.RowKit
open Lm
attribute [local go_sem ↓] Go.wp_at_zero Go.wp_at_succ

def cm (z:Int)(d n m:Nat):ByteArray:=if d=1 then bH z n else (bH z n ++ ⟨#[47]⟩) ++ aI ((digs 10 m d).map fig)

theorem qY (gp:Nat)(b:Bool)(v1 v2:Value)(X Y:List Nat)(w:World)(hP:w.heap[gp]?=some (.cells #[.bool b,v1,v2] 27))(hA:Arg w v1 X)(hB:Arg w v2 Y)(hT:Tab w)(hf1:X.length≤17592186043904)(hf2:Y.length≤17592186043904)(hY:val Y≠0)
  (q1:blen (val X / Nat.gcd (val X) (val Y))≤67108864) (q2:blen (val Y / Nat.gcd (val X) (val Y))≤67108864) :
  Calls Tryz.prog 74 #[.pointer (some ⟨gp,0,none⟩)] w fun e w'=>∃n m,e=.returned (.string (cm (zz b (val X / Nat.gcd (val X) (val Y))) (val Y / Nat.gcd (val X) (val Y)) n m))∧aN 10 (val X / Nat.gcd (val X) (val Y)) n∧aN 10 (val Y / Nat.gcd (val X) (val Y)) m∧Below w.heap.size w w':=by
 obtain⟨a,n,rfl,_,_,_⟩:=hA.form
 obtain⟨ad,nd,rfl,_,_,_⟩:=hB.form
 obtain⟨u0,hu0,hbu,hL⟩:=an w (.cells #[.bool b,.slice a X.length n,.slice ad Y.length nd] 27)
 have ME:=gL w.heap.size b _ _ X Y u0 (hA.below hbu) (hB.below hbu) hL hY
 have LO:=ac (fun (W:World) (hg:Below u0.heap.size u0 W)=>gf b (.slice a X.length n) (.slice ad Y.length nd) X Y W ((hA.below hbu).below hg) ((hB.below hbu).below hg) ((hT.below hbu).below hg) hf1 hf2 hY q1 q2)
 obtain⟨c0,c1,c2⟩:=tri hP
 have HP:=ac (ae hbu hP)
 have HT:=ac (hT.below hbu)
 have HG0:=ac hbu
 have HZA:=ac (aM b (val X / Nat.gcd (val X) (val Y)))
 clear hA hB hT hP hbu hL
 generalize val X / Nat.gcd (val X) (val Y)=xq at *
 generalize val Y / Nat.gcd (val X) (val Y)=dq at *
 generalize zz b xq=zq at *
 go_enter Tryz.func74,Tryz.ntmps74
 go_wp2_with fail
 refine ME.mono ?_
 rintro e t1 ⟨rfl,hb1⟩
 have A1:=LO.out t1 hb1
 have HG1:=ac (ah HG0.out hb1)
 have HT1:=ac (HT.out.below hb1)
 obtain⟨d0,d1,d2⟩:=tri (ae hb1 HP.out)
 clear c0 c1 c2 ME LO hb1
 go_wp2_with fail
 refine A1.mono ?_
 rintro e t2 ⟨⟨bb,a1,n1,k1,a2,n2,k2,rfl,y1⟩,hb2⟩
 have HG2:=ac (ah HG1.out hb2)
 have HT2:=ac (HT1.out.below hb2)
 obtain⟨rfl,⟨r1,x1,x2,x3⟩,mid,_,_,r2,z1,z2,z3⟩:=y1
 have hl1:r1.length≤1048576:=fj x3 x2 (by rw [HZA.out];omega)
 have hl2:r2.length≤1048576:=fj z3 z2 (by omega)
 have e1:n1=r1.length:=by obtain⟨aa,cc,ee⟩:=x1.shape;cases ee;rfl
 have e2:n2=r2.length:=by obtain⟨aa,cc,ee⟩:=z1.shape;cases ee;rfl
 subst e1
 subst e2
 obtain⟨u3,hu3,hbu3,hx3⟩:=an t2 (.cells #[.bool (decide (zq<0)),.slice a1 r1.length k1,.slice a2 r2.length k2] 27)
 have hzz:zz (decide (zq<0)) (val r1)=zq:=by rw [x2,cV]
 have C:=nE (decide (zq<0)) _ r1 u3 ((x1.arg (by omega)).below hbu3) (HT2.out.below hbu3) hl1
 rw [hzz] at C
 have HV1:=ac (show val r1=xq by rw [x2];exact HZA.out)
 rw [HV1.out] at C
 have HG3:=ac (ah HG2.out hbu3)
 have HX3:=ac hx3
 have HT3:=ac (HT2.out.below hbu3)
 have HA2:=ac ((z1.arg (by omega)).below hbu3)
 have HV2:=ac (And.intro z2 hl2)
 have HL1:=ac x1.limbs
 obtain⟨c0,c1,c2⟩:=tri hx3
 obtain⟨sb,hsb⟩:∃sb,decide (zq<0)=sb:=⟨_,rfl⟩
 rw [hsb] at C c0 HX3 hu3 ⊢
 clear A1 hb2 hbu3 hx3 x1 x2 x3 z1 z2 z3 d0 d1 d2 hzz hsb
 go_wp2_with fail
 refine C.mono ?_
 rintro e t3 ⟨nn,rfl,hnd,hb3⟩
 obtain⟨hnn,_⟩:=dJ (by omega) HL1.out hl1 HV1.out hnd
 have HG4:=ac (ah HG3.out hb3)
 have HT4:=ac (HT3.out.below hb3)
 have HA4:=ac (HA2.out.below hb3)
 obtain⟨c0,c1,c2⟩:=tri (ae hb3 HX3.out)
 have hs1:(bH zq nn).size≤67108866:=by rw [ml];split <;> omega
 obtain⟨S1,hS1⟩:∃S1,bH zq nn=S1:=⟨_,rfl⟩
 rw [hS1] at hs1
 rw [hS1]
 have HS1:=ac hS1
 have HND:=ac hnd
 have C1:=j7 _ r2 t3 HA4.out
 rw [HV2.out.1] at C1
 obtain⟨m0,hm0⟩:=np dq
 have HM0:=ac hm0
 clear C hb3 hnd hS1 hm0
 by_cases hd1:dq=1
 ·rw [decide_eq_true hd1] at C1
  have HTX:Hid (cm zq dq nn m0=S1):=ac (by unfold cm;rw [if_pos hd1];exact HS1.out)
  clear hd1
  go_wp2_with fail
  refine C1.mono ?_
  rintro e wn ⟨rfl,hw⟩;rw [hw];clear hw wn C1
  go_wp2
  go_ret
  exact⟨nn,m0,by rw [HTX.out];rfl,HND.out,HM0.out,HG4.out⟩
 ·rw [decide_eq_false hd1] at C1
  have C2:=fH _ (val r2) 10 t3 (by omega) (by omega) (gv _ r2 10 t3 HA4.out HT4.out HV2.out.2 (by omega) (by omega))
  have HL2:=ac HA4.out.limbs
  go_wp2_with fail
  refine C1.mono ?_
  rintro e wn ⟨rfl,hw⟩;rw [hw];clear hw wn C1
  go_wp2_with fail
  refine C2.mono ?_
  rintro e t4 ⟨D,rfl,hd,hg,hb4⟩
  obtain⟨m,hm⟩:∃m,D.length=m:=⟨_,rfl⟩
  have hDe:=gK hm hg
  rw [hm] at hd
  subst hDe
  obtain⟨hmm,_⟩:=dJ (by omega) HL2.out HV2.out.2 rfl hd
  rw [HV2.out.1] at hd ⊢
  obtain⟨S2,hS2⟩:∃S2,aI ((digs 10 m dq).map fig)=S2:=⟨_,rfl⟩
  have hs2:S2.size=m:=by rw [←hS2,eD,cF]
  rw [hS2]
  have h47:(ByteArray.mk #[47]).size=1:=rfl
  obtain⟨S3,hS3⟩:∃S3,S1 ++ (ByteArray.mk #[47])=S3:=⟨_,rfl⟩
  have hs3:S3.size=S1.size+1:=by rw [←hS3,ByteArray.size_append];rfl
  obtain⟨S4,hS4⟩:∃S4,S3 ++ S2=S4:=⟨_,rfl⟩
  have HTX:Hid (cm zq dq nn m=S4):=ac (by unfold cm;rw [if_neg hd1,HS1.out,hS3,hS2];exact hS4)
  have HF:=ac (And.intro hd (ah HG4.out hb4))
  clear C2 hd hg hb4 hS2 hd1 hm
  go_wp2
  go_ret
  exact⟨nn,m,by rw [HTX.out];rfl,HND.out,HF.out.1,HF.out.2⟩

theorem nH (b:Bool)(v1 v2:Value)(X Y:List Nat)(n m:Nat)(w:World)(hA:Arg w v1 X)(hB:Arg w v2 Y)(hT:Tab w)(hf1:X.length≤17592186043904)(hf2:Y.length≤17592186043904)(hY:val Y≠0)
  (q1:blen (val X / Nat.gcd (val X) (val Y))≤67108864) (q2:blen (val Y / Nat.gcd (val X) (val Y))≤67108864) (hn:aN 10 (val X / Nat.gcd (val X) (val Y)) n) (hm:aN 10 (val Y / Nat.gcd (val X) (val Y)) m) :
  Calls Tryz.prog 39 #[.agg #[.bool b,v1,v2]] w fun e w'=>e=.returned (.tuple #[.string (cm (zz b (val X / Nat.gcd (val X) (val Y))) (val Y / Nat.gcd (val X) (val Y)) n m),.int .i64 0])∧Below w.heap.size w w':=by
 have hmf:∀(fn:Fn) (first cap:Array Value) (w:World),(Instr.makeFunc fn first cap).run Tryz.prog w=.ok (.func fn first cap) w:=fun _ _ _ _=>rfl
 obtain⟨a,na,rfl,_,_,_⟩:=hA.form
 obtain⟨ad,nd,rfl,_,_,_⟩:=hB.form
 obtain⟨w0,hw0,hb0,h0⟩:=an w (.cells #[.bool b,.slice a X.length na,.slice ad Y.length nd] 27)
 have FA:=lb ⟨w.heap.size,0,none⟩ (cm (zz b (val X / Nat.gcd (val X) (val Y))) (val Y / Nat.gcd (val X) (val Y)) n m) w0 (fun W hg=>
  (qY w.heap.size b _ _ X Y W (ae hg h0) ((hA.below hb0).below hg) ((hB.below hb0).below hg) ((hT.below hb0).below hg) hf1 hf2 hY q1 q2).mono (fun e w' ⟨n',m',h1,h2,h3,h4⟩=>⟨by rw [h1,h2.unique (by omega) hn,h3.unique (by omega) hm],h4⟩))
 have HB0:=ac hb0
 clear hA hB hT h0 hb0 q1 q2 hn hm
 generalize cm (zz b (val X / Nat.gcd (val X) (val Y))) (val Y / Nat.gcd (val X) (val Y)) n m=S at *
 go_enter Tryz.func39,Tryz.ntmps39
 go_wp2_with fail
 refine FA.mono ?_
 rintro e t2 ⟨rfl,hb2⟩
 have HE:=ac (ah HB0.out hb2)
 clear hb2 FA
 go_wp2
 go_ret2
 exact⟨rfl,HE.out⟩

theorem lT:cm (-3) 2 1 1=⟨#[45,51,47,50]⟩:=by decide +kernel

theorem TR.args {w:World}{base:Nat}{b:Bool}{a1:Option Addr}{n1 k1:Nat}{a2:Option Addr}{n2 k2:Nat}{z:Int}{d:Nat}(h:TR w base b (.slice a1 n1 k1) (.slice a2 n2 k2) z d)(hz:blen z.natAbs≤67108864)(hd:blen d≤67108864) :
  b=decide (z<0)∧∃r1 r2,Arg w (.slice a1 n1 k1) r1∧Arg w (.slice a2 n2 k2) r2∧val r1=z.natAbs∧val r2=d∧r1.length≤1048576∧r2.length≤1048576:=by
 obtain⟨h1,⟨r1,x1,x2,x3⟩,mid,_,_,r2,y1,y2,y3⟩:=h
 have l1:r1.length≤1048576:=fj x3 x2 (by omega)
 have l2:r2.length≤1048576:=fj y3 y2 (by omega)
 exact⟨h1,r1,r2,x1.arg (by omega),y1.arg (by omega),x2,y2,l1,l2⟩

theorem gh (w:World)(hT:Tab w):Calls Tryz.prog 12 #[] w fun e w'=>e=.returned (.bool true)∧Below w.heap.size w w':=by
 obtain⟨w0,hw0,hb0,h0,h1⟩:=aY w (.cells #[.int .u64 6] 62) (.cells #[.int .u64 4] 62)
 have hB6:Blk w0 w.heap.size [6]:=h0
 have hB4:Blk w0 (w.heap.size+1) [4]:=h1
 have A6:Arg w0 (.slice (some ⟨w.heap.size,0,none⟩) 1 1) [6]:=(Ans.of_blk (base:=0) (zs:=[6]) (Nat.zero_le _) hB6 (by simp) (by simp) (by simp) (by intro z hz;simp at hz;omega)).arg (by simp)
 have A4:Arg w0 (.slice (some ⟨w.heap.size+1,0,none⟩) 1 1) [4]:=(Ans.of_blk (base:=0) (zs:=[4]) (Nat.zero_le _) hB4 (by simp) (by simp) (by simp) (by intro z hz;simp at hz;omega)).arg (by simp)
 have v6:val [6]=6:=by simp [val]
 have v4:val [4]=4:=by simp [val]
 have hq:∀x,x≤6→blen x≤67108864:=fun x hx=>by have:blen x≤10:=(blen_le_iff _ _).2 (by omega);omega
 have C:=pA false true _ _ [6] [4] w0 A6 A4 (hT.below hb0) (by simp) (by simp) (by rw [v4];decide) (by rw [v6,v4];exact hq _ (by decide)) (by rw [v6,v4];exact hq _ (by decide))
 rw [v6,v4] at C
 have e1:zz (false != true) (6 / Nat.gcd 6 4)=-3:=by decide
 have e2:4 / Nat.gcd 6 4=2:=by decide
 rw [e1,e2] at C
 have HB0:=ac hb0
 have HT:=ac (hT.below hb0)
 clear hB6 hB4 A6 A4 v6 v4 e1 e2 h0 h1 hb0 hT
 go_enter Tryz.func12,Tryz.ntmps12
 go_wp2_with fail
 refine C.mono ?_
 rintro e w1 ⟨⟨bb,a1,n1,k1,a2,n2,k2,rfl,hr⟩,hb⟩
 replace HT:=ac (HT.out.below hb)
 replace HB0:=ac (ah HB0.out hb)
 clear C hb hw0
 obtain⟨u1,hu1,hbu,hxu⟩:=an w1 (.cells #[.bool bb,.slice a1 n1 k1,.slice a2 n2 k2] 27)
 obtain⟨hbb,r1,r2,x1,x2,x3,x4,x5,x6⟩:=(hr.below hbu).args (by exact hq _ (by decide)) (by exact hq _ (by decide))
 have hbt:bb=true:=hbb
 subst hbt
 have y3:val r1=3:=x3
 have C:=nH true _ _ r1 r2 1 1 u1 x1 x2 (HT.out.below hbu) (by omega) (by omega) (by omega) (by rw [y3,x4];exact hq _ (by decide)) (by rw [y3,x4];exact hq _ (by decide)) (by rw [y3,x4];exact⟨Nat.le_refl _,by decide,.inl rfl⟩) (by rw [y3,x4];exact⟨Nat.le_refl _,by decide,.inl rfl⟩)
 rw [y3,x4] at C
 have e3:zz true (3 / Nat.gcd 3 2)=-3:=by decide
 have e4:2 / Nat.gcd 3 2=2:=by decide
 rw [e3,e4,lT] at C
 obtain⟨c0,c1,c2⟩:=tri hxu
 replace HT:=ac (HT.out.below hbu)
 replace HB0:=ac (ah HB0.out hbu)
 clear hr hbb x1 x2 x3 x4 x5 x6 y3 e3 e4 hbu hxu
 go_wp2_with fail
 refine C.mono ?_
 rintro e w2 ⟨rfl,hb⟩
 replace HT:=ac (HT.out.below hb)
 replace HB0:=ac (ah HB0.out hb)
 have C:=fv 1 w2 (by omega) (by omega)
 clear hb c0 c1 c2
 go_wp2_with fail
 refine C.mono ?_
 rintro e w3 ⟨⟨b3,a3,n3,k3,a4,n4,k4,rfl,hr3⟩,hb⟩
 replace HT:=ac (HT.out.below hb)
 replace HB0:=ac (ah HB0.out hb)
 have C:=fv 0 w3 (by omega) (by omega)
 have HR3:=ac hr3
 clear hb hr3
 go_wp2_with fail
 refine C.mono ?_
 rintro e w4 ⟨⟨b5,a5,n5,k5,a6,n6,k6,rfl,hr5⟩,hb⟩
 replace HT:=ac (HT.out.below hb)
 replace HB0:=ac (ah HB0.out hb)
 obtain⟨hb3,r1',r2',x1,x2,_,x4,_,_⟩:=(HR3.out.below hb).args (by exact hq _ (by decide)) (by exact hq _ (by decide))
 obtain⟨hb5,s1,s2,y1,y2,y3,y4,_,_⟩:=hr5.args (by exact hq _ (by decide)) (by exact hq _ (by decide))
 obtain rfl:b3=false:=hb3
 obtain rfl:b5=false:=hb5
 have C:=mm false false _ _ _ _ r1' r2' s1 s2 w4 x1 x2 y1 y2 (by omega) (by omega) y3
 clear hb hr5 x1 x2 x4 y1 y2 y3 y4 HR3
 go_wp2_with fail
 refine C.mono ?_
 rintro e w5 ⟨rfl,hb⟩
 have HF:=ac ((ah HB0.out hb).alloc (ah HB0.out hb).size (.cells #[.bool false,.slice none 0 0,.slice none 0 0] 27))
 clear hb C
 go_wp2
 go_ret
 exact⟨rfl,HF.out⟩
end Go.Proofs.YtgnmgbbokcpppaaGreatDoor

