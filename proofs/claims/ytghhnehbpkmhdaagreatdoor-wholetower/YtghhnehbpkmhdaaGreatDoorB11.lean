/- Package numeral: count and written of any number of at most 1048576 limbs. -/
import Derived.Test.YtghhnehbpkmhdaaGreatDoorB10
import Derived.Test.YtghhnehbpkmhdaaGreatDoorB09
import Derived.Test.YtghhnehbpkmhdaaGreatDoorB08
import Derived.Deep.RegionHeld3
import Derived.Test.YtghhnehbpkmhdaaGreatDoorB02
import Derived.Test.YtghhnehbpkmhdaaGreatDoorB04
import Derived.Deep.QuietTactic
import Derived.BigQuiet
import Derived.Maps.AppendAt
import Derived.Laws.DeepStrings4
import Derived.Test.YtghhnehbpkmhdaaGreatDoorB01
import Derived.Test.YtghhnehbpkmhdaaGreatDoorB03
import Derived.Handy
import Derived.Test.YtghhnehbpkmhdaaGreatDoorB07
import Derived.Test.YtghhnehbpkmhdaaGreatDoorRows
import Derived.ProofKit
import Derived.OpenShut
import Derived.LaidMore
import Derived.Lay
import Derived.Stop.Joined
set_option maxRecDepth 20000
set_option maxHeartbeats 8000000
namespace Go.Proofs.YtghhnehbpkmhdaaGreatDoor
open Go.RowKit
open Lm
attribute [local go_sem ↓] Go.wp_at_zero Go.wp_at_succ
attribute [local go_sem] cO

theorem gT (k:Nat)(h:k≠0):1<18446744073709551616 ^ k:=Nat.one_lt_pow h (by omega)

theorem gU (va:Value)(X:List Nat)(b:Nat)(w:World)(hA:Arg w va X)(hT:Tab w)(hl:X.length≤1048576)(hb:2≤b)(hb2:b≤36) :
  Calls Tryz.prog 53 #[va,.int .i64 b] w (f9 b (val X) w):=
 lZ va X b w hA hT hb hb2 (fun h=>lT va X b w hA hT hl hb hb2 h)

theorem kE {X:List Nat}(k:Nat)(h:Limbs X)(hl:X.length≤k):val X<18446744073709551616 ^ k:=Nat.lt_of_lt_of_le (val_lt h) (Nat.pow_le_pow_right (by omega) hl)

theorem ep {b x n:Nat}{X:List Nat}(hb:2≤b)(hX:Limbs X)(hl:X.length≤1048576)(hx:val X=x)(h:aF b x n):n≤67108865∧(n≤1∨b ^ (n - 1)≤x):=by
 obtain⟨h1,h2,h3⟩:=h
 refine⟨?_,?_⟩
 ·rcases h3 with h3|h3
  ·omega
  ·have hlen:=dd hX hl
   rw [hx] at hlen
   have h4:2 ^ (n - 1)≤x:=Nat.le_trans (Nat.pow_le_pow_left hb _) h3
   have h5:x<2 ^ blen x:=(blen_le_iff _ _).1 (Nat.le_refl _)
   have h6:=(Nat.pow_lt_pow_iff_right (by omega:1<2)).1 (Nat.lt_of_le_of_lt h4 h5)
   omega
 ·rcases h3 with h3|h3
  ·exact .inl (by omega)
  ·exact .inr h3

theorem gg (va:Value)(X:List Nat)(b:Nat)(w:World)(hA:Arg w va X)(hT:Tab w)(hl:X.length≤1048576)(hb:2≤b)(hb2:b≤36) :
  Calls Tryz.prog 31 #[va,.int .i64 b] w (cP b (val X) w):=by
 obtain⟨i0,hi,hz0,hz1,hz2⟩:=info_parts Tryz.infoB
 obtain⟨ao,cap,rfl,hcap,_,hL⟩:=hA.form
 obtain⟨w0,hw0⟩:∃W,w.alloc (.cells #[.int .i64 b] 3)=W:=⟨_,rfl⟩
 have hb0:Below w.heap.size w w0:=by rw [←hw0];exact ag _ _
 have x0:w0.heap[w.heap.size]?=some (.cells #[.int .i64 b] 3):=by rw [←hw0];exact heap_alloc_new ..
 have c0:=an x0
 have C1:=gU _ X b w0 (hA.below hb0) (hT.below hb0) hl hb hb2
 have HA:=aa hA
 have HT:=aa hT
 have HB0:=aa hb0
 have X0:=aa x0
 have hLX:=hL
 clear hA hT hb0 x0 hL
 go_enter Tryz.func31,Tryz.ntmps31
 go_wp2_with fail
 refine C1.mono ?_
 rintro e w1 ⟨n,rfl,hd,hb1⟩
 obtain⟨hn,hlow⟩:=ep hb HA.out.limbs hl rfl hd
 have hB1:=bt5 HB0.out hb1
 have x1:=(hb1.block _ (lt_of_block X0.out)).trans X0.out
 have c1:=an x1
 have HB1:=aa hB1
 have X1:=aa x1
 have HD:=aa hd
 clear C1 hb1 hB1 x1 X0 HB0 c0 hd
 have hNB:b ^ (n - 1)<18446744073709551616 ^ 1048576:=by
  rcases hlow with h|h
  ·rw [show n - 1=0 by omega,Nat.pow_zero]
   exact gT 1048576 (by omega)
  ·exact Nat.lt_of_le_of_lt h (kE 1048576 HA.out.limbs hl)
 have hpl:(∃b' off c,Value.slice ao X.length cap=.slice (some ⟨b',off,none⟩) X.length c)∨n≤1:=by
  rcases hLX with rfl|⟨b',off,rfl,_⟩
  ·right
   obtain⟨_,_,h3⟩:=HD.out
   rcases h3 with h3|h3
   ·omega
   ·have:=Nat.pow_pos (n:=n - 1) (show 0<b by omega)
    simp [val] at h3
    omega
  ·exact .inl ⟨b',off,cap,rfl⟩
 have HPL:=aa hpl
 have HNB:=aa hNB
 clear hlow hNB hpl hLX
 go_wp2_with (at_make;refine wpList_make_full _ rfl _ _ 64 rfl w1.heap.size 5 i0 (.int .u8 0) 1 Tryz.underlying64 hi hz0 hz1 .i64 .i64 _ _ n rfl rfl (by omega) (by omega) (by rw [hz2];omega) (by unfold maxLen;omega) (Nat.le_refl _) ?_;intro w2 hown hgrow;have hb2':Below w1.heap.size w1 w2:=(Below.refl w1.heap.size w1).grown hgrow (Nat.le_refl _) (fun k hk=>by cases hk);have x2:=(hb2'.block _ (lt_of_block X1.out)).trans X1.out;have c2:=an x2)
 have hY2:=Byt.made hown
 have hB2:=bt5 HB1.out hb2'
 have C2:=dG b n w2 (HT.out.below hB2) hb hb2 (by omega)
 obtain⟨gd,hgd⟩:∃gd,w1.heap.size=gd:=⟨_,rfl⟩
 rw [hgd] at hY2
 have hgdw:w.heap.size<gd:=by rw [←hgd];exact lt_of_block X1.out
 have HY2:=aa hY2
 have HB2:=aa hB2
 have X2:=aa x2
 have HGD:=aa hgd
 clear hown hgrow hi hz0 hz1 hz2 hb2' hY2 hB2 c1 x2 hgd
 go_wp2_with fail
 rw [HGD.out]
 refine C2.mono ?_
 rintro e w3 ⟨⟨vl,rfl,hP⟩,hb3⟩
 obtain⟨al,nl,kl,rfl⟩:∃al nl kl,vl=.slice al nl kl:=by
  obtain⟨l,h1,_⟩:=hP
  rcases h1 with ⟨h1,_⟩|⟨g,cap',h1,_⟩
  ·exact⟨_,_,_,h1⟩
  ·exact⟨_,_,_,h1⟩
 obtain⟨w4,hw4⟩:∃W,w3.alloc (.cells #[.slice al nl kl] 78)=W:=⟨_,rfl⟩
 have hs4:w4.heap.size=w3.heap.size+1:=by rw [←hw4];exact World.size_alloc _ _
 obtain⟨w5,hw5⟩:∃W,w4.alloc (.cells #[.func (.func 55) #[] #[.pointer (some ⟨w3.heap.size,0,none⟩),.pointer (some ⟨w.heap.size,0,none⟩),.pointer (some ⟨w3.heap.size+1,0,none⟩)]] 80)=W:=⟨_,rfl⟩
 have hb4:Below w3.heap.size w3 w4:=by rw [←hw4];exact ag _ _
 have hb5:Below w4.heap.size w4 w5:=by rw [←hw5];exact ag _ _
 have hb35:=bt5 hb4 hb5
 have hb25:=bt5 hb3 hb35
 have cl:=ak hb5 (an (show w4.heap[w3.heap.size]?=some (.cells #[.slice al nl kl] 78) by rw [←hw4];exact heap_alloc_new ..))
 have cb5:=ak hb25 (an X2.out)
 have cw:w5.cell? ⟨w3.heap.size+1,0,none⟩=some (.func (.func 55) #[] #[.pointer (some ⟨w3.heap.size,0,none⟩),.pointer (some ⟨w.heap.size,0,none⟩),.pointer (some ⟨w3.heap.size+1,0,none⟩)]):=an (t:=80) (by
  have h:=heap_alloc_new w4 (.cells #[.func (.func 55) #[] #[.pointer (some ⟨w3.heap.size,0,none⟩),.pointer (some ⟨w.heap.size,0,none⟩),.pointer (some ⟨w3.heap.size+1,0,none⟩)]] 80)
  rw [hs4,hw5] at h
  exact h)
 have hB5:=bt5 HB2.out hb25
 have hY5:Byt w5 gd (List.replicate n 0):=HY2.out.below hb25 HY2.out.lt
 have FW:=dw w3.heap.size w.heap.size (w3.heap.size+1) gd b n (.slice al nl kl) hb hb2 HNB.out (by have:=HT.out.1;omega) (n+1) n 0 n (List.replicate n 0) _ X w5 (by omega) hY5 (by simp) (Nat.le_refl _) (by omega) (Nat.le_refl _) (HA.out.below hB5) hl HPL.out (HT.out.below hB5) cl cb5 cw (fun z e=>by cases e) (hP.below hb35)
 have HW5:=aa (show (w3.alloc (.cells #[.slice al nl kl] 78)).alloc (.cells #[.func (.func 55) #[] #[.pointer (some ⟨w3.heap.size,0,none⟩),.pointer (some ⟨w.heap.size,0,none⟩),.pointer (some ⟨w3.heap.size+1,0,none⟩)]] 80)=w5 by rw [hw4,hw5])
 have HB5:=aa hB5
 rw [←HW5.out] at cw
 clear C2 hb3 hb4 hb5 hb35 hb25 cl cb5 hw4 hw5 hs4 hB5 hY5 hP c2
 go_wp2_with fail
 rw [HW5.out]
 refine FW.mono ?_
 rintro e w6 ⟨rfl,D',hD',hW',hF'⟩
 have hDl:D'.length=n:=by rw [hW'.len];simp
 have HF:=aa (And.intro hD' (And.intro hW' (HB5.out.trans (hF'.below (Nat.le_of_lt hgdw) HB5.out.size))))
 clear FW hD' hW' hF' cw
 go_wp2
 go_ret
 refine⟨gd,D',by rw [hDl];rfl,Nat.le_of_lt hgdw,HF.out.1,by rw [hDl];exact HD.out,by omega,fun i hi=>?_,HF.out.2.2⟩
 rw [hDl] at hi ⊢
 have h:=HF.out.2.1.digs i (Nat.zero_le _) hi
 rw [Nat.zero_add] at h
 exact h
end Go.Proofs.YtghhnehbpkmhdaaGreatDoor
namespace Go.Proofs.YtghhnehbpkmhdaaGreatDoor
open Go.RowKit
open Lm
attribute [local go_sem ↓] Go.wp_at_zero Go.wp_at_succ

def lh (b o n:Nat)(D:List Nat)(w:World)(e:Ending)(w':World):Prop:=
 Below w.heap.size w w'∧((∃v Z,e=.returned (.tuple #[v,.int .i64 0])∧Ans w' w.heap.size v Z∧Z.length≤70000000∧val Z=dvr b D o n∧(D.getD o 0≠0→tr Z=Z))∨(e=.returned (.tuple #[.slice none 0 0,.int .i64 3])∧67108864<blen (dvr b D o n)))

theorem fL {b N m x:Nat}(hb:2≤b)(hNB:blen (b ^ (N - 1))≤67108865)(hm:m+2≤N)(hx:x<b ^ m):blen x≤67108864:=by
 have h1:b ^ (m+1)≤b ^ (N - 1):=Nat.pow_le_pow_right (by omega) (by omega)
 have h2:2*b ^ m≤b ^ (m+1):=by rw [Nat.pow_succ,Nat.mul_comm];exact Nat.mul_le_mul_left _ hb
 have h3:b ^ (N - 1)<2 ^ blen (b ^ (N - 1)):=(blen_le_iff _ _).1 (Nat.le_refl _)
 obtain⟨K,hK⟩:∃K,blen (b ^ (N - 1))=K:=⟨_,rfl⟩
 rw [hK] at h3 hNB
 have hK1:1≤K:=by
  rcases Nat.eq_zero_or_pos K with h|h
  ·rw [h,Nat.pow_zero] at h3
   have:=Nat.pow_pos (n:=m) (show 0<b by omega)
   omega
  ·exact h
 have h4:2 ^ K=2*2 ^ (K - 1):=by rw [←Nat.pow_succ',Nat.succ_eq_add_one,show K - 1+1=K by omega]
 have h5:=(blen_le_iff x (K - 1)).2 (by omega)
 omega

theorem jM (d s:Nat)(ao:Option Addr)(co:Nat)(vh vl:Value)(O H Lw:List Nat)(base:Nat)(w:World)(hO:Arg w (.slice ao O.length co) O)(hH:Arg w vh H)(hL:Ans w base vl Lw)(hT:Tab w)
  (hl1:O.length+H.length≤1099511627776) (hl2:Lw.length≤1099511627776) (hs:s≤1099511627776) :
  Calls Tryz.prog 91 #[.agg #[.int .i64 d,.slice ao O.length co,.int .i64 s],vh,vl] w (Joined (val H) (val O) s (val Lw) w):=by
 have hA:=hL.arg (by omega)
 rcases hL.own.2 with ⟨rfl,h0⟩|⟨g,cap,cur,rfl,_⟩
 ·obtain rfl:=List.length_eq_zero_iff.1 h0
  exact kM d s ao co vh O H w hO hH hT hl1 hs
 ·exact im d s ao co vh g 0 cap O H Lw w hO hH hA hT hl1 hl2 hs

theorem iv {b o n:Nat}{D:List Nat}(hn:1≤n)(h0:D.getD o 0≠0)(hb:0<b):0<dvr b D o n:=by
 obtain⟨m,rfl⟩:∃m,n=1+m:=⟨n - 1,by omega⟩
 rw [bI]
 have h1:dvr b D o 1=D.getD o 0:=by simp [dvr]
 have h2:0<dvr b D o 1*b ^ m:=Nat.mul_pos (by rw [h1];omega) (Nat.pow_pos hb)
 omega

theorem dD (gl gb gw gd b N:Nat)(vl:Value)(hb:2≤b)(hb2:b≤36)(hNB:blen (b ^ (N - 1))≤67108865)(hN9:N≤67108867):∀(M n o cap:Nat) (D:List Nat) (w:World),n<M →
  Byt w gd D→o+n≤D.length→n≤cap→cap≤9223372036854775807→n≤N→(∀i,i<n→D.getD (o+i) 0<b)→Tab w →
  w.cell? ⟨gl,0,none⟩=some vl→w.cell? ⟨gb,0,none⟩=some (.int .i64 b)→w.cell? ⟨gw,0,none⟩=some (.func (.func 89) #[] #[.pointer (some ⟨gl,0,none⟩),.pointer (some ⟨gb,0,none⟩),.pointer (some ⟨gw,0,none⟩)])→aQ w vl b N →
  Calls Tryz.prog 89 #[.slice (some ⟨gd,o,none⟩) n cap,.pointer (some ⟨gl,0,none⟩),.pointer (some ⟨gb,0,none⟩),.pointer (some ⟨gw,0,none⟩)] w (lh b o n D w)
 | 0,n,o,cap,D,w,h,_,_,_,_,_,_,_,_,_,_,_=>absurd h (Nat.not_lt_zero n)
 | M+1,n,o,cap,D,w,hM,hD,ho,hnc,hcm,hnN,hdig,hT,cl,cb,cw,hP=>by
  have HPP:=aa hP
  obtain⟨l,hPA,hPO⟩:=hP
  have C:=df vl n l w hPA
  have HD:=aa hD
  have HT:=aa hT
  have HPO:=aa hPO
  have HDG:=aa hdig
  clear hD hT hPA hPO hdig
  go_enter Tryz.func89,Tryz.ntmps89
  go_wp2_with fail
  refine C.mono ?_
  rintro e w1 ⟨hcase,hb1⟩
  rcases hcase with ⟨i,d,ov,s,hli,hdn,_,he⟩|⟨_,he⟩
  ·obtain⟨a1,O,c1,hov,hAO,hpw,hd2,hdN,hO0,hOl,hOb,hs9⟩:=HPO.out _ (List.mem_of_getElem? hli)
   replace hov:ov=.slice a1 O.length c1:=hov
   replace hAO:Arg w ov O:=hAO
   replace hpw:18446744073709551616 ^ s*val O=b ^ d:=hpw
   replace hd2:2≤d:=hd2
   replace hdN:d+2≤N:=hdN
   subst hov
   subst he
   have hs1:s≤1048577:=by
    have h1:18446744073709551616 ^ s≤b ^ (N - 1):=by
     rw [show b ^ (N - 1)=b ^ (N - 1) from rfl]
     have h2:18446744073709551616 ^ s≤18446744073709551616 ^ s*val O:=Nat.le_mul_of_pos_right _ (by omega)
     rw [hpw] at h2
     exact Nat.le_trans h2 (Nat.pow_le_pow_right (by omega) (by omega))
    have h3:=bE h1
    have h4:64*s<blen (18446744073709551616 ^ s):=by
     rcases Nat.lt_or_ge (64*s) (blen (18446744073709551616 ^ s)) with h|h
     ·exact h
     ·have h5:=(blen_le_iff _ _).1 h
      rw [Nat.pow_mul,show (2:Nat) ^ 64=18446744073709551616 from rfl] at h5
      exact absurd h5 (Nat.lt_irrefl _)
    omega
   obtain⟨w2,hw2⟩:∃W,w1.alloc (.cells #[.int .i64 d,.slice a1 O.length c1,.int .i64 s] 82)=W:=⟨_,rfl⟩
   have hb2':Below w1.heap.size w1 w2:=by rw [←hw2];exact ag _ _
   have hx2:w2.heap[w1.heap.size]?=some (.cells #[.int .i64 d,.slice a1 O.length c1,.int .i64 s] 82):=by rw [←hw2];exact heap_alloc_new ..
   have hB2:=bt5 hb1 hb2'
   obtain⟨k0,k1,k2⟩:=tri hx2
   obtain⟨h,hh,hhi⟩:∃h:Nat,n=h+d∧(n:Int) - (d:Int)=(h:Int):=⟨n - d,by omega,by omega⟩
   have g2:Below w.heap.size w w2.drew:=hB2.drew
   have cw2:w2.drew.cell? ⟨gw,0,none⟩=some (.func (.func 89) #[] #[.pointer (some ⟨gl,0,none⟩),.pointer (some ⟨gb,0,none⟩),.pointer (some ⟨gw,0,none⟩)]):=ak g2 cw
   have I1:=dD gl gb gw gd b N vl hb hb2 hNB hN9 M h o cap D w2.drew (by omega) (HD.out.below g2 HD.out.lt) (by omega) (by omega) hcm (by omega) (fun i hi=>HDG.out i (by omega)) (HT.out.below g2) (ak g2 cl) (ak g2 cb) cw2 (HPP.out.below g2)
   have hcap0:¬cap=h:=by omega
   have hhn:h≤n:=by omega
   have hhc:h≤cap:=by omega
   have hnh:n - h=d:=by omega
   have HAO:=aa hAO
   have HPW:=aa hpw
   have HX2:=aa hx2
   have HG2:=aa g2
   have HHD:=aa hh
   have HOO:=aa (And.intro hO0 hOl)
   have HS1:=aa (And.intro (fL (m:=h) hb hNB (by omega) (cB b D o (by omega) h (fun i hi=>HDG.out i (by omega)))) (fL (m:=d) hb hNB hdN (cB b D (o+h) (by omega) d (fun i hi=>by rw [Nat.add_assoc];exact HDG.out (h+i) (by omega)))))
   clear C hb1 hb2' hx2 hB2 hAO hpw hO0 hOb hs9 HPO hli g2 hh
   go_upto_region 5 with fail
   go_region_held3 (fun w'=>w'.cell? ⟨gw,0,none⟩=some (.func (.func 89) #[] #[.pointer (some ⟨gl,0,none⟩),.pointer (some ⟨gb,0,none⟩),.pointer (some ⟨gw,0,none⟩)])) (first|with_reducible exact cw3|with_reducible exact cw2) (first
    | (go_at_call 89;refine I1.mono ?_;rintro e' w3 ⟨hb3,hc3⟩;have cw3:=ak hb3 cw2;obtain⟨v3,Z3,rfl,hZ3,hl3,hv3,_⟩:=hc3.resolve_right (fun hx=>absurd hx.2 (Nat.not_lt.2 HS1.out.1))))
   have g3:Below w.heap.size w w3.drew:=(bt5 HG2.out hb3).drew
   have cw4:w3.drew.cell? ⟨gw,0,none⟩=some (.func (.func 89) #[] #[.pointer (some ⟨gl,0,none⟩),.pointer (some ⟨gb,0,none⟩),.pointer (some ⟨gw,0,none⟩)]):=ak g3 cw
   have I2:=dD gl gb gw gd b N vl hb hb2 hNB hN9 M d (o+h) (cap - h) D w3.drew (by omega) (HD.out.below g3 HD.out.lt) (by have:=HHD.out;omega) (by omega) (by omega) (by omega) (fun i hi=>by rw [Nat.add_assoc];exact HDG.out (h+i) (by have:=HHD.out;omega)) (HT.out.below g3) (ak g3 cl) (ak g3 cb) cw4 (HPP.out.below g3)
   have HZ3:=aa hZ3
   have HL3:=aa (And.intro hl3 hv3)
   have HB3:=aa hb3
   have HG3:=aa g3
   clear I1 hZ3 hl3 hv3 hb3 g3 cw2 cw3 k0 k1 k2
   have i8:h≤n:=hhn
   go_upto_region 6 with fail
   go_region_held3 (fun w'=>w'.cell? ⟨gw,0,none⟩=some (.func (.func 89) #[] #[.pointer (some ⟨gl,0,none⟩),.pointer (some ⟨gb,0,none⟩),.pointer (some ⟨gw,0,none⟩)])) (first|with_reducible exact cw5|with_reducible exact cw4) (first
    | (go_at_call 89;refine I2.mono ?_;rintro e' w4 ⟨hb4,hc4⟩;have cw5:=ak hb4 cw4;obtain⟨v4,Z4,rfl,hZ4,hl4,hv4,_⟩:=hc4.resolve_right (fun hx=>absurd hx.2 (Nat.not_lt.2 HS1.out.2))))
   have hB4:=bt5 HG3.out hb4
   have hx4:=(bt5 (bt5 ((Below.refl w2.heap.size w2).drew) HB3.out) (bt5 ((Below.refl w3.heap.size w3).drew) hb4))
   have hc4':=(hx4.block w1.heap.size (lt_of_block HX2.out)).trans HX2.out
   obtain⟨j0,j1,j2⟩:=tri hc4'
   have hA3:Arg w4 v3 Z3:=((HZ3.out.arg (by have:=HL3.out.1;omega)).below ((Below.refl w3.heap.size w3).drew)).below hb4
   have C7:=jM d s a1 c1 v3 v4 O Z3 Z4 w3.drew.heap.size w4 (HAO.out.below hB4) hA3 hZ4 (HT.out.below hB4) (by have:=HOO.out.2;have:=HL3.out.1;omega) (by omega) (by omega)
   obtain⟨a3,c3,rfl,_,_,_⟩:=hA3.form
   have HV4:=aa hv4
   have HB4:=aa hB4
   clear I2 hZ4 hl4 hv4 hb4 hB4 hx4 hc4' cw4 cw5 hA3
   go_wp2_with fail
   refine C7.mono ?_
   rintro e w5 ⟨hb5,hc5⟩
   have HB5:=aa (bt5 HB4.out hb5)
   have hval:val Z3*val O*18446744073709551616 ^ s+val Z4=dvr b D o n:=by
    rw [HHD.out,bI,HL3.out.2,HV4.out,Nat.mul_assoc,Nat.mul_comm (val O),HPW.out]
   have HVL:=aa hval
   have hbs:=HB4.out.size
   rcases hc5 with ⟨v5,Z5,rfl,hZ5,hv5,ht5,hl5⟩|⟨rfl,hbig⟩
   ·have HF:=aa (And.intro (hZ5.base hbs) (And.intro hv5 (And.intro ht5 hl5)))
    clear C7 hb5 hZ5 hv5 ht5 hl5 hval
    go_wp2
    go_ret2
    refine⟨HB5.out,.inl ⟨v5,Z5,rfl,HF.out.1,by have:=HF.out.2.2.2;omega,by rw [HF.out.2.1];exact HVL.out,fun h0=>HF.out.2.2.1 (Nat.mul_pos ?_ (by have:=HOO.out.1;omega))⟩⟩
    rw [HL3.out.2]
    exact iv (by have:=HHD.out;omega) h0 (by omega)
   ·have HBG:Hid (67108864<blen (dvr b D o n)):=aa (Nat.lt_of_lt_of_le hbig (bE (by
     rw [←hval]
     have e1:val Z3*val O≤val Z3*val O*18446744073709551616 ^ s:=Nat.le_mul_of_pos_right _ (Nat.pow_pos (by omega))
     have e2:=Nat.div_le_self (val Z4) (18446744073709551616 ^ s)
     omega)))
    clear C7 hb5 hbig hval
    go_wp2
    go_ret2
    exact⟨HB5.out,.inr ⟨rfl,HBG.out⟩⟩
  ·obtain⟨x0,a0,n0,c0,y0,rfl,_⟩:∃(x0:Int) (a0:Option Addr) (n0 c0:Nat) (y0:Int),e=.returned (.tuple #[.agg #[.int .i64 x0,.slice a0 n0 c0,.int .i64 y0],.bool false])∧True:=⟨0,none,0,0,0,he,trivial⟩
   clear he
   obtain⟨w2,hw2⟩:∃W,w1.alloc (.cells #[.int .i64 x0,.slice a0 n0 c0,.int .i64 y0] 82)=W:=⟨_,rfl⟩
   have hb2':Below w1.heap.size w1 w2:=by rw [←hw2];exact ag _ _
   have hB2:=bt5 hb1 hb2'
   have cb2:=ak hB2 cb
   have C2:=kV gd o n cap b D w2 (HD.out.below hB2 HD.out.lt) ho hnc hcm (by omega) HDG.out hb hb2
   have HB2:=aa hB2
   clear C hb1 hb2' hB2 HPO
   go_wp2_with fail
   refine C2.mono ?_
   rintro e w3 ⟨v,Z,rfl,hZ,hvZ,htZ,hlZ,hb3⟩
   have HF:=aa (And.intro (hZ.base HB2.out.size) (And.intro hvZ (And.intro htZ (And.intro hlZ (bt5 HB2.out hb3)))))
   clear C2 hZ hvZ htZ hlZ hb3
   go_wp2
   go_ret2
   exact⟨HF.out.2.2.2.2,.inl ⟨v,Z,rfl,HF.out.1,by have:=HF.out.2.2.2.1;omega,HF.out.2.1,fun _=>HF.out.2.2.1⟩⟩
end Go.Proofs.YtghhnehbpkmhdaaGreatDoor
namespace Go.Proofs.YtghhnehbpkmhdaaGreatDoor
open Go.RowKit
open Lm
attribute [local go_sem ↓] Go.wp_at_zero Go.wp_at_succ
attribute [local go_sem] cO

theorem i9 {b o n:Nat}{D:List Nat}(hn:1≤n)(h0:D.getD o 0≠0):b ^ (n - 1)≤dvr b D o n:=by
 obtain⟨m,rfl⟩:∃m,n=1+m:=⟨n - 1,by omega⟩
 rw [bI,show 1+m - 1=m by omega]
 have h1:dvr b D o 1=D.getD o 0:=by simp [dvr]
 have h2:1*b ^ m≤dvr b D o 1*b ^ m:=Nat.mul_le_mul_right _ (by rw [h1];omega)
 omega

theorem iW (gd o n b:Nat)(D:List Nat)(w:World)(hT:Tab w)(hD:Byt w gd D)(ho:o+n≤D.length)(hn1:1≤n)(hn:n≤1125899906842624)(hdig:∀i,i<n→D.getD (o+i) 0<b)(h0:D.getD o 0≠0)(hb:2≤b)(hb2:b≤36) :
  Calls Tryz.prog 59 #[.slice (some ⟨gd,o,none⟩) n n,.int .i64 b] w (cq b o n D w):=by
 obtain⟨w0,hw0⟩:∃W,w.alloc (.cells #[.int .i64 b] 3)=W:=⟨_,rfl⟩
 have hb0:Below w.heap.size w w0:=by rw [←hw0];exact ag _ _
 have x0:w0.heap[w.heap.size]?=some (.cells #[.int .i64 b] 3):=by rw [←hw0];exact heap_alloc_new ..
 have c0:=an x0
 have C:=fe b n w0 (by omega) (by omega) hn
 have hge:=i9 (b:=b) hn1 h0
 have HD:=aa hD
 have HT:=aa hT
 have HB0:=aa hb0
 have X0:=aa x0
 have HDG:=aa hdig
 have HGE:=aa hge
 have H00:=aa h0
 clear hD hT hb0 x0 hdig hge h0
 go_enter Tryz.func59,Tryz.ntmps59
 go_wp2_with fail
 refine C.mono ?_
 rintro e w1 ⟨r,rfl,hr1,hr2,hb1⟩
 have HB1:=aa (bt5 HB0.out hb1)
 have X1:=aa ((hb1.block _ (lt_of_block X0.out)).trans X0.out)
 cases r
 ·have hNB:=hr2 rfl
  have hn9:n≤67108867:=by
   have h4:2 ^ (n - 1)≤b ^ (n - 1):=Nat.pow_le_pow_left hb _
   have h5:b ^ (n - 1)<2 ^ blen (b ^ (n - 1)):=(blen_le_iff _ _).1 (Nat.le_refl _)
   have h6:=(Nat.pow_lt_pow_iff_right (by omega:1<2)).1 (Nat.lt_of_le_of_lt h4 h5)
   omega
  have C2:=dG b n w1 (HT.out.below HB1.out) hb hb2 hn
  have c1:=an X1.out
  have HNB:=aa hNB
  clear C hr1 hr2 hb1 c0 HB0 X0 hNB
  go_wp2_with fail
  refine C2.mono ?_
  rintro e w3 ⟨⟨vl,rfl,hP⟩,hb3⟩
  obtain⟨al,nl,kl,rfl⟩:∃al nl kl,vl=.slice al nl kl:=by
   obtain⟨l,h1,_⟩:=hP
   rcases h1 with ⟨h1,_⟩|⟨g,cap',h1,_⟩
   ·exact⟨_,_,_,h1⟩
   ·exact⟨_,_,_,h1⟩
  obtain⟨w4,hw4⟩:∃W,w3.alloc (.cells #[.slice al nl kl] 78)=W:=⟨_,rfl⟩
  have hs4:w4.heap.size=w3.heap.size+1:=by rw [←hw4];exact World.size_alloc _ _
  obtain⟨w5,hw5⟩:∃W,w4.alloc (.cells #[.func (.func 89) #[] #[.pointer (some ⟨w3.heap.size,0,none⟩),.pointer (some ⟨w.heap.size,0,none⟩),.pointer (some ⟨w3.heap.size+1,0,none⟩)]] 103)=W:=⟨_,rfl⟩
  have hb4:Below w3.heap.size w3 w4:=by rw [←hw4];exact ag _ _
  have hb5:Below w4.heap.size w4 w5:=by rw [←hw5];exact ag _ _
  have hb35:=bt5 hb4 hb5
  have hb15:=bt5 hb3 hb35
  have cl:=ak hb5 (an (show w4.heap[w3.heap.size]?=some (.cells #[.slice al nl kl] 78) by rw [←hw4];exact heap_alloc_new ..))
  have cb5:=ak hb15 (an X1.out)
  have cw:w5.cell? ⟨w3.heap.size+1,0,none⟩=some (.func (.func 89) #[] #[.pointer (some ⟨w3.heap.size,0,none⟩),.pointer (some ⟨w.heap.size,0,none⟩),.pointer (some ⟨w3.heap.size+1,0,none⟩)]):=an (t:=103) (by
   have h:=heap_alloc_new w4 (.cells #[.func (.func 89) #[] #[.pointer (some ⟨w3.heap.size,0,none⟩),.pointer (some ⟨w.heap.size,0,none⟩),.pointer (some ⟨w3.heap.size+1,0,none⟩)]] 103)
   rw [hs4,hw5] at h
   exact h)
  have hB5:=bt5 HB1.out hb15
  have FW:=dD w3.heap.size w.heap.size (w3.heap.size+1) gd b n (.slice al nl kl) hb hb2 HNB.out hn9 (n+1) n o n D w5 (by omega) (HD.out.below hB5 HD.out.lt) ho (Nat.le_refl _) (by omega) (Nat.le_refl _) HDG.out (HT.out.below hB5) cl cb5 cw (hP.below hb35)
  have HW5:=aa (show (w3.alloc (.cells #[.slice al nl kl] 78)).alloc (.cells #[.func (.func 89) #[] #[.pointer (some ⟨w3.heap.size,0,none⟩),.pointer (some ⟨w.heap.size,0,none⟩),.pointer (some ⟨w3.heap.size+1,0,none⟩)]] 103)=w5 by rw [hw4,hw5])
  have HB5:=aa hB5
  rw [←HW5.out] at cw
  clear C2 hb3 hb4 hb5 hb35 hb15 cl cb5 hw4 hw5 hs4 hB5 hP c1
  go_wp2_with fail
  rw [HW5.out]
  refine FW.mono ?_
  rintro e w6 ⟨hb6,hc6⟩
  have HB6:=aa (bt5 HB5.out hb6)
  have hbs:=HB5.out.size
  rcases hc6 with ⟨v6,Z6,rfl,hZ6,hl6,hv6,ht6⟩|⟨rfl,hbig⟩
  ·have HF:=aa (And.intro (hZ6.base hbs) (And.intro hl6 (And.intro hv6 (ht6 H00.out))))
   clear FW hb6 hZ6 hl6 hv6 ht6 cw
   go_wp2
   go_ret2
   exact⟨HB6.out,.inl ⟨v6,Z6,rfl,HF.out.1,by have:=HF.out.2.1;omega,HF.out.2.2.1,HF.out.2.2.2⟩⟩
  ·have HBG:=aa hbig
   clear FW hb6 hbig cw
   go_wp2
   go_ret2
   exact⟨HB6.out,.inr ⟨_,rfl,HBG.out⟩⟩
 ·have HBG:Hid (67108864<blen (dvr b D o n)):=aa (Nat.lt_of_lt_of_le (hr1 rfl) (bE HGE.out))
  clear C hr1 hr2 hb1
  go_wp2
  go_ret2
  exact⟨HB1.out,.inr ⟨_,rfl,HBG.out⟩⟩

theorem kA (ao:Option Addr)(cap b:Nat)(w:World)(hb:2≤b)(hb2:b≤36) :
  Calls Tryz.prog 90 #[.slice ao 0 cap,.int .i64 b] w fun e w'=>e=.returned (.slice none 0 0)∧w'=w:=by
 have HU:=dC b w hb hb2
 go_enter Tryz.func90,Tryz.ntmps90
 go_wp2_with fail
 refine HU.mono ?_
 rintro e wn ⟨d,p,rfl,hu,hw⟩;rw [hw];clear hw wn HU hu
 go_wp2
 refine wp_loop_rounds 1 ?_
 rw [rounds_succ]
 go_wp2
 go_ret
 exact⟨rfl,rfl⟩

theorem jE (gl gb gw b cap:Nat)(ao:Option Addr)(vl:Value)(w:World)(hb:2≤b)(hb2:b≤36)
  (cl:w.cell? ⟨gl,0,none⟩=some vl) (cb:w.cell? ⟨gb,0,none⟩=some (.int .i64 b)) (hP:aQ w vl b 0) :
  Calls Tryz.prog 89 #[.slice ao 0 cap,.pointer (some ⟨gl,0,none⟩),.pointer (some ⟨gb,0,none⟩),.pointer (some ⟨gw,0,none⟩)] w fun e w'=>e=.returned (.tuple #[.slice none 0 0,.int .i64 0])∧Below w.heap.size w w':=by
 obtain⟨l,hPA,_⟩:=hP
 have C:=df vl 0 l w hPA
 clear hPA
 go_enter Tryz.func89,Tryz.ntmps89
 go_wp2_with fail
 refine C.mono ?_
 rintro e w1 ⟨hcase,hb1⟩
 rcases hcase with ⟨i,d,ov,s,hli,hdn,_,he⟩|⟨_,he⟩
 ·exact absurd hdn (Nat.not_lt_zero d)
 ·obtain⟨x0,a0,n0,c0,y0,rfl,_⟩:∃(x0:Int) (a0:Option Addr) (n0 c0:Nat) (y0:Int),e=.returned (.tuple #[.agg #[.int .i64 x0,.slice a0 n0 c0,.int .i64 y0],.bool false])∧True:=⟨0,none,0,0,0,he,trivial⟩
  clear he
  obtain⟨w2,hw2⟩:∃W,w1.alloc (.cells #[.int .i64 x0,.slice a0 n0 c0,.int .i64 y0] 82)=W:=⟨_,rfl⟩
  have hb2':Below w1.heap.size w1 w2:=by rw [←hw2];exact ag _ _
  have hB2:=bt5 hb1 hb2'
  have cb2:=ak hB2 cb
  have C2:=kA ao cap b w2 hb hb2
  have HB2:=aa hB2
  clear C hb1 hb2' hB2
  go_wp2_with fail
  refine C2.mono ?_
  rintro e wn ⟨rfl,hw⟩;rw [hw];clear hw wn C2
  go_wp2
  go_ret2
  exact⟨rfl,HB2.out⟩

theorem ii (ao:Option Addr)(cap o b:Nat)(D:List Nat)(w:World)(hT:Tab w)(hb:2≤b)(hb2:b≤36) :
  Calls Tryz.prog 59 #[.slice ao 0 cap,.int .i64 b] w (cq b o 0 D w):=by
 obtain⟨w0,hw0⟩:∃W,w.alloc (.cells #[.int .i64 b] 3)=W:=⟨_,rfl⟩
 have hb0:Below w.heap.size w w0:=by rw [←hw0];exact ag _ _
 have x0:w0.heap[w.heap.size]?=some (.cells #[.int .i64 b] 3):=by rw [←hw0];exact heap_alloc_new ..
 have c0:=an x0
 have C:=fe b 0 w0 (by omega) (by omega) (by omega)
 have HT:=aa hT
 have HB0:=aa hb0
 have X0:=aa x0
 clear hT hb0 x0
 go_enter Tryz.func59,Tryz.ntmps59
 go_wp2_with fail
 refine C.mono ?_
 rintro e w1 ⟨r,rfl,hr1,hr2,hb1⟩
 have HB1:=aa (bt5 HB0.out hb1)
 have X1:=aa ((hb1.block _ (lt_of_block X0.out)).trans X0.out)
 cases r
 ·have C2:=dG b 0 w1 (HT.out.below HB1.out) hb hb2 (by omega)
  have c1:=an X1.out
  clear C hr1 hr2 hb1 c0 HB0 X0
  go_wp2_with fail
  refine C2.mono ?_
  rintro e w3 ⟨⟨vl,rfl,hP⟩,hb3⟩
  obtain⟨al,nl,kl,rfl⟩:∃al nl kl,vl=.slice al nl kl:=by
   obtain⟨l,h1,_⟩:=hP
   rcases h1 with ⟨h1,_⟩|⟨g,cap',h1,_⟩
   ·exact⟨_,_,_,h1⟩
   ·exact⟨_,_,_,h1⟩
  obtain⟨w4,hw4⟩:∃W,w3.alloc (.cells #[.slice al nl kl] 78)=W:=⟨_,rfl⟩
  have hs4:w4.heap.size=w3.heap.size+1:=by rw [←hw4];exact World.size_alloc _ _
  obtain⟨w5,hw5⟩:∃W,w4.alloc (.cells #[.func (.func 89) #[] #[.pointer (some ⟨w3.heap.size,0,none⟩),.pointer (some ⟨w.heap.size,0,none⟩),.pointer (some ⟨w3.heap.size+1,0,none⟩)]] 103)=W:=⟨_,rfl⟩
  have hb4:Below w3.heap.size w3 w4:=by rw [←hw4];exact ag _ _
  have hb5:Below w4.heap.size w4 w5:=by rw [←hw5];exact ag _ _
  have hb35:=bt5 hb4 hb5
  have hb15:=bt5 hb3 hb35
  have cl:=ak hb5 (an (show w4.heap[w3.heap.size]?=some (.cells #[.slice al nl kl] 78) by rw [←hw4];exact heap_alloc_new ..))
  have cb5:=ak hb15 (an X1.out)
  have cw:w5.cell? ⟨w3.heap.size+1,0,none⟩=some (.func (.func 89) #[] #[.pointer (some ⟨w3.heap.size,0,none⟩),.pointer (some ⟨w.heap.size,0,none⟩),.pointer (some ⟨w3.heap.size+1,0,none⟩)]):=an (t:=103) (by
   have h:=heap_alloc_new w4 (.cells #[.func (.func 89) #[] #[.pointer (some ⟨w3.heap.size,0,none⟩),.pointer (some ⟨w.heap.size,0,none⟩),.pointer (some ⟨w3.heap.size+1,0,none⟩)]] 103)
   rw [hs4,hw5] at h
   exact h)
  have hB5:=bt5 HB1.out hb15
  have FW:=jE w3.heap.size w.heap.size (w3.heap.size+1) b cap ao (.slice al nl kl) w5 hb hb2 cl cb5 (hP.below hb35)
  have HW5:=aa (show (w3.alloc (.cells #[.slice al nl kl] 78)).alloc (.cells #[.func (.func 89) #[] #[.pointer (some ⟨w3.heap.size,0,none⟩),.pointer (some ⟨w.heap.size,0,none⟩),.pointer (some ⟨w3.heap.size+1,0,none⟩)]] 103)=w5 by rw [hw4,hw5])
  have HB5:=aa hB5
  rw [←HW5.out] at cw
  clear C2 hb3 hb4 hb5 hb35 hb15 cl cb5 hw4 hw5 hs4 hB5 hP c1
  go_wp2_with fail
  rw [HW5.out]
  refine FW.mono ?_
  rintro e w6 ⟨rfl,hb6⟩
  have HB6:=aa (bt5 HB5.out hb6)
  clear FW hb6 cw
  go_wp2
  go_ret2
  exact⟨HB6.out,.inl ⟨_,[],rfl,Ans.nil _ _,Nat.zero_le _,rfl,rfl⟩⟩
 ·have h:=hr1 rfl
  have h1:blen (b ^ (0 - 1))≤1:=(blen_le_iff _ 1).2 (by simp)
  exact absurd h (by omega)

theorem kL (b n g:Nat)(W:World)(D:List Nat)(k:Nat)(ao:Option Addr)(cc:Nat)(hb:2≤b)(hb2:b≤36)(hn:n≤1125899906842624)(hT:Tab W)(hD:Byt W g D)(hl:D.length=n)(hk:k≤n)(hd:∀i,i<n→D.getD i 0<b)(h:k<n→ao=some ⟨g,k,none⟩∧cc=n - k∧D.getD k 0≠0) :
  Calls Tryz.prog 59 #[.slice ao (n - k) cc,.int .i64 b] W (cq b k (n - k) D W):=by
 rcases Nat.lt_or_ge k n with hkn|hkn
 ·obtain⟨rfl,rfl,h0⟩:=h hkn
  exact iW g k (n - k) b D W hT hD (by omega) (by omega) (by omega) (fun i hi=>hd (k+i) (by omega)) h0 hb hb2
 ·rw [show n - k=0 by omega]
  exact ii ao cc k b D W hT hb hb2
end Go.Proofs.YtghhnehbpkmhdaaGreatDoor
namespace Go.Proofs.YtghhnehbpkmhdaaGreatDoor
open Go.RowKit
open Lm

def digs (b:Nat):Nat→Nat→List Nat
 | 0,_=>[]
 | n+1,x=>x / b ^ n % b :: digs b n x

theorem bC (b n x:Nat):(digs b n x).length=n:=by
 induction n with
 | zero=>rfl
 | succ n ih=>simp [digs,ih]

theorem gf (b n x:Nat):∀i,i<n→(digs b n x).getD i 0=x / b ^ (n - 1 - i) % b:=by
 induction n with
 | zero=>intro i h;omega
 | succ n ih=>
  intro i h
  cases i with
  | zero=>simp [digs]
  | succ i=>
   rw [show n+1 - 1 - (i+1)=n - 1 - i by omega]
   simpa [digs] using ih i (by omega)

theorem dY {b n x:Nat}{D:List Nat}(hl:D.length=n)(h:∀i,i<D.length→D.getD i 0=x / b ^ (D.length - 1 - i) % b):D=digs b n x:=by
 apply List.ext_getElem?
 intro i
 rcases Nat.lt_or_ge i n with hi|hi
 ·have h1:=h i (by omega)
  have h2:=gf b n x i hi
  rw [hl] at h1
  have e1:D.getD i 0=D[i]:=by simp [List.getD,show i<D.length by omega]
  have e2:(digs b n x).getD i 0=(digs b n x)[i]'(by rw [bC];omega):=by simp [List.getD,show i<(digs b n x).length by rw [bC];omega]
  rw [List.getElem?_eq_getElem (by omega),List.getElem?_eq_getElem (by rw [bC];omega),←e1,←e2,h1,h2]
 ·rw [List.getElem?_eq_none (by omega),List.getElem?_eq_none (by rw [bC];omega)]

theorem fM (b n x:Nat)(hb:0<b):∀d ∈ digs b n x,d<b:=by
 induction n with
 | zero=>intro d h;cases h
 | succ n ih=>
  intro d h
  rcases List.mem_cons.1 h with rfl|h
  ·exact Nat.mod_lt _ hb
  ·exact ih d h

def sgn (d:Nat):UInt8:=UInt8.ofNat (fig d)

theorem gJ (L:List Nat):∀r:ByteArray,(L.foldl (fun r n=>r.push (UInt8.ofNat n)) r).data.toList=r.data.toList ++ L.map UInt8.ofNat:=by
 induction L with
 | nil=>intro r;simp
 | cons a l ih=>intro r;rw [List.foldl_cons,ih];simp [ByteArray.push]

theorem fm (L:List Nat):(ax (L.map fig)).data.toList=L.map sgn:=by
 rw [ax,gJ,List.map_map]
 rfl
end Go.Proofs.YtghhnehbpkmhdaaGreatDoor
namespace Go.Proofs.YtghhnehbpkmhdaaGreatDoor
open Go.RowKit
open Lm
attribute [local go_sem ↓] Go.wp_at_zero Go.wp_at_succ

def idx (c:Nat):Int:=Lib.indexByte [48,49,50,51,52,53,54,55,56,57,97,98,99,100,101,102,103,104,105,106,107,108,109,110,111,112,113,114,115,116,117,118,119,120,121,122] c.toUInt8

theorem ic:∀c:Fin 256,∀k:Fin 36,(fig k.1=c.1 ↔ idx c.1=(k.1:Int))∧idx c.1<36:=by decide +kernel

theorem iq {c k:Nat}(hc:c<256)(hk:k<36):fig k=c ↔ idx c=(k:Int):=(ic ⟨c,hc⟩ ⟨k,hk⟩).1

def byteN (T:ByteArray)(i:Nat):Nat:=(T.data.toList.getD i 0).toNat

theorem kq (T:ByteArray)(i:Nat)(h:i<T.size):(T[i]'h).toNat=byteN T i:=by
 have h2:i<T.data.size:=h
 unfold byteN
 show (T.data[i]).toNat=_
 simp only [List.getD,Array.getElem?_toList]
 rw [Array.getElem?_eq_getElem h2]
 rfl

theorem gQ (T:ByteArray)(i:Nat):byteN T i<256:=UInt8.toNat_lt _

def dgS (T:ByteArray)(i:Nat):Int:=idx (byteN T i)

theorem jQ (gs i:Nat)(T:ByteArray)(w:World)(h:w.cell? ⟨gs,0,none⟩=some (.string T))(hi:i<T.size) :
  Calls Tryz.prog 33 #[.int .i64 i,.pointer (some ⟨gs,0,none⟩)] w fun e w'=>e=.returned (.int .i64 (dgS T i))∧w'=w:=by
 have HB:=Tryz.strings_IndexByte ⟨#[48,49,50,51,52,53,54,55,56,57,97,98,99,100,101,102,103,104,105,106,107,108,109,110,111,112,113,114,115,116,117,118,119,120,121,122]⟩ ((byteN T i:Nat):Int) w
 have HB2:Calls Tryz.prog 34 #[.string ⟨#[48,49,50,51,52,53,54,55,56,57,97,98,99,100,101,102,103,104,105,106,107,108,109,110,111,112,113,114,115,116,117,118,119,120,121,122]⟩,.int .u8 ((byteN T i:Nat):Int)] w fun e w'=>e=.returned (.int .i64 (dgS T i))∧w'=w:=HB
 have hc:=kq T i
 have hl:=gQ T i
 obtain⟨z,hz⟩:∃z,dgS T i=z:=⟨_,rfl⟩
 rw [hz] at HB2
 rw [hz]
 clear HB hz
 generalize byteN T i=c at *
 have hi0:(0:Int)≤(i:Int):=by omega
 have hi1:(i:Int)<(T.size:Int):=by omega
 go_enter Tryz.func33,Tryz.ntmps33
 go_wp2_with fail
 refine HB2.mono ?_
 rintro e wn ⟨rfl,hw⟩;rw [hw];clear hw wn
 go_wp2
 go_ret
 exact⟨rfl,rfl⟩

theorem bT.up {b n:Nat}{dg:Nat→Int}{w w0:World}{e:Ending}{w':World}(hb:Below w.heap.size w w0)(h:bT b n dg w0 e w'):bT b n dg w e w':=by
 obtain⟨h1,h2⟩:=h
 refine⟨hb.trans (h1.mono hb.size),?_⟩
 rcases h2 with h2|⟨D,hl,hd,v,c,rs,he,hA,hc⟩
 ·exact .inl h2
 ·exact .inr ⟨D,hl,hd,v,c,rs,he,hA.base hb.size,hc⟩

theorem gF (T:ByteArray)(b:Nat)(w:World)(hT:Tab w)(hb:2≤b)(hb2:b≤36)(h0:0<T.size)(hn:T.size≤140737488351232) :
  Calls Tryz.prog 14 #[.string T,.int .i64 b] w (bT b T.size (dgS T) w):=by
 obtain⟨w0,hw0⟩:∃w0,w.alloc (.cells #[.string T] 9)=w0:=⟨_,rfl⟩
 have hb0:Below w.heap.size w w0:=by rw [←hw0];exact ag _ _
 have cs:w0.cell? ⟨w.heap.size,0,none⟩=some (.string T):=iS (by rw [←hw0];exact heap_alloc_new ..)
 have HI:=fW b w0 hb hb2
 have FN:=je (.pointer (some ⟨w.heap.size,0,none⟩)) b T.size (dgS T) w0 (hT.below hb0) hb hb2 hn (fun i hi W hW=>jQ w.heap.size i T W (ak hW cs) hi) (fun W D k ao cc h1 h2 h3 h4 h5 h6=>kL b T.size w0.heap.size W D k ao cc hb hb2 (by omega) h1 h2 h3 h4 h5 h6)
 have hne:T.toList.isEmpty=false:=by
  rw [Lib.toList_data]
  have h1:T.data.toList.length=T.size:=rfl
  cases h:T.data.toList with
  | nil=>rw [h] at h1;simp at h1;omega
  | cons x l=>rfl
 have HW0:=aa hw0
 have HB0:=aa hb0
 clear hT hw0 hb0
 go_enter Tryz.func14,Tryz.ntmps14
 go_wp2_with fail
 rw [HW0.out]
 refine HI.mono ?_
 rintro e wn ⟨rfl,hw⟩;rw [hw];clear hw wn HI
 go_wp2_with fail
 refine FN.mono ?_
 rintro e w1 hD
 have hD:=hD.up HB0.out
 obtain⟨v,c,e2⟩:∃v c,e=.returned (.tuple #[v,.int .i64 c]):=by
  rcases hD.2 with ⟨_,_,_,he⟩|⟨_,_,_,v,c,_,he,_⟩
  ·exact⟨_,_,he⟩
  ·exact⟨_,_,he⟩
 subst e2
 have HD:=aa hD
 clear FN hD
 go_wp2
 go_ret2
 exact HD.out








end Go.Proofs.YtghhnehbpkmhdaaGreatDoor
namespace Go.Proofs.YtghhnehbpkmhdaaGreatDoor
open Lm
end Go.Proofs.YtghhnehbpkmhdaaGreatDoor
namespace Go.Proofs.YtghhnehbpkmhdaaGreatDoor
open Go.RowKit
open Lm
attribute [local go_sem ↓] Go.wp_at_zero Go.wp_at_succ
end Go.Proofs.YtghhnehbpkmhdaaGreatDoor
namespace Go.Proofs.YtghhnehbpkmhdaaGreatDoor
open Lm
end Go.Proofs.YtghhnehbpkmhdaaGreatDoor
namespace Go.Proofs.YtghhnehbpkmhdaaGreatDoor
open Go.RowKit
open Lm
attribute [local go_sem ↓] Go.wp_at_zero Go.wp_at_succ







theorem d9 {b:Nat}{D E:List Nat}:∀ {n:Nat},(∀i,i<n→D.getD i 0=E.getD i 0)→dvr b D 0 n=dvr b E 0 n
 | 0,_=>rfl
 | n+1,h=>by rw [dvr,dvr,d9 (fun i hi=>h i (by omega)),Nat.zero_add,h n (by omega)]



theorem kH (L:List Nat):(ax (L.map fig)).size=L.length:=by
 have h:(ax (L.map fig)).data.toList.length=L.length:=by rw [fm,List.length_map]
 exact h



def aZ (k:Nat)(S:ByteArray):ByteArray:=⟨(List.replicate k 48 ++ S.data.toList).toArray⟩

theorem jm (S:ByteArray):aZ 0 S=S:=by
 apply ByteArray.ext
 simp [aZ]

theorem ji (k:Nat)(S:ByteArray):(aZ k S).size=k+S.size:=by
 show (List.replicate k 48 ++ S.data.toList).toArray.size=_
 rw [List.size_toArray,List.length_append,List.length_replicate]
 rfl

theorem jI (d:Nat):(sgn d).toNat=fig d:=by
 have h:=cX d
 unfold sgn
 rw [UInt8.toNat_ofNat']
 omega

theorem gO (k:Nat)(L:List Nat)(i:Nat)(h:i<k+L.length):byteN (aZ k (ax (L.map fig))) i=if i<k then 48 else fig (L.getD (i - k) 0):=by
 have e:(aZ k (ax (L.map fig))).data.toList=List.replicate k 48 ++ L.map sgn:=by
  show (List.replicate k 48 ++ (ax (L.map fig)).data.toList).toArray.toList=_
  rw [fm]
 unfold byteN
 rw [e]
 by_cases hi:i<k
 ·rw [if_pos hi]
  simp [List.getD,List.getElem?_append,hi]
 ·rw [if_neg hi]
  have h2:i - k<L.length:=by omega
  simp only [List.getD,List.getElem?_append,List.length_replicate,if_neg hi,List.getElem?_map,List.getElem?_eq_getElem h2,Option.map_some,Option.getD_some]
  exact jI _

theorem dP {d:Nat}(hd:d<36):idx (fig d)=(d:Int):=(iq (Nat.lt_trans (cX d) (by omega)) hd).1 rfl

theorem mm (k:Nat)(L:List Nat)(i:Nat)(h:i<k+L.length)(hL:∀d ∈ L,d<36):dgS (aZ k (ax (L.map fig))) i=(((List.replicate k 0 ++ L).getD i 0:Nat):Int):=by
 unfold dgS
 rw [gO k L i h]
 by_cases hi:i<k
 ·rw [if_pos hi]
  have e:(List.replicate k 0 ++ L).getD i 0=0:=by simp [List.getD,List.getElem?_append,hi]
  rw [e]
  exact dP (d:=0) (by omega)
 ·rw [if_neg hi]
  have h2:i - k<L.length:=by omega
  have e:(List.replicate k 0 ++ L).getD i 0=L.getD (i - k) 0:=by
   simp only [List.getD,List.getElem?_append,List.length_replicate,if_neg hi]
  rw [e]
  have h3:L.getD (i - k) 0<36:=by
   have e2:L.getD (i - k) 0=L[i - k]:=by simp [List.getD,h2]
   rw [e2]
   exact hL _ (List.getElem_mem h2)
  exact dP h3

theorem ft (b x n:Nat)(D:List Nat)(o:Nat)(hd:∀i,i<n→D.getD (o+i) 0=x / b ^ (n - 1 - i) % b):∀m,m≤n→dvr b D o m=x / b ^ (n - m) % b ^ m
 | 0,_=>by simp [dvr,Nat.mod_one]
 | m+1,h=>by
  rw [dvr,ft b x n D o hd m (by omega),hd m (by omega),show n - 1 - m=n - (m+1) by omega]
  have e:n - m=n - (m+1)+1:=by omega
  rw [e,Nat.pow_succ,←Nat.div_div_eq_div_mul]
  generalize x / b ^ (n - (m+1))=y
  rw [Nat.pow_succ,Nat.mul_comm (b ^ m) b,Nat.mod_mul,Nat.mul_comm (y / b % b ^ m) b]
  omega

theorem iQ {b x n k:Nat}(hx:x<b ^ n):dvr b (List.replicate k 0 ++ digs b n x) 0 (k+n)=x:=by
 have hz:∀i,i<k→(List.replicate k 0 ++ digs b n x).getD i 0=0:=fun i hi=>by simp [List.getD,List.getElem?_append,hi]
 have hd:∀i,i<n→(List.replicate k 0 ++ digs b n x).getD (k+i) 0=x / b ^ (n - 1 - i) % b:=fun i hi=>by
  rw [←gf b n x i hi]
  simp only [List.getD,List.getElem?_append,List.length_replicate,if_neg (show ¬k+i<k by omega),Nat.add_sub_cancel_left]
 have h:=bI b (List.replicate k 0 ++ digs b n x) 0 k n
 rw [cV b _ k hz,Nat.zero_mul,Nat.zero_add,Nat.zero_add,ft b x n _ k hd n (Nat.le_refl _),Nat.sub_self,Nat.pow_zero,Nat.div_one,Nat.mod_eq_of_lt hx] at h
 exact h

def fI (x:Nat)(w:World)(e:Ending)(w':World):Prop:=
 (∃v rs,e=.returned (.tuple #[v,.int .i64 0])∧Ans w' w.heap.size v rs∧val rs=x∧tr rs=rs∧rs.length≤1048576)∧Below w.heap.size w w'

theorem i7 {b n k x:Nat}{dg:Nat→Int}{w w':World}{e:Ending}(hx:x<b ^ n)(hbl:blen x≤67108864)(hb:2≤b)(hdg:∀i,i<k+n→dg i=(((List.replicate k 0 ++ digs b n x).getD i 0:Nat):Int))(h:bT b (k+n) dg w e w'):fI x w e w':=by
 obtain⟨h1,h2⟩:=h
 refine⟨?_,h1⟩
 have hlt:∀i,i<k+n→(List.replicate k 0 ++ digs b n x).getD i 0<b:=fun i hi=>by
  by_cases hik:i<k
  ·have e:(List.replicate k 0 ++ digs b n x).getD i 0=0:=by simp [List.getD,List.getElem?_append,hik]
   omega
  ·have h3:i - k<(digs b n x).length:=by rw [bC];omega
   have e:(List.replicate k 0 ++ digs b n x).getD i 0=(digs b n x)[i - k]:=by
    simp only [List.getD,List.getElem?_append,List.length_replicate,if_neg hik,List.getElem?_eq_getElem h3,Option.getD_some]
   rw [e]
   exact fM b n x (by omega) _ (List.getElem_mem h3)
 rcases h2 with ⟨i,hi,hbad,_⟩|⟨D,hl,hd,v,c,rs,he,hA,hc⟩
 ·have:=hdg i hi;have:=hlt i hi;omega
 ·have hxx:dvr b D 0 (k+n)=x:=by
   rw [←iQ (k:=k) hx]
   exact d9 fun i hi=>by have:=(hd i hi).1;have:=hdg i hi;omega
  rw [hxx] at hc
  have hf:=Res.few hA hc
  rcases hc with ⟨rfl,hv,ht,_⟩|⟨_,_,hbig⟩
  ·exact⟨v,rs,he,hA,hv,ht,hf⟩
  ·omega

theorem jF (k n x b:Nat)(w:World)(hT:Tab w)(hb:2≤b)(hb2:b≤36)(h:aF b x n)(hbl:blen x≤67108864)(hn:n≤67108865)(hk:k≤100) :
  Calls Tryz.prog 14 #[.string (aZ k (ax ((digs b n x).map fig))),.int .i64 b] w (fI x w):=by
 have hs:(aZ k (ax ((digs b n x).map fig))).size=k+n:=by rw [ji,kH,bC]
 have h1:=h.1
 have C:=gF (aZ k (ax ((digs b n x).map fig))) b w hT hb hb2 (by omega) (by omega)
 rw [hs] at C
 exact C.mono fun e w' hD=>i7 h.2.1 hbl hb (fun i hi=>mm k _ i (by rw [bC];exact hi) (fun d hd=>Nat.lt_of_lt_of_le (fM b n x (by omega) d hd) hb2)) hD
end Go.Proofs.YtghhnehbpkmhdaaGreatDoor
namespace Go.Proofs.YtghhnehbpkmhdaaGreatDoor
namespace Lm

def IsRoot2 (v s:Nat):Prop:=s*s≤v∧v<(s+1)*(s+1)

theorem newton_ge {v s x:Nat}(h:IsRoot2 v s)(hx:0<x):s≤(x+v / x) / 2:=by
 have h1:2*s - x≤v / x:=by
  rw [Nat.le_div_iff_mul_le hx]
  refine Nat.le_trans ?_ h.1
  rcases Nat.le_total (2*s) x with hc|hc
  ·rw [Nat.sub_eq_zero_of_le hc,Nat.zero_mul];exact Nat.zero_le _
  ·obtain⟨d,hd⟩:∃d,2*s=x+d:=⟨2*s - x,by omega⟩
   rw [hd,Nat.add_sub_cancel_left]
   rcases Nat.le_total d x with hdx|hdx
   ·obtain⟨e,rfl⟩:∃e,x=d+e:=⟨x - d,by omega⟩
    obtain⟨f,rfl⟩:∃f,e=2*f:=⟨e / 2,by omega⟩
    have hs:s=d+f:=by omega
    subst hs
    have:(d+f)*(d+f)=d*(d+2*f)+f*f:=by grind
    omega
   ·obtain⟨e,rfl⟩:∃e,d=x+e:=⟨d - x,by omega⟩
    obtain⟨f,rfl⟩:∃f,e=2*f:=⟨e / 2,by omega⟩
    have hs:s=x+f:=by omega
    subst hs
    have:(x+f)*(x+f)=(x+2*f)*x+f*f:=by grind
    omega
 omega

theorem newton_end {v s x:Nat}(h:IsRoot2 v s)(hx:0<x)(hs:s≤x)(hn:x≤(x+v / x) / 2):x=s:=by
 have h1:x≤v / x:=by omega
 have h2:=(Nat.le_div_iff_mul_le hx).1 h1
 refine Nat.le_antisymm (Nat.le_of_not_lt fun hlt=>?_) hs
 have:=Nat.mul_le_mul (Nat.succ_le_of_lt hlt) (Nat.succ_le_of_lt hlt)
 have h3:=h.2
 simp only [Nat.succ_eq_add_one] at this
 omega

theorem newton_first {v s k:Nat}(h:IsRoot2 v s)(hv:v<2 ^ (k+k)):s≤2 ^ k:=by
 rw [Nat.pow_add] at hv
 refine Nat.le_of_not_lt fun hlt=>?_
 have:=Nat.mul_le_mul (Nat.le_of_lt hlt) (Nat.le_of_lt hlt)
 have:=h.1
 omega

theorem newton_room {v s x:Nat}(h:IsRoot2 v s)(hs:s≤x)(h0:0<s)(hx:x≤4294967296):x+v / x<18446744073709551616:=by
 have h1:v / x≤v / s:=Nat.div_le_div_left hs h0
 have h2:v / s≤s+2:=by
  have h3:v<(s+3)*s:=by
   have:=h.2
   have e1:(s+1)*(s+1)=s*s+2*s+1:=by grind
   have e2:(s+3)*s=s*s+3*s:=by grind
   omega
  have:=(Nat.div_lt_iff_lt_mul h0).2 h3
  omega
 omega

end Lm
end Go.Proofs.YtghhnehbpkmhdaaGreatDoor
namespace Go.Proofs.YtghhnehbpkmhdaaGreatDoor
open Go.RowKit
open Lm
attribute [local go_sem ↓] Go.wp_at_zero Go.wp_at_succ

theorem lW (v s:Nat)(w:World)(hv:v<18446744073709551616)(hs:IsRoot2 v s)(h0:0<v) :
  Calls Tryz.prog 63 #[.int .u64 v] w fun e w'=>e=.returned (.int .u64 (s:Int))∧w'=w:=by
 have HLN:=Tryz.bits_Len64 (v:Int) w (by omega) (by omega)
 rw [Int.toNat_natCast] at HLN
 have hbl:v<2 ^ Lib.bitLen v:=by
  obtain⟨_,_,h3⟩:=Lib.bitLenAux_bounds 64 v hv (by omega)
  exact h3
 have hb64:Lib.bitLen v≤64:=Lib.bitLen_le v 64 (by omega) hv
 obtain⟨k,ek,hk1,hk2⟩:∃k:Nat,((Lib.bitLen v:Int)+1) / 2=(k:Int)∧Lib.bitLen v≤k+k∧k≤32:=⟨(Lib.bitLen v+1) / 2,by omega,by omega,by omega⟩
 have hfirst:s≤2 ^ k:=newton_first hs (Nat.lt_of_lt_of_le hbl (Nat.pow_le_pow_right (by omega) hk1))
 have hp32:2 ^ k≤4294967296:=Nat.pow_le_pow_right (n:=2) (by omega) hk2
 have hs0:0<s:=by
  rcases Nat.eq_zero_or_pos s with z|z
  ·have:=hs.2;rw [z] at this;omega
  ·exact z
 have hne:((v:Int) == 0)=false:=by rw [beq_eq_false_iff_ne];omega
 have HS:=aa hs
 have rsh:=bG 1 k (2 ^ k) (by rw [Nat.one_mul];exact Nat.mod_eq_of_lt (by omega))
 have rsh2:IntKind.u64.wrap ((2:Int) ^ k)=(2:Int) ^ k:=by
  have h:=rsh
  rw [show ((1:Nat):Int)*2 ^ k=(2:Int) ^ k by simp] at h
  rw [h];simp
 generalize Lib.bitLen v=L at *
 clear hs hbl
 go_enter Tryz.func63,Tryz.ntmps63
 go_wp2_with fail
 refine HLN.mono ?_
 rintro e wn ⟨rfl,hw⟩;rw [hw];clear hw wn HLN
 go_wp2
 go_loop [3] (fun x=>∃c:Nat,x=.int .u64 c∧s≤c∧c≤4294967296) (fun x=>(intOf x).toNat)
 case atStart=>exact⟨2 ^ k,by simp,hfirst,hp32⟩
 case round=>
  obtain⟨c,rfl,hc1,hc2⟩:=hrel
  have hc0:0<c:=by omega
  have hz:((c:Int) == 0)=false:=by rw [beq_eq_false_iff_ne];omega
  have hdiv:(v:Int) / (c:Int)=((v / c:Nat):Int):=by omega
  have hroom:=newton_room HS.out hc1 hs0 hc2
  have hge:=newton_ge HS.out hc0
  have hend:=fun h=>newton_end HS.out hc0 hc1 h
  generalize v / c=q at *
  obtain⟨t,et,ht1,ht2⟩:∃t:Nat,(c:Int)+(q:Int)=(t:Int)∧t<18446744073709551616∧c+q=t:=⟨c+q,by omega,by omega,rfl⟩
  rw [ht2] at hge hend
  obtain⟨n,en,hn1,hn2⟩:∃n:Nat,(t:Int) / 2=(n:Int)∧n≤t∧t / 2=n:=⟨t / 2,by omega,by omega,rfl⟩
  rw [hn2] at hge hend
  clear hroom ht2 hn2 rsh rsh2
  by_cases hcn:c≤n
  ·have hcs:=hend hcn
   subst hcs
   have i1:(c:Int)≤(n:Int):=by omega
   clear hend
   go_wp2
   go_ret
   exact⟨rfl,rfl⟩
  ·have i1:¬((c:Int)≤(n:Int)):=by omega
   clear hend
   go_wp2
   go_round
   case rel=>exact⟨n,rfl,hge,by omega⟩
   case measure=>simp [intOf];omega

theorem jy (vb:Value)(X:List Nat)(s:Nat)(w:World)(hA:Arg w vb X)(hX:0<val X)(h1:(tr X).length≤1)(hs:IsRoot2 (val X) s) :
  Calls Tryz.prog 38 #[vb] w fun e w'=>(∃v1 v2 r1 r2,e=.returned (.tuple #[v1,v2])∧Ans w' w.heap.size v1 r1∧Ans w' w.heap.size v2 r2∧val r1=s∧tr r1=r1∧val r2=val X - s*s∧tr r2=r2)∧Below w.heap.size w w':=by
 have HS:=gc vb X w hA
 rw [if_pos h1,decide_eq_true h1] at HS
 have hx1:val X<18446744073709551616:=by
  have h2:=val_lt (limbs_tr hA.limbs)
  rw [val_tr] at h2
  exact Nat.lt_of_lt_of_le h2 (Nat.le_trans (Nat.pow_le_pow_right (by omega) h1) (by simp))
 have hg:(tr X).getD 0 0=val X:=by
  rw [←val_tr X] at hX ⊢
  match h:tr X,h1,hX with
  | [],_,hX=>simp [val] at hX
  | [a],_,_=>simp [val]
  | a :: b :: c,h1,_=>simp at h1
 rw [hg] at HS
 have HR:=lW (val X) s w hx1 hs hX
 have hsq:s*s≤val X:=hs.1
 have hs1:s<18446744073709551616:=by
  rcases Nat.eq_zero_or_pos s with z|z
  ·omega
  ·exact Nat.lt_of_le_of_lt (Nat.le_mul_of_pos_left s z) (by omega)
 have HF:=bF s w hs1
 obtain⟨a1,k1,rfl,_,_,_⟩:=hA.form
 generalize val X=v at *
 obtain⟨q,hq,hq1⟩:∃q:Nat,(s:Int)*(s:Int)=(q:Int)∧s*s=q:=⟨s*s,by rw [Int.natCast_mul],rfl⟩
 rw [hq1] at hsq ⊢
 obtain⟨d,hd,hd1⟩:∃d:Nat,(v:Int) - (q:Int)=(d:Int)∧v - q=d:=⟨v - q,by omega,rfl⟩
 rw [hd1]
 have hdl:d<18446744073709551616:=by omega
 have hql:q<18446744073709551616:=by omega
 clear hA hX h1 hs hg hq1 hd1
 go_enter Tryz.func38,Tryz.ntmps38
 go_wp2_with fail
 refine HS.mono ?_
 rintro e wn ⟨rfl,hw⟩;rw [hw];clear hw wn HS
 go_wp2_with fail
 refine HR.mono ?_
 rintro e wn ⟨rfl,hw⟩;rw [hw];clear hw wn HR
 go_wp2_with fail
 refine HF.mono ?_
 rintro e w1 ⟨⟨v1,rfl,A1⟩,hb1⟩
 have HF2:=bF d w1 hdl
 have H1:=aa (And.intro A1 hb1)
 clear HF A1 hb1
 go_wp2_with fail
 refine HF2.mono ?_
 rintro e w2 ⟨⟨v2,rfl,A2⟩,hb2⟩
 have H2:=aa (And.intro A2 hb2)
 clear HF2 A2 hb2
 go_wp2
 go_ret2
 have e1:∀t:Nat,val (tr [t])=t:=fun t=>by rw [val_tr];simp [val]
 exact⟨⟨v1,v2,tr [s],tr [d],rfl,H1.out.1.below H2.out.2,H2.out.1.base H1.out.2.size,e1 s,tr_tr _,e1 d,tr_tr _⟩,H1.out.2.trans (H2.out.2.mono H1.out.2.size)⟩

theorem jB (vb:Value)(X:List Nat)(w:World)(hA:Arg w vb X) :
  Calls Tryz.prog 36 #[vb,.int .i64 2] w fun e w'=>e=.returned (.int .i64 (((blen (val X)+1) / 2:Nat):Int))∧w'=w:=by
 have HL:=aq _ _ w hA
 have hb:blen (val X)≤64*X.length:=(blen_le_iff _ _).2 (by have:=val_lt hA.limbs;rw [show (18446744073709551616:Nat)=2 ^ 64 from rfl,←Nat.pow_mul] at this;exact this)
 have hf:=hA.few
 obtain⟨a1,k1,rfl,_,_,_⟩:=hA.form
 generalize blen (val X)=L at *
 clear hA
 obtain⟨q,eq,hq⟩:∃q:Nat,(L:Int) / 2=(q:Int)∧L / 2=q:=⟨L / 2,by omega,rfl⟩
 rcases Nat.mod_two_eq_zero_or_one L with h0|h1
 ·have e2:(L:Int) % 2=0:=by omega
  have er:(L+1) / 2=q:=by omega
  rw [er]
  clear er h0 hq
  go_enter Tryz.func36,Tryz.ntmps36
  go_wp2_with fail
  refine HL.mono ?_
  rintro e wn ⟨rfl,hw⟩;subst hw
  clear HL
  go_wp2
  go_ret
  exact⟨rfl,rfl⟩
 ·have e2:(L:Int) % 2=1:=by omega
  obtain⟨q',eq',hq'⟩:∃q':Nat,(q:Int)+1=(q':Int)∧q+1=q':=⟨q+1,by omega,rfl⟩
  have er:(L+1) / 2=q':=by omega
  rw [er]
  clear er h1 hq hq'
  go_enter Tryz.func36,Tryz.ntmps36
  go_wp2_with fail
  refine HL.mono ?_
  rintro e wn ⟨rfl,hw⟩;subst hw
  clear HL
  go_wp2
  go_ret
  exact⟨rfl,rfl⟩

theorem gG (v1 v2:Value)(r2:List Nat)(w:World)(hA:Arg w v2 r2)(h:blen (val r2)≤67108864) :
  Calls Tryz.prog 37 #[v1,v2] w fun e w'=>e=.returned (.tuple #[v1,v2,.int .i64 0])∧w'=w:=by
 have HL:=aq _ _ w hA
 have i1:¬((67108864:Int)<(blen (val r2):Int)):=by omega
 have HA:Calls Tryz.prog 61 #[v2] w fun e w'=>e=.returned (.tuple #[v2,.int .i64 0])∧w'=w:=by
  obtain⟨a1,k1,rfl,_,_,_⟩:=hA.form
  generalize blen (val r2)=L at *
  clear hA h
  go_enter Tryz.func61,Tryz.ntmps61
  go_wp2_with fail
  refine HL.mono ?_
  rintro e wn ⟨rfl,hw⟩;subst hw
  clear HL
  go_wp2
  go_ret2
  exact⟨rfl,rfl⟩
 clear HL i1 hA h
 go_enter Tryz.func37,Tryz.ntmps37
 go_wp2_with fail
 refine HA.mono ?_
 rintro e wn ⟨rfl,hw⟩;subst hw
 clear HA
 go_wp2
 go_returns
 exact⟨rfl,rfl⟩

theorem ke (vb:Value)(X:List Nat)(s:Nat)(w:World)(hA:Arg w vb X)(hX:0<val X)(h1:(tr X).length≤1)(hs:IsRoot2 (val X) s) :
  Calls Tryz.prog 17 #[vb] w fun e w'=>(∃v1 v2 r1 r2,e=.returned (.tuple #[v1,v2,.int .i64 0])∧Ans w' w.heap.size v1 r1∧Ans w' w.heap.size v2 r2∧val r1=s∧tr r1=r1∧val r2=val X - s*s∧tr r2=r2)∧Below w.heap.size w w':=by
 have HR:=jB vb X w hA
 have HS:=jy vb X s w hA hX h1 hs
 have hx1:val X<18446744073709551616:=by
  have h2:=val_lt (limbs_tr hA.limbs)
  rw [val_tr] at h2
  exact Nat.lt_of_lt_of_le h2 (Nat.le_trans (Nat.pow_le_pow_right (by omega) h1) (by simp))
 have hb64:blen (val X)≤64:=(blen_le_iff _ 64).2 hx1
 have i1:¬((67108864:Int)<(((blen (val X)+1) / 2:Nat):Int)):=by omega
 obtain⟨a1,k1,rfl,_,_,_⟩:=hA.form
 have HX1:=aa hx1
 generalize (blen (val X)+1) / 2=L at *
 clear hA hX h1 hs hb64 hx1
 go_enter Tryz.func17,Tryz.ntmps17
 go_wp2_with fail
 refine HR.mono ?_
 rintro e wn ⟨rfl,hw⟩;rw [hw];clear hw wn HR
 go_wp2_with fail
 refine HS.mono ?_
 rintro e w1 ⟨⟨v1,v2,r1,r2,rfl,A1,A2,e1,t1,e2,t2⟩,hb1⟩
 have hv2:blen (val r2)≤64:=(blen_le_iff _ 64).2 (by rw [e2];exact Nat.lt_of_le_of_lt (Nat.sub_le _ _) HX1.out)
 have l2:r2.length≤1:=by
  have:=few_limbs r2 1 (by omega)
  rwa [t2] at this
 have HA:=gG v1 v2 r2 w1 (A2.arg (by omega)) (by omega)
 have H1:=aa (And.intro A1 (And.intro A2 (And.intro e1 (And.intro t1 (And.intro e2 (And.intro t2 hb1))))))
 clear HS A1 A2 e1 t1 e2 t2 hb1 hv2 l2
 go_wp2_with fail
 refine HA.mono ?_
 rintro e wn ⟨rfl,hw⟩;subst hw
 clear HA
 go_wp2
 go_returns
 obtain⟨q1,q2,q3,q4,q5,q6,q7⟩:=H1.out
 exact⟨⟨v1,v2,r1,r2,rfl,q1,q2,q3,q4,q5,q6⟩,q7⟩



theorem bR (w:World)(o1:Obj):∃w0,w.alloc o1=w0∧Below w.heap.size w w0∧w0.heap[w.heap.size]?=some o1:=⟨_,rfl,(Below.refl _ _).alloc (Nat.le_refl _) _,heap_alloc_new ..⟩

theorem j8 (w:World)(o1 o2:Obj):∃w0,(w.alloc o1).alloc o2=w0∧Below w.heap.size w w0∧w0.heap[w.heap.size]?=some o1∧w0.heap[w.heap.size+1]?=some o2:=by
 obtain⟨w1,h1,b1,c1⟩:=bR w o1
 obtain⟨w2,h2,b2,c2⟩:=bR w1 o2
 have hs:w1.heap.size=w.heap.size+1:=by rw [←h1];exact World.size_alloc _ _
 refine⟨w2,by rw [h1];exact h2,b1.trans (b2.mono b1.size),?_,by rw [←hs];exact c2⟩
 rw [b2.block w.heap.size (lt_of_block c1)];exact c1

theorem ir {w w':World}{g:Nat}{x:Obj}(hb:Below w.heap.size w w')(h:w.heap[g]?=some x):w'.heap[g]?=some x:=by
 rw [hb.block g (lt_of_block h)];exact h

theorem duo {w:World}{h:Nat}{a b:Value}{t:TypeId}(e:w.heap[h]?=some (.cells #[a,b] t)):w.cell? ⟨h,0,none⟩=some a∧w.cell? ⟨h,1,none⟩=some b:=⟨by simp [World.cell?,e],by simp [World.cell?,e]⟩

theorem kP (w:World)(o:Obj):Below w.heap.size w (w.alloc o):=(Below.refl _ _).alloc (Nat.le_refl _) _

theorem dr (x:Nat):blen x=0 ↔ x=0:=by
 have h:=blen_le_iff x 0
 rw [Nat.pow_zero] at h
 omega

theorem j4 (v:Value)(X:List Nat)(w:World)(hA:Arg w v X) :
  Calls Tryz.prog 39 #[v] w fun e w'=>e=.returned (.bool (decide (val X=0)))∧w'=w:=by
 have L:=aq v X w hA
 obtain⟨a,c,rfl,_,_,_⟩:=hA.form
 have hz:=dr (val X)
 clear hA
 generalize blen (val X)=l at *
 by_cases h0:l=0
 ·have h2:((l:Int) == 0)=true:=by rw [beq_iff_eq];omega
  rw [decide_eq_true (hz.1 h0)]
  go_enter Tryz.func39,Tryz.ntmps39
  go_wp2_with fail
  refine L.mono ?_
  rintro e wn ⟨rfl,hw⟩;rw [hw];clear hw wn L
  go_wp2
  go_ret
  exact⟨rfl,rfl⟩
 ·have h1:¬val X=0:=fun h=>h0 (hz.2 h)
  have h2:((l:Int) == 0)=false:=by rw [beq_eq_false_iff_ne];omega
  rw [decide_eq_false h1]
  go_enter Tryz.func39,Tryz.ntmps39
  go_wp2_with fail
  refine L.mono ?_
  rintro e wn ⟨rfl,hw⟩;rw [hw];clear hw wn L
  go_wp2
  go_ret
  exact⟨rfl,rfl⟩

def sg (b:Bool)(x:Nat):Int:=if x=0 then 0 else if b then -1 else 1

theorem lE (b:Bool)(v:Value)(X:List Nat)(w:World)(hA:Arg w v X) :
  Calls Tryz.prog 18 #[.agg #[.bool b,v]] w fun e w'=>e=.returned (.int .i64 (sg b (val X)))∧Below w.heap.size w w':=by
 obtain⟨a,c,rfl,_,_,_⟩:=hA.form
 obtain⟨w0,hw0⟩:∃w0,w.alloc (.cells #[.bool b,.slice a X.length c] 47)=w0:=⟨_,rfl⟩
 have hb0:Below w.heap.size w w0:=by rw [←hw0];exact kP _ _
 have h0:w0.heap[w.heap.size]?=some (.cells #[.bool b,.slice a X.length c] 47):=by rw [←hw0];exact heap_alloc_new ..
 obtain⟨k0,k1⟩:=duo h0
 have HZ:=j4 _ X w0 (hA.below hb0)
 have HB:=aa hb0
 unfold sg
 clear hA h0 hb0
 by_cases hx:val X=0
 ·rw [if_pos hx]
  rw [decide_eq_true hx] at HZ
  go_enter Tryz.func18,Tryz.ntmps18
  go_wp2_with fail
  refine HZ.mono ?_
  rintro e wn ⟨rfl,hw⟩;rw [hw];clear hw wn HZ
  go_wp2
  go_ret
  exact⟨rfl,HB.out⟩
 ·rw [if_neg hx]
  rw [decide_eq_false hx] at HZ
  cases b
  ·go_enter Tryz.func18,Tryz.ntmps18
   go_wp2_with fail
   refine HZ.mono ?_
   rintro e wn ⟨rfl,hw⟩;rw [hw];clear hw wn HZ
   go_wp2
   go_ret
   exact⟨rfl,HB.out⟩
  ·go_enter Tryz.func18,Tryz.ntmps18
   go_wp2_with fail
   refine HZ.mono ?_
   rintro e wn ⟨rfl,hw⟩;rw [hw];clear hw wn HZ
   go_wp2
   go_ret
   exact⟨rfl,HB.out⟩

theorem Ans.shape {w:World}{base:Nat}{v:Value}{rs:List Nat}(h:Ans w base v rs):∃a c,v=.slice a rs.length c:=by
 rcases h.form with ⟨rfl,h⟩|⟨g,cap,rfl,_⟩
 ·exact⟨none,0,by simp_all⟩
 ·exact⟨_,_,rfl⟩

theorem jx:ax ((digs 10 2 42).map fig)=⟨#[52,50]⟩:=by decide +kernel

theorem b7 {rs:List Nat}{x n:Nat}(ht:tr rs=rs)(hv:val rs=x)(hb:blen x≤n*64):rs.length≤n:=by
 rw [←ht]
 refine au rs n ?_
 rw [hv]
 have h:=(blen_le_iff x _).1 hb
 rw [Nat.mul_comm,Nat.pow_mul] at h
 exact h

theorem bt9 {W0 W t:World}(h:Below W0.heap.size W0 W)(h2:Below W.heap.size W t):Below W0.heap.size W0 t:=h.trans (h2.mono h.size)

theorem bX {w:World}{g p:Nat}(h:w.heap[g]?=some (.cells #[.int .u64 (p:Int)] 43))(hp:p<18446744073709551616):Arg w (.slice (some ⟨g,0,none⟩) 1 1) [p]:=by
 have hblk:Blk w g [p]:=h
 exact (Ans.of_blk (base:=0) (zs:=[p]) (Nat.zero_le _) hblk (by simp) (by simp) (by simp) (by intro z hz;simp at hz;omega)).arg (by simp)

theorem bJ (p:Nat):val [p]=p:=by simp [val]

theorem eZ (w:World)(hT:Tab w):Calls Tryz.prog 5 #[] w fun e w'=>e=.returned (.bool true)∧Below w.heap.size w w':=by
 obtain⟨w0,hw0,hb0,h0,h1⟩:=j8 w (.cells #[.int .u64 6] 43) (.cells #[.int .u64 7] 43)
 have hq:∀x,x≤100→blen x≤64:=fun x hx=>by have:blen x≤10:=(blen_le_iff _ _).2 (by omega);omega
 have HQ:=aa hq
 have C:=bj _ _ [6] [7] w0 (bX h0 (by omega)) (bX h1 (by omega)) (hT.below hb0) (by simp)
 rw [bJ,bJ] at C
 have HB:=aa hb0
 have HT:=aa (hT.below hb0)
 clear h0 h1 hb0 hT hq
 go_enter Tryz.func5,Tryz.ntmps5
 go_wp2_with fail
 refine C.mono ?_
 rintro e w1 ⟨hb,v1,c,r1,rfl,hans,hres⟩
 obtain⟨rfl,hv1,ht1⟩:c=0∧val r1=42∧tr r1=r1:=by
  rcases hres with ⟨h1,h2,h3,_⟩|⟨_,_,h⟩
  ·exact⟨h1,h2,h3⟩
  ·have h9:=HQ.out (6*7) (by omega)
   omega
 have hl1:r1.length≤1:=b7 ht1 hv1 (HQ.out 42 (by omega))
 obtain⟨a1,k1,rfl⟩:=hans.shape
 replace HB:=aa (bt9 HB.out hb)
 replace HT:=aa (HT.out.below hb)
 have HA:=aa (hans.arg (by omega))
 have HV:=aa (And.intro hv1 hl1)
 clear C hb hans hres hv1 ht1 hl1 hw0
 obtain⟨u1,hu1,hbu,hxu⟩:=bR w1 (.cells #[.int .u64 49] 43)
 have C:=ke _ [49] 7 u1 (bX hxu (by omega)) (by rw [bJ];omega) (by decide) ⟨by rw [bJ];omega,by rw [bJ];omega⟩
 replace HB:=aa (bt9 HB.out hbu)
 replace HT:=aa (HT.out.below hbu)
 replace HA:=aa (HA.out.below hbu)
 clear hbu hxu
 go_wp2_with fail
 refine C.mono ?_
 rintro e w2 ⟨⟨v2,v3,r2,r3,rfl,A2,A3,e2,t2,_,_⟩,hb⟩
 replace HB:=aa (bt9 HB.out hb)
 replace HT:=aa (HT.out.below hb)
 replace HA:=aa (HA.out.below hb)
 have hl2:r2.length≤1:=b7 t2 e2 (HQ.out 7 (by omega))
 obtain⟨a2,k2,rfl⟩:=A2.shape
 obtain⟨a3,k3,rfl⟩:=A3.shape
 have HA2:=aa (A2.arg (by omega))
 have HV2:=aa e2
 have C:=ev _ (val r1) 10 w2 (by omega) (by omega) (gg _ r1 10 w2 HA.out HT.out (by have:=HV.out.2;omega) (by omega) (by omega))
 rw [HV.out.1] at C
 clear hb A2 A3 e2 t2 hl2 hu1
 go_wp2_with fail
 refine C.mono ?_
 rintro e w3 ⟨D,rfl,hd,hdig,hb⟩
 obtain⟨n,hn⟩:∃n,D.length=n:=⟨_,rfl⟩
 have hDe:=dY hn hdig
 rw [hn] at hd
 have hn2:n=2:=hd.unique (by omega) ⟨by omega,by omega,.inr (by omega)⟩
 subst hn2
 subst hDe
 rw [jx]
 replace HB:=aa (bt9 HB.out hb)
 replace HA2:=aa (HA2.out.below hb)
 clear C hd hdig hb hn
 obtain⟨u3,hu3,hbu,hxu⟩:=bR w3 (.cells #[.int .u64 7] 43)
 have C:=bD _ _ r2 [7] u3 (HA2.out.below hbu) (bX hxu (by omega))
 rw [bJ,HV2.out,cmpN_self] at C
 replace HB:=aa (bt9 HB.out hbu)
 clear hbu hxu HA2
 go_wp2_with fail
 refine C.mono ?_
 rintro e w4 ⟨rfl,hs⟩
 have hb:Below u3.heap.size u3 w4:=hs.below _
 replace HB:=aa (bt9 HB.out hb)
 clear hs hb C hu3
 obtain⟨u4,hu4,hbu,hxu⟩:=bR w4 (.cells #[.int .u64 1] 43)
 have C:=lE true _ [1] u4 (bX hxu (by omega))
 rw [bJ] at C
 have e1:sg true 1=-1:=by decide
 rw [e1] at C
 replace HB:=aa (bt9 HB.out hbu)
 clear hbu hxu e1
 go_wp2_with fail
 refine C.mono ?_
 rintro e w5 ⟨rfl,hb⟩
 replace HB:=aa (bt9 HB.out hb)
 clear hb C
 go_wp2
 go_ret
 exact⟨rfl,HB.out⟩

def fk (x y:Nat)(w:World)(e:Ending)(w':World):Prop:=(e=.returned (.bool false)∨(e=.returned (.bool true)∧blen x≤1048576∧blen y≤1048576))∧Below w.heap.size w w'

theorem ku (L:Nat)(v1 v2:Value)(X Y:List Nat)(t:TypeId)(w:World)(hA:Arg w v1 X)(hB:Arg w v2 Y)(hf1:X.length≤17592186043904)(hf2:Y.length≤17592186043904)(hL:w.heap[L]?=some (.cells #[v1,v2] t)) :
  Calls Tryz.prog 4 #[.int .i64 1048576,.slice (some ⟨L,0,none⟩) 2 2] w (fk (val X) (val Y) w):=by
 obtain⟨a1,n1,rfl,_,_,_⟩:=hA.form
 obtain⟨a2,n2,rfl,_,_,_⟩:=hB.form
 obtain⟨c0,c1⟩:=duo hL
 have C:=fx _ X w hA (by omega)
 have HL:=aa hL
 have HB:=aa hB
 obtain⟨lx,hlx⟩:∃lx,blen (val X)=lx:=⟨_,rfl⟩
 obtain⟨ly,hly⟩:∃ly,blen (val Y)=ly:=⟨_,rfl⟩
 unfold fk
 rw [hlx,hly]
 have HLX:=aa hlx
 have HLY:=aa hly
 clear hA hB hL hlx hly
 go_enter Tryz.func4,Tryz.ntmps4
 go_wp2
 refine wp_loop_rounds 3 ?_
 rw [rounds_succ]
 go_wp2_with fail
 refine C.mono ?_
 rintro e w1 ⟨⟨u1,rfl,hn⟩,hb1⟩
 have C:=ff u1 _ w1 hn
 rw [HLX.out] at C
 have HB1:=aa hb1
 clear hn hb1
 go_wp2_with fail
 refine C.mono ?_
 rintro e wn ⟨rfl,hw⟩;rw [hw];clear hw wn C
 by_cases h1:1048576<lx
 ·have i1:(1048576:Int)<(lx:Int):=by omega
  go_wp2
  go_ret
  exact⟨.inl rfl,HB1.out⟩
 ·have i1:¬(1048576:Int)<(lx:Int):=by omega
  have C:=fx _ Y w1 (HB.out.below HB1.out) (by omega)
  clear c0 c1
  obtain⟨c0,c1⟩:=duo (ir HB1.out HL.out)
  go_wp2
  rw [rounds_succ]
  go_wp2_with fail
  refine C.mono ?_
  rintro e w2 ⟨⟨u2,rfl,hn⟩,hb2⟩
  have C:=ff u2 _ w2 hn
  rw [HLY.out] at C
  have HB2:=aa (bt9 HB1.out hb2)
  clear hn hb2
  go_wp2_with fail
  refine C.mono ?_
  rintro e wn ⟨rfl,hw⟩;rw [hw];clear hw wn C
  by_cases h2:1048576<ly
  ·have i2:(1048576:Int)<(ly:Int):=by omega
   go_wp2
   go_ret
   exact⟨.inl rfl,HB2.out⟩
  ·have i2:¬(1048576:Int)<(ly:Int):=by omega
   go_wp2
   rw [rounds_succ]
   go_wp2
   go_ret
   exact⟨.inr ⟨rfl,by omega,by omega⟩,HB2.out⟩

theorem jq (k:Int)(w:World):∃c:Int,2≤c∧c≤60∧Calls Tryz.prog 6 #[.int .i64 k,.int .i64 2,.int .i64 60] w fun e w'=>e=.returned (.int .i64 c)∧w'=w:=by
 obtain⟨r,hr,hr1,hr2⟩:∃r:Int,k.tmod 59=r∧-59<r∧r<59:=⟨_,rfl,Int.lt_tmod_of_pos k (by omega),Int.tmod_lt_of_pos k (by omega)⟩
 by_cases h0:r<0
 ·obtain⟨r5,hr5⟩:∃r5:Int,r+59=r5:=⟨_,rfl⟩
  obtain⟨c,hc⟩:∃c:Int,2+r5=c:=⟨_,rfl⟩
  refine⟨c,by omega,by omega,?_⟩
  go_enter Tryz.func6,Tryz.ntmps6
  go_wp2
  go_ret
  exact⟨rfl,rfl⟩
 ·obtain⟨c,hc⟩:∃c:Int,2+r=c:=⟨_,rfl⟩
  refine⟨c,by omega,by omega,?_⟩
  go_enter Tryz.func6,Tryz.ntmps6
  go_wp2
  go_ret
  exact⟨rfl,rfl⟩



theorem j3 (x y:Nat):blen (x*y)≤blen x+blen y:=by
 refine (blen_le_iff _ _).2 ?_
 have h1:=(blen_le_iff x _).1 (Nat.le_refl _)
 have h2:=(blen_le_iff y _).1 (Nat.le_refl _)
 rw [Nat.pow_add]
 exact Nat.mul_lt_mul_of_lt_of_lt h1 h2

theorem dF {w:World}{base:Nat}{e:Ending}{s:Nat}(h:Res w base e s)(hs:blen s≤67108864):∃a n k rs,e=.returned (.tuple #[.slice a n k,.int .i64 0])∧Arg w (.slice a n k) rs∧val rs=s∧rs.length≤1048576:=by
 obtain⟨v,c,rs,rfl,hans,hres⟩:=h
 rcases hres with ⟨rfl,h1,h2,_⟩|⟨_,_,h⟩
 ·have hl:rs.length≤1048576:=b7 h2 h1 (by omega)
  obtain⟨a,k,rfl⟩:=hans.shape
  exact⟨a,_,k,rs,rfl,hans.arg (by omega),h1,hl⟩
 ·omega

theorem iV (v0:Value)(X:List Nat)(v1:Value)(Y:List Nat)(k:Int)(w:World)(hT:Tab w)(A0:Arg w v0 X)(s0:X.length≤17592186043904)(A1:Arg w v1 Y)(s1:Y.length≤17592186043904)(_:-9223372036854775808≤k)(_:k≤9223372036854775807) :
  Calls Tryz.prog 3 #[v0,v1,.int .i64 k] w fun e w'=>e=.returned (.bool true)∧Below w.heap.size w w':=by
 obtain⟨a0,n0,rfl,_,_,_⟩:=A0.form
 obtain⟨a1,n1,rfl,_,_,_⟩:=A1.form
 obtain⟨w0,hw0,hb0,h0⟩:=bR w (.cells #[.slice a0 X.length n0,.slice a1 Y.length n1] 22)
 have C:=ku _ _ _ X Y _ w0 (A0.below hb0) (A1.below hb0) s0 s1 h0
 have HA0:=aa (A0.below hb0)
 have HA1:=aa (A1.below hb0)
 have HT:=aa (hT.below hb0)
 have HB:=aa hb0
 clear A0 A1 hT hb0 h0
 go_enter Tryz.func3,Tryz.ntmps3
 go_wp2_with fail
 refine C.mono ?_
 rintro e w1 ⟨hor,hb⟩
 replace HA0:=aa (HA0.out.below hb)
 replace HA1:=aa (HA1.out.below hb)
 replace HT:=aa (HT.out.below hb)
 replace HB:=aa (bt9 HB.out hb)
 clear C hb hw0
 rcases hor with rfl|⟨rfl,hx,hy⟩
 ·clear HA0 HA1
  have C:=eZ w1 HT.out
  go_wp2_with fail
  refine C.mono ?_
  rintro e w1 ⟨rfl,hb⟩
  have HF:=aa (bt9 HB.out hb)
  clear C hb
  go_wp2
  go_ret
  exact⟨rfl,HF.out⟩
 obtain⟨c,hc1,hc2,HP⟩:=jq k w1
 obtain⟨x,hxv⟩:∃x,val X=x:=⟨_,rfl⟩
 obtain⟨y,hyv⟩:∃y,val Y=y:=⟨_,rfl⟩
 have hfit:=j3 x y
 rw [hxv] at hx
 rw [hyv] at hy
 have HX:=aa hxv
 have HY:=aa hyv
 have HXY:=aa (And.intro hx hy)
 have HFIT:=aa (show blen (x*y)≤2097152 by omega)
 clear hxv hyv hx hy hfit
 go_wp2_with fail
 refine HP.mono ?_
 rintro e wn ⟨rfl,hw⟩;rw [hw];clear hw wn HP
 have C:=iR _ _ X Y w1 HA0.out HA1.out HT.out (by omega)
 rw [HX.out,HY.out] at C
 go_wp2_with fail
 refine C.mono ?_
 rintro e w2 ⟨hb,hr⟩
 obtain⟨a2,n2,k2,r2,rfl,hA2,hv2,hl2⟩:=dF hr (by have:=HFIT.out;omega)
 replace HA0:=aa (HA0.out.below hb)
 replace HA1:=aa (HA1.out.below hb)
 replace HT:=aa (HT.out.below hb)
 replace HB:=aa (bt9 HB.out hb)
 have HA2:=aa hA2
 have HV2:=aa hv2
 have HL2:=aa hl2
 have C:=jT _ _ X Y c w2 HA0.out HA1.out HT.out (by omega) hc1
 rw [HX.out,HY.out] at C
 clear hb hr hA2 hv2 hl2
 go_wp2_with fail
 refine C.mono ?_
 rintro e w3 ⟨hb,hr⟩
 obtain⟨a3,n3,k3,r3,rfl,hA3,hv3,hl3⟩:=dF hr (by have:=HFIT.out;omega)
 replace HA0:=aa (HA0.out.below hb)
 replace HA1:=aa (HA1.out.below hb)
 replace HA2:=aa (HA2.out.below hb)
 replace HT:=aa (HT.out.below hb)
 replace HB:=aa (bt9 HB.out hb)
 have HA3:=aa hA3
 have HV3:=aa hv3
 have C:=bj _ _ X Y w3 HA0.out HA1.out HT.out (by omega)
 rw [HX.out,HY.out] at C
 clear hb hr hA3 hv3 hl3 hc1 hc2
 go_wp2_with fail
 refine C.mono ?_
 rintro e w4 ⟨hb,hr⟩
 obtain⟨a4,n4,k4,r4,rfl,hA4,hv4,hl4⟩:=dF hr (by have:=HFIT.out;omega)
 replace HA0:=aa (HA0.out.below hb)
 replace HA1:=aa (HA1.out.below hb)
 replace HA2:=aa (HA2.out.below hb)
 replace HA3:=aa (HA3.out.below hb)
 replace HT:=aa (HT.out.below hb)
 replace HB:=aa (bt9 HB.out hb)
 have HA4:=aa hA4
 have HV4:=aa hv4
 have C:=bD _ _ r2 r3 w4 HA2.out HA3.out
 rw [HV2.out,HV3.out,cmpN_self] at C
 clear hb hr hA4 hv4 hl4
 go_wp2_with fail
 refine C.mono ?_
 rintro e w5 ⟨rfl,hs⟩
 have hb:Below w4.heap.size w4 w5:=hs.below _
 replace HA0:=aa (HA0.out.below hb)
 replace HA1:=aa (HA1.out.below hb)
 replace HA2:=aa (HA2.out.below hb)
 replace HA4:=aa (HA4.out.below hb)
 replace HT:=aa (HT.out.below hb)
 replace HB:=aa (bt9 HB.out hb)
 have C:=bD _ _ r2 r4 w5 HA2.out HA4.out
 rw [HV2.out,HV4.out,cmpN_self] at C
 clear hb hs HA3 HV3
 go_wp2_with fail
 refine C.mono ?_
 rintro e w6 ⟨rfl,hs⟩
 have hb:Below w5.heap.size w5 w6:=hs.below _
 replace HA0:=aa (HA0.out.below hb)
 replace HA1:=aa (HA1.out.below hb)
 replace HA2:=aa (HA2.out.below hb)
 replace HT:=aa (HT.out.below hb)
 replace HB:=aa (bt9 HB.out hb)
 have C:=aq _ Y w6 HA1.out
 rw [HY.out] at C
 obtain⟨ly,hly⟩:∃ly,blen y=ly:=⟨_,rfl⟩
 have hyz:=dr y
 rw [hly] at C hyz
 clear hb hs HA4 HV4 hly
 go_wp2_with fail
 refine C.mono ?_
 rintro e wn ⟨rfl,hw⟩;rw [hw];clear hw wn C
 have HYZ:=aa hyz
 clear hyz
 go_upto_if 69 with fail
 go_cut [13,14,15] from 68 to 89 (fun _ _ _ wx=>Arg wx (.slice a2 n2 k2) r2∧Tab wx∧Below w.heap.size w wx)
 case first=>
  by_cases h0:ly=0
  ·have i0:¬(0:Int)<(ly:Int):=by omega
   go_wp2_with fail
   go_meet
   exact⟨HA2.out,HT.out,HB.out⟩
  ·have i0:(0:Int)<(ly:Int):=by omega
   have hy0:y≠0:=fun h=>h0 (HYZ.out.2 h)
   have C:=fi _ _ r2 Y w6 HA2.out HA1.out HT.out (by have:=HL2.out;omega) (by omega) (by rw [HY.out];exact hy0)
   rw [HV2.out,HY.out,Nat.mul_div_cancel _ (by omega),Nat.mul_mod_left] at C
   have b0:blen 0≤67108864:=by
    have:blen 0≤0:=(blen_le_iff _ _).2 (by decide)
    omega
   have HB00:=aa b0
   have HY0:=aa hy0
   clear b0 hy0
   go_wp2_with fail
   refine C.mono ?_
   rintro e w7 ⟨⟨v7,v8,c7,r7,r8,mid,rfl,h7,hm,_,h8,hc⟩,hb⟩
   obtain⟨rfl,e1,e2,e3,e4⟩:c7=0∧val r7=x∧tr r7=r7∧val r8=0∧tr r8=r8:=by
    rcases hc with ⟨g1,g2,g3,g4,g5,_⟩|⟨_,_,_,hbig⟩
    ·exact⟨g1,g2,g3,g4,g5⟩
    ·have h9:=HXY.out.1
     have h10:=HB00.out
     omega
   have l7:r7.length≤1048576:=b7 e2 e1 (by have:=HXY.out.1;omega)
   have l8:r8.length≤1048576:=b7 e4 e3 (by have:=HB00.out;omega)
   replace HA0:=aa (HA0.out.below hb)
   replace HA2:=aa (HA2.out.below hb)
   replace HT:=aa (HT.out.below hb)
   replace HB:=aa (bt9 HB.out hb)
   obtain⟨a7,k7,rfl⟩:=h7.shape
   obtain⟨a8,k8,rfl⟩:=h8.shape
   have HA8:=aa (h8.arg (by omega))
   have HV8:=aa e3
   have C:=bD _ _ r7 X w7 (h7.arg (by omega)) HA0.out
   rw [e1,HX.out,cmpN_self] at C
   clear h7 h8 hm hb e1 e2 e3 e4 l7 l8
   go_wp2_with fail
   refine C.mono ?_
   rintro e w8 ⟨rfl,hs⟩
   have hb:Below w7.heap.size w7 w8:=hs.below _
   replace HA2:=aa (HA2.out.below hb)
   replace HT:=aa (HT.out.below hb)
   replace HB:=aa (bt9 HB.out hb)
   have C:=aq _ r8 w8 (HA8.out.below hb)
   rw [HV8.out,show blen 0=0 from (dr 0).2 rfl] at C
   clear hb hs HA8
   go_wp2_with fail
   refine C.mono ?_
   rintro e wn ⟨rfl,hw⟩;rw [hw];clear hw wn C
   go_wp2_with fail
   go_meet
   exact⟨HA2.out,HT.out,HB.out⟩
 case rest=>
  obtain⟨hA2,hT,hB⟩:=hcut
  clear HA0 HA1 HA2 HT HB
  have HA2:=aa hA2
  have HT:=aa hT
  have HB:=aa hB
  have HLM:=aa hA2.limbs
  clear hA2 hT hB
  have C:=ev _ (val r2) 10 wc (by omega) (by omega) (gg _ r2 10 wc HA2.out HT.out HL2.out (by omega) (by omega))
  go_wp2_with fail
  refine C.mono ?_
  rintro e w9 ⟨D,rfl,hd,hdig,hb⟩
  obtain⟨n,hn⟩:∃n,D.length=n:=⟨_,rfl⟩
  have hDe:=dY hn hdig
  rw [hn] at hd
  subst hDe
  obtain⟨hn9,_⟩:=ep (by omega) HLM.out HL2.out rfl hd
  obtain⟨S,hS⟩:∃S,ax ((digs 10 n (val r2)).map fig)=S:=⟨_,rfl⟩
  replace HA2:=aa (HA2.out.below hb)
  replace HT:=aa (HT.out.below hb)
  replace HB:=aa (bt9 HB.out hb)
  have C:=jF 0 n (val r2) 10 w9 HT.out (by omega) (by omega) hd (by rw [HV2.out];have:=HFIT.out;omega) hn9 (by omega)
  rw [jm,hS] at C
  rw [hS]
  clear hd hdig hb hn hS hn9
  go_wp2_with fail
  refine C.mono ?_
  rintro e w10 ⟨⟨v10,r10,rfl,hA10,hv10,_,hf10⟩,hb⟩
  replace HA2:=aa (HA2.out.below hb)
  replace HT:=aa (HT.out.below hb)
  replace HB:=aa (bt9 HB.out hb)
  have C:=bD _ _ r10 r2 w10 (hA10.arg (by omega)) HA2.out
  rw [hv10,cmpN_self] at C
  obtain⟨a10,k10,rfl⟩:=hA10.shape
  clear hA10 hv10 hf10 hb
  go_wp2_with fail
  refine C.mono ?_
  rintro e w11 ⟨rfl,hs⟩
  have hb:Below w10.heap.size w10 w11:=hs.below _
  replace HT:=aa (HT.out.below hb)
  replace HB:=aa (bt9 HB.out hb)
  clear hs hb
  have C:=eZ w11 HT.out
  go_wp2_with fail
  refine C.mono ?_
  rintro e w1 ⟨rfl,hb⟩
  have HF:=aa (bt9 HB.out hb)
  clear C hb
  go_wp2
  go_ret
  exact⟨rfl,HF.out⟩
end Go.Proofs.YtghhnehbpkmhdaaGreatDoor
namespace Go.Proofs.YtghhnehbpkmhdaaGreatDoor
open Go.ChangeShapes Go.WideShapes Go.ChangeAt Go.RowKit

def bW:List (String × DataW Unit):=[("math/bits.deBruijn32tab",Rows.laid_math_bits_deBruijn32tab),("math/bits.deBruijn64tab",Rows.laid_math_bits_deBruijn64tab)]

theorem kC:(Rows.laid_math_bits_deBruijn64tab:DataW Unit)=.agg (aA.map fun n=>.lit (.int .u8 ((n:Nat):Int))):=by kernel_rfl

theorem jf {W:World}(h:laidMetH Tryz.prog bW W):Tab W:=by
 rw [MakeChecks.laidMetH_plain _ _ _ (by kernel_rfl)] at h
 obtain⟨ps,⟨_,_,_,_,_,_,_,_,_,_,⟨g,t,cs,fuel,p,q,hg,ht,hv,hd,_,_⟩,_⟩,_,_⟩:=h
 obtain rfl:=Option.some.inj ((show Tryz.prog.globalNamed "math/bits.deBruijn64tab"=some 0 by kernel_rfl).symm.trans hg)
 obtain rfl:=Option.some.inj ((show (Tryz.prog.globals[0]?).map (·.type)=some 110 by kernel_rfl).symm.trans ht)
 obtain⟨xs,m,_,ex,_,hl,hel⟩:=DataW.trod_array Tryz.underlying110 hd
 have c5:Tryz.prog.cellsOf 5=1:=by kernel_rfl
 have hcell:∀r,r<64→W.cell? ⟨0,r,none⟩=some (.int .u8 ((aA.getD r 0:Nat):Int)):=by
  intro r hr
  have hE:=hel r hr
  rw [c5,Nat.mul_one,List.getElem?_eq_getElem (by omega)] at hE
  obtain⟨z,e1,e2,_⟩:=DataW.trod_int Tryz.underlying5 hE
  have hlen:aA.length=64:=by kernel_rfl
  rw [kC] at ex
  have e3:(xs.map (·.1))=aA.map fun n=>.lit (.int .u8 ((n:Nat):Int)):=(DataW.agg.inj (Prod.mk.inj ex).1).symm
  have e4:(xs.map (·.1))[r]?=(aA.map fun n=>(DataW.lit (.int .u8 ((n:Nat):Int)):DataW Unit))[r]?:=by rw [e3]
  rw [List.getElem?_map,List.getElem?_map,List.getElem?_eq_getElem (by omega:r<xs.length),List.getElem?_eq_getElem (by omega:r<aA.length),e2] at e4
  have hz:z=((aA.getD r 0:Nat):Int):=by
   simp only [Option.map_some,Option.some.injEq,DataW.lit.injEq,Lit.int.injEq,true_and] at e4
   rw [e4,List.getD,List.getElem?_eq_getElem (by omega:r<aA.length)];rfl
  rw [World.var?_cell hg hv r,←hz]
  have:cs.toList[r]?=some (.int .u8 z):=by
   have h0:((cs.toList.drop r).take 1)[0]?=some (.int .u8 z):=by rw [e1];rfl
   simpa using h0
  simpa using this
 refine⟨?_,hcell⟩
 have h0:=hcell 0 (by omega)
 rcases Nat.lt_or_ge 0 W.heap.size with h|h
 ·exact h
 ·simp [World.cell?,Array.getElem?_eq_none h] at h0
end Go.Proofs.YtghhnehbpkmhdaaGreatDoor

