/- Package numeral: part. -/
import Derived.Test.YtplegacjglaenaaGreatDoorB15
import Derived.BigQuiet
import Derived.Deep.RegionHeld3
import Derived.Test.YtplegacjglaenaaGreatDoorB07
import Derived.Test.YtplegacjglaenaaGreatDoorB02
import Derived.Laws.Bits128
import Derived.Handy
import Derived.Test.YtplegacjglaenaaGreatDoorB01
set_option maxRecDepth 20000
set_option maxHeartbeats 4000000
namespace Go.Proofs.YtplegacjglaenaaGreatDoor
open Go.RowKit
open Lm
attribute [local go_sem ↓] Go.wp_at_zero Go.wp_at_succ

def pq (x P n k:Nat)(w:World)(e:Ending)(w':World):Prop:=
 (∃g1 n1 c1 g2 n2 c2 H Lw,(w.heap.size≤g1∧w.heap.size≤g2)∧e=.returned (.tuple #[.slice (some ⟨g1,0,none⟩) n1 c1,.slice (some ⟨g2,0,none⟩) n2 c2])∧Arg w' (.slice (some ⟨g1,0,none⟩) n1 c1) H∧Arg w' (.slice (some ⟨g2,0,none⟩) n2 c2) Lw∧val H=x / P∧val Lw=x % P∧H.length≤n∧Lw.length≤k)∧Below w.heap.size w w'

theorem bt5 {a b c:World}(h:Below a.heap.size a b)(k:Below b.heap.size b c):Below a.heap.size a c:=h.trans (k.mono h.size)

theorem m5 (x B o:Nat):x % (B*o)=x % B+B*(x / B % o):=Nat.mod_mul

theorem re (x B o:Nat):x / (B*o)=x / B / o:=(Nat.div_div_eq_div_mul x B o).symm

theorem pL {s o y k:Nat}{R:List Nat}(hR:tr R=R)(hv:val R=y % o)(h0:0<o)(hP:18446744073709551616 ^ s*o<18446744073709551616 ^ k):s+R.length≤k:=by
 rcases l7 hR with rfl|h
 ·have h1:18446744073709551616 ^ s≤18446744073709551616 ^ s*o:=Nat.le_mul_of_pos_right _ h0
  have h2:=Nat.lt_of_le_of_lt h1 hP
  have:=(Nat.pow_lt_pow_iff_right (by omega)).1 h2
  simp;omega
 ·rcases Nat.eq_zero_or_pos R.length with hz|hz
  ·have h1:18446744073709551616 ^ s≤18446744073709551616 ^ s*o:=Nat.le_mul_of_pos_right _ h0
   have h2:=Nat.lt_of_le_of_lt h1 hP
   have:=(Nat.pow_lt_pow_iff_right (by omega)).1 h2
   omega
  ·have h1:val R<o:=by rw [hv];exact Nat.mod_lt _ h0
   have h2:18446744073709551616 ^ s*18446744073709551616 ^ (R.length - 1)<18446744073709551616 ^ k:=Nat.lt_of_le_of_lt (Nat.mul_le_mul_left _ (Nat.le_of_lt (Nat.lt_of_le_of_lt h h1))) hP
   rw [←Nat.pow_add] at h2
   have:=(Nat.pow_lt_pow_iff_right (by omega)).1 h2
   omega

theorem kN (d s:Nat)(ao:Option Addr)(co:Nat)(b off cap:Nat)(O X:List Nat)(w:World)(hO:Arg w (.slice ao O.length co) O)(hA:Arg w (.slice (some ⟨b,off,none⟩) X.length cap) X)(hT:Tab w)(hl:X.length≤1048576)(hO0:val O≠0)(hOl:O.length≤17592186044416)(hOb:blen (val O)≤67108864)(hs:s≤1048576)(hP:18446744073709551616 ^ s*val O<18446744073709551616 ^ 1048576) :
  Calls Tryz.prog 91 #[.agg #[.int .i64 d,.slice ao O.length co,.int .i64 s],.slice (some ⟨b,off,none⟩) X.length cap] w (pq (val X) (18446744073709551616 ^ s*val O) X.length 1048576 w):=by
 obtain⟨i0,hi,hz0,hz1,hz2⟩:=info_parts Tryz.infoU
 obtain⟨w0,hw0⟩:∃w0,w.alloc (.cells #[.int .i64 d,.slice ao O.length co,.int .i64 s] 107)=w0:=⟨_,rfl⟩
 have hb0:Below w.heap.size w w0:=by rw [←hw0];exact aF _ _
 have h0:w0.heap[w.heap.size]?=some (.cells #[.int .i64 d,.slice ao O.length co,.int .i64 s] 107):=by rw [←hw0];exact heap_alloc_new ..
 obtain⟨k0,k1,k2⟩:=tri h0
 obtain⟨nn,hnn,hn2⟩:∃nn:Nat,min (s:Int) (X.length:Int)=(nn:Int)∧nn=min s X.length:=⟨min s X.length,by omega,rfl⟩
 obtain⟨lp1,lp2,lp3⟩:=kR hA.limbs s nn hn2
 have hcl:X.length≤cap:=by obtain⟨_,_,e,hle,_,_⟩:=hA.form;cases e;exact hle
 have hcm:cap≤9223372036854775807:=by obtain⟨_,_,e,_,hm,_⟩:=hA.form;cases e;exact hm
 have hnl:nn≤X.length:=by omega
 have hncl:nn≤cap:=by omega
 obtain⟨o2,hif,ho2⟩:∃o2,(if cap=nn then some (⟨b,off,none⟩:Addr) else some ⟨b,off+nn,none⟩)=some ⟨b,o2,none⟩∧(o2=off+nn∨X.length=nn):=by
  by_cases h:cap=nn
  ·exact⟨off,by rw [if_pos h],.inr (by omega)⟩
  ·exact⟨off+nn,by rw [if_neg h],.inl rfl⟩
 have hAL:=gg (hA.below hb0) ho2 (by omega) (show X.length - nn≤cap - nn by omega) (by omega)
 have hdl:(X.drop nn).length=X.length - nn:=List.length_drop
 have C:=kA _ _ (X.drop nn) O w0.drew (hAL.below (Below.refl _ _).drew) ((hO.below hb0).below (Below.refl _ _).drew) ((hT.below hb0).below (Below.refl _ _).drew) (by rw [hdl];omega) hO0 hOl hOb
 rw [hdl] at C
 have KS:=ac (fun (W:World) (hg:Below w0.heap.size w0 W)=>show W.cell? ⟨w.heap.size,1,none⟩=some (.slice ao O.length co) from (tri ((hg.block w.heap.size (lt_of_block h0)).trans h0)).2.1)
 have g0:Below w0.heap.size w0 w0.drew:=(Below.refl _ _).drew
 have HB0:=ac hb0
 have H0:=ac h0
 have HXa:=ac hA
 have HLP:=ac (And.intro lp1 (And.intro lp2 lp3))
 have HPP:=ac hP
 have HO0:=ac hO0
 have hns:nn≤s:=by omega
 clear hb0 h0 hA hT hO hn2 lp1 lp2 lp3 hAL hP hO0 hOl hOb ho2
 go_enter Tryz.func91,Tryz.ntmps91
 go_upto_region 2 with fail
 go_region_held3 (fun w'=>w'.cell? ⟨w.heap.size,1,none⟩=some (.slice ao O.length co)) (first|with_reducible exact KS.out _ g1|with_reducible exact KS.out _ g0) (first
  | (go_at_call 117;refine C.mono ?_;rintro e' w1 ⟨⟨vr,Q,R,rfl,AQ,AR,hvQ,hvR,hlQ,hnR⟩,hb1⟩;have g1:=bt5 g0 hb1;obtain⟨a5,c5,rfl,_,_,hLr⟩:=AR.form))
 have hB1:=bt5 HB0.out g1
 have hlen:=pL hnR hvR (Nat.pos_of_ne_zero HO0.out) HPP.out
 obtain⟨N,hN,hNi⟩:∃N,N=s+R.length∧(s:Int)+(R.length:Int)=(N:Int):=⟨_,rfl,by omega⟩
 have hNs:N - s=R.length:=by omega
 obtain⟨o5,hif5,ho5⟩:∃o5,(∀g:Nat,(if N=s then some (⟨g,0,none⟩:Addr) else some ⟨g,s,none⟩)=some ⟨g,o5,none⟩)∧((o5=s∨(R.length=0∧o5=0))∧o5+R.length≤N):=by
  by_cases h:N=s
  ·exact⟨0,fun g=>by rw [if_pos h],.inr ⟨by omega,rfl⟩,by omega⟩
  ·exact⟨s,fun g=>by rw [if_neg h],.inl rfl,by omega⟩
 have lTk:(X.take nn).length=nn:=by rw [List.length_take];omega
 have h1:=(g1.block w.heap.size (lt_of_block H0.out)).trans H0.out
 obtain⟨k0,k1,k2⟩:=tri h1
 have hwl:w.heap.size<w1.heap.size:=lt_of_block h1
 have H1:=ac h1
 have HB1:=ac hB1
 have HAR:=ac AR
 have HAQ:=ac AQ
 have HV:=ac (And.intro hvQ (And.intro hvR (And.intro hlQ hnR)))
 have HNN:=ac hN
 have HO5:=ac ho5
 have hsN:s≤N:=by omega
 have hnN:nn≤N:=by omega
 have hN9:N≤1048576:=by omega
 clear hb1 g1 g0 hB1 AQ AR hvQ hvR hlQ hnR hLr h1 hN ho5 hif C KS H0 HB0
 go_wp2_with (at_make;refine wpList_make_full _ rfl _ _ 24 rfl w1.heap.size 51 i0 (.int .u64 0) 1 Tryz.underlying24 hi hz0 hz1 .i64 .i64 _ _ N rfl rfl (by omega) (by omega) (by rw [hz2];omega) (by unfold maxLen;omega) (Nat.le_refl _) ?_;intro w3 hown hgrow;have hbel3:Below w1.heap.size w1 w3:=(Below.refl w1.heap.size w1).grown hgrow (Nat.le_refl _) (fun k hk=>by cases hk);obtain⟨w4,M4,hcp,B4,L4,F4,O4,S4⟩:=cf w1.heap.size 0 N N (List.replicate N 0) (some ⟨b,off,none⟩) cap (X.take nn) w3 (Blk.made hown) (limbs_replicate _) (HXa.out.front nn hnl).limbs (bU N 0 N) (by simp) (by rw [lTk];omega) (au.arg ((HXa.out.front nn hnl).below (HB1.out.trans (hbel3.mono HB1.out.size))));rw [lTk] at hcp;have hbel4:Below w1.heap.size w1 w4:=hbel3.trans (F4.below (Nat.le_refl _) hbel3.size);obtain⟨j0,j1,j2⟩:=tri ((hbel4.block w.heap.size hwl).trans H1.out);have hM4l:M4.length=N:=by rw [O4.len,List.length_replicate])
 obtain⟨z0,z1⟩:=mU (M:=M4) (s:=s) (u:=R.length) (by have:=HNN.out;omega) (by rw [←HNN.out];exact S4) HLP.out.2.2
 have hz5:sv M4 o5 R.length=0:=by
  rcases HO5.out.1 with h|⟨h,_⟩
  ·rw [h];exact z0
  ·rw [h];exact aI _ _
 have hLu:au w4 a5 R:=by
  obtain⟨_,_,e,_,_,hl⟩:=(HAR.out.below hbel4).form
  cases e
  exact hl
 obtain⟨w5,M5,hcp2,B5,L5,F5,O5,S5⟩:=cf w1.heap.size o5 R.length R.length M4 a5 c5 R w4 B4 L4 HAR.out.limbs hz5 (by rw [hM4l];exact HO5.out.2) (Nat.le_refl _) hLu
 have hbel5:Below w1.heap.size w1 w5:=hbel4.trans (F5.below (Nat.le_refl _) hbel4.size)
 have hM5l:M5.length=s+R.length:=by rw [O5.len,hM4l];exact HNN.out
 have hval:=ln hM5l z1 O5 S5 HO5.out.1
 have hArg:Arg w5 (.slice (some ⟨w1.heap.size,0,none⟩) N N) M5:=by
  have h:=Ans.of_blk (base:=w.heap.size) (zs:=M5) (by omega) B5 List.take_length.symm (Nat.le_refl _) (by omega) L5
  rw [hM5l,←HNN.out] at h
  exact h.arg (by rw [hM5l,←HNN.out];omega)
 have hlow:val M5=val X % (18446744073709551616 ^ s*val O):=by
  rw [hval,m5,HV.out.2.1,HLP.out.2.1]
  have e1:=HLP.out.1
  have e2:val X % 18446744073709551616 ^ s=val (X.take nn):=by
   rw [e1,Nat.add_mul_mod_self_left,Nat.mod_eq_of_lt HLP.out.2.2]
  rw [e2]
 have hhigh:val Q=val X / (18446744073709551616 ^ s*val O):=by
  rw [re,HLP.out.2.1]
  exact HV.out.1
 have HF:=ac (And.intro hArg (And.intro (HAQ.out.below hbel5) (And.intro hlow (And.intro hhigh (HB1.out.trans (hbel5.mono HB1.out.size))))))
 have HM5:Hid (M5.length≤1048576):=ac (by rw [hM5l];exact hlen)
 have HGG:Hid (w.heap.size≤w0.drew.heap.size∧w.heap.size≤w1.heap.size):=ac ⟨by rw [←hw0];exact Nat.le_trans (Nat.le_succ _) (by simp),Nat.le_of_lt hwl⟩
 have HQL:Hid (Q.length≤X.length):=ac (by have:=HV.out.2.2.1;omega)
 clear hown hgrow hbel3 hbel4 hbel5 B4 L4 F4 O4 S4 B5 L5 F5 O5 S5 hval hArg hLu hz5 z0 z1 hM5l hlow hhigh hi hz0 hz1 hz2
 go_wp2
 rw [hcp2]
 go_wp2
 go_ret2
 exact⟨⟨_,_,_,_,_,_,Q,M5,HGG.out,rfl,HF.out.2.1,HF.out.1,HF.out.2.2.2.1,HF.out.2.2.1,HQL.out,HM5.out⟩,HF.out.2.2.2.2⟩

theorem mA (v:Value)(zs:List Nat)(n:Nat)(w:World)(h1:Arg w v zs)(f1:zs.length≤35184372088831)(hn:n≤1099511627776) :
  Calls Tryz.prog 142 #[v,.int .i64 n] w fun e w'=>Below w.heap.size w w'∧Res w' w.heap.size e (val zs / 2 ^ n):=by
 obtain⟨a1,c1,rfl,hc1,hm1,hl1⟩:=h1.form
 have H0:=iv n w (by omega) (by omega)
 have H1:=bT a1 c1 zs w hc1 hm1 hl1
 have l1:=tr_length_le zs
 have L1:=hl1.tr
 have M1:=limbs_tr h1.limbs
 obtain⟨q,s,hs,hnq⟩:∃q s,s<64∧n=q*64+s:=⟨n / 64,n % 64,by omega,by omega⟩
 have eq1:(n:Int) / 64=(q:Int):=by omega
 have eq2:(n:Int) % 64=(s:Int):=by omega
 have HN:Hid (n=q*64+s):=hnq
 have hq:q≤17179869184:=by omega
 obtain⟨i0,hi,hz0,hz1,hz2⟩:=info_parts Tryz.infoU
 clear hnq
 by_cases hql:(tr zs).length≤q
 ·have HV:Hid (val zs / 2 ^ n=0):=by
   refine ac ?_
   rw [Nat.div_eq_of_lt]
   have:=val_lt M1
   rw [val_tr,W_pow] at this
   have h2:(2:Nat) ^ ((tr zs).length*64)≤2 ^ n:=Nat.pow_le_pow_right (by omega) (by have:=HN.out;omega)
   omega
  clear L1 M1 hl1 h1 hi hz0 hz1 hz2
  generalize tr zs=Z at *
  go_enter Tryz.func142,Tryz.ntmps142
  go_wp2_with fail
  refine H0.mono ?_
  rintro e w' ⟨rfl,rfl⟩
  go_wp2_with fail
  refine H1.mono ?_
  rintro e w' ⟨rfl,rfl⟩
  clear H0 H1
  go_wp2
  go_ret2
  rw [HV.out]
  exact⟨Below.refl _ _,_,_,[],rfl,Ans.nil _ _,.inl ⟨rfl,rfl,rfl,by simp [blen]⟩⟩
 ·rcases L1 with h' | ⟨b,off,rfl,hcell⟩
  ·simp [h'] at hql
  ·have hbw:b<w.heap.size:=au.block (zs:=tr zs) (.inr ⟨b,off,rfl,hcell⟩) (by omega)
   have hcl:(tr zs).length≤c1:=by omega
   have hlx:((tr zs).drop q).length=(tr zs).length - q:=by simp
   have HVX:Hid (val ((tr zs).drop q) / 2 ^ s=val zs / 2 ^ n):=by
    refine ac ?_
    rw [val_drop M1 q (by omega),val_tr,Nat.div_div_eq_div_mul,←Nat.pow_add,←HN.out]
   have hcx:∀k,k<((tr zs).drop q).length→w.cell? ⟨b,off+q+k,none⟩=some (.int .u64 ((((tr zs).drop q).getD k 0:Nat):Int)):=by
    intro k hk
    have:=hcell (q+k) (by omega)
    rw [←Nat.add_assoc] at this
    rw [this]
    simp [List.getD]
   have hlimx:Limbs ((tr zs).drop q):=fun z hz=>M1 z (List.mem_of_mem_drop hz)
   clear hcell hl1 h1 M1
   generalize (tr zs).drop q=X at *
   generalize (tr zs).length=m at *
   obtain⟨d,rfl⟩:∃d,m=q+d:=⟨m - q,by omega⟩
   have hdx:X.length=d:=by omega
   subst hdx
   clear hlx
   have hd:decide ((q:Int)+(X.length:Int)≤(q:Int))=false:=by simp;omega
   have hxp:0<X.length:=by omega
   go_enter Tryz.func142,Tryz.ntmps142
   go_wp2_with fail
   refine H0.mono ?_
   rintro e w' ⟨rfl,rfl⟩
   go_wp2_with fail
   refine H1.mono ?_
   rintro e w' ⟨rfl,rfl⟩
   clear H0 H1
   go_wp2_with (at_make;refine wpList_make_full _ rfl _ _ 24 rfl w'.heap.size 51 i0 (.int .u64 0) 1 Tryz.underlying24 hi hz0 hz1 .i64 .i64 _ _ X.length rfl rfl (by omega) (by omega) (by rw [hz2];omega) (by unfold maxLen;omega) (Nat.le_refl _) ?_;intro w1 hown hgrow)
   have hb1:=Blk.made hown
   have hbel:Below w'.heap.size w' w1:=(Below.refl _ _).grown hgrow (Nat.le_refl _) (fun k hk=>by cases hk)
   clear hown hgrow hi hz0 hz1 hz2
   go_loopw [31] (fun i wr=>∃(k:Nat) (out:List Nat),k≤X.length∧i=.int .i64 k∧out.length=X.length∧Limbs out∧Blk wr w'.heap.size out∧Below w'.heap.size w' wr ∧
     2 ^ s*val (out.take k)+X.getD 0 0 % 2 ^ s=val (X.take k)+X.getD k 0 % 2 ^ s*18446744073709551616 ^ k) (fun i _=>X.length - (intOf i).toNat)
   case atStart=>exact⟨0,_,Nat.zero_le _,rfl,by simp,limbs_replicate _,hb1,hbel,by simp [val]⟩
   case round=>
    obtain⟨k,out,hk,rfl,hlen,hlo,hblk,hbl,hval⟩:=hrel
    clear hb1 hbel
    have HV:=ac hval
    have HB:=ac hblk
    have HL:=ac hbl
    clear hval
    by_cases hkl:k<X.length
    ·have hck:wr.cell? ⟨b,off+q+k,none⟩=some (.int .u64 ((X.getD k 0:Nat):Int)):=by rw [hbl.cell (p:=⟨b,off+q+k,none⟩) hbw];exact hcx k hkl
     have hlies:au wr.drew (some ⟨b,off+q,none⟩) X:=.inr ⟨b,off+q,rfl,fun j hj=>by rw [hbl.drew.cell (p:=⟨b,off+q+j,none⟩) hbw];exact hcx j hj⟩
     have H42:=jZ (some ⟨b,off+q,none⟩) (c1 - q) X (k+1) wr.drew (by omega) (by omega) hlies
     rw [show ((k+1:Nat):Int)=(k:Int)+1 from by omega] at H42
     have hfr:=hblk.free k
     have hco:=hblk.cell k (by omega)
     have hst:=right_step X out s k hs (by omega) HV.out
     have z1:=limb_lt hlimx k
     have hne1:¬b=w'.heap.size:=by omega
     have hne2:¬w'.heap.size=b:=by omega
     generalize out.getD k 0=o at *
     have HS:=ac hst
     clear hst hlies hblk hbl HV hcx
     generalize hy:X.getD (k+1) 0=y at *
     have HY:=ac hy
     clear hy
     generalize X.getD k 0=x at *
     have hi1:(0:Int)≤(k:Int):=by omega
     have hi2:(k:Int)<(X.length:Int):=by omega
     have hwk:IntKind.i64.wrap ((k:Int)+1)=(k:Int)+1:=by rw [IntKind.wrap_i64];omega
     obtain⟨t,ht⟩:∃t,t=64 - s:=⟨_,rfl⟩
     have htb:t≤64:=by omega
     have hw64:IntKind.i64.wrap (64 - (s:Int))=(t:Int):=by rw [IntKind.wrap_i64];omega
     have hw66:IntKind.i64.wrap (t:Int)=(t:Int):=by rw [IntKind.wrap_i64];omega
     have hw65:(64 - (s:Int))=(t:Int):=by omega
     have HT:=ac ht
     clear ht
     go_wp2
     go_region_held3 (fun w2=>w2.cell? ⟨b,off+q+k,none⟩=some (.int .u64 x)) (go_keep) (first | (go_at_call 135;refine H42.mono ?_;rintro e w2 ⟨rfl,rfl⟩))
     go_wp2
     go_roundw
     case rel=>
      have e:=HT.out
      subst e
      rw [walk_shr2 x y s hs z1]
      exact⟨k+1,out.set k (shr x y s),by omega,by go_num,by simp;omega,limbs_set hlo _ _ (shr_lt2 x y s hs z1),HB.out.set _ _,(HL.out.setCell (Nat.le_refl _) _).drew,by rw [HY.out];exact HS.out⟩
     case measure=>simp [intOf];omega
    ·have ek:k=X.length:=by omega
     subst ek
     have HA:=pH _ w'.heap.size _ _ hblk hlo (Nat.le_refl _) (by omega)
     rw [right_end X out s hlen HV.out,HVX.out,hlen] at HA
     clear hblk hbl HV HB hlo hcx hlimx
     go_wp2_with fail
     refine HA.mono ?_
     rintro e w2 ⟨rfl,hres⟩
     unfold Res at hres
     obtain⟨v,c,rs,rfl,hres⟩:=hres
     have HX:=ac hres
     clear hres
     go_wp2
     go_ret2
     exact⟨HL.out,v,c,rs,rfl,HX.out⟩

theorem jX (n:Int):bits .and .i64 n 1=n % 2:=by
 have h1:(BitVec.ofInt 64 1).toNat=2 ^ 1 - 1:=by decide
 have key:(BitVec.ofInt 64 n &&& BitVec.ofInt 64 1).toNat=(n % ((2 ^ 64:Nat):Int)).toNat % 2 ^ 1:=by
  rw [BitVec.toNat_and,BitVec.toNat_ofInt,h1,Nat.and_two_pow_sub_one_eq_mod]
 show IntKind.i64.wrap ((BitVec.ofInt 64 n &&& BitVec.ofInt 64 1).toNat:Nat)=n % 2
 rw [key,IntKind.wrap_i64]
 omega

theorem kf (x k:Nat):x / 2 ^ k=2*(x / 2 ^ (k+1))+x / 2 ^ k % 2:=by
 rw [Nat.pow_succ,←Nat.div_div_eq_div_mul]
 omega

theorem fj {x y:Nat}(h:x≤y):blen x≤blen y:=(blen_le_iff x _).2 (Nat.lt_of_le_of_lt h ((blen_le_iff y _).1 (Nat.le_refl _)))

theorem jS {x n k:Nat}(hx:0<x)(hk:k≤n):x ^ k≤x ^ n:=Nat.pow_le_pow_right hx hk

theorem Res.big {w:World}{base s:Nat}(h:67108864<blen s):Res w base (.returned (.tuple #[.slice none 0 0,.int .i64 3])) s:=
 ⟨_,3,[],rfl,Ans.nil _ _,.inr ⟨rfl,rfl,h⟩⟩

theorem Res.of_nv {w:World}{base s:Nat}{v:Value}(h:Nv w base v s)(hb:blen s≤67108864):Res w base (.returned (.tuple #[v,.int .i64 0])) s:=by
 obtain⟨rs,h1,h2,h3,_⟩:=h
 exact⟨v,0,rs,rfl,h1,.inl ⟨rfl,h2,h3,hb⟩⟩

theorem Res.parts {w:World}{base:Nat}{e:Ending}{s:Nat}(h:Res w base e s):(∃v,e=.returned (.tuple #[v,.int .i64 0])∧Nv w base v s∧blen s≤67108864)∨(∃v,e=.returned (.tuple #[v,.int .i64 3])∧67108864<blen s):=by
 obtain⟨v,c,rs,rfl,hA,h⟩:=h
 rcases h with ⟨rfl,h1,h2,h3⟩|⟨rfl,_,h3⟩
 ·exact .inl ⟨v,rfl,Nv.of hA h1 h2 h3,h3⟩
 ·exact .inr ⟨v,rfl,h3⟩

theorem mq (va:Value)(X:List Nat)(n:Nat)(w:World)(hA:Arg w va X)(hT:Tab w)(hl:X.length≤1048577)(hx:0<val X)(hn0:0<n)(hn:n≤9223372036854775807) :
  Calls Tryz.prog 143 #[va,.int .i64 n] w fun e w'=>Below w.heap.size w w'∧Res w' w.heap.size e (val X ^ n):=by
 obtain⟨x,hxx⟩:∃x,val X=x:=⟨_,rfl⟩
 rw [hxx] at hx ⊢
 have HF:=cC 1 w (by omega)
 have HLN:=fun W=>Tryz.bits_Len (n:Int) W (by omega) (by omega)
 rw [Int.toNat_natCast] at HLN
 have wn:IntKind.u64.wrap (n:Int)=(n:Int):=by rw [IntKind.wrap_u64];omega
 obtain⟨L,hL⟩:∃L,Lib.bitLen n=L:=⟨_,rfl⟩
 have hnl:n<2 ^ L:=by
  obtain⟨_,_,h3⟩:=Lib.bitLenAux_bounds 64 n (by omega) (by omega)
  rw [←hL];exact h3
 have hL64:L≤64:=by rw [←hL];exact Lib.bitLen_le n 64 (by omega) (by omega)
 rw [hL] at HLN
 obtain⟨a1,c1,rfl,_,_,_⟩:=hA.form
 have HA:=ac hA
 have HT:=ac hT
 have HX:=ac (And.intro hxx hx)
 have HN:=ac (And.intro hnl hn0)
 clear hA hT hxx hx hL hnl hn0
 go_enter Tryz.func143,Tryz.ntmps143
 go_wp2_with fail
 refine HF.mono ?_
 rintro e w1 ⟨⟨v1,rfl,A1⟩,hb1⟩
 have ST:=ac (And.intro (Nv.of A1 (x:=1) (by rw [val_tr];simp [val]) (tr_tr _) (by decide)) hb1)
 clear HF A1 hb1
 go_wp2_with fail
 refine (HLN _).mono ?_
 rintro e wn' ⟨rfl,hw⟩;rw [hw];clear hw wn' HLN
 go_wp2
 go_loopw [6,7,8] (fun v c i wr=>∃(k:Nat),c=.int .i64 0∧i=.int .i64 ((k:Int) - 1)∧k≤L∧Nv wr w.heap.size v (x ^ (n / 2 ^ k))∧Below w.heap.size w wr) (fun _ _ i _=>(intOf i+1).toNat)
 case atStart=>
  refine⟨L,rfl,rfl,Nat.le_refl _,?_,ST.out.2⟩
  rw [Nat.div_eq_of_lt HN.out.1,Nat.pow_zero]
  exact ST.out.1
 case round=>
  obtain⟨k,rfl,rfl,hk,hnv,hbel⟩:=hrel
  have HNV:=ac hnv
  have HB:=ac hbel
  clear hnv hbel ST
  by_cases hk0:k=0
  ·subst hk0
   have h:=HNV.out
   rw [Nat.pow_zero,Nat.div_one] at h
   have HE:=ac h
   clear h
   go_wp2
   go_returns
   refine⟨HB.out,Res.of_nv HE.out ?_⟩
   obtain⟨rs,h1,h2,h3,h4⟩:=HE.out
   rw [←h2]
   have:=(blen_le_iff (val rs) (64*rs.length)).2 (by have:=val_lt h1.limbs;rw [show (18446744073709551616:Nat)=2 ^ 64 from rfl,←Nat.pow_mul] at this;exact this)
   omega
  ·obtain⟨j,rfl⟩:∃j,k=j+1:=⟨k - 1,by omega⟩
   have ej:(((j+1:Nat):Int) - 1)=(j:Int):=by omega
   rw [ej]
   have hj0:(0:Int)≤(j:Int):=by omega
   have hj64:j<64:=by omega
   obtain⟨rs,A1,e1,_,l1⟩:=HNV.out.arg
   have HS:=iz _ rs wr A1 (HT.out.below HB.out) (by omega)
   have e2:val rs*val rs=x ^ (2*(n / 2 ^ (j+1))):=by rw [e1,←Nat.pow_add];congr 1;omega
   rw [e2] at HS
   have hst:=kf n j
   have hle:n / 2 ^ j≤n:=Nat.div_le_self _ _
   have hsh:(n:Int) / 2 ^ j=((n / 2 ^ j:Nat):Int):=by rw [Int.natCast_ediv,Int.natCast_pow];rfl
   have hand:=jX ((n / 2 ^ j:Nat):Int)
   have hm2:((n / 2 ^ j:Nat):Int) % 2=((n / 2 ^ j % 2:Nat):Int):=by omega
   rw [hm2] at hand
   have wj:IntKind.i64.wrap (((n / 2 ^ j:Nat)):Int)=(((n / 2 ^ j:Nat)):Int):=by rw [IntKind.wrap_i64];omega
   generalize n / 2 ^ (j+1)=p at *
   obtain⟨q,hq⟩:∃q,n / 2 ^ j=q:=⟨_,rfl⟩
   rw [hq] at hst hle hsh hand hm2 wj
   have HQ:=ac (And.intro hst hle)
   have HQD:=ac hq
   clear hq
   clear A1 e1 e2 l1 ej hk0 hst
   go_wp2_with fail
   refine HS.mono ?_
   rintro e w2 ⟨hb2,hr⟩
   have HB2:=ac (HB.out.trans (hb2.mono HB.out.size))
   rcases hr.parts with ⟨v2,rfl,N2,bl2⟩|⟨v2,rfl,bl2⟩
   ·have HN2:=ac N2
    clear HS hb2 hr N2 bl2
    rcases Nat.mod_two_eq_zero_or_one q with h0|h1
    ·rw [h0] at hand
     have HEQ:Hid (2*p=q):=ac (by have:=HQ.out.1;omega)
     clear h0
     go_wp2
     go_roundw
     case rel=>exact⟨j,rfl,rfl,by omega,by rw [HQD.out,←HEQ.out];exact HN2.out.base HB.out.size,HB2.out⟩
     case measure=>simp [intOf]
    ·rw [h1] at hand
     have HEQ:Hid (2*p+1=q):=ac (by have:=HQ.out.1;omega)
     obtain⟨rs2,A2,e2,_,l2⟩:=HN2.out.arg
     have HM:=fh v2 _ rs2 X w2 A2 (HA.out.below HB2.out) (HT.out.below HB2.out) (by omega)
     have e3:val rs2*val X=x ^ q:=by rw [e2,HX.out.1,←HEQ.out,Nat.pow_succ]
     rw [e3] at HM
     clear h1 A2 e2 l2 e3
     go_wp2_with fail
     refine HM.mono ?_
     rintro e w3 ⟨hb3,hr⟩
     have HB3:=ac (HB2.out.trans (hb3.mono HB2.out.size))
     rcases hr.parts with ⟨v3,rfl,N3,bl3⟩|⟨v3,rfl,bl3⟩
     ·have HN3:=ac N3
      clear HM hb3 hr N3 bl3
      go_wp2
      go_roundw
      case rel=>exact⟨j,rfl,rfl,by omega,by rw [HQD.out];exact HN3.out.base HB2.out.size,HB3.out⟩
      case measure=>simp [intOf]
     ·have HBG:=ac (Nat.lt_of_lt_of_le bl3 (fj (jS HX.out.2 HQ.out.2)))
      clear HM hb3 hr bl3
      go_wp2
      go_returns
      exact⟨HB3.out,Res.big HBG.out⟩
   ·have HBG:=ac (Nat.lt_of_lt_of_le bl2 (fj (jS (n:=n) (k:=2*p) HX.out.2 (by have:=HQ.out;omega))))
    clear HS hb2 hr bl2
    go_wp2
    go_returns
    exact⟨HB2.out,Res.big HBG.out⟩

theorem iU {x:Nat}(h:1<blen x):2≤x:=by
 refine Nat.le_of_not_lt fun hlt=>?_
 have:blen x≤1:=(blen_le_iff x 1).2 (by omega)
 omega

theorem qf {x n:Nat}(hx:1<blen x)(h:67108863<(blen x - 1)*n):67108864<blen (x ^ n):=by
 have h1:=fU x (by have:=iU hx;omega)
 have h2:2 ^ ((blen x - 1)*n)≤x ^ n:=by rw [Nat.pow_mul];exact Nat.pow_le_pow_left h1 n
 refine Nat.lt_of_not_le fun hle=>?_
 have h3:=(blen_le_iff (x ^ n) _).1 (Nat.le_refl (blen (x ^ n)))
 have h4:(blen x - 1)*n<blen (x ^ n):=(Nat.pow_lt_pow_iff_right (by omega)).1 (Nat.lt_of_le_of_lt h2 h3)
 omega

theorem mc {x t:Nat}(h:aT x t):x=x / 2 ^ t*2 ^ t∧0<x / 2 ^ t:=by
 obtain⟨h1,h2⟩:=h
 have h3:=Nat.div_add_mod x (2 ^ t)
 rw [h1,Nat.mul_comm] at h3
 refine⟨h3.symm,?_⟩
 generalize x / 2 ^ t=q at *
 rcases Nat.eq_zero_or_pos q with h|h
 ·rw [h] at h2;simp at h2
 ·exact h

theorem gc (va:Value)(X:List Nat)(n:Nat)(w:World)(hA:Arg w va X)(hT:Tab w)(hl:X.length≤17592186044416)(hn:n≤9223372036854775807) :
  Calls Tryz.prog 113 #[va,.int .i64 n] w fun e w'=>Below w.heap.size w w'∧Res w' w.heap.size e (val X ^ n):=by
 have HL:=aM _ _ w hA
 obtain⟨L,hL⟩:∃L,blen (val X)=L:=⟨_,rfl⟩
 rw [hL] at HL
 have hLb:L≤64*X.length:=by
  rw [←hL]
  exact (blen_le_iff _ _).2 (by have:=val_lt hA.limbs;rw [show (18446744073709551616:Nat)=2 ^ 64 from rfl,←Nat.pow_mul] at this;exact this)
 by_cases h0:n=0
 ·subst h0
  have HF:=cC 1 w (by omega)
  have HR:Hid (∀w' v,Ans w' w.heap.size v (tr [1])→Res w' w.heap.size (.returned (.tuple #[v,.int .i64 0])) (val X ^ 0)):=ac fun w' v h=>⟨v,0,_,rfl,h,.inl ⟨rfl,by rw [val_tr];simp [val],tr_tr _,by rw [Nat.pow_zero];decide⟩⟩
  clear hA hT hL
  go_enter Tryz.func113,Tryz.ntmps113
  go_wp2_with fail
  refine HL.mono ?_
  rintro e wn ⟨rfl,hw⟩;rw [hw];clear hw wn HL
  go_wp2_with fail
  refine HF.mono ?_
  rintro e w1 ⟨⟨v1,rfl,A1⟩,hb1⟩
  have H:=ac (And.intro A1 hb1)
  clear HF A1 hb1
  go_wp2
  go_returns
  exact⟨H.out.2,HR.out _ _ H.out.1⟩
 ·have hz:((n:Int) == 0)=false:=by rw [beq_eq_false_iff_ne];omega
  have hnn:¬((n:Int)<0):=by omega
  by_cases h1:L≤1
  ·have HN:=dj va X w hA hl
   have i1:(L:Int)≤1:=by omega
   have hx1:val X ^ n=val X:=by
    have:val X<2 ^ 1:=(blen_le_iff _ 1).1 (by rw [hL];exact h1)
    rcases Nat.eq_zero_or_pos (val X) with h|h
    ·rw [h];exact Nat.zero_pow (by omega)
    ·rw [show val X=1 by omega,Nat.one_pow]
   rw [hx1]
   have HX:=ac (show blen (val X)≤67108864 by omega)
   clear hA hT hL hx1
   go_enter Tryz.func113,Tryz.ntmps113
   go_wp2_with fail
   refine HL.mono ?_
   rintro e wn ⟨rfl,hw⟩;rw [hw];clear hw wn HL
   go_wp2_with fail
   refine HN.mono ?_
   rintro e w1 ⟨⟨v1,rfl,A1⟩,hb1⟩
   have H:=ac (And.intro A1 hb1)
   clear HN A1 hb1
   go_wp2
   go_returns
   exact⟨H.out.2,_,0,_,rfl,H.out.1,.inl ⟨rfl,val_tr _,tr_tr _,HX.out⟩⟩
  ·have i1:¬((L:Int)≤1):=by omega
   obtain⟨M,hM⟩:∃M,L=M+1:=⟨L - 1,by omega⟩
   have eM:(L:Int) - 1=(M:Int):=by omega
   obtain⟨Q,hQ⟩:∃Q,67108863 / n=Q:=⟨_,rfl⟩
   have eQ:(67108863:Int) / (n:Int)=(Q:Int):=by rw [←hQ,Int.natCast_ediv];rfl
   have hQl:Q≤67108863:=by rw [←hQ];exact Nat.div_le_self _ _
   by_cases h2:Q<M
   ·have i2:(Q:Int)<(M:Int):=by omega
    have HB:Hid (67108864<blen (val X ^ n)):=by
     refine ac (qf (by omega) ?_)
     rw [hL,hM,Nat.add_sub_cancel]
     rw [←hQ] at h2
     exact (Nat.div_lt_iff_lt_mul (by omega)).1 h2
    clear hA hT hL hM hQ
    go_enter Tryz.func113,Tryz.ntmps113
    go_wp2_with fail
    refine HL.mono ?_
    rintro e wn ⟨rfl,hw⟩;rw [hw];clear hw wn HL
    go_wp2
    go_returns
    exact⟨Below.refl _ _,Res.big HB.out⟩
   ·have i2:¬((Q:Int)<(M:Int)):=by omega
    have hMn:M*n≤67108863:=by
     have:M≤67108863 / n:=by omega
     exact (Nat.le_div_iff_mul_le (by omega)).1 this
    have HTL:=fg va X w hA hT
    have HA:=ac hA
    have HT:=ac hT
    have hx2:2≤val X:=iU (by omega)
    have HX:=ac (And.intro hL (And.intro hM (And.intro hMn hx2)))
    clear hA hT hL hM hQ hMn hx2
    go_enter Tryz.func113,Tryz.ntmps113
    go_wp2_with fail
    refine HL.mono ?_
    rintro e wn ⟨rfl,hw⟩;rw [hw];clear hw wn HL
    go_wp2_with fail
    refine HTL.mono ?_
    rintro e wn ⟨⟨t,ht,rfl,_,htl⟩,hw⟩;rw [hw];clear hw wn HTL
    have hit:=htl (by have:=HX.out.2.2.2;omega)
    obtain⟨od1,od2⟩:=mc hit
    have htM:t≤M:=by
     have h3:2 ^ t≤val X:=by rw [od1];exact Nat.le_mul_of_pos_left _ od2
     have h4:=(blen_le_iff (val X) _).1 (Nat.le_refl _)
     have h5:t<blen (val X):=(Nat.pow_lt_pow_iff_right (by omega)).1 (Nat.lt_of_le_of_lt h3 h4)
     have:=HX.out.1
     have:=HX.out.2.1
     omega
    have hM26:M≤67108863:=by
     have:=HX.out.2.2.1
     have:=Nat.le_mul_of_pos_right M (show 0<n by omega)
     omega
    have HR:=mA va X t w HA.out (by omega) (by omega)
    have HO:=ac (And.intro od1 (And.intro od2 htM))
    clear htl hit od1 od2 ht
    go_wp2_with fail
    refine HR.mono ?_
    rintro e w1 ⟨hb1,hr1⟩
    have hble:blen (val X / 2 ^ t)≤blen (val X):=fj (Nat.div_le_self _ _)
    obtain⟨v1,rfl,N1⟩:=hr1.fits (by have:=HX.out.1;have:=HX.out.2.1;omega)
    obtain⟨rs1,A1,e1,_,l1⟩:=N1.arg
    have HP:=mq v1 rs1 n w1 A1 (HT.out.below hb1) (by omega) (by rw [e1];exact HO.out.2.1) (by omega) hn
    rw [e1] at HP
    have HB1:=ac hb1
    clear HR hb1 hr1 hble N1 A1 e1 l1
    go_wp2_with fail
    refine HP.mono ?_
    rintro e w2 ⟨hb2,hr2⟩
    have HB2:=ac (HB1.out.trans (hb2.mono HB1.out.size))
    have hpw:(val X / 2 ^ t) ^ n*2 ^ (t*n)=val X ^ n:=by
     rw [Nat.pow_mul,←Nat.mul_pow,←HO.out.1]
    have htn:t*n≤67108863:=Nat.le_trans (Nat.mul_le_mul_right n HO.out.2.2) HX.out.2.2.1
    obtain⟨u,hu,eu⟩:∃u:Nat,t*n=u∧(t:Int)*(n:Int)=(u:Int):=⟨t*n,rfl,by rw [Int.natCast_mul]⟩
    rw [hu] at hpw htn
    rcases hr2.parts with ⟨v2,rfl,N2,bl2⟩|⟨v2,rfl,bl2⟩
    ·obtain⟨rs2,A2,e2,_,l2⟩:=N2.arg
     have HLF:=lh v2 rs2 u w2 A2 (by omega) (by omega)
     rw [e2,hpw] at HLF
     clear HP hb2 hr2 N2 A2 e2 l2 bl2 hpw hu
     go_wp2_with fail
     refine HLF.mono ?_
     rintro e w3 ⟨hb3,v3,c3,rs3,rfl,A3,h3⟩
     have H:=ac (And.intro (A3.base HB2.out.size) (And.intro h3 (HB2.out.trans (hb3.mono HB2.out.size))))
     clear HLF hb3 A3 h3
     go_wp2
     go_returns
     exact⟨H.out.2.2,v3,c3,rs3,rfl,H.out.1,H.out.2.1⟩
    ·have HBG:=ac (Nat.lt_of_lt_of_le bl2 (fj (show (val X / 2 ^ t) ^ n≤val X ^ n by rw [←hpw];exact Nat.le_mul_of_pos_right _ (Nat.two_pow_pos _))))
     clear HP hb2 hr2 bl2 hpw hu
     go_wp2
     go_returns
     exact⟨HB2.out,Res.big HBG.out⟩

def aP:List (Nat × Value × Nat)→List Value
 | []=>[]
 | (d,o,s) :: l=>.int .i64 d :: o :: .int .i64 s :: aP l

theorem oo (l:List (Nat × Value × Nat))(d:Nat)(o:Value)(s:Nat):aP (l ++ [(d,o,s)])=aP l ++ [.int .i64 d,o,.int .i64 s]:=by
 induction l with
 | nil=>rfl
 | cons p l ih=>obtain⟨d,o,s⟩:=p;simp [aP,ih]

theorem lA (l:List (Nat × Value × Nat)):∀(i d:Nat) (o:Value) (s:Nat),l[i]?=some (d,o,s)→(aP l)[i*3]?=some (.int .i64 d)∧(aP l)[i*3+1]?=some o∧(aP l)[i*3+2]?=some (.int .i64 s):=by
 induction l with
 | nil=>intro i d o s h;simp at h
 | cons p l ih=>
  obtain⟨d0,o0,s0⟩:=p
  intro i d o s h
  cases i with
  | zero=>simp at h;obtain⟨rfl,rfl,rfl⟩:=h;exact⟨rfl,rfl,rfl⟩
  | succ i=>
   obtain⟨h1,h2,h3⟩:=ih i d o s (by simpa using h)
   have e1:(i+1)*3=i*3+1+1+1:=by omega
   rw [e1]
   exact⟨by simpa [aP] using h1,by simpa [aP] using h2,by simpa [aP] using h3⟩

def cA (w:World)(b n:Nat)(p:Nat × Value × Nat):Prop:=
 ∃a O c,p.2.1=.slice a O.length c∧Arg w p.2.1 O∧18446744073709551616 ^ p.2.2*val O=b ^ p.1∧2≤p.1∧p.1+2≤n∧val O≠0∧O.length≤1048576∧blen (val O)≤67108864∧p.2.2≤1125899906842624

theorem cA.below {w w':World}{b n:Nat}{p:Nat × Value × Nat}(h:cA w b n p)(hb:Below w.heap.size w w'):cA w' b n p:=by
 obtain⟨a,O,c,h1,h2,h3⟩:=h
 exact⟨a,O,c,h1,h2.below hb,h3⟩

def ce (w:World)(v:Value)(b n:Nat):Prop:=∃l,bS w v l∧∀p ∈ l,cA w b n p

theorem bS.below {w w':World}{v:Value}{l:List (Nat × Value × Nat)}(h:bS w v l)(hb:Below w.heap.size w w'):bS w' v l:=by
 rcases h with h|⟨g,cap,h1,h2,h3,h4,h5⟩
 ·exact .inl h
 ·refine .inr ⟨g,cap,h1,Nat.lt_of_lt_of_le h2 hb.size,h3,h4,fun i d o s hi=>?_⟩
  obtain⟨q1,q2,q3,q4⟩:=h5 i d o s hi
  have e:∀k,w'.cell? ⟨g,k,none⟩=w.cell? ⟨g,k,none⟩:=fun k=>World.cell?_of_block (hb.block g h2)
  rw [e,e,e]
  exact⟨q1,q2,q3,q4⟩

theorem ce.below {w w':World}{v:Value}{b n:Nat}(h:ce w v b n)(hb:Below w.heap.size w w'):ce w' v b n:=by
 obtain⟨l,h1,h2⟩:=h
 exact⟨l,h1.below hb,fun p hp=>(h2 p hp).below hb⟩

theorem Ans.grown5 {w w':World}{base:Nat}{v:Value}{zs:List Nat}{row:Option Nat}(h:Ans w base v zs)(hg:w.grownBy w' row)(hne:v.ownBlock=none∨v.ownBlock≠row):Ans w' base v zs:=by
 refine⟨?_,h.limbs⟩
 obtain⟨h1,h2⟩:=h.own
 refine⟨h1,?_⟩
 rcases h2 with h2|⟨g',cap,cur,hv,hg',hh,r⟩
 ·exact .inl h2
 ·refine .inr ⟨g',cap,cur,hv,hg',?_,r⟩
  rw [hg.block g' (lt_of_block hh) ?_]
  ·exact hh
  ·rcases hne with hne|hne
   ·rw [hv] at hne;cases hne
   ·rw [hv] at hne;exact hne

def kS (w:World)(row:Option Nat)(f t n:Nat)(p:Nat × Value × Nat):Prop:=
 ∃O,Ans w 0 p.2.1 O∧val O=f ^ p.1∧64*p.2.2=t*p.1∧2≤p.1∧p.1+2≤n∧O.length≤1048576∧blen (val O)≤67108864∧(p.2.1.ownBlock=none∨p.2.1.ownBlock≠row)

theorem lW:(Tryz.prog.info? 107).map (fun i=>(i.zero,i.size,i.bytes))=some (some (.agg #[.int .i64 0,.slice none 0 0,.int .i64 0]),3,40):=by kernel_rfl

theorem j4 {w:World}{base:Nat}{v:Value}{zs:List Nat}(h:Ans w base v zs){g:Nat}(hg:v.ownBlock=some g):base≤g∧g<w.heap.size:=by
 obtain⟨_,h2⟩:=h.own
 rcases h2 with ⟨rfl,_⟩|⟨g',cap,cur,rfl,hg',hh,_⟩
 ·cases hg
 ·simp [Value.ownBlock] at hg
  subst hg
  exact⟨hg',lt_of_block hh⟩

theorem m6 {w:World}{base:Nat}{v:Value}{l:List (Nat × Value × Nat)}(ho:w.ownsRow base 107 3 v l.length (aP l))(hs:∀p ∈ l,p.1≤9223372036854775807∧p.2.2≤9223372036854775807∧∃a n c,p.2.1=.slice a n c):bS w v l:=by
 obtain⟨h1,h2⟩:=ho
 rcases h2 with ⟨rfl,h3⟩|⟨g,cap,cur,rfl,hge,hh,hle,hml,hsz,htk⟩
 ·exact .inl ⟨rfl,List.length_eq_zero_iff.1 h3⟩
 ·refine .inr ⟨g,cap,rfl,lt_of_block hh,hle,by have:maxLen=9223372036854775807:=rfl;omega,fun i d o s hi=>?_⟩
  obtain⟨q1,q2,q3⟩:=lA l i d o s hi
  have hil:i<l.length:=(List.getElem?_eq_some_iff.1 hi).1
  have e:∀k,k<l.length*3→w.cell? ⟨g,k,none⟩=(aP l)[k]?:=fun k hk=>by
   have:(aP l)[k]?=cur.toList[k]?:=by rw [←htk,List.getElem?_take,if_pos hk]
   rw [this]
   simp [World.cell?,hh]
  rw [e _ (by omega),e _ (by omega),e _ (by omega)]
  obtain⟨r1,r2,r3⟩:=hs _ (List.mem_of_getElem? hi)
  exact⟨q1,q2,q3,r1,r2,r3⟩

theorem pz {n k J W0 i W:Nat}(h1:n≤k*2 ^ J)(h2:k*2 ^ J<n+2 ^ J)(h3:J=0∨512<k)(hk:k≤W0)(hW0:W0≤k+63)(hW:W=W0*2 ^ i)(hle:W+1≤n):W+2≤n:=by
 rcases Nat.lt_or_ge i J with hi|hi
 ·have h4:2*W≤W0*2 ^ J:=by
   rw [hW,Nat.mul_left_comm,←Nat.pow_succ']
   exact Nat.mul_le_mul_left _ (Nat.pow_le_pow_right (by omega) hi)
  have h5:W0*2 ^ J≤(k+63)*2 ^ J:=Nat.mul_le_mul_right _ hW0
  have h6:513*2 ^ J≤k*2 ^ J:=Nat.mul_le_mul_right _ (by omega)
  have h7:2 ^ 1≤2 ^ J:=Nat.pow_le_pow_right (by omega) (by omega)
  rw [Nat.add_mul] at h5
  omega
 ·have h4:W0*2 ^ J≤W:=by
   rw [hW]
   exact Nat.mul_le_mul_left _ (Nat.pow_le_pow_right (by omega) hi)
  have h5:k*2 ^ J≤W0*2 ^ J:=Nat.mul_le_mul_right _ hk
  omega

def PSt (base F t n:Nat)(w:World)(v:Value)(l:List (Nat × Value × Nat)):Prop:=w.ownsRow base 107 3 v l.length (aP l)∧∀p ∈ l,kS w v.ownBlock F t n p

theorem jk {w w':World}{base sz m:Nat}{e:TypeId}{v:Value}{xs:List Value}(h:w.ownsRow base e sz v m xs)(hb:Below w.heap.size w w'):w'.ownsRow base e sz v m xs:=by
 obtain⟨h1,h2⟩:=h
 refine⟨h1,?_⟩
 rcases h2 with h2|⟨g,cap,cur,hv,hg,hh,r⟩
 ·exact .inl h2
 ·exact .inr ⟨g,cap,cur,hv,hg,by rw [hb.block g (lt_of_block hh)];exact hh,r⟩

theorem fF {w:World}{base sz m:Nat}{e:TypeId}{v:Value}{xs:List Value}(h:w.ownsRow base e sz v m xs):∀g,v.ownBlock=some g→g<w.heap.size:=by
 obtain⟨h1,h2⟩:=h
 intro g hg
 rcases h2 with ⟨rfl,_⟩|⟨g',cap,cur,rfl,_,hh,_⟩
 ·cases hg
 ·simp [Value.ownBlock] at hg
  subst hg
  exact lt_of_block hh

theorem gO {w:World}{base sz m:Nat}{e:TypeId}{v:Value}{xs:List Value}(h:w.ownsRow base e sz v m xs):∀g,v.ownBlock=some g→base≤g:=by
 obtain⟨h1,h2⟩:=h
 intro g hg
 rcases h2 with ⟨rfl,_⟩|⟨g',cap,cur,rfl,hge,_⟩
 ·cases hg
 ·simp [Value.ownBlock] at hg
  subst hg
  exact hge

theorem PSt.below {base F t n:Nat}{w w':World}{v:Value}{l:List (Nat × Value × Nat)}(h:PSt base F t n w v l)(hb:Below w.heap.size w w'):PSt base F t n w' v l:=by
 refine⟨jk h.1 hb,fun p hp=>?_⟩
 obtain⟨O,h1,h2⟩:=h.2 p hp
 exact⟨O,h1.below hb,h2⟩

theorem PSt.step {base F t n:Nat}{w w':World}{v v':Value}{l:List (Nat × Value × Nat)}{o:Obj}{d s bo:Nat}{vo:Value}{O:List Nat}(h:PSt base F t n w v l)(ho:Ans w bo vo O)(hv:∀g,v.ownBlock=some g→g<bo)
  (hval:val O=F ^ d) (hs:64*s=t*d) (h1:2≤d) (h2:d+2≤n) (hl:O.length≤1048576) (hb:blen (val O)≤67108864)
  (hown:w'.ownsRow base 107 3 v' (l.length+1) (aP l ++ [.int .i64 d,vo,.int .i64 s])) (hgrow:(w.alloc o).grownBy w' v.ownBlock) (hat:v'.ownBlock=v.ownBlock∨v'.ownBlock=some (w.alloc o).heap.size):PSt base F t n w' v' (l ++ [(d,vo,s)]):=by
 have hal:Below w.heap.size w (w.alloc o):=aF w o
 have key:∀(u:Value) (B0:Nat) (U:List Nat),Ans w B0 u U→(u.ownBlock=none∨u.ownBlock≠v.ownBlock)→Ans w' B0 u U∧(u.ownBlock=none∨u.ownBlock≠v'.ownBlock):=by
  intro u B0 U hu hne
  refine⟨(hu.below hal).grown5 hgrow hne,?_⟩
  rcases hat with e|e
  ·rw [e];exact hne
  ·rcases hub:u.ownBlock with _|g
   ·exact .inl rfl
   ·have:=(j4 hu hub).2
    rw [e]
    refine .inr fun h=>?_
    have h:=Option.some.inj h
    have:=hal.size
    omega
 refine⟨by rw [oo,List.length_append];exact hown,fun p hp=>?_⟩
 rcases List.mem_append.1 hp with hp|hp
 ·obtain⟨U,q1,q2,q3,q4,q5,q6,q7,q8⟩:=h.2 p hp
  obtain⟨r1,r2⟩:=key _ _ _ q1 q8
  exact⟨U,r1,q2,q3,q4,q5,q6,q7,r2⟩
 ·simp at hp
  subst hp
  obtain⟨r1,r2⟩:=key vo bo O ho (by
   rcases hub:vo.ownBlock with _|g
   ·exact .inl rfl
   ·refine .inr fun h=>?_
    have h3:=hv g h.symm
    have h4:=(j4 ho hub).1
    omega)
  exact⟨O,r1.base (Nat.zero_le _),hval,hs,h1,h2,hl,hb,r2⟩

theorem PSt.ok {base F t n b:Nat}{w:World}{v:Value}{l:List (Nat × Value × Nat)}(h:PSt base F t n w v l)(hb:b=2 ^ t*F)(hF:1≤F)(ht:t≤5)(hn:n≤1125899906842624):∀p ∈ l,cA w b n p:=by
 intro p hp
 obtain⟨O,q1,q2,q3,q4,q5,q6,q7,_⟩:=h.2 p hp
 have hA:=q1.arg (by omega)
 obtain⟨a,c,e,_,_,_⟩:=hA.form
 have hts:t*p.1≤5*p.1:=Nat.mul_le_mul_right _ ht
 refine⟨a,O,c,e,hA,?_,q4,q5,?_,q6,q7,by omega⟩
 ·rw [q2,hb,Nat.mul_pow,←Nat.pow_mul,←q3,Nat.pow_mul]
 ·rw [q2]
  exact Nat.pos_iff_ne_zero.1 (Nat.pow_pos (by omega))

theorem PSt.at {base F t n b:Nat}{w:World}{v:Value}{l:List (Nat × Value × Nat)}(h:PSt base F t n w v l)(hb:b=2 ^ t*F)(hF:1≤F)(ht:t≤5)(hn:n≤1125899906842624):bS w v l:=by
 refine m6 h.1 (fun p hp=>?_)
 obtain⟨a,O,c,e,_,_,_,q,_,_,_,r⟩:=h.ok hb hF ht hn p hp
 exact⟨by omega,by omega,a,_,c,e⟩

theorem PSt.pows {base F t n b:Nat}{w:World}{v:Value}{l:List (Nat × Value × Nat)}(h:PSt base F t n w v l)(hb:b=2 ^ t*F)(hF:1≤F)(ht:t≤5)(hn:n≤1125899906842624):ce w v b n:=
 ⟨l,h.at hb hF ht hn,h.ok hb hF ht hn⟩

theorem fM {w:World}(l:List Value)(t:TypeId)(j:Nat)(u:Value)(hj:l[j]?=some u):(w.alloc (.cells l.toArray t)).cell? ((⟨w.heap.size,0,none⟩:Addr).add j)=some u:=by
 have e:(⟨w.heap.size,0,none⟩:Addr).add j=⟨w.heap.size,j,none⟩:=by
  unfold Addr.add;split <;> simp_all
 rw [e]
 simp only [World.cell?,heap_alloc_new]
 simpa using hj

theorem jK (v1 v2:Value)(x y:Nat)(w:World)(h1:Num w v1 x)(h2:Num w v2 y) :
  Calls Tryz.prog 64 #[v1,v2] w fun e w'=>e=.returned (.int .i64 (cmpN x y))∧aj w w':=by
 obtain⟨Z,hA1,hZ,hZt,rfl,hZl⟩:=h1
 obtain⟨Y,hA2,hY,hYt,rfl,hYl⟩:=h2
 obtain⟨a1,c1,rfl,hc1,hm1,L1⟩:=hA1.form
 obtain⟨a2,c2,rfl,hc2,hm2,L2⟩:=hA2.form
 clear hA1 hA2
 by_cases hl:Z.length=Y.length
 ·have HL:=ac hl.symm
  rw [←hl] at hc2 hYl ⊢
  clear hl
  have hne:((Z.length:Int) != (Z.length:Int))=false:=by simp
  go_enter Tryz.func64,Tryz.ntmps64
  go_wp2
  go_loopw [5] (fun i wr=>∃k:Nat,k≤Z.length∧i=.int .i64 ((k:Int) - 1)∧aj w wr∧cmpN (vb 4294967296 (Z.take k)) (vb 4294967296 (Y.take k))=cmpN (vb 4294967296 Z) (vb 4294967296 Y)) (fun i _=>(intOf i+1).toNat)
  case atStart=>exact⟨Z.length,Nat.le_refl _,by go_num,aj.refl _,by rw [List.take_length,←HL.out,List.take_length]⟩
  case round=>
   obtain⟨k,hk,rfl,hs,hv⟩:=hrel
   have HV:=ac hv
   have HS:=ac hs
   clear hv
   by_cases hk0:k=0
   ·subst hk0
    have HN:Hid (cmpN (vb 4294967296 Z) (vb 4294967296 Y)=0):=ac (by rw [←HV.out];rfl)
    clear HV L1 L2 hs
    go_wp2
    go_ret
    rw [HN.out]
    exact⟨rfl,HS.out⟩
   ·obtain⟨j,rfl⟩:∃j,k=j+1:=⟨k - 1,by omega⟩
    rcases L1.below (hs.below _) with h0|⟨b,off,rfl,hcell⟩
    ·simp [h0] at hk
    ·rcases L2.below (hs.below _) with h0|⟨b',off',rfl,hcell'⟩
     ·have:=HL.out;simp [h0] at this;omega
     ·have hck:=hcell j (by omega)
      have hck':=hcell' j (by have:=HL.out;omega)
      have ej:((j+1:Nat):Int) - 1=(j:Int):=by omega
      have ej2:(j:Int)+1 - 1=(j:Int):=by omega
      rw [ej]
      have hi1:(0:Int)≤(j:Int):=by omega
      have hi2:(j:Int)<(Z.length:Int):=by omega
      rcases Nat.lt_trichotomy (Z.getD j 0) (Y.getD j 0) with hxy|hxy|hxy
      ·have HN:Hid (cmpN (vb 4294967296 Z) (vb 4294967296 Y)=-1):=ac (by rw [←HV.out,vcmp_top hZ hY _ (by omega),cmpN_lt hxy])
       generalize Z.getD j 0=a at *
       generalize Y.getD j 0=c at *
       have i1:(a:Int)<(c:Int):=by omega
       clear hcell hcell' HV L1 L2 hs
       go_wp2
       go_quiet (fail)
       go_wp2
       go_ret
       rw [HN.out]
       exact⟨rfl,HS.out.drewN _⟩
      ·have HN:Hid (cmpN (vb 4294967296 (Z.take j)) (vb 4294967296 (Y.take j))=cmpN (vb 4294967296 Z) (vb 4294967296 Y)):=ac (by rw [←HV.out,vcmp_same _ hxy])
       rw [hxy] at hck
       generalize Y.getD j 0=c at *
       have hd1:decide ((c:Int)<(c:Int))=false:=decide_eq_false (by omega)
       clear hcell hcell' HV L1 L2 hs hxy
       go_wp2
       go_quiet (fail)
       go_wp2
       go_quiet (fail)
       go_wp2
       go_roundw
       case rel=>exact⟨j,by omega,by go_num,by first|exact (HS.out.drewN _).drewN _|exact HS.out.drewN _,HN.out⟩
       case measure=>simp [intOf]
      ·have HN:Hid (cmpN (vb 4294967296 Z) (vb 4294967296 Y)=1):=ac (by rw [←HV.out,vcmp_top hZ hY _ (by omega),cmpN_gt hxy])
       generalize Z.getD j 0=a at *
       generalize Y.getD j 0=c at *
       have i1:(c:Int)<(a:Int):=by omega
       have hd1:decide ((a:Int)<(c:Int))=false:=decide_eq_false (by omega)
       clear hcell hcell' HV L1 L2 hs
       go_wp2
       go_quiet (fail)
       go_wp2
       go_quiet (fail)
       go_wp2
       go_ret
       rw [HN.out]
       exact⟨rfl,by first|exact (HS.out.drewN _).drewN _|exact HS.out.drewN _⟩
 ·have hne:((Z.length:Int) != (Y.length:Int))=true:=by rw [bne_iff_ne];omega
  rcases Nat.lt_or_gt_of_ne hl with hlt|hlt
  ·rw [cmpN_lt (vb_shorter hZ hYt hlt)]
   have i1:(Z.length:Int)<(Y.length:Int):=by omega
   clear L1 L2
   go_enter Tryz.func64,Tryz.ntmps64
   go_wp2
   go_ret
   exact⟨rfl,aj.refl _⟩
  ·rw [cmpN_gt (vb_shorter hY hZt hlt)]
   have hd1:decide ((Z.length:Int)<(Y.length:Int))=false:=decide_eq_false (by omega)
   have i1:(Y.length:Int)<(Z.length:Int):=by omega
   clear L1 L2
   go_enter Tryz.func64,Tryz.ntmps64
   go_wp2
   go_ret
   exact⟨rfl,aj.refl _⟩

theorem fo {ds:List Nat}(hd:Digs 4294967296 ds)(ht:tr ds=ds)(L:Nat)(hb:blen (vb 4294967296 ds)≤32*L):ds.length≤L:=by
 refine Nat.le_of_not_lt fun hlt=>?_
 obtain⟨n,hn⟩:∃n,ds.length=n+1:=⟨ds.length - 1,by omega⟩
 have h1:=blen_vb hd ht n hn
 have h2:=blen_half _ (tr_last' ds n ht hn)
 omega

theorem cz {ds:List Nat}(n:Nat)(h:ds.length≤n):vb 4294967296 (ds.take n)=vb 4294967296 ds:=by rw [List.take_of_length_le h]

theorem je {X Y out:List Nat}(hX:Digs 4294967296 X)(hY:Digs 4294967296 Y)(n cy:Nat)(h1:X.length≤n)(h2:Y.length≤n)(ho:out.length=n+1)
  (h:vb 4294967296 (out.take (n+1))+cy*4294967296 ^ (n+1)=vb 4294967296 (X.take (n+1))+vb 4294967296 (Y.take (n+1))):vb 4294967296 out=vb 4294967296 X+vb 4294967296 Y:=by
 rw [cz _ (by omega),cz _ (by omega),cz _ (by omega)] at h
 have a:=vb_take_lt hX n
 have b:=vb_take_lt hY n
 rw [cz _ h1] at a
 rw [cz _ h2] at b
 rcases Nat.eq_zero_or_pos cy with h0|h0
 ·subst h0;omega
 ·exfalso
  have:=Nat.mul_le_mul_right (4294967296 ^ (n+1)) h0
  rw [Nat.pow_succ,B_pow] at this h
  omega

theorem nU (v1 v2:Value)(x y:Nat)(w:World)(h1:Num w v1 x)(h2:Num w v2 y)(f1:blen x≤1125899906840000)(f2:blen y≤1125899906840000) :
  Calls Tryz.prog 62 #[v1,v2] w fun e w'=>(∃v',e=.returned v'∧Num w' v' (x+y)∧New w.heap.size v')∧Below w.heap.size w w':=by
 obtain⟨X,A1,hX,hXt,rfl,_⟩:=h1
 obtain⟨Y,A2,hY,hYt,rfl,_⟩:=h2
 have lX:=fo hX hXt 35184372088750 (by omega)
 have lY:=fo hY hYt 35184372088750 (by omega)
 obtain⟨a1,c1,rfl,hc1,hm1,_⟩:=A1.form
 obtain⟨a2,c2,rfl,hc2,hm2,_⟩:=A2.form
 obtain⟨i0,hi,hz0,hz1,hz2⟩:=info_parts Tryz.infoU
 clear f1 f2 hXt hYt
 by_cases hl:X.length<Y.length
 ·have i1:(X.length:Int)<(Y.length:Int):=by omega
  go_enter Tryz.func62,Tryz.ntmps62
  go_wp2_with (at_make;refine wpList_make_full _ rfl _ _ 29 rfl w.heap.size 51 i0 (.int .u64 0) 1 Tryz.underlying29 hi hz0 hz1 .i64 .i64 _ _ (Y.length+1) rfl rfl (by omega) (by omega) (by rw [hz2];omega) (by unfold maxLen;omega) (Nat.le_refl _) ?_;intro w1 hown hgrow)
  have hb1:=Blk.made hown
  have hbel:Below w.heap.size w w1:=(Below.refl _ _).grown hgrow (Nat.le_refl _) (fun k hk=>by cases hk)
  clear hown hgrow hi hz0 hz1 hz2
  go_loopw [7,8] (fun c i wr=>∃(k cy:Nat) (out:List Nat),k≤Y.length+1∧i=.int .i64 k∧c=.int .u64 cy∧cy≤1∧out.length=Y.length+1∧Digs 4294967296 out∧Blk wr w.heap.size out∧Below w.heap.size w wr ∧
    vb 4294967296 (out.take k)+cy*4294967296 ^ k=vb 4294967296 (X.take k)+vb 4294967296 (Y.take k)) (fun _ i _=>Y.length+1 - (intOf i).toNat)
  case atStart=>exact⟨0,0,_,Nat.zero_le _,rfl,rfl,by omega,by simp,digs_replicate (by omega) _,hb1,hbel,by simp [vb]⟩
  case round=>
   obtain⟨k,cy,out,hk,rfl,rfl,hcy,hlen,hdo,hblk,hbl,hval⟩:=hrel
   clear hb1 hbel
   have HB:=ac hblk
   have HL:=ac hbl
   by_cases hkl:k≤Y.length
   ·have H1:=dR _ X k wr (A1.below hbl)
    have H2:=dR _ Y k wr (A2.below hbl)
    have hfr:=hblk.free k
    have hco:=hblk.cell k (by omega)
    generalize out.getD k 0=o at *
    have z1:=dig_lt (by omega) hX k
    have z2:=dig_lt (by omega) hY k
    have HV:=ac (vb_add_step X Y out k cy (by omega) hval)
    generalize X.getD k 0=x at *
    generalize Y.getD k 0=y at *
    have e0:(x:Int)+(y:Int)+(cy:Int)=((x+y+cy:Nat):Int):=by omega
    have b0:x+y+cy<18446744073709551616:=by omega
    have e1:((x+y+cy:Nat):Int) % 4294967296=(((x+y+cy) % 4294967296:Nat):Int):=by omega
    have e2:((x+y+cy:Nat):Int) / 4294967296=(((x+y+cy) / 4294967296:Nat):Int):=by omega
    have b1:(x+y+cy) % 4294967296<4294967296:=by omega
    have b2:(x+y+cy) / 4294967296≤1:=by omega
    generalize (x+y+cy) % 4294967296=m at *
    generalize (x+y+cy) / 4294967296=d at *
    generalize x+y+cy=s at *
    clear hval hblk hbl A1 A2 hX hY
    go_wp2_with fail
    refine H1.mono ?_
    rintro e w2 ⟨rfl,rfl⟩
    go_wp2_with fail
    refine H2.mono ?_
    rintro e w2 ⟨rfl,rfl⟩
    clear H1 H2
    go_wp2
    go_roundw
    case rel=>exact⟨k+1,d,out.set k m,by omega,by go_num,rfl,b2,by simp;omega,digs_set hdo _ _ b1,HB.out.set k m,HL.out.setCell (Nat.le_refl _) _,HV.out⟩
    case measure=>simp [intOf];omega
   ·have ek:k=Y.length+1:=by omega
    subst ek
    have hve:=je hX hY Y.length cy (by omega) (by omega) hlen hval
    have hA:=Ans.of_blk (base:=w.heap.size) (zs:=out) (Nat.le_refl _) hblk List.take_length.symm (Nat.le_refl _) (by omega) (digs_limbs hdo)
    have H:=dA w.heap.size _ _ _ (hA.arg (by omega)) hdo (by omega) (New.at _ _ _ _ _ (Nat.le_refl _))
    rw [hlen,hve] at H
    clear hval hblk hbl A1 A2 hX hY hA hve HB
    have hd1:decide ((Y.length:Int)+1≤(Y.length:Int))=false:=decide_eq_false (by omega)
    go_wp2_with fail
    refine H.mono ?_
    rintro e w2 ⟨⟨v',rfl,hnum,hnw⟩,rfl⟩
    have HN:=ac (And.intro hnum hnw)
    clear hnum hnw H
    go_wp2
    go_ret
    exact⟨⟨v',rfl,HN.out.1,HN.out.2⟩,HL.out⟩
 ·have hd0:decide ((X.length:Int)<(Y.length:Int))=false:=decide_eq_false (by omega)
  go_enter Tryz.func62,Tryz.ntmps62
  go_wp2_with (at_make;refine wpList_make_full _ rfl _ _ 29 rfl w.heap.size 51 i0 (.int .u64 0) 1 Tryz.underlying29 hi hz0 hz1 .i64 .i64 _ _ (X.length+1) rfl rfl (by omega) (by omega) (by rw [hz2];omega) (by unfold maxLen;omega) (Nat.le_refl _) ?_;intro w1 hown hgrow)
  have hb1:=Blk.made hown
  have hbel:Below w.heap.size w w1:=(Below.refl _ _).grown hgrow (Nat.le_refl _) (fun k hk=>by cases hk)
  clear hown hgrow hi hz0 hz1 hz2
  go_loopw [7,8] (fun c i wr=>∃(k cy:Nat) (out:List Nat),k≤X.length+1∧i=.int .i64 k∧c=.int .u64 cy∧cy≤1∧out.length=X.length+1∧Digs 4294967296 out∧Blk wr w.heap.size out∧Below w.heap.size w wr ∧
    vb 4294967296 (out.take k)+cy*4294967296 ^ k=vb 4294967296 (X.take k)+vb 4294967296 (Y.take k)) (fun _ i _=>X.length+1 - (intOf i).toNat)
  case atStart=>exact⟨0,0,_,Nat.zero_le _,rfl,rfl,by omega,by simp,digs_replicate (by omega) _,hb1,hbel,by simp [vb]⟩
  case round=>
   obtain⟨k,cy,out,hk,rfl,rfl,hcy,hlen,hdo,hblk,hbl,hval⟩:=hrel
   clear hb1 hbel
   have HB:=ac hblk
   have HL:=ac hbl
   by_cases hkl:k≤X.length
   ·have H1:=dR _ X k wr (A1.below hbl)
    have H2:=dR _ Y k wr (A2.below hbl)
    have hfr:=hblk.free k
    have hco:=hblk.cell k (by omega)
    generalize out.getD k 0=o at *
    have z1:=dig_lt (by omega) hX k
    have z2:=dig_lt (by omega) hY k
    have HV:=ac (vb_add_step X Y out k cy (by omega) hval)
    generalize X.getD k 0=x at *
    generalize Y.getD k 0=y at *
    have e0:(x:Int)+(y:Int)+(cy:Int)=((x+y+cy:Nat):Int):=by omega
    have b0:x+y+cy<18446744073709551616:=by omega
    have e1:((x+y+cy:Nat):Int) % 4294967296=(((x+y+cy) % 4294967296:Nat):Int):=by omega
    have e2:((x+y+cy:Nat):Int) / 4294967296=(((x+y+cy) / 4294967296:Nat):Int):=by omega
    have b1:(x+y+cy) % 4294967296<4294967296:=by omega
    have b2:(x+y+cy) / 4294967296≤1:=by omega
    generalize (x+y+cy) % 4294967296=m at *
    generalize (x+y+cy) / 4294967296=d at *
    generalize x+y+cy=s at *
    clear hval hblk hbl A1 A2 hX hY
    go_wp2_with fail
    refine H1.mono ?_
    rintro e w2 ⟨rfl,rfl⟩
    go_wp2_with fail
    refine H2.mono ?_
    rintro e w2 ⟨rfl,rfl⟩
    clear H1 H2
    go_wp2
    go_roundw
    case rel=>exact⟨k+1,d,out.set k m,by omega,by go_num,rfl,b2,by simp;omega,digs_set hdo _ _ b1,HB.out.set k m,HL.out.setCell (Nat.le_refl _) _,HV.out⟩
    case measure=>simp [intOf];omega
   ·have ek:k=X.length+1:=by omega
    subst ek
    have hve:=je hX hY X.length cy (by omega) (by omega) hlen hval
    have hA:=Ans.of_blk (base:=w.heap.size) (zs:=out) (Nat.le_refl _) hblk List.take_length.symm (Nat.le_refl _) (by omega) (digs_limbs hdo)
    have H:=dA w.heap.size _ _ _ (hA.arg (by omega)) hdo (by omega) (New.at _ _ _ _ _ (Nat.le_refl _))
    rw [hlen,hve] at H
    clear hval hblk hbl A1 A2 hX hY hA hve HB
    have hd1:decide ((X.length:Int)+1≤(X.length:Int))=false:=decide_eq_false (by omega)
    go_wp2_with fail
    refine H.mono ?_
    rintro e w2 ⟨⟨v',rfl,hnum,hnw⟩,rfl⟩
    have HN:=ac (And.intro hnum hnw)
    clear hnum hnw H
    go_wp2
    go_ret
    exact⟨⟨v',rfl,HN.out.1,HN.out.2⟩,HL.out⟩

theorem rf {X Y out:List Nat}(ho:Digs 4294967296 out)(hl:out.length=X.length)(hyl:Y.length≤X.length)(hle:vb 4294967296 Y≤vb 4294967296 X)(bw:Nat)
  (h:vb 4294967296 (out.take X.length)+vb 4294967296 (Y.take X.length)=vb 4294967296 (X.take X.length)+bw*4294967296 ^ X.length):vb 4294967296 out=vb 4294967296 X - vb 4294967296 Y:=by
 rw [cz _ (by omega),cz _ hyl,List.take_length] at h
 have h1:=vb_take_lt ho X.length
 rw [cz _ (by omega)] at h1
 rcases Nat.eq_zero_or_pos bw with h0|h0
 ·subst h0;omega
 ·exfalso
  have:=Nat.mul_le_mul_right (4294967296 ^ X.length) h0
  rw [B_pow] at this h
  omega

theorem nO (v1 v2:Value)(x y:Nat)(w:World)(h1:Num w v1 x)(h2:Num w v2 y)(hle:y≤x)(f1:blen x≤1125899906840000) :
  Calls Tryz.prog 65 #[v1,v2] w fun e w'=>(∃v',e=.returned v'∧Num w' v' (x - y)∧New w.heap.size v')∧Below w.heap.size w w':=by
 obtain⟨X,A1,hX,hXt,rfl,_⟩:=h1
 obtain⟨Y,A2,hY,hYt,rfl,_⟩:=h2
 have lX:=fo hX hXt 35184372088750 (by omega)
 have hyl:Y.length≤X.length:=by
  refine Nat.le_of_not_lt fun h=>?_
  have:=vb_shorter hX hYt h
  omega
 obtain⟨a1,c1,rfl,hc1,hm1,L1⟩:=A1.form
 obtain⟨i0,hi,hz0,hz1,hz2⟩:=info_parts Tryz.infoU
 have HLE:=ac hle
 clear f1 hXt hYt hle
 go_enter Tryz.func65,Tryz.ntmps65
 go_wp2_with (at_make;refine wpList_make_full _ rfl _ _ 29 rfl w.heap.size 51 i0 (.int .u64 0) 1 Tryz.underlying29 hi hz0 hz1 .i64 .i64 _ _ X.length rfl rfl (by omega) (by omega) (by rw [hz2];omega) (by unfold maxLen;omega) (Nat.le_refl _) ?_;intro w1 hown hgrow)
 have hb1:=Blk.made hown
 have hbel:Below w.heap.size w w1:=(Below.refl _ _).grown hgrow (Nat.le_refl _) (fun k hk=>by cases hk)
 clear hown hgrow hi hz0 hz1 hz2
 go_loopw [6,14] (fun c i wr=>∃(k cy:Nat) (out:List Nat),k≤X.length∧i=.int .i64 k∧c=.int .u64 cy∧cy≤1∧out.length=X.length∧Digs 4294967296 out∧Blk wr w.heap.size out∧Below w.heap.size w wr ∧
   vb 4294967296 (out.take k)+vb 4294967296 (Y.take k)=vb 4294967296 (X.take k)+cy*4294967296 ^ k) (fun _ i _=>X.length - (intOf i).toNat)
 case atStart=>exact⟨0,0,_,Nat.zero_le _,rfl,rfl,by omega,by simp,digs_replicate (by omega) _,hb1,hbel,by simp [vb]⟩
 case round=>
  obtain⟨k,cy,out,hk,rfl,rfl,hcy,hlen,hdo,hblk,hbl,hval⟩:=hrel
  clear hb1 hbel
  have HB:=ac hblk
  have HL:=ac hbl
  by_cases hkl:k<X.length
  ·rcases L1.below hbl with h0|⟨b,off,rfl,hcell⟩
   ·simp [h0] at hkl
   ·have H2:=dR _ Y k wr.drew (A2.below hbl.drew)
    have hck:=hcell k hkl
    have hbw:=au.block (L1:au w (some ⟨b,off,none⟩) X) (by omega)
    have hne1:¬b=w.heap.size:=by omega
    have hne2:¬w.heap.size=b:=by omega
    have hfr:=hblk.free k
    have hco:=hblk.cell k (by omega)
    generalize out.getD k 0=o at *
    have z1:=dig_lt (by omega) hX k
    have z2:=dig_lt (by omega) hY k
    have HV:=ac (vb_sub_step X Y out k cy (by omega) z1 z2 hcy hval)
    generalize X.getD k 0=x at *
    generalize Y.getD k 0=y at *
    have w1:IntKind.u64.wrap ((x:Int)+4294967296)=((x+4294967296:Nat):Int):=by rw [IntKind.wrap_u64];omega
    have w2:IntKind.u64.wrap (((x+4294967296:Nat):Int) - (y:Int))=((x+4294967296 - y:Nat):Int):=by rw [IntKind.wrap_u64];omega
    have w3:IntKind.u64.wrap (((x+4294967296 - y:Nat):Int) - (cy:Int))=((x+4294967296 - y - cy:Nat):Int):=by rw [IntKind.wrap_u64];omega
    have e0:(x:Int)+4294967296=((x+4294967296:Nat):Int):=by omega
    have e1:((x+4294967296:Nat):Int) - (y:Int)=((x+4294967296 - y:Nat):Int):=by omega
    have e2:((x+4294967296 - y:Nat):Int) - (cy:Int)=((x+4294967296 - y - cy:Nat):Int):=by omega
    have b0:x+4294967296<18446744073709551616:=by omega
    have b1:x+4294967296 - y<18446744073709551616:=by omega
    have b2:x+4294967296 - y - cy<18446744073709551616:=by omega
    have e3:((x+4294967296 - y - cy:Nat):Int) % 4294967296=(((x+4294967296 - y - cy) % 4294967296:Nat):Int):=by omega
    have e4:((x+4294967296 - y - cy:Nat):Int) / 4294967296=(((x+4294967296 - y - cy) / 4294967296:Nat):Int):=by omega
    have b3:(x+4294967296 - y - cy) % 4294967296<4294967296:=by omega
    have b4:(x+4294967296 - y - cy) / 4294967296≤1:=by omega
    generalize (x+4294967296 - y - cy) % 4294967296=m at *
    generalize (x+4294967296 - y - cy) / 4294967296=d at *
    generalize x+4294967296 - y - cy=t3 at *
    generalize x+4294967296 - y=t2 at *
    generalize x+4294967296=t1 at *
    have e5:(1:Int) - (d:Int)=((1 - d:Nat):Int):=by omega
    have w4:IntKind.u64.wrap (t1:Int)=(t1:Int):=by rw [IntKind.wrap_u64];omega
    have w5:IntKind.u64.wrap (t2:Int)=(t2:Int):=by rw [IntKind.wrap_u64];omega
    have w6:IntKind.u64.wrap (t3:Int)=(t3:Int):=by rw [IntKind.wrap_u64];omega
    have hi1:(0:Int)≤(k:Int):=by omega
    have hi2:(k:Int)<(X.length:Int):=by omega
    clear hval hblk hbl A1 A2 hX hY hcell L1
    go_wp2
    go_region_held3 (fun w'=>w'.cell? ⟨b,off+k,none⟩=some (.int .u64 x)) (go_keep) (first | (go_at_call 78;refine H2.mono ?_;rintro e w2 ⟨rfl,rfl⟩))
    go_wp2
    go_roundw
    case rel=>exact⟨k+1,1 - d,out.set k m,by omega,by go_num,by go_num,by omega,by simp;omega,digs_set hdo _ _ b3,HB.out.set k m,(HL.out.setCell (Nat.le_refl _) _).drew,HV.out⟩
    case measure=>simp [intOf];omega
  ·have ek:k=X.length:=by omega
   subst ek
   have hve:=rf hdo hlen hyl HLE.out cy hval
   have hA:=Ans.of_blk (base:=w.heap.size) (zs:=out) (Nat.le_refl _) hblk List.take_length.symm (Nat.le_refl _) (by omega) (digs_limbs hdo)
   have H:=dA w.heap.size _ _ _ (hA.arg (by omega)) hdo (by omega) (New.at _ _ _ _ _ (Nat.le_refl _))
   rw [hlen,hve] at H
   clear hval hblk hbl A1 A2 hX hY hA hve HB L1
   go_wp2_with fail
   refine H.mono ?_
   rintro e w2 ⟨⟨v',rfl,hnum,hnw⟩,rfl⟩
   have HN:=ac (And.intro hnum hnw)
   clear hnum hnw H
   go_wp2
   go_ret
   exact⟨⟨v',rfl,HN.out.1,HN.out.2⟩,HL.out⟩

theorem Num.zero_iff {w:World}{v:Value}{x:Nat}(h:Num w v x):∃ao n cap,v=.slice ao n cap∧((n:Int) == 0)=(x == 0):=by
 obtain⟨ds,A,hd,ht,rfl,_⟩:=h
 obtain⟨ao,cap,hv,_⟩:=A.form
 refine⟨ao,ds.length,cap,hv,?_⟩
 by_cases h0:ds=[]
 ·subst h0;rfl
 ·have h1:0<ds.length:=List.length_pos_iff.2 h0
  have h2:vb 4294967296 ds≠0:=fun e=>h0 (vb_tail_zero (by omega) ht e)
  have e1:((ds.length:Int) == 0)=false:=by rw [beq_eq_false_iff_ne];omega
  have e2:(vb 4294967296 ds == 0)=false:=by rw [beq_eq_false_iff_ne];exact h2
  rw [e1,e2]

theorem bW (v:Value)(x:Nat)(w:World)(h:Num w v x):Calls Tryz.prog 18 #[v] w fun e w'=>e=.returned (.bool (x == 0))∧w'=w:=by
 obtain⟨ao,n,cap,rfl,he⟩:=h.zero_iff
 clear h
 go_enter Tryz.func18,Tryz.ntmps18
 go_wp2
 go_ret
 exact⟨rfl,rfl⟩

theorem pv (n k:Nat):(List.replicate n 0).getD k 0=0:=by
 by_cases h:k<n
 ·simp [List.getD,h]
 ·simp [List.getD,h]

theorem nQ (B n:Nat):vb B (List.replicate n 0)=0:=by
 induction n with
 | zero=>rfl
 | succ n ih=>rw [List.replicate_succ,vb,ih];simp

theorem qI (out:List Nat)(k d t:Nat)(h:k+1<out.length):((out.set k t).set (k+1) d).getD (k+1) 0=d:=by
 simp [List.getD,h]

theorem oa (x s:Nat)(h:x*2 ^ s<18446744073709551616):IntKind.u64.wrap ((x:Int)*2 ^ s)=((x*2 ^ s:Nat):Int):=by
 rw [IntKind.wrap_u64]
 have e:(x:Int)*2 ^ s=((x*2 ^ s:Nat):Int):=by push_cast;rfl
 rw [e];omega

theorem pc (out:List Nat)(i j a b:Nat):((out.set i a).set j b).length=out.length:=by simp

theorem jc (v:Value)(x n:Nat)(w:World)(h:Num w v x)(hf:blen x+n≤1125899906840000) :
  Calls Tryz.prog 63 #[v,.int .i64 n] w fun e w'=>(∃v',e=.returned v'∧Num w' v' (x*2 ^ n))∧Below w.heap.size w w':=by
 obtain⟨X,A,hX,hXt,rfl,_⟩:=h
 obtain⟨a1,c1,rfl,hc1,hm1,L1⟩:=A.form
 by_cases h0:X.length=0
 ·have hx:X=[]:=List.length_eq_zero_iff.1 h0
  subst hx
  clear A L1 hX hXt hf
  go_enter Tryz.func63,Tryz.ntmps63
  go_wp2
  go_ret
  refine⟨⟨_,rfl,?_⟩,Below.refl _ _⟩
  rw [vb,Nat.zero_mul]
  exact Num.nil w
 ·obtain⟨i0,hi,hz0,hz1,hz2⟩:=info_parts Tryz.infoU
  obtain⟨q,s,hs,hnq⟩:∃q s,s<32∧n=q*32+s:=⟨n / 32,n % 32,by omega,by omega⟩
  have lX:X.length+q≤35184372088752:=by
   obtain⟨m,hm⟩:∃m,X.length=m+1:=⟨X.length - 1,by omega⟩
   have h1:=blen_vb hX hXt m hm
   omega
  have eq1:(n:Int) / 32=(q:Int):=by omega
  have eq2:(n:Int) % 32=(s:Int):=by omega
  have HN:Hid (n=q*32+s):=hnq
  rcases L1 with h' | ⟨b,off,rfl,hcell⟩
  ·exact absurd (by rw [h'];rfl) h0
  ·have hbw:b<w.heap.size:=au.block (zs:=X) (.inr ⟨b,off,rfl,hcell⟩) (by omega)
   have hln:((X.length:Int) == 0)=false:=by rw [beq_eq_false_iff_ne];omega
   clear hnq hf A
   go_enter Tryz.func63,Tryz.ntmps63
   go_wp2_with (at_make;refine wpList_make_full _ rfl _ _ 29 rfl w.heap.size 51 i0 (.int .u64 0) 1 Tryz.underlying29 hi hz0 hz1 .i64 .i64 _ _ (X.length+q+1) rfl rfl (by omega) (by omega) (by rw [hz2];omega) (by unfold maxLen;omega) (Nat.le_refl _) ?_;intro w1 hown hgrow)
   have hb1:=Blk.made hown
   have hbel:Below w.heap.size w w1:=(Below.refl _ _).grown hgrow (Nat.le_refl _) (fun k hk=>by cases hk)
   clear hown hgrow hi hz0 hz1 hz2
   go_loopw [23] (fun i wr=>∃(k:Nat) (out:List Nat),k≤X.length∧i=.int .i64 k∧out.length=X.length+q+1∧Digs 4294967296 out∧out.getD (q+k) 0<2 ^ s∧Blk wr w.heap.size out∧Below w.heap.size w wr ∧
     vb 4294967296 (out.take (q+k+1))=vb 4294967296 (X.take k)*2 ^ n) (fun i _=>X.length - (intOf i).toNat)
   case atStart=>exact⟨0,_,Nat.zero_le _,rfl,by simp,digs_replicate (by omega) _,by rw [pv];exact Nat.two_pow_pos _,hb1,hbel,by rw [List.take_replicate,nQ];simp [vb]⟩
   case round=>
    obtain⟨k,out,hk,rfl,hlen,hdo,hlow,hblk,hbl,hval⟩:=hrel
    clear hb1 hbel
    have HB:=ac hblk
    have HL:=ac hbl
    by_cases hkl:k<X.length
    ·have hck:wr.cell? ⟨b,off+k,none⟩=some (.int .u64 ((X.getD k 0:Nat):Int)):=by rw [hbl.cell (p:=⟨b,off+k,none⟩) hbw];exact hcell k hkl
     have hne1:¬b=w.heap.size:=by omega
     have hne2:¬w.heap.size=b:=by omega
     have hfr:=hblk.free (k+q)
     have hco:=hblk.cell (k+q) (by omega)
     have hfr1:=hblk.free (k+q+1)
     have hco1:=hblk.cell (k+q+1) (by omega)
     have HV:=ac (mQ X out q s k n HN.out (by omega) hval)
     have z1:=dig_lt (by omega) hX k
     have b1:=nP (X.getD k 0) s (out.getD (q+k) 0) (by omega) hlow
     have b2:=kZ (X.getD k 0) s z1
     have b3:=oj (X.getD k 0) s z1 hs
     have hdd:=ac (digs_set (digs_set hdo (q+k) _ b1) (q+k+1) (X.getD k 0*2 ^ s / 4294967296) (by omega))
     have hge:=ac (show ((out.set (q+k) (out.getD (q+k) 0+X.getD k 0*2 ^ s % 4294967296)).set (q+k+1) (X.getD k 0*2 ^ s / 4294967296)).getD (q+(k+1)) 0<2 ^ s by rw [show q+(k+1)=q+k+1 by omega,qI _ _ _ _ (by omega)];exact b2)
     generalize X.getD k 0=x at *
     rw [Nat.add_comm q k] at *
     generalize out.getD (k+q) 0=o at *
     generalize out.getD (k+q+1) 0=o1 at *
     have w0:IntKind.u64.wrap ((x:Int)*2 ^ s)=((x*2 ^ s:Nat):Int):=oa x s b3
     generalize x*2 ^ s=T at *
     have e1:(T:Int) % 4294967296=((T % 4294967296:Nat):Int):=by omega
     have e2:(T:Int) / 4294967296=((T / 4294967296:Nat):Int):=by omega
     have b4:T / 4294967296<4294967296:=by omega
     generalize T % 4294967296=m at *
     generalize T / 4294967296=d at *
     have e3:(o:Int)+(m:Int)=((o+m:Nat):Int):=by omega
     generalize o+m=t at *
     have e4:IntKind.u64.wrap (t:Int)=(t:Int):=by rw [IntKind.wrap_u64];omega
     clear hval hblk hbl hcell
     go_wp2
     go_region
     go_wp2
     go_roundw
     case rel=>exact⟨k+1,(out.set (k+q) t).set (k+q+1) d,by omega,by go_num,by rw [pc];exact hlen,hdd.out,hge.out,(HB.out.set (k+q) t).set (k+q+1) d,((HL.out.setCell (Nat.le_refl _) _).setCell (Nat.le_refl _) _).drew,by rw [show q+(k+1)+1=k+q+1+1 by omega];exact HV.out⟩
     case measure=>simp [intOf];omega
    ·have ek:k=X.length:=by omega
     subst ek
     have hve:vb 4294967296 out=vb 4294967296 X*2 ^ n:=by
      rw [List.take_of_length_le (by omega),List.take_length] at hval;exact hval
     have hA:=Ans.of_blk (base:=w.heap.size) (zs:=out) (Nat.le_refl _) hblk List.take_length.symm (Nat.le_refl _) (by omega) (digs_limbs hdo)
     have H:=fI _ _ _ (hA.arg (by omega)) hdo (by omega)
     rw [hlen,hve] at H
     clear hval hblk hbl hX hA hve HB hcell
     go_wp2_with fail
     refine H.mono ?_
     rintro e w2 ⟨⟨v',rfl,hnum⟩,rfl⟩
     have HN:=ac hnum
     clear hnum H
     go_wp2
     go_ret
     exact⟨⟨v',rfl,HN.out⟩,HL.out⟩
end Go.Proofs.YtplegacjglaenaaGreatDoor
namespace Go.Proofs.YtplegacjglaenaaGreatDoor
open Lm
end Go.Proofs.YtplegacjglaenaaGreatDoor
namespace Go.Proofs.YtplegacjglaenaaGreatDoor
open Go.RowKit
open Lm
attribute [local go_sem ↓] Go.wp_at_zero Go.wp_at_succ
end Go.Proofs.YtplegacjglaenaaGreatDoor
namespace Go.Proofs.YtplegacjglaenaaGreatDoor
open Lm

theorem ic (B:Nat)(X:List Nat)(j:Nat)(h:j<X.length):vb B (X.drop j)=X.getD j 0+B*vb B (X.drop (j+1)):=by
 rw [List.drop_eq_getElem_cons h,vb]
 simp [List.getD,h]

theorem qe (B:Nat)(out:List Nat)(j q:Nat)(h:j<out.length):vb B ((out.set j q).drop j)=q+B*vb B (out.drop (j+1)):=by
 rw [ic B _ j (by simpa using h)]
 congr 1
 ·simp [List.getD,h]
 ·congr 2
  rw [List.drop_set_of_lt (by omega)]

theorem kP (X out:List Nat)(j y R q R2:Nat)(hX:j<X.length)(ho:j<out.length)
  (h:vb 4294967296 (X.drop (j+1))=vb 4294967296 (out.drop (j+1))*y+R) (hq:R*2 ^ 32+X.getD j 0=q*y+R2) :
  vb 4294967296 (X.drop j)=vb 4294967296 ((out.set j q).drop j)*y+R2:=by
 rw [ic _ X j hX,qe _ _ _ _ ho,h]
 have e:(2:Nat) ^ 32=4294967296:=by decide
 rw [e] at hq
 generalize vb 4294967296 (out.drop (j+1))=V at *
 generalize X.getD j 0=x at *
 grind

theorem lH (y R t:Nat)(h:R<y*2 ^ (t+1))(hge:y*2 ^ t≤R):R - y*2 ^ t<y*2 ^ t:=by
 rw [Nat.pow_succ,←Nat.mul_assoc] at h
 omega

theorem mr (y R R2 q t:Nat)(h:R=q*y+R2)(hge:y*2 ^ t≤R2):R=(q+2 ^ t)*y+(R2 - y*2 ^ t):=by
 rw [Nat.add_mul,Nat.mul_comm (2 ^ t) y]
 omega

theorem rj (y R x:Nat)(hR:R<y)(hx:x<4294967296):R*2 ^ 32+x<y*2 ^ 32:=by
 have h1:(R+1)*2 ^ 32≤y*2 ^ 32:=Nat.mul_le_mul_right _ hR
 have e:(2:Nat) ^ 32=4294967296:=by decide
 rw [Nat.add_mul,Nat.one_mul] at h1
 omega

theorem qj (x y V R:Nat)(h:x=V*y+R)(hR:R<y):V=x / y∧R=x % y:=by
 subst h
 rw [Nat.mul_comm]
 refine⟨?_,?_⟩
 ·rw [Nat.mul_add_div (by omega),Nat.div_eq_of_lt hR,Nat.add_zero]
 ·rw [Nat.mul_add_mod,Nat.mod_eq_of_lt hR]

theorem kb {a b:Nat}(h:a<b):blen a≤blen b:=fz (Nat.le_of_lt h)

theorem jV (y n:Nat):blen (y*2 ^ n)≤blen y+n:=by
 rw [blen_le_iff,Nat.pow_add]
 exact Nat.mul_lt_mul_of_pos_right ((blen_le_iff _ _).1 (Nat.le_refl _)) (Nat.two_pow_pos _)
end Go.Proofs.YtplegacjglaenaaGreatDoor

