/- Package numeral: through, in one piece. -/
import Derived.Test.YtghhnehbpkmhdaaGreatDoorB02
import Derived.Test.YtghhnehbpkmhdaaGreatDoorB08
import Derived.BigQuiet
import Derived.Deep.RegionHeld3
import Derived.Test.YtghhnehbpkmhdaaGreatDoorB03
import Derived.Test.YtghhnehbpkmhdaaGreatDoorB01
import Derived.Test.YtghhnehbpkmhdaaGreatDoorB07
import Derived.Laws.Bits128
import Derived.Handy
set_option maxRecDepth 20000
set_option maxHeartbeats 4000000
namespace Go.Proofs.YtghhnehbpkmhdaaGreatDoor
open Go.RowKit
open Lm
attribute [local go_sem ↓] Go.wp_at_zero Go.wp_at_succ

def de (x y n:Nat)(w:World)(e:Ending)(w':World):Prop:=
 (∃vr Q R,e=.returned (.tuple #[.slice (some ⟨w.heap.size,0,none⟩) n n,vr])∧Arg w' (.slice (some ⟨w.heap.size,0,none⟩) n n) Q∧Arg w' vr R∧val Q=x / y∧val R=x % y∧Q.length=n∧tr R=R)∧Below w.heap.size w w'

theorem dd {X:List Nat}(h:Limbs X)(hl:X.length≤1048576):blen (val X)≤67108864:=by
 have h1:blen (val X)≤64*X.length:=(blen_le_iff _ _).2 (by rw [Nat.pow_mul];exact val_lt h)
 omega

theorem eF (ao:Option Addr)(cap:Nat)(vb:Value)(y:Nat)(w:World) :
  Calls Tryz.prog 87 #[.slice ao 0 cap,vb] w (de 0 y 0 w):=by
 obtain⟨i0,hi,hz0,hz1,hz2⟩:=info_parts Tryz.infoU
 go_enter Tryz.func87,Tryz.ntmps87
 go_wp2_with (at_make;refine wpList_make_full _ rfl _ _ 23 rfl w.heap.size 43 i0 (.int .u64 0) 1 Tryz.underlying23 hi hz0 hz1 .i64 .i64 _ _ 0 rfl rfl (by omega) (by omega) (by rw [hz2];omega) (by unfold maxLen;omega) (Nat.le_refl _) ?_;intro w1 hown hgrow)
 have hb1:=Blk.made hown
 have hbel:Below w.heap.size w w1:=(Below.refl _ _).grown hgrow (Nat.le_refl _) (fun k hk=>by cases hk)
 have HQ:Hid (Arg w1 (.slice (some ⟨w.heap.size,0,none⟩) 0 0) []):=by
  have h:=Ans.of_blk (base:=w.heap.size) (zs:=[]) (Nat.le_refl _) hb1 rfl (Nat.zero_le _) (by simp) (by intro z hz;cases hz)
  exact h.arg (by simp)
 have HN:Hid (Arg w1 (.slice none 0 0) []):=(Ans.nil w1 w.heap.size).arg (by simp)
 have HB:=aa hbel
 clear hown hgrow hb1 hbel hi hz0 hz1 hz2
 refine wp_loop_rounds 1 ?_
 rw [rounds_succ]
 go_wp2
 go_ret2
 exact⟨⟨_,[],[],rfl,HQ.out,HN.out,by simp [val],by simp [val],rfl,rfl⟩,HB.out⟩

theorem lO (b off cap:Nat)(vb:Value)(X Y:List Nat)(w:World)(hA:Arg w (.slice (some ⟨b,off,none⟩) X.length cap) X)(hB:Arg w vb Y)(hT:Tab w)(hX:0<X.length)(hl:X.length≤1048576)(hY0:val Y≠0)(hYl:Y.length≤17592186044416)(hYb:blen (val Y)≤67108864) :
  Calls Tryz.prog 87 #[.slice (some ⟨b,off,none⟩) X.length cap,vb] w (de (val X) (val Y) X.length w):=by
 obtain⟨i0,hi,hz0,hz1,hz2⟩:=info_parts Tryz.infoU
 have hcl:X.length≤cap:=by obtain⟨_,_,e,hle,_,_⟩:=hA.form;cases e;exact hle
 have hc0:¬cap=0:=by omega
 have hmx:max ((X.length:Int) - 1048576) 0=0:=by omega
 have i1:(0:Int)<(X.length:Int):=by omega
 have hq1:blen (val X / val Y)≤67108864:=Nat.le_trans (bE (Nat.div_le_self _ _)) (dd hA.limbs hl)
 have hq2:blen (val X % val Y)≤67108864:=Nat.le_trans (bE (Nat.le_of_lt (Nat.mod_lt _ (by omega)))) hYb
 have hq3:val X / val Y<18446744073709551616 ^ X.length:=Nat.lt_of_le_of_lt (Nat.div_le_self _ _) (val_lt hA.limbs)
 have HA:=aa hA
 have HBB:=aa hB
 have HT:=aa hT
 have HQ:=aa (And.intro hq1 (And.intro hq2 hq3))
 have HY0:=aa hY0
 have HYL:=aa hYl
 clear hA hB hT hq1 hq2 hq3 hY0 hYb hYl
 go_enter Tryz.func87,Tryz.ntmps87
 go_wp2_with (at_make;refine wpList_make_full _ rfl _ _ 23 rfl w.heap.size 43 i0 (.int .u64 0) 1 Tryz.underlying23 hi hz0 hz1 .i64 .i64 _ _ X.length rfl rfl (by omega) (by omega) (by rw [hz2];omega) (by unfold maxLen;omega) (Nat.le_refl _) ?_;intro w1 hown hgrow)
 have hb1:=Blk.made hown
 have hbel:Below w.heap.size w w1:=(Below.refl _ _).grown hgrow (Nat.le_refl _) (fun k hk=>by cases hk)
 have hlt1:w.heap.size<w1.heap.size:=hb1.lt
 have HB1:=aa hb1
 have HL1:=aa hbel
 clear hown hgrow hb1 hbel hi hz0 hz1 hz2
 refine wp_loop_rounds 2 ?_
 rw [rounds_succ]
 obtain⟨w3,hw3⟩:∃W,w1.alloc (.cells #[.slice (some ⟨b,off,none⟩) X.length cap,.slice none 0 0] 23)=W:=⟨_,rfl⟩
 have hb3:Below w1.heap.size w1 w3:=by rw [←hw3];exact ag _ _
 have hx3:w3.heap[w1.heap.size]?=some (.cells #[.slice (some ⟨b,off,none⟩) X.length cap,.slice none 0 0] 23):=by rw [←hw3];exact heap_alloc_new ..
 have C1:=gH w1.heap.size ⟨b,off,none⟩ cap X w3 hx3 ((HA.out.below HL1.out).below hb3) hX (by omega)
 have HL3:=aa (HL1.out.trans (hb3.mono HL1.out.size))
 have HB3:=aa (HB1.out.below' hb3)
 clear hb3 hx3 HB1 HL1
 go_wp2_with fail
 refine C1.mono ?_
 rintro e w4 ⟨⟨v4,rfl,A4⟩,hb4⟩
 have HL4:=aa (HL3.out.trans (hb4.mono HL3.out.size))
 have HB4:=aa (HB3.out.below' hb4)
 have C2:=fi v4 vb X Y w4 (A4.arg (by omega)) (HBB.out.below HL4.out) (HT.out.below HL4.out) (by omega) HYL.out HY0.out
 clear C1 HL3 HB3 A4 hb4 hw3
 go_wp2_with fail
 refine C2.mono ?_
 rintro e w5 ⟨⟨v1,v2,c,r1,r2,mid,rfl,D1,hmid,hlt,D2,hcase⟩,hb5⟩
 rcases hcase with ⟨rfl,hv1,hn1,hv2,hn2,_,_⟩|⟨rfl,_,_,hbad⟩
 ·have hr1:r1.length≤X.length:=by
   have h:=au r1 X.length (by rw [hv1];exact HQ.out.2.2)
   rw [hn1] at h
   exact h
  obtain⟨a5,c5,rfl,_,_,hL5⟩:=(D1.arg (by omega)).form
  have hb5':=HB4.out.below' hb5
  obtain⟨w6,M6,hcp,B6,L6,F6,O6,S6⟩:=aJ w.heap.size 0 X.length X.length (List.replicate X.length 0) a5 c5 r1 w5 hb5' (limbs_replicate _) D1.limbs (aS _ _ _) (by simp) hr1 hL5
  have hl6:M6.length=X.length:=by rw [O6.len,List.length_replicate]
  have hv6:val M6=val X / val Y:=by rw [←hv1,←S6,aD hl6]
  have hbel5:Below w.heap.size w w5:=HL4.out.trans (hb5.mono HL4.out.size)
  have hbel6:Below w.heap.size w w6:=hbel5.trans (F6.below (Nat.le_refl _) hbel5.size)
  have hr2:r2.length≤1048576:=bf hn2 (by rw [hv2];exact HQ.out.2.1)
  have hA6:Arg w6 (.slice (some ⟨w.heap.size,0,none⟩) X.length X.length) M6:=by
   have h:=Ans.of_blk (base:=w.heap.size) (zs:=M6) (Nat.le_refl _) B6 List.take_length.symm (Nat.le_refl _) (by omega) L6
   rw [hl6] at h
   exact h.arg (by omega)
  have hD6:Arg w6 v2 r2:=by
   have h1:Ans w6 mid v2 r2:=by
    refine⟨?_,D2.limbs⟩
    obtain⟨q1,q2⟩:=D2.own
    refine⟨q1,?_⟩
    rcases q2 with q2|⟨g',cap',cur,hv,hg',hh,r⟩
    ·exact .inl q2
    ·have:w4.heap.size≤mid:=hmid.1
     have hs4:=HL4.out.size
     have hs5:w.heap.size<w4.heap.size:=HB4.out.lt
     exact .inr ⟨g',cap',cur,hv,hg',by rw [F6.block g' (lt_of_block hh) (by omega)];exact hh,r⟩
   exact h1.arg (by omega)
  have HF:=aa (And.intro hA6 (And.intro hD6 (And.intro hv6 (And.intro hv2 (And.intro hl6 (And.intro hn2 hbel6))))))
  clear C2 D1 D2 hmid hlt hb5 hb5' hv1 hn1 hv2 hn2 B6 L6 F6 O6 S6 hl6 hv6 hbel5 hbel6 hA6 hD6 hL5 HL4 HB4
  go_wp2
  rw [rounds_succ]
  go_wp2
  go_ret2
  exact⟨⟨_,M6,r2,rfl,HF.out.1,HF.out.2.1,HF.out.2.2.1,HF.out.2.2.2.1,HF.out.2.2.2.2.1,HF.out.2.2.2.2.2.1⟩,HF.out.2.2.2.2.2.2⟩
 ·exact absurd hbad (by have:=HQ.out;omega)

theorem ei (va vb:Value)(X Y:List Nat)(w:World)(hA:Arg w va X)(hB:Arg w vb Y)(hT:Tab w)(hl:X.length≤1048576)(hY0:val Y≠0)(hYl:Y.length≤17592186044416)(hYb:blen (val Y)≤67108864) :
  Calls Tryz.prog 87 #[va,vb] w (de (val X) (val Y) X.length w):=by
 obtain⟨ao,cap,rfl,hcap,hmax,hL⟩:=hA.form
 rcases hL with rfl|⟨b,off,rfl,_⟩
 ·exact eF ao cap vb (val Y) w
 ·by_cases h0:X.length=0
  ·obtain rfl:=List.length_eq_zero_iff.1 h0
   exact eF _ cap vb (val Y) w
  ·exact lO b off cap vb X Y w hA hB hT (by omega) hl hY0 hYl hYb

def me (x P n k:Nat)(w:World)(e:Ending)(w':World):Prop:=
 (∃g1 n1 c1 g2 n2 c2 H Lw,(w.heap.size≤g1∧w.heap.size≤g2)∧e=.returned (.tuple #[.slice (some ⟨g1,0,none⟩) n1 c1,.slice (some ⟨g2,0,none⟩) n2 c2])∧Arg w' (.slice (some ⟨g1,0,none⟩) n1 c1) H∧Arg w' (.slice (some ⟨g2,0,none⟩) n2 c2) Lw∧val H=x / P∧val Lw=x % P∧H.length≤n∧Lw.length≤k)∧Below w.heap.size w w'

theorem bt5 {a b c:World}(h:Below a.heap.size a b)(k:Below b.heap.size b c):Below a.heap.size a c:=h.trans (k.mono h.size)

theorem jC (x B o:Nat):x % (B*o)=x % B+B*(x / B % o):=Nat.mod_mul

theorem ie (x B o:Nat):x / (B*o)=x / B / o:=(Nat.div_div_eq_div_mul x B o).symm

theorem kZ {s o y k:Nat}{R:List Nat}(hR:tr R=R)(hv:val R=y % o)(h0:0<o)(hP:18446744073709551616 ^ s*o<18446744073709551616 ^ k):s+R.length≤k:=by
 rcases cZ hR with rfl|h
 ·have h1:18446744073709551616 ^ s≤18446744073709551616 ^ s*o:=Nat.le_mul_of_pos_right _ h0
  have h2:=Nat.lt_of_le_of_lt h1 hP
  have:=(Nat.pow_lt_pow_iff_right (by omega)).1 h2
  simp;omega
 ·rcases Nat.eq_zero_or_pos R.length with hz|hz
  ·have h1:18446744073709551616 ^ s≤18446744073709551616 ^ s*o:=Nat.le_mul_of_pos_right _ h0
   have h2:=Nat.lt_of_le_of_lt h1 hP
   have:=(Nat.pow_lt_pow_iff_right (by omega)).1 h2
   omega
  ·have h1:val R<o:=by rw [hv];exact Nat.mod_lt _ h0
   have h2:18446744073709551616 ^ s*18446744073709551616 ^ (R.length - 1)<18446744073709551616 ^ k:=Nat.lt_of_le_of_lt (Nat.mul_le_mul_left _ (Nat.le_of_lt (Nat.lt_of_le_of_lt h h1))) hP
   rw [←Nat.pow_add] at h2
   have:=(Nat.pow_lt_pow_iff_right (by omega)).1 h2
   omega

theorem kQ (d s:Nat)(ao:Option Addr)(co:Nat)(b off cap:Nat)(O X:List Nat)(w:World)(hO:Arg w (.slice ao O.length co) O)(hA:Arg w (.slice (some ⟨b,off,none⟩) X.length cap) X)(hT:Tab w)(hl:X.length≤1048576)(hO0:val O≠0)(hOl:O.length≤17592186044416)(hOb:blen (val O)≤67108864)(hs:s≤1048576)(hP:18446744073709551616 ^ s*val O<18446744073709551616 ^ 1048576) :
  Calls Tryz.prog 58 #[.agg #[.int .i64 d,.slice ao O.length co,.int .i64 s],.slice (some ⟨b,off,none⟩) X.length cap] w (me (val X) (18446744073709551616 ^ s*val O) X.length 1048576 w):=by
 obtain⟨i0,hi,hz0,hz1,hz2⟩:=info_parts Tryz.infoU
 obtain⟨w0,hw0⟩:∃w0,w.alloc (.cells #[.int .i64 d,.slice ao O.length co,.int .i64 s] 82)=w0:=⟨_,rfl⟩
 have hb0:Below w.heap.size w w0:=by rw [←hw0];exact ag _ _
 have h0:w0.heap[w.heap.size]?=some (.cells #[.int .i64 d,.slice ao O.length co,.int .i64 s] 82):=by rw [←hw0];exact heap_alloc_new ..
 obtain⟨k0,k1,k2⟩:=tri h0
 obtain⟨nn,hnn,hn2⟩:∃nn:Nat,min (s:Int) (X.length:Int)=(nn:Int)∧nn=min s X.length:=⟨min s X.length,by omega,rfl⟩
 obtain⟨lp1,lp2,lp3⟩:=fu hA.limbs s nn hn2
 have hcl:X.length≤cap:=by obtain⟨_,_,e,hle,_,_⟩:=hA.form;cases e;exact hle
 have hcm:cap≤9223372036854775807:=by obtain⟨_,_,e,_,hm,_⟩:=hA.form;cases e;exact hm
 have hnl:nn≤X.length:=by omega
 have hncl:nn≤cap:=by omega
 obtain⟨o2,hif,ho2⟩:∃o2,(if cap=nn then some (⟨b,off,none⟩:Addr) else some ⟨b,off+nn,none⟩)=some ⟨b,o2,none⟩∧(o2=off+nn∨X.length=nn):=by
  by_cases h:cap=nn
  ·exact⟨off,by rw [if_pos h],.inr (by omega)⟩
  ·exact⟨off+nn,by rw [if_neg h],.inl rfl⟩
 have hAL:=cG (hA.below hb0) ho2 (by omega) (show X.length - nn≤cap - nn by omega) (by omega)
 have hdl:(X.drop nn).length=X.length - nn:=List.length_drop
 have C:=ei _ _ (X.drop nn) O w0.drew (hAL.below (Below.refl _ _).drew) ((hO.below hb0).below (Below.refl _ _).drew) ((hT.below hb0).below (Below.refl _ _).drew) (by rw [hdl];omega) hO0 hOl hOb
 rw [hdl] at C
 have KS:=aa (fun (W:World) (hg:Below w0.heap.size w0 W)=>show W.cell? ⟨w.heap.size,1,none⟩=some (.slice ao O.length co) from (tri ((hg.block w.heap.size (lt_of_block h0)).trans h0)).2.1)
 have g0:Below w0.heap.size w0 w0.drew:=(Below.refl _ _).drew
 have HB0:=aa hb0
 have H0:=aa h0
 have HXa:=aa hA
 have HLP:=aa (And.intro lp1 (And.intro lp2 lp3))
 have HPP:=aa hP
 have HO0:=aa hO0
 have hns:nn≤s:=by omega
 clear hb0 h0 hA hT hO hn2 lp1 lp2 lp3 hAL hP hO0 hOl hOb ho2
 go_enter Tryz.func58,Tryz.ntmps58
 go_upto_region 2 with fail
 go_region_held3 (fun w'=>w'.cell? ⟨w.heap.size,1,none⟩=some (.slice ao O.length co)) (first|with_reducible exact KS.out _ g1|with_reducible exact KS.out _ g0) (first
  | (go_at_call 87;refine C.mono ?_;rintro e' w1 ⟨⟨vr,Q,R,rfl,AQ,AR,hvQ,hvR,hlQ,hnR⟩,hb1⟩;have g1:=bt5 g0 hb1;obtain⟨a5,c5,rfl,_,_,hLr⟩:=AR.form))
 have hB1:=bt5 HB0.out g1
 have hlen:=kZ hnR hvR (Nat.pos_of_ne_zero HO0.out) HPP.out
 obtain⟨N,hN,hNi⟩:∃N,N=s+R.length∧(s:Int)+(R.length:Int)=(N:Int):=⟨_,rfl,by omega⟩
 have hNs:N - s=R.length:=by omega
 obtain⟨o5,hif5,ho5⟩:∃o5,(∀g:Nat,(if N=s then some (⟨g,0,none⟩:Addr) else some ⟨g,s,none⟩)=some ⟨g,o5,none⟩)∧((o5=s∨(R.length=0∧o5=0))∧o5+R.length≤N):=by
  by_cases h:N=s
  ·exact⟨0,fun g=>by rw [if_pos h],.inr ⟨by omega,rfl⟩,by omega⟩
  ·exact⟨s,fun g=>by rw [if_neg h],.inl rfl,by omega⟩
 have lTk:(X.take nn).length=nn:=by rw [List.length_take];omega
 have h1:=(g1.block w.heap.size (lt_of_block H0.out)).trans H0.out
 obtain⟨k0,k1,k2⟩:=tri h1
 have hwl:w.heap.size<w1.heap.size:=lt_of_block h1
 have H1:=aa h1
 have HB1:=aa hB1
 have HAR:=aa AR
 have HAQ:=aa AQ
 have HV:=aa (And.intro hvQ (And.intro hvR (And.intro hlQ hnR)))
 have HNN:=aa hN
 have HO5:=aa ho5
 have hsN:s≤N:=by omega
 have hnN:nn≤N:=by omega
 have hN9:N≤1048576:=by omega
 clear hb1 g1 g0 hB1 AQ AR hvQ hvR hlQ hnR hLr h1 hN ho5 hif C KS H0 HB0
 go_wp2_with (at_make;refine wpList_make_full _ rfl _ _ 23 rfl w1.heap.size 43 i0 (.int .u64 0) 1 Tryz.underlying23 hi hz0 hz1 .i64 .i64 _ _ N rfl rfl (by omega) (by omega) (by rw [hz2];omega) (by unfold maxLen;omega) (Nat.le_refl _) ?_;intro w3 hown hgrow;have hbel3:Below w1.heap.size w1 w3:=(Below.refl w1.heap.size w1).grown hgrow (Nat.le_refl _) (fun k hk=>by cases hk);obtain⟨w4,M4,hcp,B4,L4,F4,O4,S4⟩:=aJ w1.heap.size 0 N N (List.replicate N 0) (some ⟨b,off,none⟩) cap (X.take nn) w3 (Blk.made hown) (limbs_replicate _) (HXa.out.front nn hnl).limbs (aS N 0 N) (by simp) (by rw [lTk];omega) (ae.arg ((HXa.out.front nn hnl).below (HB1.out.trans (hbel3.mono HB1.out.size))));rw [lTk] at hcp;have hbel4:Below w1.heap.size w1 w4:=hbel3.trans (F4.below (Nat.le_refl _) hbel3.size);obtain⟨j0,j1,j2⟩:=tri ((hbel4.block w.heap.size hwl).trans H1.out);have hM4l:M4.length=N:=by rw [O4.len,List.length_replicate])
 obtain⟨z0,z1⟩:=cU (M:=M4) (s:=s) (u:=R.length) (by have:=HNN.out;omega) (by rw [←HNN.out];exact S4) HLP.out.2.2
 have hz5:sv M4 o5 R.length=0:=by
  rcases HO5.out.1 with h|⟨h,_⟩
  ·rw [h];exact z0
  ·rw [h];exact aj _ _
 have hLu:ae w4 a5 R:=by
  obtain⟨_,_,e,_,_,hl⟩:=(HAR.out.below hbel4).form
  cases e
  exact hl
 obtain⟨w5,M5,hcp2,B5,L5,F5,O5,S5⟩:=aJ w1.heap.size o5 R.length R.length M4 a5 c5 R w4 B4 L4 HAR.out.limbs hz5 (by rw [hM4l];exact HO5.out.2) (Nat.le_refl _) hLu
 have hbel5:Below w1.heap.size w1 w5:=hbel4.trans (F5.below (Nat.le_refl _) hbel4.size)
 have hM5l:M5.length=s+R.length:=by rw [O5.len,hM4l];exact HNN.out
 have hval:=dt hM5l z1 O5 S5 HO5.out.1
 have hArg:Arg w5 (.slice (some ⟨w1.heap.size,0,none⟩) N N) M5:=by
  have h:=Ans.of_blk (base:=w.heap.size) (zs:=M5) (by omega) B5 List.take_length.symm (Nat.le_refl _) (by omega) L5
  rw [hM5l,←HNN.out] at h
  exact h.arg (by rw [hM5l,←HNN.out];omega)
 have hlow:val M5=val X % (18446744073709551616 ^ s*val O):=by
  rw [hval,jC,HV.out.2.1,HLP.out.2.1]
  have e1:=HLP.out.1
  have e2:val X % 18446744073709551616 ^ s=val (X.take nn):=by
   rw [e1,Nat.add_mul_mod_self_left,Nat.mod_eq_of_lt HLP.out.2.2]
  rw [e2]
 have hhigh:val Q=val X / (18446744073709551616 ^ s*val O):=by
  rw [ie,HLP.out.2.1]
  exact HV.out.1
 have HF:=aa (And.intro hArg (And.intro (HAQ.out.below hbel5) (And.intro hlow (And.intro hhigh (HB1.out.trans (hbel5.mono HB1.out.size))))))
 have HM5:Hid (M5.length≤1048576):=aa (by rw [hM5l];exact hlen)
 have HGG:Hid (w.heap.size≤w0.drew.heap.size∧w.heap.size≤w1.heap.size):=aa ⟨by rw [←hw0];exact Nat.le_trans (Nat.le_succ _) (by simp),Nat.le_of_lt hwl⟩
 have HQL:Hid (Q.length≤X.length):=aa (by have:=HV.out.2.2.1;omega)
 clear hown hgrow hbel3 hbel4 hbel5 B4 L4 F4 O4 S4 B5 L5 F5 O5 S5 hval hArg hLu hz5 z0 z1 hM5l hlow hhigh hi hz0 hz1 hz2
 go_wp2
 rw [hcp2]
 go_wp2
 go_ret2
 exact⟨⟨_,_,_,_,_,_,Q,M5,HGG.out,rfl,HF.out.2.1,HF.out.1,HF.out.2.2.2.1,HF.out.2.2.1,HQL.out,HM5.out⟩,HF.out.2.2.2.2⟩

theorem fS (b:Nat)(h1:2≤b)(h2:b≤36):∃t,aO b t∧t≤5:=by
 have key:∀x:Fin 37,2≤x.1→∃t:Fin 6,x.1 % 2 ^ t.1=0∧x.1 / 2 ^ t.1 % 2=1:=by decide +kernel
 obtain⟨t,h3,h4⟩:=key ⟨b,by omega⟩ h1
 exact⟨t.1,⟨h3,h4⟩,by omega⟩

theorem tzb (b t:Nat)(w:World)(hb:b≤36)(h:aO b t)(hT:Tab w):Calls Tryz.prog 79 #[.int .u64 b] w fun e w'=>e=.returned (.int .i64 t)∧w'=w:=by
 have H:=eX b t w (by omega) h hT
 clear hT h
 go_enter Tryz.func79,Tryz.ntmps79
 go_wp2_with fail
 refine H.mono ?_
 rintro e wn ⟨rfl,hw⟩;rw [hw];clear hw wn H
 go_wp2
 go_ret
 exact⟨rfl,rfl⟩

theorem jN {a L t:Nat}(h1:2 ^ (L - 1)≤a)(h2:a<2 ^ L)(hL:1≤L)(ht:1≤t):aF (2 ^ t) a ((L+t - 1) / t):=by
 have d:=Nat.div_add_mod (L+t - 1) t
 have m:=Nat.mod_lt (L+t - 1) (show 0<t by omega)
 obtain⟨n,hn⟩:∃n,(L+t - 1) / t=n:=⟨_,rfl⟩
 rw [hn] at d ⊢
 have hn1:1≤n:=by
  rcases Nat.eq_zero_or_pos n with h|h
  ·rw [h] at d;omega
  ·exact h
 obtain⟨k,rfl⟩:∃k,n=k+1:=⟨n - 1,by omega⟩
 rw [Nat.mul_succ] at d
 refine⟨by omega,?_,.inr ?_⟩
 ·rw [←Nat.pow_mul,Nat.mul_succ]
  exact Nat.lt_of_lt_of_le h2 (Nat.pow_le_pow_right (by omega) (by omega))
 ·rw [←Nat.pow_mul,Nat.add_sub_cancel]
  exact Nat.le_trans (Nat.pow_le_pow_right (by omega) (by omega)) h1

def f9 (b a:Nat)(w:World)(e:Ending)(w':World):Prop:=∃n:Nat,e=.returned (.int .i64 n)∧aF b a n∧Below w.heap.size w w'

theorem lZ (va:Value)(X:List Nat)(b:Nat)(w:World)(hA:Arg w va X)(hT:Tab w)(hb:2≤b)(hb2:b≤36)
  (HE:64<blen (val X)→Calls Tryz.prog 81 #[va,.int .u64 b] w fun e w'=>∃n:Nat,e=.returned (.int .i64 n)∧b ^ n≤val X∧val X<b ^ (n+1)∧n≤1152921504606846976∧Below w.heap.size w w') :
  Calls Tryz.prog 53 #[va,.int .i64 b] w (f9 b (val X) w):=by
 obtain⟨t,htl,ht5⟩:=fS b hb hb2
 have L1:=aq va X w hA
 have T1:=tzb b t w hb2 htl hT
 have S1:=gc va X w hA
 have hfew:blen (val X)≤64*X.length:=(blen_le_iff _ _).2 (by rw [Nat.pow_mul];exact val_lt hA.limbs)
 have hXl:=hA.few
 obtain⟨L,hL⟩:∃L,blen (val X)=L:=⟨_,rfl⟩
 have hup:val X<2 ^ L:=(blen_le_iff _ _).1 (by omega)
 rw [hL] at L1 HE hfew
 by_cases hs:L≤64
 ·have hv64:val X<18446744073709551616:=Nat.lt_of_lt_of_le hup (Nat.pow_le_pow_right (n:=2) (by omega) hs)
  have ht:(tr X).length≤1:=au X 1 (by rw [Nat.pow_one];exact hv64)
  rw [if_pos ht,decide_eq_true ht] at S1
  have hg:(tr X).getD 0 0=val X:=by
   have h2:=val_tr X
   match h:tr X,ht,h2 with
   | [],_,h2=>simpa [val] using h2
   | [a],_,h2=>simpa [val] using h2
   | a :: b :: c,h1,_=>simp at h1
  rw [hg] at S1
  have C1:=gC (val X) b w hb hb2 hv64
  have hs':(L:Int)≤64:=by omega
  clear hA hT ht hg HE hup hL
  generalize val X=x at *
  go_enter Tryz.func53,Tryz.ntmps53
  go_wp2_with fail
  refine L1.mono ?_
  rintro e wn ⟨rfl,hw⟩;rw [hw];clear hw wn L1
  go_wp2_with fail
  refine T1.mono ?_
  rintro e wn ⟨rfl,hw⟩;rw [hw];clear hw wn T1
  go_wp2_with fail
  refine S1.mono ?_
  rintro e wn ⟨rfl,hw⟩;rw [hw];clear hw wn S1
  go_wp2_with fail
  refine C1.mono ?_
  rintro e wn ⟨n,rfl,hn,hw⟩;rw [hw];clear hw wn C1
  have HN:=aa hn
  clear hn
  go_wp2
  go_ret
  exact⟨n,rfl,HN.out,Below.refl _ _⟩
 ·have hs':¬((L:Int)≤64):=by omega
  have hlo:2 ^ (L - 1)≤val X:=by
   rcases Nat.lt_or_ge (val X) (2 ^ (L - 1)) with h|h
   ·have:=(blen_le_iff _ _).2 h;omega
   ·exact h
  have hp:2 ^ t≤32:=Nat.pow_le_pow_right (n:=2) (j:=5) (by omega) ht5
  have h2t:(2:Int) ^ t=((2 ^ t:Nat):Int):=by simp
  have t64:t<64:=by omega
  by_cases hbt:b=2 ^ t
  ·have ht1:1≤t:=by
    rcases Nat.eq_zero_or_pos t with h|h
    ·subst h;simp at hbt;omega
    ·exact h
   have hd:=jN hlo hup (by omega) ht1
   rw [←hbt] at hd h2t hp
   have HN:=aa hd
   obtain⟨q,hq,hqi⟩:∃q:Nat,(L+t - 1) / t=q∧((L+t - 1:Nat):Int).tdiv (t:Int)=(q:Int):=⟨(L+t - 1) / t,rfl,rfl⟩
   have e1:(L:Int)+(t:Int) - 1=((L+t - 1:Nat):Int):=by omega
   have hql:q≤L+t - 1:=by rw [←hq];exact Nat.div_le_self _ _
   have htz:((t:Int) == 0)=false:=by rw [beq_eq_false_iff_ne];omega
   have HQ:=aa hq
   clear hA hT HE hup hL hlo hd hbt htl S1 hq
   generalize L+t - 1=L' at *
   generalize val X=x at *
   go_enter Tryz.func53,Tryz.ntmps53
   go_wp2_with fail
   refine L1.mono ?_
   rintro e wn ⟨rfl,hw⟩;rw [hw];clear hw wn L1
   go_wp2_with fail
   refine T1.mono ?_
   rintro e wn ⟨rfl,hw⟩;rw [hw];clear hw wn T1
   go_wp2
   go_ret
   exact⟨q,rfl,by have:=HN.out;rw [HQ.out] at this;exact this,Below.refl _ _⟩
  ·have hne:¬((b:Int)=((2 ^ t:Nat):Int)):=by omega
   have hnb:((b:Int) == ((2 ^ t:Nat):Int))=false:=by rw [beq_eq_false_iff_ne];exact hne
   have HX:=HE (by omega)
   clear hA hT HE hup hL hlo htl S1
   generalize val X=x at *
   generalize 2 ^ t=tp at *
   go_enter Tryz.func53,Tryz.ntmps53
   go_wp2_with fail
   refine L1.mono ?_
   rintro e wn ⟨rfl,hw⟩;rw [hw];clear hw wn L1
   go_wp2_with fail
   refine T1.mono ?_
   rintro e wn ⟨rfl,hw⟩;rw [hw];clear hw wn T1
   go_wp2_with fail
   refine HX.mono ?_
   rintro e w2 ⟨n,rfl,hn1,hn2,hn3,hb2'⟩
   have HN:=aa (And.intro hn1 (And.intro hn2 hb2'))
   clear hn1 hn2 hb2' HX
   go_wp2
   go_ret
   exact⟨n+1,by simp,⟨by omega,HN.out.2.1,.inr (by rw [Nat.add_sub_cancel];exact HN.out.1)⟩,HN.out.2.2⟩

theorem iE (v:Value)(zs:List Nat)(n:Nat)(w:World)(h1:Arg w v zs)(f1:zs.length≤35184372088831)(hn:n≤1099511627776) :
  Calls Tryz.prog 115 #[v,.int .i64 n] w fun e w'=>Below w.heap.size w w'∧Res w' w.heap.size e (val zs / 2 ^ n):=by
 obtain⟨a1,c1,rfl,hc1,hm1,hl1⟩:=h1.form
 have H0:=f8 n w (by omega) (by omega)
 have H1:=aM a1 c1 zs w hc1 hm1 hl1
 have l1:=tr_length_le zs
 have L1:=hl1.tr
 have M1:=limbs_tr h1.limbs
 obtain⟨q,s,hs,hnq⟩:∃q s,s<64∧n=q*64+s:=⟨n / 64,n % 64,by omega,by omega⟩
 have eq1:(n:Int) / 64=(q:Int):=by omega
 have eq2:(n:Int) % 64=(s:Int):=by omega
 have HN:Hid (n=q*64+s):=hnq
 have hq:q≤17179869184:=by omega
 obtain⟨i0,hi,hz0,hz1,hz2⟩:=info_parts Tryz.infoU
 clear hnq
 by_cases hql:(tr zs).length≤q
 ·have HV:Hid (val zs / 2 ^ n=0):=by
   refine aa ?_
   rw [Nat.div_eq_of_lt]
   have:=val_lt M1
   rw [val_tr,W_pow] at this
   have h2:(2:Nat) ^ ((tr zs).length*64)≤2 ^ n:=Nat.pow_le_pow_right (by omega) (by have:=HN.out;omega)
   omega
  clear L1 M1 hl1 h1 hi hz0 hz1 hz2
  generalize tr zs=Z at *
  go_enter Tryz.func115,Tryz.ntmps115
  go_wp2_with fail
  refine H0.mono ?_
  rintro e w' ⟨rfl,rfl⟩
  go_wp2_with fail
  refine H1.mono ?_
  rintro e w' ⟨rfl,rfl⟩
  clear H0 H1
  go_wp2
  go_ret2
  rw [HV.out]
  exact⟨Below.refl _ _,_,_,[],rfl,Ans.nil _ _,.inl ⟨rfl,rfl,rfl,by simp [blen]⟩⟩
 ·rcases L1 with h' | ⟨b,off,rfl,hcell⟩
  ·simp [h'] at hql
  ·have hbw:b<w.heap.size:=ae.block (zs:=tr zs) (.inr ⟨b,off,rfl,hcell⟩) (by omega)
   have hcl:(tr zs).length≤c1:=by omega
   have hlx:((tr zs).drop q).length=(tr zs).length - q:=by simp
   have HVX:Hid (val ((tr zs).drop q) / 2 ^ s=val zs / 2 ^ n):=by
    refine aa ?_
    rw [val_drop M1 q (by omega),val_tr,Nat.div_div_eq_div_mul,←Nat.pow_add,←HN.out]
   have hcx:∀k,k<((tr zs).drop q).length→w.cell? ⟨b,off+q+k,none⟩=some (.int .u64 ((((tr zs).drop q).getD k 0:Nat):Int)):=by
    intro k hk
    have:=hcell (q+k) (by omega)
    rw [←Nat.add_assoc] at this
    rw [this]
    simp [List.getD]
   have hlimx:Limbs ((tr zs).drop q):=fun z hz=>M1 z (List.mem_of_mem_drop hz)
   clear hcell hl1 h1 M1
   generalize (tr zs).drop q=X at *
   generalize (tr zs).length=m at *
   obtain⟨d,rfl⟩:∃d,m=q+d:=⟨m - q,by omega⟩
   have hdx:X.length=d:=by omega
   subst hdx
   clear hlx
   have hd:decide ((q:Int)+(X.length:Int)≤(q:Int))=false:=by simp;omega
   have hxp:0<X.length:=by omega
   go_enter Tryz.func115,Tryz.ntmps115
   go_wp2_with fail
   refine H0.mono ?_
   rintro e w' ⟨rfl,rfl⟩
   go_wp2_with fail
   refine H1.mono ?_
   rintro e w' ⟨rfl,rfl⟩
   clear H0 H1
   go_wp2_with (at_make;refine wpList_make_full _ rfl _ _ 23 rfl w'.heap.size 43 i0 (.int .u64 0) 1 Tryz.underlying23 hi hz0 hz1 .i64 .i64 _ _ X.length rfl rfl (by omega) (by omega) (by rw [hz2];omega) (by unfold maxLen;omega) (Nat.le_refl _) ?_;intro w1 hown hgrow)
   have hb1:=Blk.made hown
   have hbel:Below w'.heap.size w' w1:=(Below.refl _ _).grown hgrow (Nat.le_refl _) (fun k hk=>by cases hk)
   clear hown hgrow hi hz0 hz1 hz2
   go_loopw [31] (fun i wr=>∃(k:Nat) (out:List Nat),k≤X.length∧i=.int .i64 k∧out.length=X.length∧Limbs out∧Blk wr w'.heap.size out∧Below w'.heap.size w' wr ∧
     2 ^ s*val (out.take k)+X.getD 0 0 % 2 ^ s=val (X.take k)+X.getD k 0 % 2 ^ s*18446744073709551616 ^ k) (fun i _=>X.length - (intOf i).toNat)
   case atStart=>exact⟨0,_,Nat.zero_le _,rfl,by simp,limbs_replicate _,hb1,hbel,by simp [val]⟩
   case round=>
    obtain⟨k,out,hk,rfl,hlen,hlo,hblk,hbl,hval⟩:=hrel
    clear hb1 hbel
    have HV:=aa hval
    have HB:=aa hblk
    have HL:=aa hbl
    clear hval
    by_cases hkl:k<X.length
    ·have hck:wr.cell? ⟨b,off+q+k,none⟩=some (.int .u64 ((X.getD k 0:Nat):Int)):=by rw [hbl.cell (p:=⟨b,off+q+k,none⟩) hbw];exact hcx k hkl
     have hlies:ae wr.drew (some ⟨b,off+q,none⟩) X:=.inr ⟨b,off+q,rfl,fun j hj=>by rw [hbl.drew.cell (p:=⟨b,off+q+j,none⟩) hbw];exact hcx j hj⟩
     have H42:=cQ (some ⟨b,off+q,none⟩) (c1 - q) X (k+1) wr.drew (by omega) (by omega) hlies
     rw [show ((k+1:Nat):Int)=(k:Int)+1 from by omega] at H42
     have hfr:=hblk.free k
     have hco:=hblk.cell k (by omega)
     have hst:=right_step X out s k hs (by omega) HV.out
     have z1:=limb_lt hlimx k
     have hne1:¬b=w'.heap.size:=by omega
     have hne2:¬w'.heap.size=b:=by omega
     generalize out.getD k 0=o at *
     have HS:=aa hst
     clear hst hlies hblk hbl HV hcx
     generalize hy:X.getD (k+1) 0=y at *
     have HY:=aa hy
     clear hy
     generalize X.getD k 0=x at *
     have hi1:(0:Int)≤(k:Int):=by omega
     have hi2:(k:Int)<(X.length:Int):=by omega
     have hwk:IntKind.i64.wrap ((k:Int)+1)=(k:Int)+1:=by rw [IntKind.wrap_i64];omega
     obtain⟨t,ht⟩:∃t,t=64 - s:=⟨_,rfl⟩
     have htb:t≤64:=by omega
     have hw64:IntKind.i64.wrap (64 - (s:Int))=(t:Int):=by rw [IntKind.wrap_i64];omega
     have hw66:IntKind.i64.wrap (t:Int)=(t:Int):=by rw [IntKind.wrap_i64];omega
     have hw65:(64 - (s:Int))=(t:Int):=by omega
     have HT:=aa ht
     clear ht
     go_wp2
     go_region_held3 (fun w2=>w2.cell? ⟨b,off+q+k,none⟩=some (.int .u64 x)) (go_keep) (first | (go_at_call 93;refine H42.mono ?_;rintro e w2 ⟨rfl,rfl⟩))
     go_wp2
     go_roundw
     case rel=>
      have e:=HT.out
      subst e
      rw [walk_shr2 x y s hs z1]
      exact⟨k+1,out.set k (shr x y s),by omega,by go_num,by simp;omega,limbs_set hlo _ _ (shr_lt2 x y s hs z1),HB.out.set _ _,(HL.out.setCell (Nat.le_refl _) _).drew,by rw [HY.out];exact HS.out⟩
     case measure=>simp [intOf];omega
    ·have ek:k=X.length:=by omega
     subst ek
     have HA:=dk _ w'.heap.size _ _ hblk hlo (Nat.le_refl _) (by omega)
     rw [right_end X out s hlen HV.out,HVX.out,hlen] at HA
     clear hblk hbl HV HB hlo hcx hlimx
     go_wp2_with fail
     refine HA.mono ?_
     rintro e w2 ⟨rfl,hres⟩
     unfold Res at hres
     obtain⟨v,c,rs,rfl,hres⟩:=hres
     have HX:=aa hres
     clear hres
     go_wp2
     go_ret2
     exact⟨HL.out,v,c,rs,rfl,HX.out⟩

theorem eW (n:Int):bits .and .i64 n 1=n % 2:=by
 have h1:(BitVec.ofInt 64 1).toNat=2 ^ 1 - 1:=by decide
 have key:(BitVec.ofInt 64 n &&& BitVec.ofInt 64 1).toNat=(n % ((2 ^ 64:Nat):Int)).toNat % 2 ^ 1:=by
  rw [BitVec.toNat_and,BitVec.toNat_ofInt,h1,Nat.and_two_pow_sub_one_eq_mod]
 show IntKind.i64.wrap ((BitVec.ofInt 64 n &&& BitVec.ofInt 64 1).toNat:Nat)=n % 2
 rw [key,IntKind.wrap_i64]
 omega

theorem fg (x k:Nat):x / 2 ^ k=2*(x / 2 ^ (k+1))+x / 2 ^ k % 2:=by
 rw [Nat.pow_succ,←Nat.div_div_eq_div_mul]
 omega

theorem cH {x y:Nat}(h:x≤y):blen x≤blen y:=(blen_le_iff x _).2 (Nat.lt_of_le_of_lt h ((blen_le_iff y _).1 (Nat.le_refl _)))

theorem fD {x n k:Nat}(hx:0<x)(hk:k≤n):x ^ k≤x ^ n:=Nat.pow_le_pow_right hx hk

theorem Res.big {w:World}{base s:Nat}(h:67108864<blen s):Res w base (.returned (.tuple #[.slice none 0 0,.int .i64 3])) s:=
 ⟨_,3,[],rfl,Ans.nil _ _,.inr ⟨rfl,rfl,h⟩⟩

theorem Res.of_nv {w:World}{base s:Nat}{v:Value}(h:Nv w base v s)(hb:blen s≤67108864):Res w base (.returned (.tuple #[v,.int .i64 0])) s:=by
 obtain⟨rs,h1,h2,h3,_⟩:=h
 exact⟨v,0,rs,rfl,h1,.inl ⟨rfl,h2,h3,hb⟩⟩

theorem Res.parts {w:World}{base:Nat}{e:Ending}{s:Nat}(h:Res w base e s):(∃v,e=.returned (.tuple #[v,.int .i64 0])∧Nv w base v s∧blen s≤67108864)∨(∃v,e=.returned (.tuple #[v,.int .i64 3])∧67108864<blen s):=by
 obtain⟨v,c,rs,rfl,hA,h⟩:=h
 rcases h with ⟨rfl,h1,h2,h3⟩|⟨rfl,_,h3⟩
 ·exact .inl ⟨v,rfl,Nv.of hA h1 h2 h3,h3⟩
 ·exact .inr ⟨v,rfl,h3⟩

theorem gK (va:Value)(X:List Nat)(n:Nat)(w:World)(hA:Arg w va X)(hT:Tab w)(hl:X.length≤1048577)(hx:0<val X)(hn0:0<n)(hn:n≤9223372036854775807) :
  Calls Tryz.prog 116 #[va,.int .i64 n] w fun e w'=>Below w.heap.size w w'∧Res w' w.heap.size e (val X ^ n):=by
 obtain⟨x,hxx⟩:∃x,val X=x:=⟨_,rfl⟩
 rw [hxx] at hx ⊢
 have HF:=bF 1 w (by omega)
 have HLN:=fun W=>Tryz.bits_Len (n:Int) W (by omega) (by omega)
 rw [Int.toNat_natCast] at HLN
 have wn:IntKind.u64.wrap (n:Int)=(n:Int):=by rw [IntKind.wrap_u64];omega
 obtain⟨L,hL⟩:∃L,Lib.bitLen n=L:=⟨_,rfl⟩
 have hnl:n<2 ^ L:=by
  obtain⟨_,_,h3⟩:=Lib.bitLenAux_bounds 64 n (by omega) (by omega)
  rw [←hL];exact h3
 have hL64:L≤64:=by rw [←hL];exact Lib.bitLen_le n 64 (by omega) (by omega)
 rw [hL] at HLN
 obtain⟨a1,c1,rfl,_,_,_⟩:=hA.form
 have HA:=aa hA
 have HT:=aa hT
 have HX:=aa (And.intro hxx hx)
 have HN:=aa (And.intro hnl hn0)
 clear hA hT hxx hx hL hnl hn0
 go_enter Tryz.func116,Tryz.ntmps116
 go_wp2_with fail
 refine HF.mono ?_
 rintro e w1 ⟨⟨v1,rfl,A1⟩,hb1⟩
 have ST:=aa (And.intro (Nv.of A1 (x:=1) (by rw [val_tr];simp [val]) (tr_tr _) (by decide)) hb1)
 clear HF A1 hb1
 go_wp2_with fail
 refine (HLN _).mono ?_
 rintro e wn' ⟨rfl,hw⟩;rw [hw];clear hw wn' HLN
 go_wp2
 go_loopw [6,7,8] (fun v c i wr=>∃(k:Nat),c=.int .i64 0∧i=.int .i64 ((k:Int) - 1)∧k≤L∧Nv wr w.heap.size v (x ^ (n / 2 ^ k))∧Below w.heap.size w wr) (fun _ _ i _=>(intOf i+1).toNat)
 case atStart=>
  refine⟨L,rfl,rfl,Nat.le_refl _,?_,ST.out.2⟩
  rw [Nat.div_eq_of_lt HN.out.1,Nat.pow_zero]
  exact ST.out.1
 case round=>
  obtain⟨k,rfl,rfl,hk,hnv,hbel⟩:=hrel
  have HNV:=aa hnv
  have HB:=aa hbel
  clear hnv hbel ST
  by_cases hk0:k=0
  ·subst hk0
   have h:=HNV.out
   rw [Nat.pow_zero,Nat.div_one] at h
   have HE:=aa h
   clear h
   go_wp2
   go_returns
   refine⟨HB.out,Res.of_nv HE.out ?_⟩
   obtain⟨rs,h1,h2,h3,h4⟩:=HE.out
   rw [←h2]
   have:=(blen_le_iff (val rs) (64*rs.length)).2 (by have:=val_lt h1.limbs;rw [show (18446744073709551616:Nat)=2 ^ 64 from rfl,←Nat.pow_mul] at this;exact this)
   omega
  ·obtain⟨j,rfl⟩:∃j,k=j+1:=⟨k - 1,by omega⟩
   have ej:(((j+1:Nat):Int) - 1)=(j:Int):=by omega
   rw [ej]
   have hj0:(0:Int)≤(j:Int):=by omega
   have hj64:j<64:=by omega
   obtain⟨rs,A1,e1,_,l1⟩:=HNV.out.arg
   have HS:=dN _ rs wr A1 (HT.out.below HB.out) (by omega)
   have e2:val rs*val rs=x ^ (2*(n / 2 ^ (j+1))):=by rw [e1,←Nat.pow_add];congr 1;omega
   rw [e2] at HS
   have hst:=fg n j
   have hle:n / 2 ^ j≤n:=Nat.div_le_self _ _
   have hsh:(n:Int) / 2 ^ j=((n / 2 ^ j:Nat):Int):=by rw [Int.natCast_ediv,Int.natCast_pow];rfl
   have hand:=eW ((n / 2 ^ j:Nat):Int)
   have hm2:((n / 2 ^ j:Nat):Int) % 2=((n / 2 ^ j % 2:Nat):Int):=by omega
   rw [hm2] at hand
   have wj:IntKind.i64.wrap (((n / 2 ^ j:Nat)):Int)=(((n / 2 ^ j:Nat)):Int):=by rw [IntKind.wrap_i64];omega
   generalize n / 2 ^ (j+1)=p at *
   obtain⟨q,hq⟩:∃q,n / 2 ^ j=q:=⟨_,rfl⟩
   rw [hq] at hst hle hsh hand hm2 wj
   have HQ:=aa (And.intro hst hle)
   have HQD:=aa hq
   clear hq
   clear A1 e1 e2 l1 ej hk0 hst
   go_wp2_with fail
   refine HS.mono ?_
   rintro e w2 ⟨hb2,hr⟩
   have HB2:=aa (HB.out.trans (hb2.mono HB.out.size))
   rcases hr.parts with ⟨v2,rfl,N2,bl2⟩|⟨v2,rfl,bl2⟩
   ·have HN2:=aa N2
    clear HS hb2 hr N2 bl2
    rcases Nat.mod_two_eq_zero_or_one q with h0|h1
    ·rw [h0] at hand
     have HEQ:Hid (2*p=q):=aa (by have:=HQ.out.1;omega)
     clear h0
     go_wp2
     go_roundw
     case rel=>exact⟨j,rfl,rfl,by omega,by rw [HQD.out,←HEQ.out];exact HN2.out.base HB.out.size,HB2.out⟩
     case measure=>simp [intOf]
    ·rw [h1] at hand
     have HEQ:Hid (2*p+1=q):=aa (by have:=HQ.out.1;omega)
     obtain⟨rs2,A2,e2,_,l2⟩:=HN2.out.arg
     have HM:=bj v2 _ rs2 X w2 A2 (HA.out.below HB2.out) (HT.out.below HB2.out) (by omega)
     have e3:val rs2*val X=x ^ q:=by rw [e2,HX.out.1,←HEQ.out,Nat.pow_succ]
     rw [e3] at HM
     clear h1 A2 e2 l2 e3
     go_wp2_with fail
     refine HM.mono ?_
     rintro e w3 ⟨hb3,hr⟩
     have HB3:=aa (HB2.out.trans (hb3.mono HB2.out.size))
     rcases hr.parts with ⟨v3,rfl,N3,bl3⟩|⟨v3,rfl,bl3⟩
     ·have HN3:=aa N3
      clear HM hb3 hr N3 bl3
      go_wp2
      go_roundw
      case rel=>exact⟨j,rfl,rfl,by omega,by rw [HQD.out];exact HN3.out.base HB2.out.size,HB3.out⟩
      case measure=>simp [intOf]
     ·have HBG:=aa (Nat.lt_of_lt_of_le bl3 (cH (fD HX.out.2 HQ.out.2)))
      clear HM hb3 hr bl3
      go_wp2
      go_returns
      exact⟨HB3.out,Res.big HBG.out⟩
   ·have HBG:=aa (Nat.lt_of_lt_of_le bl2 (cH (fD (n:=n) (k:=2*p) HX.out.2 (by have:=HQ.out;omega))))
    clear HS hb2 hr bl2
    go_wp2
    go_returns
    exact⟨HB2.out,Res.big HBG.out⟩

theorem fh {x:Nat}(h:1<blen x):2≤x:=by
 refine Nat.le_of_not_lt fun hlt=>?_
 have:blen x≤1:=(blen_le_iff x 1).2 (by omega)
 omega

theorem jw {x n:Nat}(hx:1<blen x)(h:67108863<(blen x - 1)*n):67108864<blen (x ^ n):=by
 have h1:=dB x (by have:=fh hx;omega)
 have h2:2 ^ ((blen x - 1)*n)≤x ^ n:=by rw [Nat.pow_mul];exact Nat.pow_le_pow_left h1 n
 refine Nat.lt_of_not_le fun hle=>?_
 have h3:=(blen_le_iff (x ^ n) _).1 (Nat.le_refl (blen (x ^ n)))
 have h4:(blen x - 1)*n<blen (x ^ n):=(Nat.pow_lt_pow_iff_right (by omega)).1 (Nat.lt_of_le_of_lt h2 h3)
 omega

theorem gk {x t:Nat}(h:aO x t):x=x / 2 ^ t*2 ^ t∧0<x / 2 ^ t:=by
 obtain⟨h1,h2⟩:=h
 have h3:=Nat.div_add_mod x (2 ^ t)
 rw [h1,Nat.mul_comm] at h3
 refine⟨h3.symm,?_⟩
 generalize x / 2 ^ t=q at *
 rcases Nat.eq_zero_or_pos q with h|h
 ·rw [h] at h2;simp at h2
 ·exact h

theorem dz (va:Value)(X:List Nat)(n:Nat)(w:World)(hA:Arg w va X)(hT:Tab w)(hl:X.length≤17592186044416)(hn:n≤9223372036854775807) :
  Calls Tryz.prog 83 #[va,.int .i64 n] w fun e w'=>Below w.heap.size w w'∧Res w' w.heap.size e (val X ^ n):=by
 have HL:=aq _ _ w hA
 obtain⟨L,hL⟩:∃L,blen (val X)=L:=⟨_,rfl⟩
 rw [hL] at HL
 have hLb:L≤64*X.length:=by
  rw [←hL]
  exact (blen_le_iff _ _).2 (by have:=val_lt hA.limbs;rw [show (18446744073709551616:Nat)=2 ^ 64 from rfl,←Nat.pow_mul] at this;exact this)
 by_cases h0:n=0
 ·subst h0
  have HF:=bF 1 w (by omega)
  have HR:Hid (∀w' v,Ans w' w.heap.size v (tr [1])→Res w' w.heap.size (.returned (.tuple #[v,.int .i64 0])) (val X ^ 0)):=aa fun w' v h=>⟨v,0,_,rfl,h,.inl ⟨rfl,by rw [val_tr];simp [val],tr_tr _,by rw [Nat.pow_zero];decide⟩⟩
  clear hA hT hL
  go_enter Tryz.func83,Tryz.ntmps83
  go_wp2_with fail
  refine HL.mono ?_
  rintro e wn ⟨rfl,hw⟩;rw [hw];clear hw wn HL
  go_wp2_with fail
  refine HF.mono ?_
  rintro e w1 ⟨⟨v1,rfl,A1⟩,hb1⟩
  have H:=aa (And.intro A1 hb1)
  clear HF A1 hb1
  go_wp2
  go_returns
  exact⟨H.out.2,HR.out _ _ H.out.1⟩
 ·have hz:((n:Int) == 0)=false:=by rw [beq_eq_false_iff_ne];omega
  have hnn:¬((n:Int)<0):=by omega
  by_cases h1:L≤1
  ·have HN:=dq va X w hA hl
   have i1:(L:Int)≤1:=by omega
   have hx1:val X ^ n=val X:=by
    have:val X<2 ^ 1:=(blen_le_iff _ 1).1 (by rw [hL];exact h1)
    rcases Nat.eq_zero_or_pos (val X) with h|h
    ·rw [h];exact Nat.zero_pow (by omega)
    ·rw [show val X=1 by omega,Nat.one_pow]
   rw [hx1]
   have HX:=aa (show blen (val X)≤67108864 by omega)
   clear hA hT hL hx1
   go_enter Tryz.func83,Tryz.ntmps83
   go_wp2_with fail
   refine HL.mono ?_
   rintro e wn ⟨rfl,hw⟩;rw [hw];clear hw wn HL
   go_wp2_with fail
   refine HN.mono ?_
   rintro e w1 ⟨⟨v1,rfl,A1⟩,hb1⟩
   have H:=aa (And.intro A1 hb1)
   clear HN A1 hb1
   go_wp2
   go_returns
   exact⟨H.out.2,_,0,_,rfl,H.out.1,.inl ⟨rfl,val_tr _,tr_tr _,HX.out⟩⟩
  ·have i1:¬((L:Int)≤1):=by omega
   obtain⟨M,hM⟩:∃M,L=M+1:=⟨L - 1,by omega⟩
   have eM:(L:Int) - 1=(M:Int):=by omega
   obtain⟨Q,hQ⟩:∃Q,67108863 / n=Q:=⟨_,rfl⟩
   have eQ:(67108863:Int) / (n:Int)=(Q:Int):=by rw [←hQ,Int.natCast_ediv];rfl
   have hQl:Q≤67108863:=by rw [←hQ];exact Nat.div_le_self _ _
   by_cases h2:Q<M
   ·have i2:(Q:Int)<(M:Int):=by omega
    have HB:Hid (67108864<blen (val X ^ n)):=by
     refine aa (jw (by omega) ?_)
     rw [hL,hM,Nat.add_sub_cancel]
     rw [←hQ] at h2
     exact (Nat.div_lt_iff_lt_mul (by omega)).1 h2
    clear hA hT hL hM hQ
    go_enter Tryz.func83,Tryz.ntmps83
    go_wp2_with fail
    refine HL.mono ?_
    rintro e wn ⟨rfl,hw⟩;rw [hw];clear hw wn HL
    go_wp2
    go_returns
    exact⟨Below.refl _ _,Res.big HB.out⟩
   ·have i2:¬((Q:Int)<(M:Int)):=by omega
    have hMn:M*n≤67108863:=by
     have:M≤67108863 / n:=by omega
     exact (Nat.le_div_iff_mul_le (by omega)).1 this
    have HTL:=jO va X w hA hT
    have HA:=aa hA
    have HT:=aa hT
    have hx2:2≤val X:=fh (by omega)
    have HX:=aa (And.intro hL (And.intro hM (And.intro hMn hx2)))
    clear hA hT hL hM hQ hMn hx2
    go_enter Tryz.func83,Tryz.ntmps83
    go_wp2_with fail
    refine HL.mono ?_
    rintro e wn ⟨rfl,hw⟩;rw [hw];clear hw wn HL
    go_wp2_with fail
    refine HTL.mono ?_
    rintro e wn ⟨⟨t,ht,rfl,_,htl⟩,hw⟩;rw [hw];clear hw wn HTL
    have hit:=htl (by have:=HX.out.2.2.2;omega)
    obtain⟨od1,od2⟩:=gk hit
    have htM:t≤M:=by
     have h3:2 ^ t≤val X:=by rw [od1];exact Nat.le_mul_of_pos_left _ od2
     have h4:=(blen_le_iff (val X) _).1 (Nat.le_refl _)
     have h5:t<blen (val X):=(Nat.pow_lt_pow_iff_right (by omega)).1 (Nat.lt_of_le_of_lt h3 h4)
     have:=HX.out.1
     have:=HX.out.2.1
     omega
    have hM26:M≤67108863:=by
     have:=HX.out.2.2.1
     have:=Nat.le_mul_of_pos_right M (show 0<n by omega)
     omega
    have HR:=iE va X t w HA.out (by omega) (by omega)
    have HO:=aa (And.intro od1 (And.intro od2 htM))
    clear htl hit od1 od2 ht
    go_wp2_with fail
    refine HR.mono ?_
    rintro e w1 ⟨hb1,hr1⟩
    have hble:blen (val X / 2 ^ t)≤blen (val X):=cH (Nat.div_le_self _ _)
    obtain⟨v1,rfl,N1⟩:=hr1.fits (by have:=HX.out.1;have:=HX.out.2.1;omega)
    obtain⟨rs1,A1,e1,_,l1⟩:=N1.arg
    have HP:=gK v1 rs1 n w1 A1 (HT.out.below hb1) (by omega) (by rw [e1];exact HO.out.2.1) (by omega) hn
    rw [e1] at HP
    have HB1:=aa hb1
    clear HR hb1 hr1 hble N1 A1 e1 l1
    go_wp2_with fail
    refine HP.mono ?_
    rintro e w2 ⟨hb2,hr2⟩
    have HB2:=aa (HB1.out.trans (hb2.mono HB1.out.size))
    have hpw:(val X / 2 ^ t) ^ n*2 ^ (t*n)=val X ^ n:=by
     rw [Nat.pow_mul,←Nat.mul_pow,←HO.out.1]
    have htn:t*n≤67108863:=Nat.le_trans (Nat.mul_le_mul_right n HO.out.2.2) HX.out.2.2.1
    obtain⟨u,hu,eu⟩:∃u:Nat,t*n=u∧(t:Int)*(n:Int)=(u:Int):=⟨t*n,rfl,by rw [Int.natCast_mul]⟩
    rw [hu] at hpw htn
    rcases hr2.parts with ⟨v2,rfl,N2,bl2⟩|⟨v2,rfl,bl2⟩
    ·obtain⟨rs2,A2,e2,_,l2⟩:=N2.arg
     have HLF:=gN v2 rs2 u w2 A2 (by omega) (by omega)
     rw [e2,hpw] at HLF
     clear HP hb2 hr2 N2 A2 e2 l2 bl2 hpw hu
     go_wp2_with fail
     refine HLF.mono ?_
     rintro e w3 ⟨hb3,v3,c3,rs3,rfl,A3,h3⟩
     have H:=aa (And.intro (A3.base HB2.out.size) (And.intro h3 (HB2.out.trans (hb3.mono HB2.out.size))))
     clear HLF hb3 A3 h3
     go_wp2
     go_returns
     exact⟨H.out.2.2,v3,c3,rs3,rfl,H.out.1,H.out.2.1⟩
    ·have HBG:=aa (Nat.lt_of_lt_of_le bl2 (cH (show (val X / 2 ^ t) ^ n≤val X ^ n by rw [←hpw];exact Nat.le_mul_of_pos_right _ (Nat.two_pow_pos _))))
     clear HP hb2 hr2 bl2 hpw hu
     go_wp2
     go_returns
     exact⟨HB2.out,Res.big HBG.out⟩

def ar:List (Nat × Value × Nat)→List Value
 | []=>[]
 | (d,o,s) :: l=>.int .i64 d :: o :: .int .i64 s :: ar l

theorem gE (l:List (Nat × Value × Nat))(d:Nat)(o:Value)(s:Nat):ar (l ++ [(d,o,s)])=ar l ++ [.int .i64 d,o,.int .i64 s]:=by
 induction l with
 | nil=>rfl
 | cons p l ih=>obtain⟨d,o,s⟩:=p;simp [ar,ih]

theorem iT (l:List (Nat × Value × Nat)):∀(i d:Nat) (o:Value) (s:Nat),l[i]?=some (d,o,s)→(ar l)[i*3]?=some (.int .i64 d)∧(ar l)[i*3+1]?=some o∧(ar l)[i*3+2]?=some (.int .i64 s):=by
 induction l with
 | nil=>intro i d o s h;simp at h
 | cons p l ih=>
  obtain⟨d0,o0,s0⟩:=p
  intro i d o s h
  cases i with
  | zero=>simp at h;obtain⟨rfl,rfl,rfl⟩:=h;exact⟨rfl,rfl,rfl⟩
  | succ i=>
   obtain⟨h1,h2,h3⟩:=ih i d o s (by simpa using h)
   have e1:(i+1)*3=i*3+1+1+1:=by omega
   rw [e1]
   exact⟨by simpa [ar] using h1,by simpa [ar] using h2,by simpa [ar] using h3⟩

def br (w:World)(b n:Nat)(p:Nat × Value × Nat):Prop:=
 ∃a O c,p.2.1=.slice a O.length c∧Arg w p.2.1 O∧18446744073709551616 ^ p.2.2*val O=b ^ p.1∧2≤p.1∧p.1+2≤n∧val O≠0∧O.length≤1048576∧blen (val O)≤67108864∧p.2.2≤1125899906842624

theorem br.below {w w':World}{b n:Nat}{p:Nat × Value × Nat}(h:br w b n p)(hb:Below w.heap.size w w'):br w' b n p:=by
 obtain⟨a,O,c,h1,h2,h3⟩:=h
 exact⟨a,O,c,h1,h2.below hb,h3⟩

def aQ (w:World)(v:Value)(b n:Nat):Prop:=∃l,aV w v l∧∀p ∈ l,br w b n p

theorem aV.below {w w':World}{v:Value}{l:List (Nat × Value × Nat)}(h:aV w v l)(hb:Below w.heap.size w w'):aV w' v l:=by
 rcases h with h|⟨g,cap,h1,h2,h3,h4,h5⟩
 ·exact .inl h
 ·refine .inr ⟨g,cap,h1,Nat.lt_of_lt_of_le h2 hb.size,h3,h4,fun i d o s hi=>?_⟩
  obtain⟨q1,q2,q3,q4⟩:=h5 i d o s hi
  have e:∀k,w'.cell? ⟨g,k,none⟩=w.cell? ⟨g,k,none⟩:=fun k=>World.cell?_of_block (hb.block g h2)
  rw [e,e,e]
  exact⟨q1,q2,q3,q4⟩

theorem aQ.below {w w':World}{v:Value}{b n:Nat}(h:aQ w v b n)(hb:Below w.heap.size w w'):aQ w' v b n:=by
 obtain⟨l,h1,h2⟩:=h
 exact⟨l,h1.below hb,fun p hp=>(h2 p hp).below hb⟩

theorem Ans.grown5 {w w':World}{base:Nat}{v:Value}{zs:List Nat}{row:Option Nat}(h:Ans w base v zs)(hg:w.grownBy w' row)(hne:v.ownBlock=none∨v.ownBlock≠row):Ans w' base v zs:=by
 refine⟨?_,h.limbs⟩
 obtain⟨h1,h2⟩:=h.own
 refine⟨h1,?_⟩
 rcases h2 with h2|⟨g',cap,cur,hv,hg',hh,r⟩
 ·exact .inl h2
 ·refine .inr ⟨g',cap,cur,hv,hg',?_,r⟩
  rw [hg.block g' (lt_of_block hh) ?_]
  ·exact hh
  ·rcases hne with hne|hne
   ·rw [hv] at hne;cases hne
   ·rw [hv] at hne;exact hne

def kb (w:World)(row:Option Nat)(f t n:Nat)(p:Nat × Value × Nat):Prop:=
 ∃O,Ans w 0 p.2.1 O∧val O=f ^ p.1∧64*p.2.2=t*p.1∧2≤p.1∧p.1+2≤n∧O.length≤1048576∧blen (val O)≤67108864∧(p.2.1.ownBlock=none∨p.2.1.ownBlock≠row)

theorem lN:(Tryz.prog.info? 82).map (fun i=>(i.zero,i.size,i.bytes))=some (some (.agg #[.int .i64 0,.slice none 0 0,.int .i64 0]),3,40):=by kernel_rfl

theorem fG {w:World}{base:Nat}{v:Value}{zs:List Nat}(h:Ans w base v zs){g:Nat}(hg:v.ownBlock=some g):base≤g∧g<w.heap.size:=by
 obtain⟨_,h2⟩:=h.own
 rcases h2 with ⟨rfl,_⟩|⟨g',cap,cur,rfl,hg',hh,_⟩
 ·cases hg
 ·simp [Value.ownBlock] at hg
  subst hg
  exact⟨hg',lt_of_block hh⟩

theorem gh {w:World}{base:Nat}{v:Value}{l:List (Nat × Value × Nat)}(ho:w.ownsRow base 82 3 v l.length (ar l))(hs:∀p ∈ l,p.1≤9223372036854775807∧p.2.2≤9223372036854775807∧∃a n c,p.2.1=.slice a n c):aV w v l:=by
 obtain⟨h1,h2⟩:=ho
 rcases h2 with ⟨rfl,h3⟩|⟨g,cap,cur,rfl,hge,hh,hle,hml,hsz,htk⟩
 ·exact .inl ⟨rfl,List.length_eq_zero_iff.1 h3⟩
 ·refine .inr ⟨g,cap,rfl,lt_of_block hh,hle,by have:maxLen=9223372036854775807:=rfl;omega,fun i d o s hi=>?_⟩
  obtain⟨q1,q2,q3⟩:=iT l i d o s hi
  have hil:i<l.length:=(List.getElem?_eq_some_iff.1 hi).1
  have e:∀k,k<l.length*3→w.cell? ⟨g,k,none⟩=(ar l)[k]?:=fun k hk=>by
   have:(ar l)[k]?=cur.toList[k]?:=by rw [←htk,List.getElem?_take,if_pos hk]
   rw [this]
   simp [World.cell?,hh]
  rw [e _ (by omega),e _ (by omega),e _ (by omega)]
  obtain⟨r1,r2,r3⟩:=hs _ (List.mem_of_getElem? hi)
  exact⟨q1,q2,q3,r1,r2,r3⟩

theorem gz {n k J W0 i W:Nat}(h1:n≤k*2 ^ J)(h2:k*2 ^ J<n+2 ^ J)(h3:J=0∨512<k)(hk:k≤W0)(hW0:W0≤k+63)(hW:W=W0*2 ^ i)(hle:W+1≤n):W+2≤n:=by
 rcases Nat.lt_or_ge i J with hi|hi
 ·have h4:2*W≤W0*2 ^ J:=by
   rw [hW,Nat.mul_left_comm,←Nat.pow_succ']
   exact Nat.mul_le_mul_left _ (Nat.pow_le_pow_right (by omega) hi)
  have h5:W0*2 ^ J≤(k+63)*2 ^ J:=Nat.mul_le_mul_right _ hW0
  have h6:513*2 ^ J≤k*2 ^ J:=Nat.mul_le_mul_right _ (by omega)
  have h7:2 ^ 1≤2 ^ J:=Nat.pow_le_pow_right (by omega) (by omega)
  rw [Nat.add_mul] at h5
  omega
 ·have h4:W0*2 ^ J≤W:=by
   rw [hW]
   exact Nat.mul_le_mul_left _ (Nat.pow_le_pow_right (by omega) hi)
  have h5:k*2 ^ J≤W0*2 ^ J:=Nat.mul_le_mul_right _ hk
  omega

def PSt (base F t n:Nat)(w:World)(v:Value)(l:List (Nat × Value × Nat)):Prop:=w.ownsRow base 82 3 v l.length (ar l)∧∀p ∈ l,kb w v.ownBlock F t n p

theorem j5 {w w':World}{base sz m:Nat}{e:TypeId}{v:Value}{xs:List Value}(h:w.ownsRow base e sz v m xs)(hb:Below w.heap.size w w'):w'.ownsRow base e sz v m xs:=by
 obtain⟨h1,h2⟩:=h
 refine⟨h1,?_⟩
 rcases h2 with h2|⟨g,cap,cur,hv,hg,hh,r⟩
 ·exact .inl h2
 ·exact .inr ⟨g,cap,cur,hv,hg,by rw [hb.block g (lt_of_block hh)];exact hh,r⟩

theorem cF {w:World}{base sz m:Nat}{e:TypeId}{v:Value}{xs:List Value}(h:w.ownsRow base e sz v m xs):∀g,v.ownBlock=some g→g<w.heap.size:=by
 obtain⟨h1,h2⟩:=h
 intro g hg
 rcases h2 with ⟨rfl,_⟩|⟨g',cap,cur,rfl,_,hh,_⟩
 ·cases hg
 ·simp [Value.ownBlock] at hg
  subst hg
  exact lt_of_block hh

theorem ee {w:World}{base sz m:Nat}{e:TypeId}{v:Value}{xs:List Value}(h:w.ownsRow base e sz v m xs):∀g,v.ownBlock=some g→base≤g:=by
 obtain⟨h1,h2⟩:=h
 intro g hg
 rcases h2 with ⟨rfl,_⟩|⟨g',cap,cur,rfl,hge,_⟩
 ·cases hg
 ·simp [Value.ownBlock] at hg
  subst hg
  exact hge

theorem PSt.below {base F t n:Nat}{w w':World}{v:Value}{l:List (Nat × Value × Nat)}(h:PSt base F t n w v l)(hb:Below w.heap.size w w'):PSt base F t n w' v l:=by
 refine⟨j5 h.1 hb,fun p hp=>?_⟩
 obtain⟨O,h1,h2⟩:=h.2 p hp
 exact⟨O,h1.below hb,h2⟩

theorem PSt.step {base F t n:Nat}{w w':World}{v v':Value}{l:List (Nat × Value × Nat)}{o:Obj}{d s bo:Nat}{vo:Value}{O:List Nat}(h:PSt base F t n w v l)(ho:Ans w bo vo O)(hv:∀g,v.ownBlock=some g→g<bo)
  (hval:val O=F ^ d) (hs:64*s=t*d) (h1:2≤d) (h2:d+2≤n) (hl:O.length≤1048576) (hb:blen (val O)≤67108864)
  (hown:w'.ownsRow base 82 3 v' (l.length+1) (ar l ++ [.int .i64 d,vo,.int .i64 s])) (hgrow:(w.alloc o).grownBy w' v.ownBlock) (hat:v'.ownBlock=v.ownBlock∨v'.ownBlock=some (w.alloc o).heap.size):PSt base F t n w' v' (l ++ [(d,vo,s)]):=by
 have hal:Below w.heap.size w (w.alloc o):=ag w o
 have key:∀(u:Value) (B0:Nat) (U:List Nat),Ans w B0 u U→(u.ownBlock=none∨u.ownBlock≠v.ownBlock)→Ans w' B0 u U∧(u.ownBlock=none∨u.ownBlock≠v'.ownBlock):=by
  intro u B0 U hu hne
  refine⟨(hu.below hal).grown5 hgrow hne,?_⟩
  rcases hat with e|e
  ·rw [e];exact hne
  ·rcases hub:u.ownBlock with _|g
   ·exact .inl rfl
   ·have:=(fG hu hub).2
    rw [e]
    refine .inr fun h=>?_
    have h:=Option.some.inj h
    have:=hal.size
    omega
 refine⟨by rw [gE,List.length_append];exact hown,fun p hp=>?_⟩
 rcases List.mem_append.1 hp with hp|hp
 ·obtain⟨U,q1,q2,q3,q4,q5,q6,q7,q8⟩:=h.2 p hp
  obtain⟨r1,r2⟩:=key _ _ _ q1 q8
  exact⟨U,r1,q2,q3,q4,q5,q6,q7,r2⟩
 ·simp at hp
  subst hp
  obtain⟨r1,r2⟩:=key vo bo O ho (by
   rcases hub:vo.ownBlock with _|g
   ·exact .inl rfl
   ·refine .inr fun h=>?_
    have h3:=hv g h.symm
    have h4:=(fG ho hub).1
    omega)
  exact⟨O,r1.base (Nat.zero_le _),hval,hs,h1,h2,hl,hb,r2⟩

theorem PSt.ok {base F t n b:Nat}{w:World}{v:Value}{l:List (Nat × Value × Nat)}(h:PSt base F t n w v l)(hb:b=2 ^ t*F)(hF:1≤F)(ht:t≤5)(hn:n≤1125899906842624):∀p ∈ l,br w b n p:=by
 intro p hp
 obtain⟨O,q1,q2,q3,q4,q5,q6,q7,_⟩:=h.2 p hp
 have hA:=q1.arg (by omega)
 obtain⟨a,c,e,_,_,_⟩:=hA.form
 have hts:t*p.1≤5*p.1:=Nat.mul_le_mul_right _ ht
 refine⟨a,O,c,e,hA,?_,q4,q5,?_,q6,q7,by omega⟩
 ·rw [q2,hb,Nat.mul_pow,←Nat.pow_mul,←q3,Nat.pow_mul]
 ·rw [q2]
  exact Nat.pos_iff_ne_zero.1 (Nat.pow_pos (by omega))

theorem PSt.at {base F t n b:Nat}{w:World}{v:Value}{l:List (Nat × Value × Nat)}(h:PSt base F t n w v l)(hb:b=2 ^ t*F)(hF:1≤F)(ht:t≤5)(hn:n≤1125899906842624):aV w v l:=by
 refine gh h.1 (fun p hp=>?_)
 obtain⟨a,O,c,e,_,_,_,q,_,_,_,r⟩:=h.ok hb hF ht hn p hp
 exact⟨by omega,by omega,a,_,c,e⟩

theorem PSt.pows {base F t n b:Nat}{w:World}{v:Value}{l:List (Nat × Value × Nat)}(h:PSt base F t n w v l)(hb:b=2 ^ t*F)(hF:1≤F)(ht:t≤5)(hn:n≤1125899906842624):aQ w v b n:=
 ⟨l,h.at hb hF ht hn,h.ok hb hF ht hn⟩

theorem e9 {w:World}(l:List Value)(t:TypeId)(j:Nat)(u:Value)(hj:l[j]?=some u):(w.alloc (.cells l.toArray t)).cell? ((⟨w.heap.size,0,none⟩:Addr).add j)=some u:=by
 have e:(⟨w.heap.size,0,none⟩:Addr).add j=⟨w.heap.size,j,none⟩:=by
  unfold Addr.add;split <;> simp_all
 rw [e]
 simp only [World.cell?,heap_alloc_new]
 simpa using hj

theorem dG (b n:Nat)(w:World)(hT:Tab w)(hb:2≤b)(hb2:b≤36)(hn:n≤1125899906842624) :
  Calls Tryz.prog 54 #[.int .i64 b,.int .i64 n] w fun e w'=>(∃v,e=.returned v∧aQ w' v b n)∧Below w.heap.size w w':=by
 obtain⟨t,htl,ht5⟩:=fS b hb hb2
 obtain⟨F,hF⟩:∃F,b / 2 ^ t=F:=⟨_,rfl⟩
 have hbF:b=2 ^ t*F:=by rw [←hF];exact (Nat.mul_div_cancel' (Nat.dvd_of_mod_eq_zero htl.1)).symm
 have hF1:1≤F:=by
  rcases Nat.eq_zero_or_pos F with h|h
  ·rw [h] at hbF;omega
  ·exact h
 have hF2:F≤36:=by rw [←hF];exact Nat.le_trans (Nat.div_le_self _ _) hb2
 have HLN:=fun W=>Tryz.bits_Len (F:Int) W (by omega) (by omega)
 simp only [Int.toNat_natCast] at HLN
 obtain⟨K,hK⟩:∃K,Lib.bitLen F=K:=⟨_,rfl⟩
 have hKF:F<2 ^ K:=by rw [←hK];exact (Lib.bitLenAux_bounds 64 F (by omega) (by omega)).2.2
 have hK6:K≤6:=by rw [←hK];exact Lib.bitLen_le F 6 (by omega) (by omega)
 have hK1:1≤K:=by
  rcases Nat.eq_zero_or_pos K with h|h
  ·rw [h] at hKF;omega
  ·exact h
 rw [hK] at HLN
 obtain⟨i0,hi,hz0,hz1,hz2⟩:=info_parts lN
 have HT:=aa hT
 have HBF:=aa hbF
 have HKF:=aa hKF
 have HTL:=aa htl
 have HLN2:=aa HLN
 have hsh:(b:Int) / 2 ^ t=(F:Int):=by rw [←hF];simp
 have t64:t<64:=by omega
 obtain⟨Q,hQ,hQK⟩:∃Q:Nat,(67108864:Int).tdiv (K:Int)=(Q:Int)∧Q*K≤67108864:=⟨67108864 / K,by rfl,Nat.div_mul_le_self _ _⟩
 have HQK:=aa hQK
 have kz:((K:Int) == 0)=false:=by rw [beq_eq_false_iff_ne];omega
 have hQ67:Q≤67108864:=Nat.le_trans (Nat.le_mul_of_pos_right _ (by omega)) hQK
 clear hbF hKF htl hT hF hK hQK HLN
 go_enter Tryz.func54,Tryz.ntmps54
 go_wp2
 go_loopw [5] (fun i wr=>∃k J:Nat,i=.int .i64 k∧k≤n∧(1≤n→1≤k)∧(n≤k*2 ^ J∧k*2 ^ J<n+2 ^ J∧(J=0∨512<k))∧Below w.heap.size w wr) (fun i _=>(intOf i).toNat)
 case atStart=>exact⟨n,0,rfl,Nat.le_refl _,fun h=>h,⟨by simp,by simp,.inl rfl⟩,Below.refl _ _⟩
 case round=>
  obtain⟨k,J,rfl,hk,hk1,hJ,hbr⟩:=hrel
  by_cases hk10:1024<k
  ·have i1:(1024:Int)<(k:Int):=by omega
   obtain⟨k9,hk9⟩:∃k9:Nat,(k:Int)+1=(k9:Int):=⟨k+1,by omega⟩
   obtain⟨q,hq,hq2⟩:∃q:Nat,((k9:Nat):Int).tdiv 2=(q:Int)∧q=k9 / 2:=⟨k9 / 2,rfl,rfl⟩
   have hql:q<k∧1≤q:=by omega
   have HJ:Hid (n≤q*2 ^ (J+1)∧q*2 ^ (J+1)<n+2 ^ (J+1)∧(J+1=0∨512<q)):=aa (by
    obtain⟨j1,j2,_⟩:=hJ
    have e1:q*2 ^ (J+1)=2*q*2 ^ J:=by rw [Nat.pow_succ,Nat.mul_comm (2 ^ J) 2,←Nat.mul_assoc,Nat.mul_comm q 2]
    have e2:2 ^ (J+1)=2*2 ^ J:=by rw [Nat.pow_succ,Nat.mul_comm]
    have e3:k*2 ^ J≤2*q*2 ^ J:=Nat.mul_le_mul_right _ (by omega)
    have e4:2*q*2 ^ J≤(k+1)*2 ^ J:=Nat.mul_le_mul_right _ (by omega)
    rw [Nat.add_mul,Nat.one_mul] at e4
    rw [e1,e2]
    exact⟨by omega,by omega,.inr (by omega)⟩)
   have HBR:=aa hbr
   have HQ2:=aa hq2
   have HK1:=aa hk1
   clear hbr hk1 hq2 hJ
   go_wp2
   go_roundw
   case rel=>exact⟨q,J+1,rfl,by omega,fun _=>by omega,HJ.out,HBR.out⟩
   case measure=>simp [intOf];omega
  ·have i1:¬(1024:Int)<(k:Int):=by omega
   obtain⟨k4,hk4⟩:∃k4:Nat,(k:Int)+64=(k4:Int):=⟨k+64,by omega⟩
   obtain⟨k3,hk3⟩:∃k3:Nat,(k4:Int) - 1=(k3:Int):=⟨k4 - 1,by omega⟩
   obtain⟨q,hq,hq2⟩:∃q:Nat,((k3:Nat):Int).tdiv 64=(q:Int)∧q=k3 / 64:=⟨k3 / 64,rfl,rfl⟩
   obtain⟨W0,hW0⟩:∃W0:Nat,(q:Int)*64=(W0:Int):=⟨q*64,by omega⟩
   have hqb:q≤16:=by omega
   have hWb:W0≤1024:=by omega
   have hW9:W0≤2000∧(1≤n→64≤W0)∧W0 % 64=0:=by omega
   have T1:=tzb b t wr hb2 HTL.out (HT.out.below hbr)
   have L1:=HLN2.out wr
   obtain⟨mo,hmo,hmo1,hmo2⟩:∃mo:Int,min ((n:Int) - 1) (Q:Int)=mo∧mo≤(n:Int) - 1∧mo≤Q:=⟨_,rfl,by omega,by omega⟩
   have HBR:=aa hbr
   have HW9:=aa hW9
   have HRM:Hid (∀i W,W=W0*2 ^ i→W+1≤n→W+2≤n):=aa (fun i W e h=>gz hJ.1 hJ.2.1 hJ.2.2 (by omega) (by omega) e h)
   clear hbr hk1 hW9 hq2 hJ
   go_wp2_with fail
   refine T1.mono ?_
   rintro e wn ⟨rfl,hw⟩;rw [hw];clear hw wn T1
   go_wp2_with fail
   refine L1.mono ?_
   rintro e wn ⟨rfl,hw⟩;rw [hw];clear hw wn L1
   go_wp2
   go_loopw [9,10] (fun v i wr=>∃(l:List (Nat × Value × Nat)) (W:Nat) (av:Option Addr) (cv:Nat),v=.slice av l.length cv∧i=.int .i64 W∧PSt w.heap.size F t n wr (.slice av l.length cv) l∧W % 64=0∧(1≤n→64≤W)∧(∃i,W=W0*2 ^ i)∧W≤134217728∧l.length≤W∧(l=[]∨∃l0 d ol s0,l=l0 ++ [(d,ol,s0)]∧W=2*d)∧Below w.heap.size w wr) (fun _ i _=>134217729 - (intOf i).toNat)
   case atStart=>exact⟨[],W0,none,0,rfl,rfl,⟨World.ownsRow_nil _ _ _ _,fun p hp=>by cases hp⟩,HW9.out.2.2,HW9.out.2.1,⟨0,by simp⟩,by have:=HW9.out.1;omega,Nat.zero_le _,.inl rfl,HBR.out⟩
   case round=>
    obtain⟨l,W,av,cv,rfl,rfl,hP,hW64,hW1,⟨pi,hpi⟩,hW2,hlW,hlast,hbr2⟩:=hrel
    have HBR2:=aa hbr2
    clear hbr2 HBR HW9 hk4 hk3 hq hW0
    by_cases hWm:(W:Int)≤mo
    ·have hn1:1≤n:=by omega
     have hW3:=hW1 hn1
     have hWn:W+2≤n:=HRM.out pi W hpi (by omega)
     have HPI:Hid (∀U:Nat,U=W*2→∃i,U=W0*2 ^ i):=aa (fun U hU=>⟨pi+1,by rw [hU,hpi,Nat.pow_succ,Nat.mul_assoc]⟩)
     clear hpi
     have hWQ:W≤Q:=by omega
     have hbl:blen (F ^ W)≤67108864:=by
      have h1:F ^ W<2 ^ (K*W):=by rw [Nat.pow_mul];exact Nat.pow_lt_pow_left HKF.out (by omega)
      have h2:=(blen_le_iff _ _).2 h1
      have h3:K*W≤K*Q:=Nat.mul_le_mul_left _ hWQ
      have h4:=HQK.out
      rw [Nat.mul_comm] at h4
      omega
     obtain⟨m9,hm9⟩:∃m9,W=64*m9:=⟨W / 64,by omega⟩
     obtain⟨s,hs⟩:∃s,64*s=t*W:=⟨t*m9,by rw [hm9,Nat.mul_left_comm]⟩
     clear hm9
     have hsb:t*W≤5*W:=Nat.mul_le_mul_right _ ht5
     obtain⟨TW,hTW,hTW2⟩:∃TW:Nat,(t:Int)*(W:Int)=(TW:Int)∧TW=t*W:=⟨t*W,by simp,rfl⟩
     have hTs:(TW:Int).tdiv 64=(s:Int):=by rw [hTW2,←hs];show ((64*s / 64:Nat):Int)=_;rw [Nat.mul_div_cancel_left _ (by omega)]
     have hTW5:TW≤671088640:=by omega
     obtain⟨W2,hW2i⟩:∃W2:Nat,(W:Int)*2=(W2:Int):=⟨W*2,by omega⟩
     have hs9:s≤671088640:=by omega
     clear hTW2
     rcases hlast with hl0|⟨l0,d,ol,s0,hl0,hd⟩
     ·have hlz:((l.length:Int) == 0)=true:=by rw [hl0];rfl
      clear hl0
      have C1:=bF F wr (by omega)
      go_wp2_with fail
      refine C1.mono ?_
      rintro e w1 ⟨⟨v1,rfl,A1⟩,hb1⟩
      have hl1:(tr [F]).length≤1:=tr_length_le [F]
      have C2:=dz v1 (tr [F]) W w1 (A1.arg (by omega)) ((HT.out.below HBR2.out).below hb1) (by omega) (by omega)
      rw [show val (tr [F])=F by rw [val_tr];simp [val]] at C2
      clear C1 A1
      go_wp2_with fail
      refine C2.mono ?_
      rintro e w2 ⟨hb2,vo,c,O,rfl,AO,hcase⟩
      rcases hcase with ⟨rfl,hvO,hno,_⟩|⟨_,_,hbad⟩
      ·have hbq:=bt5 hb1 hb2
       have hb1s:=hb1.size
       clear C2 hb1 hb2
       have hOl:O.length≤1048576:=bf hno (by rw [hvO];exact hbl)
       obtain⟨ao,co,rfl,_,_,_⟩:=(AO.arg (by omega)).form
       have hPq:=hP.below hbq
       have hPO:=aa hPq.1
       have hQB:w.heap.size≤w2.heap.size:=Nat.le_trans HBR2.out.size hbq.size
       have HST:=aa (fun (v':Value) (w':World) (h1:w'.ownsRow w.heap.size 82 3 v' (l.length+1) (ar l ++ [.int .i64 W,.slice ao O.length co,.int .i64 s])) (h2:(w2.alloc (.cells #[.int .i64 W,.slice ao O.length co,.int .i64 s] 82)).grownBy w' (Value.slice av l.length cv).ownBlock) (h3:v'.ownBlock=(Value.slice av l.length cv).ownBlock∨v'.ownBlock=some (w2.alloc (.cells #[.int .i64 W,.slice ao O.length co,.int .i64 s] 82)).heap.size)=>hPq.step AO (fun g hg=>Nat.lt_of_lt_of_le (cF hP.1 g hg) hb1s) hvO hs (by omega) hWn hOl (by rw [hvO];exact hbl) h1 h2 h3)
       have HLT:=aa (fun g hg=>(cF hP.1 g hg))
       have HBQ:=aa (HBR2.out.trans (hbq.mono HBR2.out.size))
       have HVB:Hid (∀g,(Value.slice av l.length cv).ownBlock=some g→w.heap.size≤g):=aa (ee hP.1)
       clear hP hPq AO hbq hvO hno
       go_wp2_with (at_builtin;refine wpList_append_own_at _ rfl _ _ 78 rfl w.heap.size 82 i0 (.agg #[.int .i64 0,.slice none 0 0,.int .i64 0]) 3 40 Tryz.underlying78 hi hz0 hz1 hz2 rfl (by decide) (.slice av l.length cv) l.length (ar l) rfl (hPO.out.alloc _) ⟨w2.heap.size,0,none⟩ 1 1 [.int .i64 W,.slice ao O.length co,.int .i64 s] rfl rfl (e9 [.int .i64 W,.slice ao O.length co,.int .i64 s] 82) (by intro u hu;simp at hu;rcases hu with rfl|rfl|rfl <;> rfl) (by unfold maxLen;omega) (by omega) (by simp;omega) ?_;intro v' w' hown hgrow _ hat)
       have hst:=HST.out v' w' hown hgrow hat
       have HS9:=aa hst
       have HB9:Hid (Below w.heap.size w w'):=aa ((HBQ.out.alloc hQB _).grown hgrow (by simp;omega) HVB.out)
       clear hown hgrow hat hst HST hPO
       go_wp2
       go_roundw
       case rel=>
        obtain⟨a9,c9,he9⟩:∃a9 c9,v'=.slice a9 (l ++ [(W,Value.slice ao O.length co,s)]).length c9:=by
         rcases HS9.out.1.2 with ⟨h1,h2⟩|⟨g,cap,cur,h1,_⟩
         ·exact⟨none,0,by rw [h1,h2]⟩
         ·exact⟨_,_,h1⟩
        subst he9
        exact⟨l ++ [(W,.slice ao O.length co,s)],W2,a9,c9,rfl,rfl,HS9.out,by omega,fun _=>by omega,HPI.out W2 (by omega),by omega,by simp;omega,.inr ⟨l,W,_,s,rfl,by omega⟩,HB9.out⟩
       case measure=>simp [intOf];omega
      ·exact absurd hbad (by omega)
     ·have hlen:l.length=l0.length+1:=by rw [hl0];simp
      have hat:=hP.at HBF.out hF1 ht5 hn
      rcases hat with ⟨_,h0⟩|⟨g,cap,he,hgl,hle,hcm,hrow⟩
      ·rw [h0] at hlen;simp at hlen
      ·cases he
       have hmem:(d,ol,s0) ∈ l:=by rw [hl0];simp
       obtain⟨q1,q2,q3,q4⟩:=hrow l0.length d ol s0 (by rw [hl0];simp)
       obtain⟨O0,AO0,hv0,_,_,_,hO0l,_,_⟩:=hP.2 _ hmem
       obtain⟨a1,c1,hol,_,_,_⟩:=(AO0.arg (by omega)).form
       replace hol:ol=.slice a1 O0.length c1:=hol
       subst hol
       have C2:=dN _ O0 wr (AO0.arg (by omega)) (HT.out.below HBR2.out) (by omega)
       rw [hv0,show F ^ (d,Value.slice a1 O0.length c1,s0).1=F ^ d from rfl,←Nat.pow_add,show d+d=W by omega] at C2
       obtain⟨j,hj,hji⟩:∃j:Nat,j=l0.length∧(l.length:Int) - 1=(j:Int):=⟨l0.length,rfl,by omega⟩
       rw [←hj] at q2
       have hjl:j<l.length:=by omega
       have hlz:((l.length:Int) == 0)=false:=by rw [beq_eq_false_iff_ne];omega
       have hl9:l.length≤9223372036854775807:=by omega
       have HL0:=aa hl0
       clear AO0 hv0 hl0 hmem hrow q1 q3 q4 hj hlen hgl hd
       go_wp2_with fail
       refine C2.mono ?_
       rintro e w2 ⟨hb2,vo,c,O,rfl,AO,hcase⟩
       rcases hcase with ⟨rfl,hvO,hno,_⟩|⟨_,_,hbad⟩
       ·have hbq:=hb2
        clear C2 hb2
        have hOl:O.length≤1048576:=bf hno (by rw [hvO];exact hbl)
        obtain⟨ao,co,rfl,_,_,_⟩:=(AO.arg (by omega)).form
        have hPq:=hP.below hbq
        have hPO:=aa hPq.1
        have hQB:w.heap.size≤w2.heap.size:=Nat.le_trans HBR2.out.size hbq.size
        have HST:=aa (fun (v':Value) (w':World) (h1:w'.ownsRow w.heap.size 82 3 v' (l.length+1) (ar l ++ [.int .i64 W,.slice ao O.length co,.int .i64 s])) (h2:(w2.alloc (.cells #[.int .i64 W,.slice ao O.length co,.int .i64 s] 82)).grownBy w' (Value.slice (some ⟨g,0,none⟩) l.length cv).ownBlock) (h3:v'.ownBlock=(Value.slice (some ⟨g,0,none⟩) l.length cv).ownBlock∨v'.ownBlock=some (w2.alloc (.cells #[.int .i64 W,.slice ao O.length co,.int .i64 s] 82)).heap.size)=>hPq.step AO (fun g hg=>Nat.lt_of_lt_of_le (cF hP.1 g hg) (Nat.le_refl _)) hvO hs (by omega) hWn hOl (by rw [hvO];exact hbl) h1 h2 h3)
        have HLT:=aa (fun g hg=>(cF hP.1 g hg))
        have HBQ:=aa (HBR2.out.trans (hbq.mono HBR2.out.size))
        have HVB:Hid (∀g8,(Value.slice (some ⟨g,0,none⟩) l.length cv).ownBlock=some g8→w.heap.size≤g8):=aa (ee hP.1)
        clear hP hPq AO hbq hvO hno
        go_wp2_with (at_builtin;refine wpList_append_own_at _ rfl _ _ 78 rfl w.heap.size 82 i0 (.agg #[.int .i64 0,.slice none 0 0,.int .i64 0]) 3 40 Tryz.underlying78 hi hz0 hz1 hz2 rfl (by decide) (.slice (some ⟨g,0,none⟩) l.length cv) l.length (ar l) rfl (hPO.out.alloc _) ⟨w2.heap.size,0,none⟩ 1 1 [.int .i64 W,.slice ao O.length co,.int .i64 s] rfl rfl (e9 [.int .i64 W,.slice ao O.length co,.int .i64 s] 82) (by intro u hu;simp at hu;rcases hu with rfl|rfl|rfl <;> rfl) (by unfold maxLen;omega) (by omega) (by simp;omega) ?_;intro v' w' hown hgrow _ hat)
        have hst:=HST.out v' w' hown hgrow hat
        have HS9:=aa hst
        have HB9:Hid (Below w.heap.size w w'):=aa ((HBQ.out.alloc hQB _).grown hgrow (by simp;omega) HVB.out)
        clear hown hgrow hat hst HST hPO
        go_wp2
        go_roundw
        case rel=>
         obtain⟨a9,c9,he9⟩:∃a9 c9,v'=.slice a9 (l ++ [(W,Value.slice ao O.length co,s)]).length c9:=by
          rcases HS9.out.1.2 with ⟨h1,h2⟩|⟨g,cap,cur,h1,_⟩
          ·exact⟨none,0,by rw [h1,h2]⟩
          ·exact⟨_,_,h1⟩
         subst he9
         exact⟨l ++ [(W,.slice ao O.length co,s)],W2,a9,c9,rfl,rfl,HS9.out,by omega,fun _=>by omega,HPI.out W2 (by omega),by omega,by simp;omega,.inr ⟨l,W,_,s,rfl,by omega⟩,HB9.out⟩
        case measure=>simp [intOf];omega
       ·exact absurd hbad (by omega)
    ·have HP9:=aa (hP.pows HBF.out hF1 ht5 hn)
     clear hP hlast hpi
     go_wp2
     go_ret
     exact⟨⟨_,rfl,HP9.out⟩,HBR2.out⟩

theorem ak {w w':World}{g:Nat}{v:Value}(hb:Below w.heap.size w w')(h:w.cell? ⟨g,0,none⟩=some v):w'.cell? ⟨g,0,none⟩=some v:=by
 rw [hb.cell (p:=⟨g,0,none⟩) ?_]
 ·exact h
 ·rcases Nat.lt_or_ge g w.heap.size with h' | h'
  ·exact h'
  ·simp [World.cell?,Array.getElem?_eq_none h'] at h

theorem be {w w':World}{gd:Nat}{D:List Nat}(hB:Byt w gd D)(hf:Fr gd w w'){b k:Nat}{u:Value}(h:w.cell? ⟨b,k,none⟩=some u)(hu:∀z,u≠.int .u8 z):w'.cell? ⟨b,k,none⟩=some u:=by
 have hbl:b<w.heap.size:=by
  rcases Nat.lt_or_ge b w.heap.size with h' | h'
  ·exact h'
  ·simp [World.cell?,Array.getElem?_eq_none h'] at h
 by_cases hb:b=gd
 ·subst hb
  exfalso
  have hh:w.heap[b]?=some (.cells (D.map bv).toArray 5 (0,0)):=hB
  simp only [World.cell?,hh] at h
  simp only [List.getElem?_toArray,List.getElem?_map] at h
  obtain⟨z,_,rfl⟩:=Option.map_eq_some_iff.1 h
  exact hu _ rfl
 ·rw [World.cell?_of_block (a:=⟨b,k,none⟩) (hf.block b hbl hb)];exact h

theorem Arg.fr5 {w w':World}{gd:Nat}{D X:List Nat}{v:Value}(h:Arg w v X)(hB:Byt w gd D)(hf:Fr gd w w'):Arg w' v X:=by
 obtain⟨ao,cap,h1,h2,h3,h4⟩:=h.form
 refine⟨⟨ao,cap,h1,h2,h3,?_⟩,h.limbs,h.few,h.nz⟩
 rcases h4 with h4|⟨b,off,rfl,hc⟩
 ·exact .inl h4
 ·exact .inr ⟨b,off,rfl,fun k hk=>be hB hf (hc k hk) (fun z e=>by cases e)⟩

theorem br.fr5 {w w':World}{gd b n:Nat}{D:List Nat}{p:Nat × Value × Nat}(h:br w b n p)(hB:Byt w gd D)(hf:Fr gd w w'):br w' b n p:=by
 obtain⟨a,O,c,h1,h2,h3⟩:=h
 exact⟨a,O,c,h1,h2.fr5 hB hf,h3⟩

theorem aV.fr5 {w w':World}{gd:Nat}{D:List Nat}{v:Value}{l:List (Nat × Value × Nat)}(h:aV w v l)(hB:Byt w gd D)(hf:Fr gd w w'):aV w' v l:=by
 rcases h with h|⟨g,cap,h1,h2,h3,h4,h5⟩
 ·exact .inl h
 ·refine .inr ⟨g,cap,h1,Nat.lt_of_lt_of_le h2 hf.size,h3,h4,fun i d o s hi=>?_⟩
  obtain⟨q1,q2,q3,q4,q5,a,n',c,rfl⟩:=h5 i d o s hi
  exact⟨be hB hf q1 (fun z e=>by cases e),be hB hf q2 (fun z e=>by cases e),be hB hf q3 (fun z e=>by cases e),q4,q5,a,n',c,rfl⟩

theorem aQ.fr5 {w w':World}{gd b n:Nat}{D:List Nat}{v:Value}(h:aQ w v b n)(hB:Byt w gd D)(hf:Fr gd w w'):aQ w' v b n:=by
 obtain⟨l,h1,h2⟩:=h
 exact⟨l,h1.fr5 hB hf,fun p hp=>(h2 p hp).fr5 hB hf⟩

theorem Tab.fr5 {w w':World}{gd:Nat}(h:Tab w)(hf:Fr gd w w')(hne:0≠gd):Tab w':=
 ⟨Nat.lt_of_lt_of_le h.1 hf.size,fun i hi=>by rw [World.cell?_of_block (a:=⟨0,i,none⟩) (hf.block _ h.1 hne)];exact h.2 i hi⟩

theorem aE.both {b x o h d n:Nat}{D D1 D2:List Nat}(hn:n=h+d)(h1:aE b (x / b ^ d) o h 0 D D1)(h2:aE b (x % b ^ d) (o+h) d 0 D1 D2):aE b x o n 0 D D2:=by
 refine⟨h2.len.trans h1.len,fun i _ hi=>?_,fun k hk=>?_⟩
 ·by_cases hih:i<h
  ·rw [h2.same (o+i) (.inl (by omega)),h1.digs i (Nat.zero_le _) hih,Nat.div_div_eq_div_mul,←Nat.pow_add,show d+(h - 1 - i)=n - 1 - i by omega]
  ·obtain⟨j,rfl⟩:∃j,i=h+j:=⟨i - h,by omega⟩
   rw [←Nat.add_assoc,h2.digs j (Nat.zero_le _) (by omega)]
   have e:=dM x b 0 d (d - 1 - j) (by omega)
   rw [Nat.zero_mul,Nat.pow_zero,Nat.div_one,Nat.zero_add] at e
   rw [e,show d - 1 - j=n - 1 - (h+j) by omega]
 ·rw [h2.same k (by omega),h1.same k (by omega)]

theorem dw (gl gb gw gd b N:Nat)(vl:Value)(hb:2≤b)(hb2:b≤36)(hNB:b ^ (N - 1)<18446744073709551616 ^ 1048576)(htab:0≠gd):∀(M n o cap:Nat) (D:List Nat) (va:Value) (X:List Nat) (w:World),n<M →
  Byt w gd D→o+n≤D.length→n≤cap→cap≤9223372036854775807→n≤N→Arg w va X→X.length≤1048576→((∃b' off c,va=.slice (some ⟨b',off,none⟩) X.length c)∨n≤1)→Tab w →
  w.cell? ⟨gl,0,none⟩=some vl→w.cell? ⟨gb,0,none⟩=some (.int .i64 b)→w.cell? ⟨gw,0,none⟩=some (.func (.func 55) #[] #[.pointer (some ⟨gl,0,none⟩),.pointer (some ⟨gb,0,none⟩),.pointer (some ⟨gw,0,none⟩)])→(∀z,vl≠.int .u8 z)→aQ w vl b N →
  Calls Tryz.prog 55 #[.slice (some ⟨gd,o,none⟩) n cap,va,.pointer (some ⟨gl,0,none⟩),.pointer (some ⟨gb,0,none⟩),.pointer (some ⟨gw,0,none⟩)] w (d5 b (val X) o n gd D w)
 | 0,n,o,cap,D,va,X,w,h,_,_,_,_,_,_,_,_,_,_,_,_,_,_=>absurd h (Nat.not_lt_zero n)
 | M+1,n,o,cap,D,va,X,w,hM,hD,ho,hnc,hcm,hnN,hA,hXl,hpl,hT,cl,cb,cw,hvl,hP=>by
  have HPP:=aa hP
  obtain⟨l,hPA,hPO⟩:=hP
  have C:=df vl n l w hPA
  have HD:=aa hD
  have HA:=aa hA
  have HT:=aa hT
  have HPA:=aa hPA
  have HPO:=aa hPO
  clear hD hA hT hPA hPO
  go_enter Tryz.func55,Tryz.ntmps55
  go_wp2_with fail
  refine C.mono ?_
  rintro e w1 ⟨hcase,hb1⟩
  rcases hcase with ⟨i,d,ov,s,hli,hdn,_,he⟩|⟨_,he⟩
  ·obtain⟨a1,O,c1,hov,hAO,hpw,hd1,hdN,hO0,hOl,hOb,hs9⟩:=HPO.out _ (List.mem_of_getElem? hli)
   replace hov:ov=.slice a1 O.length c1:=hov
   replace hAO:Arg w ov O:=hAO
   replace hpw:18446744073709551616 ^ s*val O=b ^ d:=hpw
   replace hd1:1≤d:=Nat.le_of_succ_le hd1
   replace hdN:d<N:=Nat.lt_of_lt_of_le (Nat.lt_add_of_pos_right (by omega)) hdN
   replace hs9:s≤1125899906842624:=hs9
   subst hov
   subst he
   obtain⟨b',off,c,rfl⟩:∃b' off c,va=.slice (some ⟨b',off,none⟩) X.length c:=by
    rcases hpl with h|h
    ·exact h
    ·omega
   have hpB:18446744073709551616 ^ s*val O<18446744073709551616 ^ 1048576:=by
    rw [hpw]
    exact Nat.lt_of_le_of_lt (Nat.pow_le_pow_right (by omega) (by omega)) hNB
   have hs1:s≤1048576:=by
    have h1:18446744073709551616 ^ s≤18446744073709551616 ^ s*val O:=Nat.le_mul_of_pos_right _ (by omega)
    exact Nat.le_of_lt ((Nat.pow_lt_pow_iff_right (by omega)).1 (Nat.lt_of_le_of_lt h1 hpB))
   obtain⟨w2,hw2⟩:∃W,w1.alloc (.cells #[.int .i64 d,.slice a1 O.length c1,.int .i64 s] 82)=W:=⟨_,rfl⟩
   have hb2':Below w1.heap.size w1 w2:=by rw [←hw2];exact ag _ _
   have hx2:w2.heap[w1.heap.size]?=some (.cells #[.int .i64 d,.slice a1 O.length c1,.int .i64 s] 82):=by rw [←hw2];exact heap_alloc_new ..
   have hB2:=bt5 hb1 hb2'
   obtain⟨k0,k1,k2⟩:=tri hx2
   have C2:=kQ d s a1 c1 b' off c O X w2 (hAO.below hB2) (HA.out.below hB2) (HT.out.below hB2) hXl hO0 (by omega) hOb hs1 hpB
   rw [hpw] at C2
   have HX2:=aa hx2
   have HB2:=aa hB2
   clear C hb1 hb2' hx2 hB2 hAO hpw hpB hO0 hOb hs9 HPO HPA hli
   go_wp2_with fail
   refine C2.mono ?_
   rintro e w3 ⟨⟨g1,n1,e1,g2,n2,e2,H,Lw,hgg,rfl,AH,AL,hvH,hvL,hHl,hLl⟩,hb3⟩
   obtain⟨h,hh,hhi⟩:∃h:Nat,n=h+d∧(n:Int) - (d:Int)=(h:Int):=⟨n - d,by omega,by omega⟩
   have hB3:=bt5 HB2.out hb3
   have hc3:=(hb3.block w1.heap.size (lt_of_block HX2.out)).trans HX2.out
   obtain⟨j0,j1,j2⟩:=tri hc3
   have hn1:n1=H.length:=by obtain⟨_,_,e,_⟩:=AH.form;cases e;rfl
   have hn2:n2=Lw.length:=by obtain⟨_,_,e,_⟩:=AL.form;cases e;rfl
   subst hn1
   subst hn2
   have g3:Below w.heap.size w w3.drew:=hB3.drew
   have hD3:Byt w3.drew gd D:=HD.out.below g3 HD.out.lt
   have hwl:w.heap.size≤w3.heap.size:=hB3.size
   have cw3:w3.drew.cell? ⟨gw,0,none⟩=some (.func (.func 55) #[] #[.pointer (some ⟨gl,0,none⟩),.pointer (some ⟨gb,0,none⟩),.pointer (some ⟨gw,0,none⟩)]):=ak g3 cw
   have I1:=dw gl gb gw gd b N vl hb hb2 hNB htab M h o cap D _ H w3.drew (by omega) hD3 (by omega) (by omega) hcm (by omega) (AH.below (Below.refl _ _).drew) (by omega) (.inl ⟨_,_,_,rfl⟩) (HT.out.below g3) (ak g3 cl) (ak g3 cb) cw3 hvl (HPP.out.below g3)
   have hcap0:¬cap=h:=by omega
   have hhn:h≤n:=by omega
   have hhc:h≤cap:=by omega
   have hnh:n - h=d:=by omega
   have HAL:=aa AL
   have HVV:=aa (And.intro hvH hvL)
   have HD3:=aa hD3
   have HG3:=aa g3
   have HHD:=aa hh
   clear C2 hb3 hB3 hc3 AH AL hvH hvL hD3 g3 HB2 HX2 k0 k1 k2 hh
   go_upto_region 5 with fail
   go_region_held3 (fun w'=>w'.cell? ⟨gw,0,none⟩=some (.func (.func 55) #[] #[.pointer (some ⟨gl,0,none⟩),.pointer (some ⟨gb,0,none⟩),.pointer (some ⟨gw,0,none⟩)])) (first|with_reducible exact cw4|with_reducible exact cw3) (first
    | (go_at_call 55;refine I1.mono ?_;rintro e' w4 ⟨rfl,D1,hD1,hW1,hF1⟩;have cw4:=be HD3.out hF1 cw3 (fun z e=>by cases e)))
   have F4:Fr gd w3.drew w4.drew:=hF1.drew
   have hD4:Byt w4.drew gd D1:=hD1.below (B:=gd+1) ((Below.refl (gd+1) w4).drew) (by omega)
   have cw5:w4.drew.cell? ⟨gw,0,none⟩=some (.func (.func 55) #[] #[.pointer (some ⟨gl,0,none⟩),.pointer (some ⟨gb,0,none⟩),.pointer (some ⟨gw,0,none⟩)]):=be HD3.out F4 cw3 (fun z e=>by cases e)
   have I2:=dw gl gb gw gd b N vl hb hb2 hNB htab M d (o+h) (cap - h) D1 _ Lw w4.drew (by omega) hD4 (by rw [hW1.len];omega) (by omega) (by omega) (by omega) ((HAL.out.below (Below.refl _ _).drew).fr5 HD3.out F4) hLl (.inl ⟨_,_,_,rfl⟩) ((HT.out.below HG3.out).fr5 F4 htab) (be HD3.out F4 (ak HG3.out cl) hvl) (be HD3.out F4 (ak HG3.out cb) (fun z e=>by cases e)) cw5 hvl ((HPP.out.below HG3.out).fr5 HD3.out F4)
   have HD4:=aa hD4
   have HW1:=aa hW1
   have HF4:=aa F4
   clear I1 hF1 hD1 hW1 hD4 F4 cw3 cw4
   go_upto_region 6 with fail
   go_region_held3 (fun w'=>w'.cell? ⟨gw,0,none⟩=some (.func (.func 55) #[] #[.pointer (some ⟨gl,0,none⟩),.pointer (some ⟨gb,0,none⟩),.pointer (some ⟨gw,0,none⟩)])) (first|with_reducible exact cw6|with_reducible exact cw5) (first
    | (go_at_call 55;refine I2.mono ?_;rintro e' w5 ⟨rfl,D2,hD2,hW2,hF2⟩;have cw6:=be HD4.out hF2 cw5 (fun z e=>by cases e)))
   have hfin:aE b (val X) o n 0 D D2:=by
    have q1:=HW1.out
    rw [HVV.out.1] at q1
    rw [HVV.out.2] at hW2
    exact aE.both HHD.out q1 hW2
   have HF:=aa (And.intro hD2 (And.intro hfin ((Fr.of_below (bz:=gd) HG3.out).trans (HF4.out.trans hF2))))
   clear I2 hD2 hW2 hF2 hfin cw5 cw6
   go_wp2
   go_end0
   exact⟨rfl,D2,HF.out⟩
  ·obtain⟨x0,a0,n0,c0,y0,rfl,_⟩:∃(x0:Int) (a0:Option Addr) (n0 c0:Nat) (y0:Int),e=.returned (.tuple #[.agg #[.int .i64 x0,.slice a0 n0 c0,.int .i64 y0],.bool false])∧True:=⟨0,none,0,0,0,he,trivial⟩
   clear he
   obtain⟨w2,hw2⟩:∃W,w1.alloc (.cells #[.int .i64 x0,.slice a0 n0 c0,.int .i64 y0] 82)=W:=⟨_,rfl⟩
   have hb2':Below w1.heap.size w1 w2:=by rw [←hw2];exact ag _ _
   have hB2:=bt5 hb1 hb2'
   have cb2:=ak hB2 cb
   have C2:=kI gd o n cap b D va X w2 (HD.out.below hB2 HD.out.lt) ho hnc hcm (HA.out.below hB2) (by omega) hb hb2
   have HB2:=aa hB2
   clear C hb1 hb2' hB2 HPO HPA
   go_wp2_with fail
   refine C2.mono ?_
   rintro e w3 ⟨rfl,D',hD',hW',hF'⟩
   have HF:=aa (And.intro hD' (And.intro hW' ((Fr.of_below (bz:=gd) HB2.out).trans hF')))
   clear C2 hD' hW' hF'
   go_wp2
   go_end0
   exact⟨rfl,D',HF.out⟩
end Go.Proofs.YtghhnehbpkmhdaaGreatDoor

