/- Package roots: powerAbout, greatest. -/
import Derived.Test.YtiagnfghnfhlnaaGreatDoorB12
import Derived.Test.YtiagnfghnfhlnaaGreatDoorB08
import Derived.Test.YtiagnfghnfhlnaaGreatDoorB01
import Derived.Test.YtiagnfghnfhlnaaGreatDoorB11
import Derived.Deep.RegionHeld3
import Derived.BigQuiet
import Derived.Test.YtiagnfghnfhlnaaGreatDoorB02
set_option maxRecDepth 20000
set_option maxHeartbeats 4000000
namespace Go.Proofs.YtiagnfghnfhlnaaGreatDoor
open Go.RowKit
open Lm
attribute [local go_sem ↓] Go.wp_at_zero Go.wp_at_succ

def AbAt (w:World)(g p c:Nat):Prop:=∃vl vh l h e,w.heap[g]?=some (.cells #[vl,vh,.int .i64 ((e:Nat):Int)] 93)∧Nb w 0 vl l∧Nb w 0 vh h∧Abt p c l h e

theorem AbAt.take {w:World}{g p c:Nat}(h:AbAt w g p c):∃(a1:Option Addr) (m1 k1:Nat) (a2:Option Addr) (m2 k2:Nat) (e:Nat),w.heap[g]?=some (.cells #[.slice a1 m1 k1,.slice a2 m2 k2,.int .i64 (e:Int)] 93)∧Ab w (.agg #[.slice a1 m1 k1,.slice a2 m2 k2,.int .i64 (e:Int)]) p c:=by
 obtain⟨vl,vh,l,h,e,h1,h2,h3,h4⟩:=h
 obtain⟨a1,m1,k1,rfl⟩:=h2.slice
 obtain⟨a2,m2,k2,rfl⟩:=h3.slice
 exact⟨a1,m1,k1,a2,m2,k2,e,h1,_,_,l,h,e,rfl,h2,h3,h4⟩

theorem Ab.shape {w:World}{v:Value}{p c:Nat}(h:Ab w v p c):∃(a1:Option Addr) (m1 k1:Nat) (a2:Option Addr) (m2 k2:Nat) (e:Nat),v=.agg #[.slice a1 m1 k1,.slice a2 m2 k2,.int .i64 (e:Int)]:=by
 obtain⟨vl,vh,l,h,e,h1,h2,h3,_⟩:=h
 obtain⟨a1,m1,k1,rfl⟩:=h2.slice
 obtain⟨a2,m2,k2,rfl⟩:=h3.slice
 exact⟨a1,m1,k1,a2,m2,k2,e,h1⟩

theorem AbAt.below {w w':World}{g p c:Nat}(h:AbAt w g p c)(hb:Below w.heap.size w w'):AbAt w' g p c:=by
 obtain⟨vl,vh,l,h,e,h1,h2,h3,h4⟩:=h
 exact⟨vl,vh,l,h,e,by rw [hb.block g (lt_of_block h1)];exact h1,h2.below hb,h3.below hb,h4⟩

theorem AbAt.of {w:World}{g p c e:Nat}{vl vh:Value}(h1:w.heap[g]?=some (.cells #[vl,vh,.int .i64 (e:Int)] 93))(hA:Ab w (.agg #[vl,vh,.int .i64 (e:Int)]) p c):AbAt w g p c:=by
 obtain⟨vl',vh',l,h,e',hv,h2,h3,h4⟩:=hA
 injection hv with hv
 have q0:=congrArg (fun a=>a[0]?) hv
 have q1:=congrArg (fun a=>a[1]?) hv
 have q2:=congrArg (fun a=>a[2]?) hv
 simp at q0 q1 q2
 subst q0;subst q1
 obtain rfl:e=e':=by omega
 exact⟨_,_,l,h,e,h1,h2,h3,h4⟩

theorem AbAt.other {w:World}{g g' p c:Nat}{u0 u1 u2 a b d:Value}(h:AbAt w g p c)(hl:w.heap[g']?=some (.cells #[a,b,d] 93))(hne:g≠g'):AbAt (((w.setCell ⟨g',0,none⟩ u0).setCell ⟨g',1,none⟩ u1).setCell ⟨g',2,none⟩ u2) g p c:=by
 obtain⟨vl,vh,l,h,e,h1,h2,h3,h4⟩:=h
 exact⟨vl,vh,l,h,e,box_other4 (box_other4 (box_other4 h1 hne) hne) hne,h2.set3 hl,h3.set3 hl,h4⟩

theorem AbAt.stored {w:World}{g p c e:Nat}{vl vh a b d:Value}(hA:Ab w (.agg #[vl,vh,.int .i64 (e:Int)]) p c)(hl:w.heap[g]?=some (.cells #[a,b,d] 93)):AbAt (((w.setCell ⟨g,0,none⟩ vl).setCell ⟨g,1,none⟩ vh).setCell ⟨g,2,none⟩ (.int .i64 (e:Int))) g p c:=
 AbAt.of (cm hl) (hA.set3 hl)

namespace Lm

theorem pow_len {v n m:Nat}(hv:0<v)(hn:1≤n)(hm:m≤n)(h:blen v*n≤2305843009213693952):blen (v ^ m)≤2305843009213693952:=by
 refine Nat.le_trans ((blen_le_iff _ _).2 ?_) h
 have h1:=(blen_le_iff v _).1 (Nat.le_refl _)
 rw [Nat.pow_mul]
 exact Nat.lt_of_le_of_lt (Nat.pow_le_pow_right hv hm) (Nat.pow_lt_pow_left h1 (by omega))

end Lm

theorem powerAbout_any (va:Value)(x n:Nat)(w:World)(hN:Nb w 0 va x)(hT:Tab w)(hx:0<x)(hbx:blen x≤67108864)(hn1:1≤n)(hn:n≤1125899906842624)(hxn:blen x*n≤2305843009213693952) :
  Calls Tryz.prog 78 #[va,.int .i64 n] w fun en w'=>(∃v,en=.returned v∧Ab w' v (x ^ n) (2*n))∧Below w.heap.size w w':=by
 have HLN:=fun W=>Tryz.bits_Len (n:Int) W (by omega) (by omega)
 rw [Int.toNat_natCast] at HLN
 have wn:IntKind.u64.wrap (n:Int)=(n:Int):=by rw [IntKind.wrap_u64];omega
 obtain⟨L,hL⟩:∃L,Lib.bitLen n=L:=⟨_,rfl⟩
 have hnl:n<2 ^ L:=by
  obtain⟨_,_,h3⟩:=Lib.bitLenAux_bounds 64 n (by omega) (by omega)
  rw [←hL];exact h3
 have hL64:L≤64:=by rw [←hL];exact Lib.bitLen_le n 64 (by omega) (by omega)
 have hL1:1≤L:=by
  rcases Nat.eq_zero_or_pos L with h0|h0
  ·rw [h0] at hnl;omega
  ·exact h0
 have hnl2:n / 2 ^ (L - 1)=1:=by
  have hge:2 ^ (L - 1)≤n:=by
   obtain⟨_,h2,_⟩:=Lib.bitLenAux_bounds 64 n (by omega) (by omega)
   rw [←hL];exact h2
  refine Nat.div_eq_of_lt_le (by omega) ?_
  have:2 ^ L=2 ^ (L - 1)*2:=by rw [←Nat.pow_succ];congr 1;omega
  omega
 rw [hL] at HLN
 obtain⟨w0,hw0⟩:∃w0,w0=w.alloc (.cells #[.slice none 0 0,.slice none 0 0,.int .i64 0] 93):=⟨_,rfl⟩
 have hb0:Below w.heap.size w w0:=by rw [hw0];exact (Below.refl _ _).alloc (Nat.le_refl _) _
 have hs0:w0.heap.size=w.heap.size+1:=by rw [hw0];exact World.size_alloc _ _
 have hk0:w0.heap[w.heap.size]?=some (.cells #[.slice none 0 0,.slice none 0 0,.int .i64 0] 93):=by rw [hw0];exact heap_alloc_new ..
 have F1:=cut_any va va x x 0 x 0 w0 (hN.below hb0) (hN.below hb0) (abt_first hx) (by decide) hbx (by omega)
 obtain⟨s1,s2,s3,rfl⟩:=hN.slice
 have HW0:=aa hw0
 have HK0:=aa hk0
 have HB0:=aa hb0
 have HT:=aa hT
 have HX:=aa (And.intro hx hxn)
 have HN:=aa (And.intro hnl2 hn1)
 have HS0:=aa hs0
 clear hw0 hb0 hs0 hk0 hT hN hL hnl hnl2 hx hxn
 go_enter Tryz.func78,Tryz.ntmps78
 go_wp2_with fail
 rw [←HW0.out]
 refine F1.mono ?_
 rintro e w1 ⟨⟨v1,rfl,A1⟩,hb1⟩
 obtain⟨p1,p2,p3,p4,p5,p6,e1,rfl⟩:=A1.shape
 have hba:Below w1.heap.size w1 (w1.alloc (.cells #[.slice p1 p2 p3,.slice p4 p5 p6,.int .i64 (e1:Int)] 93)):=below_one _ _
 obtain⟨c0,c1,c2⟩:=ax (show (w1.alloc (.cells #[.slice p1 p2 p3,.slice p4 p5 p6,.int .i64 (e1:Int)] 93)).heap[w1.heap.size]?=_ from heap_alloc_new ..)
 obtain⟨w2,hw2⟩:∃w2,(w1.alloc (.cells #[.slice p1 p2 p3,.slice p4 p5 p6,.int .i64 (e1:Int)] 93)).alloc (.cells #[.slice p1 p2 p3,.slice p4 p5 p6,.int .i64 (e1:Int)] 93)=w2:=⟨_,rfl⟩
 have hs1:(w1.alloc (.cells #[.slice p1 p2 p3,.slice p4 p5 p6,.int .i64 (e1:Int)] 93)).heap.size=w1.heap.size+1:=World.size_alloc _ _
 have hb2:Below w1.heap.size w1 w2:=by rw [←hw2];exact hba.alloc hba.size _
 have hb3:Below (w1.alloc (.cells #[.slice p1 p2 p3,.slice p4 p5 p6,.int .i64 (e1:Int)] 93)).heap.size (w1.alloc (.cells #[.slice p1 p2 p3,.slice p4 p5 p6,.int .i64 (e1:Int)] 93)) w2:=by rw [←hw2];exact below_one _ _
 have G1:AbAt w2 w1.heap.size x 1:=AbAt.of (e:=e1) (by rw [hb3.block w1.heap.size (by omega)];exact heap_alloc_new ..) (A1.below hb2)
 have G2:AbAt w2 (w1.heap.size+1) x 1:=AbAt.of (e:=e1) (by
  have h:=heap_alloc_new (w1.alloc (.cells #[.slice p1 p2 p3,.slice p4 p5 p6,.int .i64 (e1:Int)] 93)) (.cells #[.slice p1 p2 p3,.slice p4 p5 p6,.int .i64 (e1:Int)] 93)
  rw [hs1,hw2] at h
  exact h) (A1.below hb2)
 have G0:w2.heap[w.heap.size]?=some (.cells #[.slice none 0 0,.slice none 0 0,.int .i64 0] 93):=by
  have hb:=hb1.trans (hb2.mono hb1.size)
  rw [hb.block w.heap.size (by have:=HS0.out;omega)];exact HK0.out
 have HBW:Hid (Below w.heap.size w w2):=aa ((HB0.out.trans (hb1.mono HB0.out.size)).trans (hb2.mono (HB0.out.trans (hb1.mono HB0.out.size)).size))
 have hlt:w.heap.size<w1.heap.size:=by have:=hb1.size;have:=HS0.out;omega
 obtain⟨g1,hg1⟩:∃g1,w1.heap.size=g1:=⟨_,rfl⟩
 obtain⟨g2,hg2⟩:∃g2,g1+1=g2:=⟨_,rfl⟩
 rw [hg1] at G1 hlt
 rw [hg1,hg2] at G2
 have HW2:=aa hw2
 have HG:=aa (And.intro hg1 hg2)
 have ST:=aa (And.intro G1 (And.intro G2 G0))
 have hg12:g1<g2:=by omega
 clear F1 A1 hb1 hba hb2 hb3 G1 G2 G0 hw2 hs1 hg1 hg2 HB0 HK0
 go_wp2_with fail
 rw [HW2.out]
 refine (HLN _).mono ?_
 rintro e wn' ⟨rfl,hw⟩;rw [hw];clear hw wn' HLN c0 c1 c2
 rw [HG.out.1,HG.out.2]
 obtain⟨M,hM⟩:∃M,L=M+1:=⟨L - 1,by omega⟩
 have eM:(L:Int) - 2=(M:Int) - 1:=by omega
 go_wp2
 go_loopw [7] (fun i wr=>∃(k:Nat),i=.int .i64 ((k:Int) - 1)∧k≤M∧AbAt wr g1 x 1∧AbAt wr g2 (x ^ (n / 2 ^ k)) (2*(n / 2 ^ k) - 1)∧wr.heap[w.heap.size]?=some (.cells #[.slice none 0 0,.slice none 0 0,.int .i64 0] 93)∧Below w.heap.size w wr) (fun i _=>(intOf i+1).toNat)
 case atStart=>
  refine⟨M,by rw [show (M:Int)+1 - 2=(M:Int) - 1 by omega],Nat.le_refl _,ST.out.1,?_,ST.out.2.2,HBW.out⟩
  have h:=HN.out.1
  rw [hM,Nat.add_sub_cancel] at h
  rw [h,Nat.pow_one]
  exact ST.out.2.1
 case round=>
  obtain⟨k,rfl,hk,hg1,hg2,hg0,hbel⟩:=hrel
  have HG1:=aa hg1
  have HG0:=aa hg0
  have HBW:=aa hbel
  clear hg1 hg0 hbel ST
  obtain⟨p1,p2,p3,p4,p5,p6,e2,hk2,A2⟩:=hg2.take
  obtain⟨c0,c1,c2⟩:=ax hk2
  by_cases hk0:k=0
  ·subst hk0
   rw [Nat.pow_zero,Nat.div_one] at A2
   have HA2:=aa A2
   obtain⟨d0,d1,d2⟩:=ax HG0.out
   have hf:=b9 HG0.out
   clear A2 hg2 hk2
   go_wp2
   have R5:=cm HG0.out (a':=.slice p1 p2 p3) (b':=.slice p4 p5 p6) (c':=.int .i64 (e2:Int))
   have HD:=aa (And.intro (HA2.out.set3 (u0:=.slice p1 p2 p3) (u1:=.slice p4 p5 p6) (u2:=.int .i64 (e2:Int)) HG0.out) (below_set3 HBW.out (u0:=.slice p1 p2 p3) (u1:=.slice p4 p5 p6) (u2:=.int .i64 (e2:Int)) (Nat.le_refl _)))
   generalize ((wr.setCell ⟨w.heap.size,0,none⟩ (.slice p1 p2 p3)).setCell ⟨w.heap.size,1,none⟩ (.slice p4 p5 p6)).setCell ⟨w.heap.size,2,none⟩ (.int .i64 (e2:Int))=w5 at *
   obtain⟨q0,q1,q2⟩:=ax R5
   clear c0 c1 c2 d0 d1 d2 hf HA2 HG0
   refine bodyPost_ret (v:=.agg #[.slice p1 p2 p3,.slice p4 p5 p6,.int .i64 (e2:Int)]) (by simp [results,Tryz.results78,go_sem,q0,q1,q2]) rfl ?_
   refine⟨⟨_,rfl,?_⟩,HD.out.2⟩
   obtain⟨a,b,l,h,e,r1,r2,r3,r4⟩:=HD.out.1
   exact⟨a,b,l,h,e,r1,r2,r3,abt_le r4 (by omega)⟩
  ·obtain⟨j,rfl⟩:∃j,k=j+1:=⟨k - 1,by omega⟩
   have ej:(((j+1:Nat):Int) - 1)=(j:Int):=by omega
   rw [ej]
   have hj0:(0:Int)≤(j:Int):=by omega
   have hj64:j<64:=by omega
   have hst:=dK n j
   have hle:n / 2 ^ j≤n:=Nat.div_le_self _ _
   have hsh:(n:Int) / 2 ^ j=((n / 2 ^ j:Nat):Int):=by rw [Int.natCast_ediv,Int.natCast_pow];rfl
   have hand:=dI ((n / 2 ^ j:Nat):Int)
   have hm2:((n / 2 ^ j:Nat):Int) % 2=((n / 2 ^ j % 2:Nat):Int):=by omega
   rw [hm2] at hand
   have wj:IntKind.i64.wrap (((n / 2 ^ j:Nat)):Int)=(((n / 2 ^ j:Nat)):Int):=by rw [IntKind.wrap_i64];omega
   have hp1:1≤n / 2 ^ (j+1):=by
    have h:=HN.out.1
    rw [hM,Nat.add_sub_cancel] at h
    exact Nat.le_trans (Nat.le_of_eq h.symm) (Nat.div_le_div_left (Nat.pow_le_pow_right (by omega) hk) (Nat.two_pow_pos _))
   generalize n / 2 ^ (j+1)=p at *
   obtain⟨q,hq⟩:∃q,n / 2 ^ j=q:=⟨_,rfl⟩
   rw [hq] at hst hle hsh hand hm2 wj
   have HQD:=aa hq
   have HQ:=aa (And.intro hst (And.intro hle hp1))
   have F1:=times_any _ _ _ _ _ _ wr A2 A2 (HT.out.below HBW.out) (by omega) (by rw [←Nat.pow_add];exact pow_len HX.out.1 HN.out.2 (by omega) HX.out.2)
   have e2p:x ^ p*x ^ p=x ^ (2*p):=by rw [←Nat.pow_add];congr 1;omega
   rw [e2p,show 2*p - 1+(2*p - 1)+1=2*(2*p) - 1 by omega] at F1
   have HK2:=aa hk2
   clear hg2 A2 hq hst hp1 e2p hk2
   go_wp2_with fail
   refine F1.mono ?_
   rintro e w3 ⟨⟨v3,rfl,A3⟩,hb3⟩
   obtain⟨q1,q2,q3,q4,q5,q6,e3,rfl⟩:=A3.shape
   have hk3:w3.heap[g2]?=some (.cells #[.slice p1 p2 p3,.slice p4 p5 p6,.int .i64 (e2:Int)] 93):=by rw [hb3.block g2 (lt_of_block HK2.out)];exact HK2.out
   have hf:=b9 hk3
   obtain⟨c0,c1,c2⟩:=ax hk3
   have hB3:=HBW.out.trans (hb3.mono HBW.out.size)
   obtain⟨w4,hw4⟩:∃w4,((w3.setCell ⟨g2,0,none⟩ (.slice q1 q2 q3)).setCell ⟨g2,1,none⟩ (.slice q4 q5 q6)).setCell ⟨g2,2,none⟩ (.int .i64 (e3:Int))=w4:=⟨_,rfl⟩
   have G1:AbAt w4 g1 x 1:=by rw [←hw4];exact (HG1.out.below hb3).other hk3 (by omega)
   have G2:AbAt w4 g2 (x ^ (2*p)) (2*(2*p) - 1):=by rw [←hw4];exact AbAt.stored A3 hk3
   have G0:w4.heap[w.heap.size]?=some (.cells #[.slice none 0 0,.slice none 0 0,.int .i64 0] 93):=by
    rw [←hw4]
    refine box_other4 (box_other4 (box_other4 ?_ (by omega)) (by omega)) (by omega)
    rw [hb3.block w.heap.size (lt_of_block HG0.out)];exact HG0.out
   have HBW4:Hid (Below w.heap.size w w4):=aa (by rw [←hw4];exact below_set3 hB3 (by omega))
   have HG1:=aa G1
   have HG2:=aa G2
   have HG0:=aa G0
   have HW4:=aa hw4
   clear F1 A3 hb3 hB3 G1 G2 G0 hk3
   rcases Nat.mod_two_eq_zero_or_one q with h0|h1
   ·rw [h0] at hand
    have HEQ:Hid (2*p=q):=aa (by have:=HQ.out.1;omega)
    clear h0 hw4
    go_wp2
    go_roundw
    case rel=>exact⟨j,rfl,by omega,by rw [HW4.out];exact HG1.out,by rw [HW4.out,HQD.out,←HEQ.out];exact HG2.out,by rw [HW4.out];exact HG0.out,by rw [HW4.out];exact HBW4.out⟩
    case measure=>simp [intOf]
   ·rw [h1] at hand
    have HEQ:Hid (2*p+1=q):=aa (by have:=HQ.out.1;omega)
    obtain⟨t1,t2,t3,t4,t5,t6,e4,k4,B4⟩:=HG1.out.take
    obtain⟨u1,u2,u3,u4,u5,u6,e5,k5,B5⟩:=HG2.out.take
    have F1:=times_any _ _ _ _ _ _ w4 B5 B4 (HT.out.below HBW4.out) (by have:=HQ.out;omega) (by rw [←Nat.pow_succ];exact pow_len HX.out.1 HN.out.2 (by have:=HQ.out;have:=HEQ.out;omega) HX.out.2)
    have e2q:x ^ (2*p)*x=x ^ q:=by rw [←Nat.pow_succ,←HEQ.out]
    rw [e2q,show 2*(2*p) - 1+1+1=2*q - 1 by have:=HEQ.out;have:=HQ.out.2.2;omega] at F1
    have HK5:=aa k5
    have d0:=ax k4
    have d1:=ax k5
    rw [←hw4] at d0 d1
    obtain⟨x0,x1,x2⟩:=d0
    obtain⟨y0,y1,y2⟩:=d1
    clear h1 hw4 k4 k5 B4 B5
    go_wp2_with fail
    rw [HW4.out]
    refine F1.mono ?_
    rintro e w5 ⟨⟨v5,rfl,A5⟩,hb5⟩
    clear x0 x1 x2 y0 y1 y2 c0 c1 c2 hf
    obtain⟨z1,z2,z3,z4,z5,z6,e6,rfl⟩:=A5.shape
    have hk6:w5.heap[g2]?=some (.cells #[.slice u1 u2 u3,.slice u4 u5 u6,.int .i64 (e5:Int)] 93):=by rw [hb5.block g2 (lt_of_block HK5.out)];exact HK5.out
    have hf:=b9 hk6
    obtain⟨c0,c1,c2⟩:=ax hk6
    have hB5:=HBW4.out.trans (hb5.mono HBW4.out.size)
    obtain⟨w6,hw6⟩:∃w6,((w5.setCell ⟨g2,0,none⟩ (.slice z1 z2 z3)).setCell ⟨g2,1,none⟩ (.slice z4 z5 z6)).setCell ⟨g2,2,none⟩ (.int .i64 (e6:Int))=w6:=⟨_,rfl⟩
    have G1:AbAt w6 g1 x 1:=by rw [←hw6];exact (HG1.out.below hb5).other hk6 (by omega)
    have G2:AbAt w6 g2 (x ^ q) (2*q - 1):=by rw [←hw6];exact AbAt.stored A5 hk6
    have G0:w6.heap[w.heap.size]?=some (.cells #[.slice none 0 0,.slice none 0 0,.int .i64 0] 93):=by
     rw [←hw6]
     refine box_other4 (box_other4 (box_other4 ?_ (by omega)) (by omega)) (by omega)
     rw [hb5.block w.heap.size (lt_of_block HG0.out)];exact HG0.out
    have HBW6:Hid (Below w.heap.size w w6):=aa (by rw [←hw6];exact below_set3 hB5 (by omega))
    have HH1:=aa G1
    have HH2:=aa G2
    have HH0:=aa G0
    have HW6:=aa hw6
    clear F1 A5 hb5 hB5 G1 G2 G0 hk6 hw6
    go_wp2
    go_roundw
    case rel=>exact⟨j,rfl,by omega,by rw [HW6.out];exact HH1.out,by rw [HW6.out,HQD.out];exact HH2.out,by rw [HW6.out];exact HH0.out,by rw [HW6.out];exact HBW6.out⟩
    case measure=>simp [intOf]

theorem greatest_root (c1 c2:Value)(n L:Nat)(Q:Nat→Prop)(w:World)(hn:n≤64)(hL:L<2 ^ n)
  (HC:∀(v:Nat) (w':World),0<v→v<2 ^ n→Below w.heap.size w w'→Calls Tryz.prog 77 #[.int .u64 (v:Int),c1,c2] w' fun e w''=>(∃s:Int,e=.returned (.int .i64 s)∧((s=-1∧v≤L)∨(s=1∧L<v)∨(s=0∧Q v)))∧Below w'.heap.size w' w'') :
  Calls Tryz.prog 76 #[.int .i64 (n:Int),.func (.func 77) #[] #[c1,c2]] w fun e w'=>(∃(v:Nat) (sure:Bool),e=.returned (.tuple #[.int .u64 (v:Int),.bool sure])∧v<2 ^ n∧((sure=true∧v=L)∨(sure=false∧0<v∧Q v)))∧Below w.heap.size w w':=by
 have HCC:=aa HC
 have HLL:=aa hL
 clear HC hL
 go_enter Tryz.func76,Tryz.ntmps76
 go_wp2
 go_loopw [4,6] (fun v i wr=>∃(b V a:Nat),v=.int .u64 (a:Int)∧i=.int .i64 ((b:Int) - 1)∧a=V*2 ^ b∧b≤n∧V*2 ^ b≤L∧L<(V+1)*2 ^ b∧Below w.heap.size w wr) (fun _ i _=>(intOf i+1).toNat)
 case atStart=>
  exact⟨n,0,0,rfl,rfl,by simp,Nat.le_refl _,by omega,by rw [Nat.zero_add,Nat.one_mul];exact HLL.out,Below.refl _ _⟩
 case round=>
  obtain⟨b,V,a,rfl,rfl,ha,hb,h1,h2,hbel⟩:=hrel
  have HB:=aa hbel
  clear hbel
  have hlt:V*2 ^ b<2 ^ n:=by have:=HLL.out;omega
  by_cases hb0:b=0
  ·subst hb0
   rw [Nat.pow_zero,Nat.mul_one] at h1 h2 hlt ha
   obtain rfl:a=L:=by omega
   have HLT:=aa hlt
   have HVA:=aa ha
   clear h1 h2 hlt ha
   go_wp2
   go_returns
   exact⟨⟨a,true,rfl,by have:=HLT.out;have:=HVA.out;omega,.inl ⟨rfl,rfl⟩⟩,HB.out⟩
  ·obtain⟨d,rfl⟩:∃d,b=d+1:=⟨b - 1,by omega⟩
   have ed:(((d+1:Nat):Int) - 1)=(d:Int):=by omega
   rw [ed]
   have hd0:(0:Int)≤(d:Int):=by omega
   have hd64:d<64:=by omega
   have hp:2 ^ (d+1)=2*2 ^ d:=by rw [Nat.pow_succ];omega
   have hdp:=Nat.two_pow_pos d
   have hn64:2 ^ n≤18446744073709551616:=Nat.pow_le_pow_right (n:=2) (by omega) hn
   obtain⟨U,hU⟩:∃U,V*2 ^ (d+1)+2 ^ d=U:=⟨_,rfl⟩
   have hUn:U<2 ^ n:=by
    have h3:(V+1)*2 ^ (d+1)≤2 ^ n:=by
     have h4:V<2 ^ (n - (d+1)):=by
      refine Nat.lt_of_mul_lt_mul_right (a:=2 ^ (d+1)) ?_
      rw [←Nat.pow_add,show n - (d+1)+(d+1)=n by omega]
      exact hlt
     have h5:=Nat.mul_le_mul_right (2 ^ (d+1)) (Nat.succ_le_of_lt h4)
     rw [←Nat.pow_add,show n - (d+1)+(d+1)=n by omega] at h5
     exact h5
    rw [Nat.add_mul,Nat.one_mul] at h3
    omega
   have hor:=dZ V (d+1) (2 ^ d) U (by omega) (by omega) (by omega) hU.symm
   rw [←ha] at hor
   have rsh:=bP 1 d (2 ^ d) (by rw [Nat.one_mul];exact Nat.mod_eq_of_lt (by omega))
   have rsh2:IntKind.u64.wrap ((2:Int) ^ d)=((2 ^ d:Nat):Int):=by
    rw [show ((1:Nat):Int)*2 ^ d=(2:Int) ^ d by simp] at rsh
    exact rsh
   have hU1:U=(2*V+1)*2 ^ d:=by rw [←hU,hp];grind
   have hV1:V*2 ^ (d+1)=(2*V)*2 ^ d:=by rw [hp];grind
   have hV2:(V+1)*2 ^ (d+1)=(2*V+1+1)*2 ^ d:=by rw [hp];grind
   have F1:=HCC.out U wr (by omega) hUn HB.out
   have HU1:=aa (And.intro hU1 (And.intro hV1 (And.intro hV2 (And.intro ha (And.intro h1 h2)))))
   have HUN:=aa hUn
   have hU0:0<U:=by omega
   obtain⟨D,hD⟩:∃D,2 ^ d=D:=⟨_,rfl⟩
   rw [hD] at hor rsh2 rsh
   have hbn:d≤n:=by omega
   clear hU1 hV1 hV2 ha h1 h2 hU hUn hp hdp hn64 hlt hb hD hb0 ed
   go_wp2_with fail
   refine F1.mono ?_
   rintro e w3 ⟨⟨s,rfl,hs⟩,hb3⟩
   have HB3:=aa (HB.out.trans (hb3.mono HB.out.size))
   clear hb3 F1
   rcases hs with ⟨rfl,h⟩|⟨rfl,h⟩|⟨rfl,h⟩
   ·have HS:=aa h
    clear h
    go_wp2
    go_roundw
    case rel=>
     obtain⟨q1,q2,q3,q4,q5,q6⟩:=HU1.out
     have q7:=HS.out
     exact⟨d,2*V+1,U,rfl,rfl,q1,hbn,by omega,by omega,HB3.out⟩
    case measure=>simp [intOf]
   ·have HS:=aa h
    clear h
    go_wp2
    go_roundw
    case rel=>
     obtain⟨q1,q2,q3,q4,q5,q6⟩:=HU1.out
     have q7:=HS.out
     exact⟨d,2*V,a,rfl,rfl,by omega,hbn,by omega,by omega,HB3.out⟩
    case measure=>simp [intOf]
   ·have HS:=aa h
    clear h
    go_wp2
    go_returns
    exact⟨⟨U,false,rfl,HUN.out,.inr ⟨rfl,hU0,HS.out⟩⟩,HB3.out⟩
end Go.Proofs.YtiagnfghnfhlnaaGreatDoor
namespace Go.Proofs.YtiagnfghnfhlnaaGreatDoor
namespace Lm

def IsRootK (a k r:Nat):Prop:=r ^ k≤a∧a<(r+1) ^ k

theorem rootK_is (a k:Nat)(hk:1≤k):∃r,IsRootK a k r:=by
 induction a with
 | zero=>exact⟨0,by rw [Nat.zero_pow hk];exact Nat.le_refl _,by simp⟩
 | succ a ih=>
  obtain⟨r,h1,h2⟩:=ih
  by_cases h:(r+1) ^ k≤a+1
  ·refine⟨r+1,h,?_⟩
   have:(r+1) ^ k<(r+1+1) ^ k:=Nat.pow_lt_pow_left (by omega) (by omega)
   omega
  ·exact⟨r,by omega,by omega⟩

theorem rootK_le {a k r x:Nat}(h:IsRootK a k r)(hx:x ^ k≤a):x≤r:=by
 refine Nat.le_of_not_lt fun hlt=>?_
 have:=Nat.pow_le_pow_left (Nat.succ_le_of_lt hlt) k
 have:=h.2
 simp only [Nat.succ_eq_add_one] at *
 omega

theorem rootK_lt {a k r x:Nat}(_hk:1≤k)(h:IsRootK a k r)(hx:a<x ^ k):r<x:=by
 refine Nat.lt_of_not_le fun hle=>?_
 have:=Nat.pow_le_pow_left hle k
 have:=h.1
 omega

theorem rootK_uniq {a k r s:Nat}(_hk:1≤k)(h:IsRootK a k r)(g:IsRootK a k s):r=s:=
 Nat.le_antisymm (rootK_le g h.1) (rootK_le h g.1)

theorem rootK_small {a k r:Nat}(hk:1≤k)(h:IsRootK a k r):r≤a:=by
 refine Nat.le_trans ?_ h.1
 exact Nat.le_self_pow (by omega) r

theorem rootK_two {a r:Nat}:IsRootK a 2 r ↔ (r*r≤a∧a<(r+1)*(r+1)):=by
 unfold IsRootK
 rw [Nat.pow_two,Nat.pow_two]

theorem rootK_high {a k r n:Nat}(_hk:1≤k)(h:IsRootK a k r):IsRootK (a / 2 ^ (n*k)) k (r / 2 ^ n):=by
 have hK:=Nat.two_pow_pos n
 have hKk:=Nat.two_pow_pos (n*k)
 constructor
 ·rw [Nat.le_div_iff_mul_le hKk,Nat.pow_mul,←Nat.mul_pow]
  refine Nat.le_trans (Nat.pow_le_pow_left ?_ k) h.1
  exact Nat.div_mul_le_self _ _
 ·rw [Nat.div_lt_iff_lt_mul hKk,Nat.pow_mul,←Nat.mul_pow]
  refine Nat.lt_of_lt_of_le h.2 (Nat.pow_le_pow_left ?_ k)
  have:=Nat.lt_mul_div_succ r hK
  rw [Nat.mul_comm] at this
  exact this

theorem bern2 (h x m:Nat):h ^ (m+1)+(m+1)*h ^ m*x≤(h+x) ^ (m+1):=by
 induction m with
 | zero=>simp
 | succ m ih=>
  have h1:=Nat.mul_le_mul_right (h+x) ih
  have e1:(h+x) ^ (m+1)*(h+x)=(h+x) ^ (m+1+1):=by rw [Nat.pow_succ (h+x) (m+1)]
  have e2:(h ^ (m+1)+(m+1)*h ^ m*x)*(h+x)=h ^ (m+1+1)+(m+1+1)*h ^ (m+1)*x+(m+1)*h ^ m*x*x:=by
   rw [Nat.pow_succ h (m+1),Nat.pow_succ h m];grind
  omega

theorem guess_ge {a k r n:Nat}(hk:1≤k)(h:IsRootK a k r)(hh:0<r / 2 ^ n) :
  r≤2 ^ n*(r / 2 ^ n)+(a / 2 ^ (n*(k - 1)) % 2 ^ n+2 ^ n*(a / 2 ^ (n*k) - (r / 2 ^ n) ^ k)) / ((r / 2 ^ n) ^ (k - 1)*k):=by
 obtain⟨m,rfl⟩:∃m,k=m+1:=⟨k - 1,by omega⟩
 rw [Nat.add_sub_cancel]
 obtain⟨g1,_⟩:=rootK_high (n:=n) hk h
 have hr:=Nat.div_add_mod r (2 ^ n)
 have hK:=Nat.two_pow_pos n
 have hL:=Nat.two_pow_pos (n*m)
 obtain⟨q,hq⟩:∃q,r / 2 ^ n=q:=⟨_,rfl⟩
 obtain⟨x,hx⟩:∃x,r % 2 ^ n=x:=⟨_,rfl⟩
 rw [hq,hx] at hr
 rw [hq] at hh g1 ⊢
 have hpos:0<q ^ m*(m+1):=Nat.mul_pos (Nat.pow_pos hh) (by omega)
 have hstep:x≤(a / 2 ^ (n*m) % 2 ^ n+2 ^ n*(a / 2 ^ (n*(m+1)) - q ^ (m+1))) / (q ^ m*(m+1)):=by
  rw [Nat.le_div_iff_mul_le hpos]
  have b:=bern2 (2 ^ n*q) x m
  rw [hr] at b
  have h1:=Nat.le_trans b h.1
  have e0:2 ^ (n*(m+1))=2 ^ (n*m)*2 ^ n:=by rw [Nat.mul_add,Nat.pow_add,Nat.mul_one]
  have e1:(2 ^ n*q) ^ (m+1)=2 ^ (n*m)*(2 ^ n*q ^ (m+1)):=by
   rw [Nat.mul_pow,←Nat.pow_mul,e0,Nat.mul_assoc]
  have e2:(m+1)*(2 ^ n*q) ^ m*x=2 ^ (n*m)*(x*(q ^ m*(m+1))):=by
   rw [Nat.mul_pow,←Nat.pow_mul];grind
  rw [e1,e2,←Nat.mul_add] at h1
  have h2:2 ^ n*q ^ (m+1)+x*(q ^ m*(m+1))≤a / 2 ^ (n*m):=by
   rw [Nat.le_div_iff_mul_le hL,Nat.mul_comm];exact h1
  have h3:=Nat.div_add_mod (a / 2 ^ (n*m)) (2 ^ n)
  rw [Nat.div_div_eq_div_mul,←e0] at h3
  obtain⟨A,hA⟩:∃A,a / 2 ^ (n*(m+1))=A:=⟨_,rfl⟩
  rw [hA] at h3 g1 ⊢
  rw [Nat.mul_sub]
  have h4:=Nat.mul_le_mul_left (2 ^ n) g1
  omega
 omega

theorem bern3 (h m:Nat)(hm:m≤h):(h+1) ^ m*(h+1 - m)≤h ^ m*(h+1):=by
 induction m with
 | zero=>simp
 | succ m ih=>
  have ih':=ih (by omega)
  obtain⟨d,hd⟩:∃d,h+1 - m=d+1:=⟨h - m,by omega⟩
  rw [hd] at ih'
  have hd2:h+1 - (m+1)=d:=by omega
  rw [hd2,Nat.pow_succ,Nat.pow_succ]
  have h1:(h+1)*d≤h*(d+1):=by
   have e1:(h+1)*d=h*d+d:=by grind
   have e2:h*(d+1)=h*d+h:=by grind
   omega
  have h2:=Nat.mul_le_mul_left ((h+1) ^ m) h1
  have h3:=Nat.mul_le_mul_left h ih'
  have e1:(h+1) ^ m*(h+1)*d=(h+1) ^ m*((h+1)*d):=by grind
  have e2:(h+1) ^ m*(h*(d+1))=h*((h+1) ^ m*(d+1)):=by grind
  have e3:h*(h ^ m*(h+1))=h ^ m*h*(h+1):=by grind
  omega

theorem bern4 (q m:Nat):(q+1) ^ (m+1)≤q ^ (m+1)+(m+1)*(q+1) ^ m:=by
 induction m with
 | zero=>simp
 | succ m ih=>
  have h1:=Nat.mul_le_mul_right (q+1) ih
  have e1:(q+1) ^ (m+1)*(q+1)=(q+1) ^ (m+1+1):=by rw [Nat.pow_succ (q+1) (m+1)]
  have e2:(q ^ (m+1)+(m+1)*(q+1) ^ m)*(q+1)=q ^ (m+1+1)+q ^ (m+1)+(m+1)*(q+1) ^ (m+1):=by
   rw [Nat.pow_succ q (m+1),Nat.pow_succ (q+1) m];grind
  have h2:q ^ (m+1)≤(q+1) ^ (m+1):=Nat.pow_le_pow_left (by omega) _
  have e3:(m+1+1)*(q+1) ^ (m+1)=(m+1)*(q+1) ^ (m+1)+(q+1) ^ (m+1):=by grind
  omega

theorem step_le {a k r n:Nat}(hk:1≤k)(h:IsRootK a k r)(hh:2*k≤r / 2 ^ n) :
  (a / 2 ^ (n*(k - 1)) % 2 ^ n+2 ^ n*(a / 2 ^ (n*k) - (r / 2 ^ n) ^ k)) / ((r / 2 ^ n) ^ (k - 1)*k)≤2*2 ^ n:=by
 obtain⟨m,rfl⟩:∃m,k=m+1:=⟨k - 1,by omega⟩
 rw [Nat.add_sub_cancel]
 obtain⟨g1,g2⟩:=rootK_high (n:=n) hk h
 obtain⟨q,hq⟩:∃q,r / 2 ^ n=q:=⟨_,rfl⟩
 rw [hq] at hh g1 g2 ⊢
 have hpos:0<q ^ m*(m+1):=Nat.mul_pos (Nat.pow_pos (by omega)) (by omega)
 have hmod:=Nat.mod_lt (a / 2 ^ (n*m)) (Nat.two_pow_pos n)
 refine Nat.le_of_lt_succ ?_
 rw [Nat.div_lt_iff_lt_mul hpos]
 have b4:=bern4 q m
 have b3:=bern3 q m (by omega)
 have b5:(q+1) ^ m≤2*q ^ m:=by
  obtain⟨d,hd⟩:∃d,q+1 - m=d:=⟨_,rfl⟩
  rw [hd] at b3
  have c1:(q+1) ^ m*(q+1)≤(q+1) ^ m*(2*d):=Nat.mul_le_mul_left _ (by omega)
  have c2:(q+1) ^ m*(2*d)=2*((q+1) ^ m*d):=by grind
  have c3:2*(q ^ m*(q+1))=2*q ^ m*(q+1):=by grind
  exact Nat.le_of_mul_le_mul_right (c:=q+1) (by omega) (by omega)
 have b6:=Nat.mul_le_mul_left (m+1) b5
 obtain⟨A,hA⟩:∃A,a / 2 ^ (n*(m+1))=A:=⟨_,rfl⟩
 rw [hA] at g1 g2 ⊢
 have hl:A - q ^ (m+1)+1≤2*(q ^ m*(m+1)):=by
  have e1:(m+1)*(2*q ^ m)=2*(q ^ m*(m+1)):=by grind
  omega
 have b7:=Nat.mul_le_mul_left (2 ^ n) hl
 rw [Nat.mul_add,Nat.mul_one] at b7
 have e2:(2*2 ^ n).succ*(q ^ m*(m+1))=2 ^ n*(2*(q ^ m*(m+1)))+q ^ m*(m+1):=by rw [Nat.succ_mul];grind
 omega

end Lm
end Go.Proofs.YtiagnfghnfhlnaaGreatDoor
namespace Go.Proofs.YtiagnfghnfhlnaaGreatDoor
open Go.RowKit
open Lm
attribute [local go_sem ↓] Go.wp_at_zero Go.wp_at_succ

namespace Lm

def rlen (x k:Nat):Nat:=(blen x+k - 1) / k

theorem rlen_two (L k q:Nat)(hk:1≤k)(hq:L / k=q):(L % k=0→(L+k - 1) / k=q)∧(0<L % k→(L+k - 1) / k=q+1):=by
 have h:=Nat.div_add_mod L k
 rw [hq] at h
 have hm:=Nat.mod_lt L hk
 constructor
 ·intro h0
  rw [h0] at h
  refine Nat.div_eq_of_lt_le ?_ ?_
  ·rw [Nat.mul_comm];omega
  ·rw [Nat.add_mul,Nat.one_mul,Nat.mul_comm q k];omega
 ·intro h0
  refine Nat.div_eq_of_lt_le ?_ ?_
  ·rw [Nat.add_mul,Nat.one_mul,Nat.mul_comm q k];omega
  ·rw [Nat.add_mul,Nat.one_mul,Nat.add_mul,Nat.one_mul,Nat.mul_comm q k];omega

theorem rlen_ge (x k:Nat)(hk:1≤k):blen x≤rlen x k*k:=by
 unfold rlen
 have h:=Nat.div_add_mod (blen x+k - 1) k
 have hm:=Nat.mod_lt (blen x+k - 1) hk
 rw [Nat.mul_comm] at h
 omega

theorem rlen_le (x k:Nat)(_hk:1≤k):rlen x k*k≤blen x+k - 1:=Nat.div_mul_le_self _ _

theorem rlen_le_blen (x k:Nat)(hk:1≤k):rlen x k≤blen x:=by
 unfold rlen
 rw [Nat.div_le_iff_le_mul_add_pred hk]
 have:blen x≤k*blen x:=Nat.le_mul_of_pos_left _ hk
 omega

theorem rootK_lt_pow {x k r:Nat}(hk:1≤k)(h:IsRootK x k r):r<2 ^ rlen x k:=by
 refine rootK_lt hk h ?_
 rw [←Nat.pow_mul]
 exact Nat.lt_of_lt_of_le ((blen_le_iff x _).1 (Nat.le_refl _)) (Nat.pow_le_pow_right (by omega) (rlen_ge x k hk))

theorem rootK_ge_pow {x k r:Nat}(hk:1≤k)(h:IsRootK x k r)(hx:0<x):2 ^ (rlen x k - 1)≤r:=by
 refine rootK_le h ?_
 rw [←Nat.pow_mul]
 refine Nat.le_trans (Nat.pow_le_pow_right (by omega) ?_) (bi x (by omega))
 have h1:=rlen_le x k hk
 have hb:blen x≠0:=fun h=>by have:=(aU x).1 h;omega
 rw [Nat.sub_mul,Nat.one_mul]
 omega

end Lm

theorem rootLength_any (vb:Value)(X:List Nat)(k:Nat)(w:World)(hA:Arg w vb X)(hk:1≤k)(hk2:k≤9223372036854775807) :
  Calls Tryz.prog 19 #[vb,.int .i64 k] w fun e w'=>e=.returned (.int .i64 ((rlen (val X) k:Nat):Int))∧w'=w:=by
 have HL:=az _ _ w hA
 have hb:blen (val X)≤64*X.length:=(blen_le_iff _ _).2 (by have:=val_lt hA.limbs;rw [show (18446744073709551616:Nat)=2 ^ 64 from rfl,←Nat.pow_mul] at this;exact this)
 have hf:=hA.few
 obtain⟨a1,k1,rfl,_,_,_⟩:=hA.form
 unfold rlen
 generalize blen (val X)=L at *
 clear hA
 obtain⟨q,hq⟩:∃q:Nat,L / k=q:=⟨L / k,rfl⟩
 obtain⟨m,hm⟩:∃m:Nat,L % k=m:=⟨L % k,rfl⟩
 obtain⟨R1,R2⟩:=rlen_two L k q hk hq
 have eq:(L:Int).tdiv (k:Int)=(q:Int):=by rw [←hq];rfl
 have em:(L:Int).tmod (k:Int)=(m:Int):=by rw [←hm];rfl
 have hqL:q≤L:=by rw [←hq];exact Nat.div_le_self _ _
 have k0:((k:Int) == 0)=false:=by rw [beq_eq_false_iff_ne];omega
 have k1:¬(k:Int)=0:=by omega
 have wq:IntKind.i64.wrap (q:Int)=q:=by rw [IntKind.wrap_i64];omega
 have hmk:m<k:=by rw [←hm];exact Nat.mod_lt _ hk
 have wm:IntKind.i64.wrap (m:Int)=m:=by rw [IntKind.wrap_i64];omega
 by_cases h0:m=0
 ·rw [R1 (by omega)]
  subst h0
  clear R1 R2 hm hq
  go_enter Tryz.func19,Tryz.ntmps19
  go_wp2_with fail
  refine HL.mono ?_
  rintro e wn ⟨rfl,hw⟩;subst hw
  clear HL
  go_wp2
  go_ret
  exact⟨rfl,rfl⟩
 ·rw [R2 (by omega)]
  have i1:(0:Int)<(m:Int):=by omega
  obtain⟨q',eq'⟩:∃q':Nat,(q:Int)+1=(q':Int):=⟨q+1,by omega⟩
  have hqq:q+1=q':=by omega
  rw [hqq]
  clear R1 R2 hm hq hqq
  go_enter Tryz.func19,Tryz.ntmps19
  go_wp2_with fail
  refine HL.mono ?_
  rintro e wn ⟨rfl,hw⟩;subst hw
  clear HL
  go_wp2
  go_ret
  exact⟨rfl,rfl⟩

theorem tellRoot_any (gk ga v k:Nat)(va:Value)(X:List Nat)(w:World)(hk:w.cell? ⟨gk,0,none⟩=some (.int .i64 (k:Int)))(ha:w.cell? ⟨ga,0,none⟩=some va)(hX:Arg w va X)(hT:Tab w)(hl:X.length≤17592186044000)(hbx:blen (val X)≤67108864)(hv:0<v)(hv2:v<18446744073709551616)(hk1:1≤k)(hk2:k≤67108864) :
  Calls Tryz.prog 77 #[.int .u64 (v:Int),.pointer (some ⟨gk,0,none⟩),.pointer (some ⟨ga,0,none⟩)] w fun e w'=>(∃s,e=.returned (.int .i64 s)∧Side s (v ^ k) (2*k) (val X))∧Below w.heap.size w w':=by
 have HF:=nfrom v w.drew hv2
 have hbv:blen v≤64:=(blen_le_iff v 64).2 hv2
 have hvk:blen v*k≤2305843009213693952:=Nat.le_trans (Nat.mul_le_mul hbv hk2) (by decide)
 have HA:=aa hX
 have HT:=aa hT
 have hk':w.drew.cell? ⟨gk,0,none⟩=some (.int .i64 (k:Int)):=hk
 have ha':w.drew.cell? ⟨ga,0,none⟩=some va:=ha
 have FP:=aa (fun (w1:World) (v1:Value) (N1:Nb w1 w.drew.heap.size v1 v) (hb1:Below w.drew.heap.size w.drew w1)=>
  powerAbout_any v1 v k w1 (N1.base (Nat.zero_le _)) (HT.out.below (aO hb1)) hv (by omega) hk1 (by omega) hvk)
 have FA:=aa (fun (w1 w2:World) (v2:Value) (hb1:Below w.drew.heap.size w.drew w1) (N2:Ab w2 v2 (v ^ k) (2*k)) (hb2:Below w1.heap.size w1 w2)=>
  against_any v2 va _ _ X w2 N2 ((HA.out.below (aO hb1)).below hb2) hl (by omega) (pow_len hv hk1 (Nat.le_refl _) hvk))
 clear hX hT
 go_enter Tryz.func77,Tryz.ntmps77
 go_wp2
 go_region_held3 (fun w'=>w'.cell? ⟨gk,0,none⟩=some (.int .i64 (k:Int))∧w'.cell? ⟨ga,0,none⟩=some va) (go_keep) (first
  | (go_at_call 21;refine HF.mono ?_;rintro e w1 ⟨⟨v1,rfl,N1⟩,hb1⟩;have x0:=cell_up4 hb1 hk';have x1:=cell_up4 hb1 ha')
  | (go_at_call 78;refine (FP.out _ _ N1 hb1).mono ?_;rintro e w2 ⟨⟨v2,rfl,N2⟩,hb2⟩;have y0:=cell_up4 hb2 x0;have y1:=cell_up4 hb2 x1)
  | (go_at_call 79;refine (FA.out _ _ _ hb1 N2 hb2).mono ?_;rintro e w3 ⟨⟨s,rfl,hs⟩,hb3⟩;have z0:=cell_up4 hb3 y0;have z1:=cell_up4 hb3 y1))
 have hb1':=aO hb1
 have HD:=aa (And.intro hs ((hb1'.trans (hb2.mono hb1'.size)).trans (hb3.mono (hb1'.trans (hb2.mono hb1'.size)).size)))
 clear hs hb1 hb1' hb2 hb3 N1 N2 x0 x1 y0 y1 z0 z1 FP FA HF
 go_wp2
 go_ret
 exact⟨⟨s,rfl,HD.out.1⟩,HD.out.2⟩

namespace Lm

theorem guess_facts {x k r len n kl:Nat}(hk:2≤k)(hlen:rlen x k=len)(h64:64<len)(hkl:k<2 ^ kl)(hkl2:kl≤27)(hn:n=(len - kl) / 2 - 4)(h:IsRootK x k r) :
  1≤n∧n+2≤len∧n*k<blen x∧k<blen (x / 2 ^ (n*k))∧blen (x / 2 ^ (n*k))<blen x∧2*k≤r / 2 ^ n∧2 ^ n≤r:=by
 have hx0:x≠0:=by
  rintro rfl
  have:=rlen_le_blen 0 k (by omega)
  rw [show blen 0=0 from (aU 0).2 rfl] at this
  omega
 have h1:1≤n:=by omega
 have h2:n+2≤len:=by omega
 have e1:=rlen_le x k (by omega)
 rw [hlen] at e1
 have e2:(n+2)*k≤len*k:=Nat.mul_le_mul_right _ h2
 rw [Nat.add_mul] at e2
 have h3:n*k+k<blen x:=by omega
 have hp:=bi x hx0
 have h4:k<blen (x / 2 ^ (n*k)):=by
  refine Nat.lt_of_not_le fun hle=>?_
  have q1:=(blen_le_iff _ _).1 hle
  rw [Nat.div_lt_iff_lt_mul (Nat.two_pow_pos _),←Nat.pow_add] at q1
  have q2:2 ^ (k+n*k)≤2 ^ (blen x - 1):=Nat.pow_le_pow_right (by omega) (by omega)
  omega
 have hnk:1≤n*k:=Nat.mul_pos h1 (by omega)
 have h5:blen (x / 2 ^ (n*k))<blen x:=by
  refine Nat.lt_of_le_of_lt ((blen_le_iff _ (blen x - n*k)).2 ?_) (show blen x - n*k<blen x by omega)
  rw [Nat.div_lt_iff_lt_mul (Nat.two_pow_pos _),←Nat.pow_add,show blen x - n*k+n*k=blen x by omega]
  exact (blen_le_iff x _).1 (Nat.le_refl _)
 have hr:=rootK_ge_pow (by omega) h (by omega)
 rw [hlen] at hr
 have h6:2*k≤r / 2 ^ n:=by
  rw [Nat.le_div_iff_mul_le (Nat.two_pow_pos n)]
  refine Nat.le_trans ?_ hr
  have q1:2*k*2 ^ n≤2 ^ (kl+1)*2 ^ n:=Nat.mul_le_mul_right _ (by rw [Nat.pow_succ];omega)
  rw [←Nat.pow_add] at q1
  exact Nat.le_trans q1 (Nat.pow_le_pow_right (by omega) (by omega))
 refine⟨h1,h2,by omega,h4,h5,h6,?_⟩
 exact Nat.le_trans (Nat.pow_le_pow_right (by omega) (by omega)) hr

end Lm

def RGuess (w:World)(x k r:Nat)(e:Ending)(w':World):Prop:=(∃v g,e=.returned v∧Nb w' w.heap.size v g∧r≤g∧g≤4*2 ^ rlen x k)∧Below w.heap.size w w'

def FurOk (N:Nat):Prop:=∀(X:List Nat) (va:Value) (w:World) (k r:Nat),blen (val X)<N→Arg w va X→Tab w→X.length≤17592186044000→blen (val X)≤67108864→2≤k→k<blen (val X)→IsRootK (val X) k r →
  Calls Tryz.prog 25 #[va,.int .i64 (k:Int)] w (NbDone2 w r (val X - r ^ k))

theorem guess_small (X:List Nat)(va:Value)(w:World)(k r:Nat)(hA:Arg w va X)(hT:Tab w)(hl:X.length≤17592186044000)(hbx:blen (val X)≤67108864)(hk1:2≤k)(hk2:k<blen (val X))(hr:IsRootK (val X) k r)(h64:rlen (val X) k≤64) :
  Calls Tryz.prog 57 #[va,.int .i64 (k:Int)] w (RGuess w (val X) k r):=by
 obtain⟨av,cv,rfl,_,_,_⟩:=hA.form
 obtain⟨w0,hw0⟩:∃w0,w0=(w.alloc (.cells #[.slice av X.length cv] 23)).alloc (.cells #[.int .i64 (k:Int)] 3):=⟨_,rfl⟩
 have hba:Below w.heap.size w (w.alloc (.cells #[.slice av X.length cv] 23)):=below_one _ _
 have hb0:Below w.heap.size w w0:=by rw [hw0];exact hba.alloc hba.size _
 have hs1:(w.alloc (.cells #[.slice av X.length cv] 23)).heap.size=w.heap.size+1:=World.size_alloc _ _
 have ca:w0.cell? ⟨w.heap.size,0,none⟩=some (.slice av X.length cv):=by
  have hb:Below (w.alloc (.cells #[.slice av X.length cv] 23)).heap.size (w.alloc (.cells #[.slice av X.length cv] 23)) w0:=by rw [hw0];exact below_one _ _
  have h:w0.heap[w.heap.size]?=some (.cells #[.slice av X.length cv] 23):=by rw [hb.block w.heap.size (by omega)];exact heap_alloc_new ..
  simp [World.cell?,h]
 have ck:w0.cell? ⟨w.heap.size+1,0,none⟩=some (.int .i64 (k:Int)):=by
  have h:=heap_alloc_new (w.alloc (.cells #[.slice av X.length cv] 23)) (.cells #[.int .i64 (k:Int)] 3)
  rw [hs1,←hw0] at h
  simp [World.cell?,h]
 have HW0:=aa hw0
 have HB0:=aa hb0
 have HA:=aa (hA.below hb0)
 have HT:=aa (hT.below hb0)
 have HAW:=aa hA
 have HTW:=aa hT
 have HL:=rootLength_any _ X k w0 (hA.below hb0) (by omega) (by omega)
 clear hw0 hba hb0 hs1 hA hT
 unfold RGuess
 obtain⟨n,hn⟩:∃n,rlen (val X) k=n:=⟨_,rfl⟩
 rw [hn] at HL h64 ⊢
 have hrn:=rootK_lt_pow (by omega) hr
 rw [hn] at hrn
 have hn64:2 ^ n≤18446744073709551616:=Nat.pow_le_pow_right (n:=2) (by omega) h64
 have FG:=greatest_root (.pointer (some ⟨w.heap.size+1,0,none⟩)) (.pointer (some ⟨w.heap.size,0,none⟩)) n r (fun v=>r≤v) w0 h64 hrn (by
  intro v w' hv1 hv2 hb
  refine (tellRoot_any _ _ v k _ X w' (cell_up4 hb ck) (cell_up4 hb ca) (HA.out.below hb) (HT.out.below hb) hl hbx hv1 (by omega) (by omega) (by omega)).mono ?_
  rintro e w2 ⟨⟨s,rfl,hs⟩,hb2⟩
  refine⟨⟨s,rfl,?_⟩,hb2⟩
  rcases hs with ⟨h1,h2⟩|⟨h1,h2⟩|⟨h1,l,h,e',h2,h3⟩
  ·exact .inl ⟨h1,rootK_le hr (Nat.le_of_lt h2)⟩
  ·exact .inr (.inl ⟨h1,rootK_lt (by omega) hr h2⟩)
  ·refine .inr (.inr ⟨h1,?_⟩)
   have h4:=near_lt h2 h3 (show v<2 ^ 64 by omega) (by omega) (Nat.le_refl _) (Nat.le_trans (show k≤67108864 by omega) (by decide))
   exact Nat.le_of_lt_succ (rootK_lt (by omega) hr h4))
 have i1:(n:Int)≤64:=by omega
 have HX:=aa (And.intro hn64 hrn)
 clear HA HT HAW HTW hr hbx hl hk2 hn hn64 hrn
 go_enter Tryz.func57,Tryz.ntmps57
 go_wp2_with fail
 rw [←HW0.out]
 refine HL.mono ?_
 rintro e wn ⟨rfl,hw⟩;rw [hw];clear hw wn HL
 go_wp2_with fail
 refine FG.mono ?_
 rintro e w1 ⟨⟨v,sure,rfl,hv,hvs⟩,hb⟩
 have HG:Hid (r≤v∧v≤4*2 ^ n):=aa ⟨by rcases hvs with ⟨_,h⟩|⟨_,_,h⟩ <;> omega,by omega⟩
 have HB1:=ak HB0 hb
 have HF:=nfrom v w1 (by have:=HX.out.1;omega)
 clear FG hb hv hvs
 go_wp2_with fail
 refine HF.mono ?_
 rintro e w2 ⟨⟨v2,rfl,N2⟩,hb⟩
 have HD:=aa (And.intro (N2.base HB1.out.size) (ak HB1 hb).out)
 clear HF N2 hb
 go_wp2
 go_ret
 exact⟨⟨_,v,rfl,HD.out.1,HG.out.1,HG.out.2⟩,HD.out.2⟩

theorem Nb.drew {w:World}{base:Nat}{v:Value}{x:Nat}(h:Nb w base v x):Nb w.drew base v x:=h.below (Below.refl _ _).drew

theorem npower {w:World}{b1:Nat}{v1:Value}{x n:Nat}(h1:Nb w b1 v1 x)(hT:Tab w)(l1:blen x≤1125899906816000)(hn:n≤4611686018427387904)(hp:blen (x ^ n)≤1125899906816000):Calls Tryz.prog 58 #[v1,.int .i64 (n:Int)] w (NbDone w (x ^ n)):=by
 obtain⟨r1,a1,rfl,_,n1⟩:=h1.arg l1
 exact gX n n (Nat.le_refl _) (by omega) r1 v1 w a1 hT n1 hp

theorem nquo {w:World}{b1 b2:Nat}{v1 v2:Value}{x y:Nat}(h1:Nb w b1 v1 x)(h2:Nb w b2 v2 y)(hT:Tab w)(l1:blen x≤1125899906816000)(l2:blen y≤1125899906816000)(hy:0<y)(hq:blen (x / y)≤67108864) :
  Calls Tryz.prog 74 #[v1,v2] w fun e w'=>(∃v,e=.returned (.tuple #[v,.int .i64 0])∧Nb w' w.heap.size v (x / y))∧Below w.heap.size w w':=by
 obtain⟨r1,a1,rfl,_,n1⟩:=h1.arg l1
 obtain⟨r2,a2,rfl,_,n2⟩:=h2.arg l2
 refine (gm v1 v2 r1 r2 w a1 a2 hT (by omega) (by omega) (by omega)).mono ?_
 rintro e w' ⟨hb,v,c,rs,rfl,ha,hres⟩
 rcases hres with ⟨rfl,q1,q2,_⟩|⟨_,_,q3⟩
 ·exact⟨⟨v,rfl,rs,ha,q1,q2⟩,hb⟩
 ·omega

namespace Lm

theorem guess_sizes {x k r len n:Nat}(hk:2≤k)(hlen:rlen x k=len)(hbx:blen x≤67108864)(hkx:k≤67108864)(hn:n+2≤len)(h:IsRootK x k r)(hh:2*k≤r / 2 ^ n)(hnr:2 ^ n≤r) :
  blen (x / 2 ^ (n*k) - (r / 2 ^ n) ^ k)≤67108864∧blen ((r / 2 ^ n) ^ (k - 1))≤67108864∧blen (r / 2 ^ n)≤67108864∧blen ((r / 2 ^ n) ^ (k - 1)*k)≤67108891 ∧
  blen (x / 2 ^ (n*(k - 1)) % 2 ^ n+2 ^ n*(x / 2 ^ (n*k) - (r / 2 ^ n) ^ k))≤134217728∧0<(r / 2 ^ n) ^ (k - 1)*k ∧
  blen ((x / 2 ^ (n*(k - 1)) % 2 ^ n+2 ^ n*(x / 2 ^ (n*k) - (r / 2 ^ n) ^ k)) / ((r / 2 ^ n) ^ (k - 1)*k))≤67108864∧blen (2 ^ n*(r / 2 ^ n))≤67108864 ∧
  r≤2 ^ n*(r / 2 ^ n)+(x / 2 ^ (n*(k - 1)) % 2 ^ n+2 ^ n*(x / 2 ^ (n*k) - (r / 2 ^ n) ^ k)) / ((r / 2 ^ n) ^ (k - 1)*k) ∧
  2 ^ n*(r / 2 ^ n)+(x / 2 ^ (n*(k - 1)) % 2 ^ n+2 ^ n*(x / 2 ^ (n*k) - (r / 2 ^ n) ^ k)) / ((r / 2 ^ n) ^ (k - 1)*k)≤4*2 ^ len:=by
 have g1:=guess_ge (n:=n) (by omega) h (by omega)
 have g2:=step_le (n:=n) (by omega) h hh
 obtain⟨a1,_⟩:=rootK_high (n:=n) (by omega) h
 have hlb:=rlen_le_blen x k (by omega)
 rw [hlen] at hlb
 have hrl:=rootK_lt_pow (by omega) h
 rw [hlen] at hrl
 have hmod:=Nat.mod_lt (x / 2 ^ (n*(k - 1))) (Nat.two_pow_pos n)
 have hq0:0<r / 2 ^ n:=by omega
 have hqr:=Nat.mul_div_le r (2 ^ n)
 have hpk:(r / 2 ^ n) ^ (k - 1)≤(r / 2 ^ n) ^ k:=Nat.pow_le_pow_right hq0 (by omega)
 have hAx:x / 2 ^ (n*k)≤x:=Nat.div_le_self _ _
 have hpos:0<(r / 2 ^ n) ^ (k - 1)*k:=Nat.mul_pos (Nat.pow_pos hq0) (by omega)
 have hqx:r / 2 ^ n≤(r / 2 ^ n) ^ k:=Nat.le_self_pow (by omega) _
 generalize hA:x / 2 ^ (n*k)=A at *
 generalize hy:x / 2 ^ (n*(k - 1)) % 2 ^ n=y at *
 generalize hq:r / 2 ^ n=q at *
 have s1:blen (A - q ^ k)≤67108864:=Nat.le_trans (blen_mono (show A - q ^ k≤x by omega)) hbx
 have s2:blen (q ^ (k - 1))≤67108864:=Nat.le_trans (blen_mono (show q ^ (k - 1)≤x by omega)) hbx
 have s3:blen q≤67108864:=Nat.le_trans (blen_mono (show q≤x by omega)) hbx
 have s4:blen (q ^ (k - 1)*k)≤67108891:=by
  have b1:=(blen_le_iff _ _).1 s2
  have b2:k<2 ^ 27:=by omega
  obtain⟨K,hK⟩:∃K,67108864=K:=⟨_,rfl⟩
  rw [hK] at b1
  have:=(blen_le_iff (q ^ (k - 1)*k) (K+27)).2 (by rw [Nat.pow_add];exact Nat.mul_lt_mul_of_lt_of_lt b1 b2)
  omega
 have s5:blen (y+2 ^ n*(A - q ^ k))≤134217728:=by
  have b1:=(blen_le_iff _ _).1 s1
  obtain⟨K,hK⟩:∃K,67108864=K:=⟨_,rfl⟩
  rw [hK] at b1 hbx
  have:=(blen_le_iff (y+2 ^ n*(A - q ^ k)) (n+K)).2 (by
   rw [Nat.pow_add]
   have:=Nat.mul_le_mul_left (2 ^ n) (Nat.succ_le_of_lt b1)
   rw [Nat.mul_succ] at this
   omega)
  omega
 have hn2:2 ^ (n+2)≤2 ^ len:=Nat.pow_le_pow_right (by omega) hn
 rw [Nat.pow_add] at hn2
 refine⟨s1,s2,s3,s4,s5,hpos,?_,?_,g1,by omega⟩
 ·refine Nat.le_trans ((blen_le_iff _ (n+2)).2 ?_) (by omega)
  rw [Nat.pow_add]
  have:=Nat.two_pow_pos n
  omega
 ·refine Nat.le_trans ((blen_le_iff _ len).2 ?_) (by omega)
  omega

end Lm

theorem guess_big (X:List Nat)(va:Value)(w:World)(k r:Nat)(IH:FurOk (blen (val X)))(hA:Arg w va X)(hT:Tab w)(hl:X.length≤17592186044000)(hbx:blen (val X)≤67108864)(hk1:2≤k)(hk2:k<blen (val X))(hr:IsRootK (val X) k r)(h64:64<rlen (val X) k) :
  Calls Tryz.prog 57 #[va,.int .i64 (k:Int)] w (RGuess w (val X) k r):=by
 obtain⟨av,cv,rfl,_,_,_⟩:=hA.form
 obtain⟨w0,hw0⟩:∃w0,w0=(w.alloc (.cells #[.slice av X.length cv] 23)).alloc (.cells #[.int .i64 (k:Int)] 3):=⟨_,rfl⟩
 have hba:Below w.heap.size w (w.alloc (.cells #[.slice av X.length cv] 23)):=below_one _ _
 have hb0:Below w.heap.size w w0:=by rw [hw0];exact hba.alloc hba.size _
 have hs1:(w.alloc (.cells #[.slice av X.length cv] 23)).heap.size=w.heap.size+1:=World.size_alloc _ _
 have ca:w0.cell? ⟨w.heap.size,0,none⟩=some (.slice av X.length cv):=by
  have hb:Below (w.alloc (.cells #[.slice av X.length cv] 23)).heap.size (w.alloc (.cells #[.slice av X.length cv] 23)) w0:=by rw [hw0];exact below_one _ _
  have h:w0.heap[w.heap.size]?=some (.cells #[.slice av X.length cv] 23):=by rw [hb.block w.heap.size (by omega)];exact heap_alloc_new ..
  simp [World.cell?,h]
 have ck:w0.cell? ⟨w.heap.size+1,0,none⟩=some (.int .i64 (k:Int)):=by
  have h:=heap_alloc_new (w.alloc (.cells #[.slice av X.length cv] 23)) (.cells #[.int .i64 (k:Int)] 3)
  rw [hs1,←hw0] at h
  simp [World.cell?,h]
 have HW0:=aa hw0
 have HB0:=aa hb0
 have HA:=aa (hA.below hb0)
 have HT:=aa (hT.below hb0)
 have HAW:=aa hA
 have HTW:=aa hT
 have HL:=rootLength_any _ X k w0 (hA.below hb0) (by omega) (by omega)
 clear hw0 hba hb0 hs1 hA hT
 unfold RGuess
 have HLN:=fun W=>Tryz.bits_Len (k:Int) W (by omega) (by omega)
 rw [Int.toNat_natCast] at HLN
 have wk:IntKind.u64.wrap (k:Int)=(k:Int):=by rw [IntKind.wrap_u64];omega
 obtain⟨kl,hkl⟩:∃kl,Lib.bitLen k=kl:=⟨_,rfl⟩
 have hk3:k<2 ^ kl:=by
  obtain⟨_,_,h3⟩:=Lib.bitLenAux_bounds 64 k (by omega) (by omega)
  rw [←hkl];exact h3
 have hkl2:kl≤27:=by rw [←hkl];exact Lib.bitLen_le k 27 (by omega) (by omega)
 rw [hkl] at HLN
 obtain⟨len,hlen⟩:∃len,rlen (val X) k=len:=⟨_,rfl⟩
 rw [hlen] at HL h64 ⊢
 have hlenb:len≤67108864:=by rw [←hlen];exact Nat.le_trans (rlen_le_blen _ _ (by omega)) hbx
 obtain⟨n,hn⟩:∃n,n=(len - kl) / 2 - 4:=⟨_,rfl⟩
 obtain⟨f1,f2,f3,f4,f5,f6,f7⟩:=guess_facts hk1 hlen h64 hk3 hkl2 hn hr
 obtain⟨s1,s2,s3,s4,s5,s6,s7,s8,s9,s10⟩:=guess_sizes hk1 hlen hbx (by omega) f2 hr f6 f7
 have hrh:=rootK_high (n:=n) (by omega) hr
 obtain⟨d,ed,hd⟩:∃d:Nat,(len:Int) - (kl:Int)=(d:Int)∧len - kl=d:=⟨len - kl,by omega,rfl⟩
 obtain⟨d2,ed2,hd2⟩:∃d2:Nat,(d:Int) / 2=(d2:Int)∧d / 2=d2:=⟨d / 2,by omega,rfl⟩
 have en:(d2:Int) - 4=(n:Int):=by omega
 obtain⟨nk,hnk⟩:∃nk,n*k=nk:=⟨_,rfl⟩
 have enk:(n:Int)*(k:Int)=(nk:Int):=by rw [←hnk];exact (Int.natCast_mul n k).symm
 obtain⟨k1,hk1'⟩:∃k1,k - 1=k1:=⟨_,rfl⟩
 have ek1:(k:Int) - 1=(k1:Int):=by omega
 obtain⟨nm,hnm⟩:∃nm,n*k1=nm:=⟨_,rfl⟩
 have enm:(n:Int)*(k1:Int)=(nm:Int):=by rw [←hnm];exact (Int.natCast_mul n k1).symm
 have hnm2:nm≤nk:=by rw [←hnm,←hnk];exact Nat.mul_le_mul_left _ (by omega)
 rw [hk1',hnk,hnm] at s5 s7 s9 s10
 rw [hnk] at f3 f4 f5 hrh s1
 rw [hk1'] at s2 s4 s6
 have hyl:val X / 2 ^ nm % 2 ^ n<2 ^ n:=Nat.mod_lt _ (Nat.two_pow_pos n)
 obtain⟨q,hq⟩:∃q,r / 2 ^ n=q:=⟨_,rfl⟩
 rw [hq] at s1 s2 s3 s4 s5 s6 s7 s8 s9 s10 hrh
 obtain⟨y,hy⟩:∃y,val X / 2 ^ nm % 2 ^ n=y:=⟨_,rfl⟩
 rw [hy] at s5 s7 s9 s10 hyl
 obtain⟨lf,hlf⟩:∃lf,val X / 2 ^ nk - q ^ k=lf:=⟨_,rfl⟩
 rw [hlf] at s1 s5 s7 s9 s10
 have wnk:IntKind.i64.wrap (nk:Int)=nk:=by rw [IntKind.wrap_i64];omega
 have wnm:IntKind.i64.wrap (nm:Int)=nm:=by rw [IntKind.wrap_i64];omega
 have wk1:IntKind.i64.wrap (k1:Int)=k1:=by rw [IntKind.wrap_i64];omega
 have wnk':IntKind.i64.wrap ((n:Int)*(k:Int))=nk:=by rw [enk];exact wnk
 have wk1':IntKind.i64.wrap ((k:Int) - 1)=k1:=by rw [ek1];exact wk1
 have ca':w0.drew.cell? ⟨w.heap.size,0,none⟩=some (.slice av X.length cv):=ca
 have ck':w0.drew.cell? ⟨w.heap.size+1,0,none⟩=some (.int .i64 (k:Int)):=ck
 have D1:=cr _ X nk w0.drew HA.out.drew (by omega) (by omega)
 have hTd:Tab w0.drew:=HT.out.below (Below.refl _ _).drew
 have FF:=aa (fun (w1:World) (v1:Value) (r1:List Nat) (d1:Ans w1 w0.drew.heap.size v1 r1) (p1:val r1=val X / 2 ^ nk) (t1:tr r1=r1) (hb1:Below w0.drew.heap.size w0.drew w1)=>
  show Calls Tryz.prog 25 #[v1,.int .i64 (k:Int)] w1 (NbDone2 w1 q lf) by
   have l1:r1.length≤1048576:=bU t1 p1 (by omega)
   have h:=IH r1 v1 w1 k q (by rw [p1];exact f5) (d1.arg (by omega)) (hTd.below hb1) (by omega) (by rw [p1];omega) hk1 (by rw [p1];exact f4) (by rw [p1];exact hrh)
   rw [p1,hlf] at h
   exact h)
 have i1:¬(len:Int)≤64:=by omega
 have HSZ:=aa (And.intro s1 (And.intro s2 (And.intro s3 (And.intro s4 (And.intro s5 (And.intro s6 (And.intro s7 (And.intro s8 (And.intro s9 (And.intro s10 (And.intro hyl hy)))))))))))
 have HBB:=aa (And.intro hbx hl)
 have hnb:n≤67108864:=by omega
 have hkb:k≤67108864:=by omega
 have hkn1:k1≤67108864:=by omega
 have hnmb:nm≤67108864:=by omega
 have HB:=HB0
 clear IH f1 f2 f3 f4 f5 f6 f7 s1 s2 s3 s4 s5 s6 s7 s8 s9 s10 hrh hkl hk3 hlen hn hd hd2 hnk hk1' hnm hnm2 hq hy hlf hyl hr hbx hk2 hTd HB0
 go_enter Tryz.func57,Tryz.ntmps57
 go_wp2_with fail
 rw [←HW0.out]
 refine HL.mono ?_
 rintro e wn ⟨rfl,hw⟩;rw [hw];clear hw wn HL
 go_wp2_with fail
 refine (HLN _).mono ?_
 rintro e wn' ⟨rfl,hw⟩;rw [hw];clear hw wn' HLN
 go_wp2
 go_region_held3 (fun w'=>w'.cell? ⟨w.heap.size,0,none⟩=some (.slice av X.length cv)∧w'.cell? ⟨w.heap.size+1,0,none⟩=some (.int .i64 (k:Int))) (go_keep) (first
  | (go_at_call 50;refine D1.mono ?_;rintro e w1 ⟨⟨v1,r1,rfl,d1,p1,t1⟩,hb1⟩;have ca1:=cell_up4 hb1 ca';have ck1:=cell_up4 hb1 ck')
  | (go_at_call 25;refine (FF.out _ _ _ d1 p1 t1 hb1).mono ?_;rintro e w2 ⟨⟨vh,vf,rfl,Nh,Nf⟩,hb2⟩;have ca2:=cell_up4 hb2 ca1;have ck2:=cell_up4 hb2 ck1))
 have hb1':=aO hb1
 replace HB:=ak (ak HB hb1') hb2
 replace Nh:=Nh.base (Nat.zero_le _);replace Nf:=Nf.base (Nat.zero_le _)
 clear D1 FF d1 p1 t1 hb1 hb1' hb2 ca1 ck1 ca ck ca' ck'
 obtain⟨s1,s2,s3,s4,s5,s6,s7,s8,s9,s10,hyl,hy⟩:=HSZ.out
 have F1:=(rbits_any _ X nm n w2 (HAW.out.below HB.out) (by have:=HBB.out.2;omega) (by omega) (by omega)).mono fun _ _ h=>h.nb
 rw [hy] at F1
 go_wp2_with fail
 refine F1.mono ?_
 rintro e w3 ⟨⟨vy,rfl,Ny⟩,hb⟩
 replace Ny:=Ny.base HB.out.size
 replace HB:=ak HB hb
 replace Nh:=Nh.below hb;replace Nf:=Nf.below hb;have ck3:=cell_up4 hb ck2
 clear hb F1 ca2 ck2
 have F1:=njoin (n:=n) Nf Ny (by omega) (by omega) hyl
 clear Nf Ny
 go_wp2_with fail
 refine F1.mono ?_
 rintro e w4 ⟨⟨vd,rfl,Nd⟩,hb⟩
 replace Nd:=Nd.base HB.out.size
 replace HB:=ak HB hb
 replace Nh:=Nh.below hb;have ck4:=cell_up4 hb ck3
 clear hb F1 ck3
 have ck4':w4.drew.cell? ⟨w.heap.size+1,0,none⟩=some (.int .i64 (k:Int)):=ck4
 have hT4:Tab w4.drew:=(HTW.out.below HB.out).below (Below.refl _ _).drew
 have FP:=npower (n:=k1) Nh.drew hT4 (by omega) (by omega) (by omega)
 have FPR:=aa (fun (w5:World) (v5:Value) (w6:World) (v6:Value) (N5:Nb w5 w4.drew.heap.size v5 (q ^ k1)) (hb5:Below w4.drew.heap.size w4.drew w5) (N6:Nb w6 w5.heap.size v6 k) (hb6:Below w5.heap.size w5 w6)=>
  show Calls Tryz.prog 56 #[v5,v6] w6 (NbDone w6 (q ^ k1*k)) by
   have bk:blen k≤64:=(blen_le_iff k 64).2 (by omega)
   exact nprod (N5.below hb6) N6 ((hT4.below hb5).below hb6) (by omega) (by omega))
 have HSZ2:=aa (And.intro s3 (And.intro s4 (And.intro s5 (And.intro s6 (And.intro s7 (And.intro s8 (And.intro s9 s10)))))))
 clear s1 s2 s3 s4 s5 s6 s7 s8 s9 s10 hyl hy HSZ hT4
 go_wp2
 go_region_held3 (fun w'=>w'.cell? ⟨w.heap.size+1,0,none⟩=some (.int .i64 (k:Int))) (go_keep) (first
  | (go_at_call 58;refine FP.mono ?_;rintro e w5 ⟨⟨v5,rfl,N5⟩,hb5⟩;have ck5:=cell_up4 hb5 ck4')
  | (go_at_call 21;refine (nfrom k w5 (by omega)).mono ?_;rintro e w6 ⟨⟨v6,rfl,N6⟩,hb6⟩;have ck6:=cell_up4 hb6 ck5)
  | (go_at_call 56;refine (FPR.out _ _ _ _ N5 hb5 N6 hb6).mono ?_;rintro e w7 ⟨⟨v7,rfl,N7⟩,hb7⟩;have ck7:=cell_up4 hb7 ck6))
 have hb5':=aO hb5
 replace Nh:=((Nh.below hb5').below hb6).below hb7
 replace Nd:=((Nd.below hb5').below hb6).below hb7
 replace HB:=ak (ak (ak HB hb5') hb6) hb7
 replace N7:=N7.base (Nat.zero_le _)
 clear FP FPR N5 N6 hb5 hb5' hb6 hb7 ck4 ck4' ck5 ck6 ck7
 obtain⟨s3,s4,s5,s6,s7,s8,s9,s10⟩:=HSZ2.out
 have F1:=nquo Nd N7 (HTW.out.below HB.out) (by omega) (by omega) s6 s7
 clear Nd N7
 go_wp2_with fail
 refine F1.mono ?_
 rintro e w8 ⟨⟨vs,rfl,Ns⟩,hb⟩
 replace Ns:=Ns.base HB.out.size
 replace HB:=ak HB hb
 replace Nh:=Nh.below hb
 clear hb F1
 have F1:=nup (n:=n) Nh (by omega) (by omega)
 clear Nh
 go_wp2_with fail
 refine F1.mono ?_
 rintro e w9 ⟨⟨vu,rfl,Nu⟩,hb⟩
 replace Nu:=Nu.base HB.out.size
 replace HB:=ak HB hb
 replace Ns:=Ns.below hb
 clear hb F1
 have F1:=nsum Nu Ns (by omega) (by omega)
 clear Nu Ns
 go_wp2_with fail
 refine F1.mono ?_
 rintro e w10 ⟨⟨vg,rfl,Ng⟩,hb⟩
 replace Ng:=Ng.base HB.out.size
 replace HB:=ak HB hb
 clear hb F1
 have HD:=aa Ng
 have HE:=aa (And.intro s9 s10)
 clear Ng s3 s4 s5 s6 s7 s8 s9 s10
 go_wp2
 go_ret
 exact⟨⟨_,_,rfl,HD.out,HE.out.1,HE.out.2⟩,HB.out⟩

def rdV (w:World):Value→Nat
 | .slice (some a) n _=>val ((List.range n).map fun k=>match w.cell? ⟨a.block,a.off+k,none⟩ with
  | some v=>(intOf v).toNat
  | none=>0)
 | _=>0

theorem rdV_arg {w:World}{v:Value}{zs:List Nat}(h:Arg w v zs):rdV w v=val zs:=by
 obtain⟨ao,cap,rfl,_,_,hl⟩:=h.form
 rcases hl with rfl|⟨b,off,rfl,hc⟩
 ·cases ao with
  | none=>rfl
  | some a=>rfl
 ·show val _=val zs
  congr 1
  apply List.ext_getElem
  ·simp
  ·intro i h1 h2
   simp only [List.getElem_map,List.getElem_range]
   rw [hc i h2]
   simp [intOf,List.getD,h2]

namespace Lm

theorem guess_pow {x k g:Nat}(hk:1≤k)(hbx:blen x≤67108864)(hkx:k≤67108864)(hg:g≤4*2 ^ rlen x k):blen (g ^ k)≤402653184∧blen g≤67108868:=by
 have h1:=rlen_le x k hk
 have h2:=rlen_le_blen x k hk
 have h3:g<2 ^ (rlen x k+3):=by
  rw [Nat.pow_add]
  have:=Nat.two_pow_pos (rlen x k)
  omega
 have h4:g ^ k<2 ^ ((rlen x k+3)*k):=by rw [Nat.pow_mul];exact Nat.pow_lt_pow_left h3 (by omega)
 have h5:=(blen_le_iff _ _).2 h4
 rw [Nat.add_mul] at h5
 exact⟨by omega,Nat.le_trans ((blen_le_iff _ _).2 h3) (by omega)⟩

end Lm

theorem further_of (X:List Nat)(va:Value)(w:World)(k r:Nat)(HG:Calls Tryz.prog 57 #[va,.int .i64 (k:Int)] w (RGuess w (val X) k r))(hA:Arg w va X)(hT:Tab w)(hl:X.length≤17592186044000)(hbx:blen (val X)≤67108864)(hk1:2≤k)(hk2:k<blen (val X))(hr:IsRootK (val X) k r) :
  Calls Tryz.prog 25 #[va,.int .i64 (k:Int)] w (NbDone2 w r (val X - r ^ k)):=by
 have HA:=aa hA
 have HT:=aa hT
 have HR:=aa hr
 have HX:=aa hbx
 have hkb:k≤67108864:=by omega
 obtain⟨rr,hrr⟩:∃rr,rr=val X - r ^ k:=⟨_,rfl⟩
 rw [←hrr]
 have HRR:=aa hrr
 clear hA hT hr hbx hk2 hrr
 go_enter Tryz.func25,Tryz.ntmps25
 go_wp2_with fail
 refine HG.mono ?_
 rintro e w1 ⟨⟨v1,g1,rfl,N1,hg1,hg2⟩,hb1⟩
 have HS:=aa (And.intro N1 (And.intro hg1 (And.intro hg2 hb1)))
 clear N1 hg1 hg2 hb1 HG
 go_wp2
 go_loopw [6] (fun v wr=>∃g u,u=v∧Nb wr w.heap.size u g∧r≤g∧g≤4*2 ^ rlen (val X) k∧Below w.heap.size w wr) (fun v wr=>rdV wr v)
 case atStart=>exact⟨g1,_,rfl,HS.out.1,HS.out.2.1,HS.out.2.2.1,HS.out.2.2.2⟩
 case round=>
  obtain⟨g,u,hu,hN,hg1,hg2,hb⟩:=hrel
  subst hu
  obtain⟨p1,p2⟩:=guess_pow (by omega) HX.out hkb hg2
  have HM:Hid (rdV wr u=g):=by
   obtain⟨rs,a,e,_,_⟩:=hN.arg (by omega)
   exact aa (by rw [rdV_arg a];exact e)
  have HB:=aa hb
  have HGG:=aa (And.intro hg1 hg2)
  have HNG:=aa hN
  have F1:=npower (n:=k) hN (HT.out.below hb) (by omega) (by omega) (by omega)
  clear hg2 hb HS hN
  go_wp2_with fail
  refine F1.mono ?_
  rintro e w2 ⟨⟨v2,rfl,N2⟩,hb⟩
  have HB2:=ak HB hb
  have HNG2:=aa (HNG.out.below hb)
  replace N2:=N2.base HB.out.size
  have HC:Calls Tryz.prog 10 #[v2,va] w2 fun e w'=>e=.returned (.int .i64 (cmpN (g ^ k) (val X)))∧ai w2 w':=by
   obtain⟨r2,a2,e2,_,_⟩:=N2.arg (by omega)
   have h:=cu v2 va r2 X w2 a2 (HA.out.below HB2.out)
   rw [e2] at h
   exact h
  clear hb F1
  by_cases hfin:g ^ k≤val X
  ·obtain rfl:g=r:=Nat.le_antisymm (rootK_le HR.out hfin) hg1
   have hc:=cmpN_le hfin
   have HF:=aa hfin
   generalize cmpN (g ^ k) (val X)=cc at *
   clear hfin
   go_wp2_with fail
   refine HC.mono ?_
   rintro e w3 ⟨rfl,hsm⟩
   have hb:=hsm.below w2.heap.size
   have HB3:=ak HB2 hb
   have HNG3:=aa (HNG2.out.below hb)
   have F2:Calls Tryz.prog 23 #[va,v2] w3 (NbDone w3 (val X - g ^ k)):=by
    obtain⟨r2,a2,e2,_,_⟩:=(N2.below hb).arg (by omega)
    have h:=dm va v2 X r2 w3 (HA.out.below HB3.out) a2 (by omega) (by rw [e2];exact HF.out)
    rw [e2] at h
    exact h.mono fun _ _ h=>h.nb
   clear hb hsm HC N2
   go_wp2_with fail
   refine F2.mono ?_
   rintro e w4 ⟨⟨v4,rfl,N4⟩,hb⟩
   have HD:=aa (show NbDone2 w g rr (.returned (.tuple #[u,v4])) w4 from ⟨⟨u,v4,rfl,HNG3.out.below hb,by rw [HRR.out];exact N4.base HB3.out.size⟩,(ak HB3 hb).out⟩)
   clear F2 N4 hb
   go_wp2
   go_returns
   exact HD.out
  ·have hc:(0:Int)<cmpN (g ^ k) (val X):=by rw [cmpN_gt (by omega)];omega
   have hc2:¬cmpN (g ^ k) (val X)≤0:=by omega
   have hgr:r<g:=by
    rcases Nat.lt_or_ge r g with h|h
    ·exact h
    ·exfalso
     have:g=r:=by omega
     rw [this] at hfin
     exact hfin HR.out.1
   generalize cmpN (g ^ k) (val X)=cc at *
   clear hfin N2
   go_wp2_with fail
   refine HC.mono ?_
   rintro e w3 ⟨rfl,hsm⟩
   have hb:=hsm.below w2.heap.size
   have HB3:=ak HB2 hb
   have HNG3:=aa (HNG2.out.below hb)
   have F2:=nfrom 1 w3 (by omega)
   clear hb hsm HC
   go_wp2_with fail
   refine F2.mono ?_
   rintro e w4 ⟨⟨v4,rfl,N4⟩,hb⟩
   have HB4:=ak HB3 hb
   have F3:=nless (HNG3.out.below hb) N4 (by omega) (by omega)
   clear F2 N4 hb
   go_wp2_with fail
   refine F3.mono ?_
   rintro e w5 ⟨⟨v5,rfl,N5⟩,hb⟩
   have HD:=aa (And.intro (N5.base HB4.out.size) (ak HB4 hb).out)
   have HM5:Hid (rdV w5 v5=g - 1):=by
    obtain⟨rs,a,e,_,_⟩:=N5.arg (Nat.le_trans (blen_mono (Nat.sub_le _ _)) (by omega))
    exact aa (by rw [rdV_arg a];exact e)
   clear F3 N5 hb
   go_wp2
   go_roundw
   case rel=>exact⟨g - 1,_,rfl,HD.out.1,by omega,by have:=HGG.out.2;omega,HD.out.2⟩
   case measure=>rw [HM5.out,HM.out];omega

theorem further_any:∀N,FurOk N
 | 0=>fun X va w k r h=>absurd h (Nat.not_lt_zero _)
 | N+1=>fun X va w k r h hA hT hl hbx hk1 hk2 hr=>by
  have IH:FurOk (blen (val X)):=fun X' va' w' k' r' h'=>further_any N X' va' w' k' r' (by omega)
  refine further_of X va w k r ?_ hA hT hl hbx hk1 hk2 hr
  by_cases h64:rlen (val X) k≤64
  ·exact guess_small X va w k r hA hT hl hbx hk1 hk2 hr h64
  ·exact guess_big X va w k r IH hA hT hl hbx hk1 hk2 hr (by omega)

def gi (w:World)(x y:Nat)(e:Ending)(w':World):Prop:=(∃v1 v2,e=.returned (.tuple #[v1,v2,.int .i64 0])∧Nb w' w.heap.size v1 x∧Nb w' w.heap.size v2 y)∧Below w.heap.size w w'

theorem dQ (v1 v2:Value)(x y B:Nat)(w:World)(h1:Nb w B v1 x)(h2:Nb w B v2 y)(hx:blen x≤67108864)(hy:blen y≤67108864) :
  Calls Tryz.prog 22 #[v1,v2] w fun e w'=>w'=w∧∃u1 u2,e=.returned (.tuple #[u1,u2,.int .i64 0])∧Nb w B u1 x∧Nb w B u2 y:=by
 refine (ranswers_any v1 v2 B B x y w h1 h2 hx (by omega)).mono ?_
 rintro e w' ⟨hw,ht⟩
 refine⟨hw,?_⟩
 rw [Nat.min_self] at ht
 rcases ht with ⟨_,_,u1,u2,h1,h2,h3⟩|⟨h,_⟩
 ·exact⟨u1,u2,h1,h2,h3⟩
 ·omega

theorem jh (va:Value)(X:List Nat)(k r:Nat)(w:World)(hA:Arg w va X)(hT:Tab w)(hl:X.length≤17592186044000)(hbx:blen (val X)≤67108864)(hk1:1≤k)(hk2:k≤9223372036854775807)(hr:IsRootK (val X) k r) :
  Calls Tryz.prog 7 #[va,.int .i64 (k:Int)] w (gi w r (val X - r ^ k)):=by
 unfold gi
 have HL:=az va X w hA
 have HR:=rootLength_any va X k w hA hk1 hk2
 have hrl:rlen (val X) k≤67108864:=Nat.le_trans (rlen_le_blen _ _ hk1) hbx
 have i0:¬(k:Int)<1:=by omega
 have i1:¬(67108864:Int)<((rlen (val X) k:Nat):Int):=by omega
 have br:blen r≤67108864:=Nat.le_trans (blen_mono (rootK_small hk1 hr)) hbx
 have bs:blen (val X - r ^ k)≤67108864:=Nat.le_trans (blen_mono (Nat.sub_le _ _)) hbx
 obtain⟨rl,hrl'⟩:∃rl,rlen (val X) k=rl:=⟨_,rfl⟩
 rw [hrl'] at HR i1
 clear hrl hrl'
 by_cases h0:val X=0
 ·have hr0:r=0:=by have:=rootK_small hk1 hr;omega
  have HE:Hid (val X=r∧val X - r ^ k=0):=aa ⟨by omega,by omega⟩
  have HN:=cM va X w hA (by omega)
  have hb0:blen (val X)=0:=(aU _).2 h0
  rw [hb0] at HL
  clear hA hr h0 hr0 br bs hb0 hbx
  go_enter Tryz.func7,Tryz.ntmps7
  go_wp2_with fail
  refine HL.mono ?_
  rintro e wn ⟨rfl,hw⟩;rw [hw];clear hw wn HL
  go_wp2_with fail
  refine HR.mono ?_
  rintro e wn ⟨rfl,hw⟩;rw [hw];clear hw wn HR
  go_wp2_with fail
  refine HN.mono ?_
  rintro e w1 ⟨⟨v1,rfl,A1⟩,hb1⟩
  have HD:=aa (And.intro (show Nb w1 w.heap.size v1 r from ⟨_,A1,by rw [val_tr];exact HE.out.1,tr_tr _⟩) hb1)
  clear A1 hb1 HN
  go_wp2
  go_returns
  refine⟨⟨_,_,rfl,HD.out.1,?_⟩,HD.out.2⟩
  rw [HE.out.2]
  exact⟨[],Ans.nil _ _,rfl,rfl⟩
 ·have hL0:blen (val X)≠0:=fun h=>h0 ((aU _).1 h)
  obtain⟨L,hL⟩:∃L,blen (val X)=L:=⟨_,rfl⟩
  rw [hL] at HL
  have iL:((L:Int) == 0)=false:=by rw [beq_eq_false_iff_ne];omega
  by_cases h1:k=1
  ·subst h1
   have hrx:r=val X:=by
    have:=hr.1;have:=hr.2
    rw [Nat.pow_one] at *
    omega
   have HE:Hid (val X=r∧val X - r ^ 1=0):=aa ⟨hrx.symm,by rw [Nat.pow_one];omega⟩
   have HN:=cM va X w hA (by omega)
   clear hA hr hrx br bs hL hL0 hbx h0
   go_enter Tryz.func7,Tryz.ntmps7
   go_wp2_with fail
   refine HL.mono ?_
   rintro e wn ⟨rfl,hw⟩;rw [hw];clear hw wn HL
   go_wp2_with fail
   refine HR.mono ?_
   rintro e wn ⟨rfl,hw⟩;rw [hw];clear hw wn HR
   go_wp2_with fail
   refine HN.mono ?_
   rintro e w1 ⟨⟨v1,rfl,A1⟩,hb1⟩
   have HD:=aa (And.intro (show Nb w1 w.heap.size v1 r from ⟨_,A1,by rw [val_tr];exact HE.out.1,tr_tr _⟩) hb1)
   clear A1 hb1 HN
   go_wp2
   go_returns
   refine⟨⟨_,_,rfl,HD.out.1,?_⟩,HD.out.2⟩
   rw [HE.out.2]
   exact⟨[],Ans.nil _ _,rfl,rfl⟩
  ·have ik1:((k:Int) == 1)=false:=by rw [beq_eq_false_iff_ne];omega
   by_cases h2:L≤k
   ·have i2:(L:Int)≤(k:Int):=by omega
    have hr1:r=1:=by
     refine rootK_uniq hk1 hr ⟨by rw [Nat.one_pow];omega,?_⟩
     have:=(blen_le_iff (val X) k).1 (by omega)
     exact this
    have e1:val X - r ^ k=val X - 1:=by rw [hr1,Nat.one_pow]
    rw [e1] at bs ⊢
    subst hr1
    have HF:=nfrom 1 w (by omega)
    have HA:=aa hA
    have HX:=aa (show 1≤val X by omega)
    clear hA hr h1 h2 hL hL0 e1 h0 hbx
    go_enter Tryz.func7,Tryz.ntmps7
    go_wp2_with fail
    refine HL.mono ?_
    rintro e wn ⟨rfl,hw⟩;rw [hw];clear hw wn HL
    go_wp2_with fail
    refine HR.mono ?_
    rintro e wn ⟨rfl,hw⟩;rw [hw];clear hw wn HR
    go_wp2_with fail
    refine HF.mono ?_
    rintro e w1 ⟨⟨v1,rfl,N1⟩,hb1⟩
    have HB:=aa hb1
    have F1:Calls Tryz.prog 23 #[va,v1] w1 (NbDone w1 (val X - 1)):=by
     obtain⟨r1,a1,p1,_,_⟩:=N1.arg (by rw [show blen 1=1 from rfl];omega)
     have h:=dm va v1 X r1 w1 (HA.out.below hb1) a1 (by omega) (by rw [p1];exact HX.out)
     rw [p1] at h
     exact h.mono fun _ _ h=>h.nb
    clear hb1 HF
    go_wp2_with fail
    refine F1.mono ?_
    rintro e w2 ⟨⟨v2,rfl,N2⟩,hb2⟩
    replace N1:=N1.below hb2
    replace N2:=N2.base HB.out.size
    replace HB:=ak HB hb2
    have F2:=dQ v1 v2 1 (val X - 1) w.heap.size w2 N1 N2 br bs
    clear hb2 F1 N1 N2
    go_wp2_with fail
    refine F2.mono ?_
    rintro e wn ⟨hw,u1,u2,rfl,m1,m2⟩
    subst hw
    have HD:=aa (And.intro m1 m2)
    clear m1 m2 F2
    go_wp2
    go_returns
    exact⟨⟨_,_,rfl,HD.out.1,HD.out.2⟩,HB.out⟩
   ·have i2:¬(L:Int)≤(k:Int):=by omega
    by_cases h3:k=2
    ·subst h3
     have F1:=rsecond_any (blen (val X)) X va w r (Nat.le_refl _) (by omega) hA hT hl (rootK_two.1 hr)
     rw [←Nat.pow_two] at F1
     clear hA hT hr h1 h2 hL hL0 h0 hbx
     go_enter Tryz.func7,Tryz.ntmps7
     go_wp2_with fail
     refine HL.mono ?_
     rintro e wn ⟨rfl,hw⟩;rw [hw];clear hw wn HL
     go_wp2_with fail
     refine HR.mono ?_
     rintro e wn ⟨rfl,hw⟩;rw [hw];clear hw wn HR
     go_wp2_with fail
     refine F1.mono ?_
     rintro e w1 ⟨⟨v1,v2,rfl,N1,N2⟩,hb1⟩
     have HB:=aa hb1
     have F2:=dQ v1 v2 r (val X - r ^ 2) w.heap.size w1 N1 N2 br bs
     clear hb1 F1 N1 N2
     go_wp2_with fail
     refine F2.mono ?_
     rintro e wn ⟨hw,u1,u2,rfl,m1,m2⟩
     subst hw
     have HD:=aa (And.intro m1 m2)
     clear m1 m2 F2
     go_wp2
     go_returns
     exact⟨⟨_,_,rfl,HD.out.1,HD.out.2⟩,HB.out⟩
    ·have ik2:((k:Int) == 2)=false:=by rw [beq_eq_false_iff_ne];omega
     have F1:=further_any (blen (val X)+1) X va w k r (by omega) hA hT hl hbx (by omega) (by omega) hr
     clear hA hT hr h1 h2 hL hL0 h0 hbx
     go_enter Tryz.func7,Tryz.ntmps7
     go_wp2_with fail
     refine HL.mono ?_
     rintro e wn ⟨rfl,hw⟩;rw [hw];clear hw wn HL
     go_wp2_with fail
     refine HR.mono ?_
     rintro e wn ⟨rfl,hw⟩;rw [hw];clear hw wn HR
     go_wp2_with fail
     refine F1.mono ?_
     rintro e w1 ⟨⟨v1,v2,rfl,N1,N2⟩,hb1⟩
     have HB:=aa hb1
     have F2:=dQ v1 v2 r (val X - r ^ k) w.heap.size w1 N1 N2 br bs
     clear hb1 F1 N1 N2
     go_wp2_with fail
     refine F2.mono ?_
     rintro e wn ⟨hw,u1,u2,rfl,m1,m2⟩
     subst hw
     have HD:=aa (And.intro m1 m2)
     clear m1 m2 F2
     go_wp2
     go_returns
     exact⟨⟨_,_,rfl,HD.out.1,HD.out.2⟩,HB.out⟩
end Go.Proofs.YtiagnfghnfhlnaaGreatDoor

