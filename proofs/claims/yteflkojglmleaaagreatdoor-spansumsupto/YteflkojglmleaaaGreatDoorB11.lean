/- The document's Add of dyadics, where one of them is 0; where the first has the higher exponent. -/
import Derived.Test.YteflkojglmleaaaGreatDoorB10
import Derived.Test.YteflkojglmleaaaGreatDoorB09
import Derived.Test.YteflkojglmleaaaGreatDoorB04
import Derived.Test.YteflkojglmleaaaGreatDoorB03
import Derived.Test.YteflkojglmleaaaGreatDoorB08
import Derived.Test.YteflkojglmleaaaGreatDoorB07
set_option maxRecDepth 20000
set_option maxHeartbeats 4000000
namespace Go.Proofs.YteflkojglmleaaaGreatDoor
open Go.RowKit
open Lm
attribute [local go_sem ↓] Go.wp_at_zero Go.wp_at_succ

def kO (w:World)(M E:Int)(e:Ending)(w':World):Prop:=
 (∃b a n k E' ok,e=.returned (.tuple #[.agg #[.bool b,.slice a n k,.int .i64 E'],.bool ok])∧((ok=true∧Dn w' b (.slice a n k) M∧E'=E)∨(ok=false∧67108864<blen M.natAbs∧Dn w' b (.slice a n k) 0)))∧Below w.heap.size w w'

def dq (w:World)(K:Nat)(M E:Int)(e:Ending)(w':World):Prop:=
 (∃b a n k E' ok,e=.returned (.tuple #[.agg #[.bool b,.slice a n k,.int .i64 E'],.bool ok])∧((ok=true∧Dn w' b (.slice a n k) M∧E'=E)∨(ok=false∧67108864+K<blen M.natAbs∧Dn w' b (.slice a n k) 0)))∧Below w.heap.size w w'

theorem dq.r {w w':World}{K:Nat}{M E:Int}{e:Ending}(h:dq w K M E e w'):kO w M E e w':=by
 obtain⟨⟨b,a,n,k,E',ok,h1,h2|h2⟩,h3⟩:=h
 ·exact⟨⟨b,a,n,k,E',ok,h1,.inl h2⟩,h3⟩
 ·exact⟨⟨b,a,n,k,E',ok,h1,.inr ⟨h2.1,by have:=h2.2.1;omega,h2.2.2⟩⟩,h3⟩

theorem rp (b1:Bool)(a1:Option Addr)(n1 c1:Nat)(E1:Int)(b2:Bool)(a2:Option Addr)(n2 c2:Nat)(M2 E2:Int)(w:World)(hD1:Dn w b1 (.slice a1 n1 c1) 0)(hD2:Dn w b2 (.slice a2 n2 c2) M2)(K:Nat) :
  Calls Tryz.prog 30 #[.agg #[.bool b1,.slice a1 n1 c1,.int .i64 E1],.agg #[.bool b2,.slice a2 n2 c2,.int .i64 E2]] w (dq w K M2 E2):=by
 obtain⟨w0,hw0,hb0,h0,h1,h2⟩:=aE w (.cells #[.bool b1,.slice a1 n1 c1,.int .i64 E1] 41) (.cells #[.bool b2,.slice a2 n2 c2,.int .i64 E2] 41) (.cells #[.bool false,.slice none 0 0,.int .i64 0] 41)
 obtain⟨x0,x1,x2⟩:=tri8 h0
 have HS:=bo _ 0 w0 (hD1.below hb0).zn
 rw [show Int.sign 0=0 from rfl] at HS
 have HK1:=ab h1
 have HK2:=ab h2
 have HB:=ab hb0
 have HD2:=ab (hD2.below hb0)
 clear h0 h1 h2 hb0 hD1 hD2
 go_enter Tryz.func30,Tryz.ntmps30
 go_wp2_with fail
 refine HS.mono ?_
 rintro e t1 ⟨rfl,g1⟩
 have HC1:=ab (ac g1 HK2.out)
 have HG:=ab (ae HB.out g1)
 have hf1:=am HC1.out
 obtain⟨m0,m1,m2⟩:=tri8 HC1.out
 obtain⟨y0,y1,y2⟩:=tri8 (ac g1 HK1.out)
 have HDD:=ab (HD2.out.below g1)
 clear g1 HS
 go_wp2
 have T3:=ay HC1.out (.bool b2) (.slice a2 n2 c2) (.int .i64 E2)
 have T4:=an HG.out (show w.heap.size≤w.heap.size+1+1 by omega) (.bool b2) (.slice a2 n2 c2) (.int .i64 E2)
 have T5:=HDD.out.tri8 HC1.out b2 a2 n2 c2 (.int .i64 E2)
 obtain⟨p0,p1,p2⟩:=tri8 T3
 have HE:=ab (And.intro T5 T4)
 clear T3 T4 T5
 generalize ((t1.setCell ⟨w.heap.size+1+1,0,none⟩ (.bool b2)).setCell ⟨w.heap.size+1+1,1,none⟩ (.slice a2 n2 c2)).setCell ⟨w.heap.size+1+1,2,none⟩ (.int .i64 E2)=w5 at *
 refine bodyPost_ret (v:=.tuple #[.agg #[.bool b2,.slice a2 n2 c2,.int .i64 E2],.bool true]) (by simp [results,Tryz.results30,go_sem,p0,p1,p2]) rfl ?_
 exact⟨⟨_,_,_,_,_,_,rfl,.inl ⟨rfl,HE.out.1,rfl⟩⟩,HE.out.2⟩

theorem tO (b1:Bool)(a1:Option Addr)(n1 c1:Nat)(M1 E1:Int)(b2:Bool)(a2:Option Addr)(n2 c2:Nat)(E2:Int)(w:World)(hD1:Dn w b1 (.slice a1 n1 c1) M1)(hD2:Dn w b2 (.slice a2 n2 c2) 0)(hM:M1≠0)(K:Nat) :
  Calls Tryz.prog 30 #[.agg #[.bool b1,.slice a1 n1 c1,.int .i64 E1],.agg #[.bool b2,.slice a2 n2 c2,.int .i64 E2]] w (dq w K M1 E1):=by
 obtain⟨w0,hw0,hb0,h0,h1,h2⟩:=aE w (.cells #[.bool b1,.slice a1 n1 c1,.int .i64 E1] 41) (.cells #[.bool b2,.slice a2 n2 c2,.int .i64 E2] 41) (.cells #[.bool false,.slice none 0 0,.int .i64 0] 41)
 obtain⟨x0,x1,x2⟩:=tri8 h0
 have HS:=bo _ M1 w0 (hD1.below hb0).zn
 have hs0:(M1.sign == 0)=false:=by
  rw [beq_eq_false_iff_ne]
  exact fun h=>hM (Int.sign_eq_zero_iff_zero.1 h)
 generalize M1.sign=s1 at *
 have HK0:=ab h0
 have HK1:=ab h1
 have HK2:=ab h2
 have HB:=ab hb0
 have HD1:=ab (hD1.below hb0)
 have HD2:=ab (hD2.below hb0)
 clear h0 h1 h2 hb0 hD1 hD2 hM
 go_enter Tryz.func30,Tryz.ntmps30
 go_wp2_with fail
 refine HS.mono ?_
 rintro e t0 ⟨rfl,g0⟩
 have HS2:=bo _ 0 t0 (HD2.out.below g0).zn
 rw [show Int.sign 0=0 from rfl] at HS2
 obtain⟨y0,y1,y2⟩:=tri8 (ac g0 HK1.out)
 have HG0:=ab g0
 clear x0 x1 x2 HS g0
 go_wp2_with fail
 refine HS2.mono ?_
 rintro e t1 ⟨rfl,g1'⟩
 have g1:=ae HG0.out g1'
 have HC1:=ab (ac g1 HK2.out)
 have HG:=ab (ae HB.out g1)
 have hf1:=am HC1.out
 obtain⟨m0,m1,m2⟩:=tri8 HC1.out
 obtain⟨y0,y1,y2⟩:=tri8 (ac g1 HK0.out)
 have HDD:=ab (HD1.out.below g1)
 clear g1 g1' HS2
 go_wp2
 have T3:=ay HC1.out (.bool b1) (.slice a1 n1 c1) (.int .i64 E1)
 have T4:=an HG.out (show w.heap.size≤w.heap.size+1+1 by omega) (.bool b1) (.slice a1 n1 c1) (.int .i64 E1)
 have T5:=HDD.out.tri8 HC1.out b1 a1 n1 c1 (.int .i64 E1)
 obtain⟨p0,p1,p2⟩:=tri8 T3
 have HE:=ab (And.intro T5 T4)
 clear T3 T4 T5
 generalize ((t1.setCell ⟨w.heap.size+1+1,0,none⟩ (.bool b1)).setCell ⟨w.heap.size+1+1,1,none⟩ (.slice a1 n1 c1)).setCell ⟨w.heap.size+1+1,2,none⟩ (.int .i64 E1)=w5 at *
 refine bodyPost_ret (v:=.tuple #[.agg #[.bool b1,.slice a1 n1 c1,.int .i64 E1],.bool true]) (by simp [results,Tryz.results30,go_sem,p0,p1,p2]) rfl ?_
 exact⟨⟨_,_,_,_,_,_,rfl,.inl ⟨rfl,HE.out.1,rfl⟩⟩,HE.out.2⟩

theorem fj {w:World}{g h:Nat}{u0 u1 u2:Value}{x:Obj}(e:w.heap[h]?=some x)(hne:h≠g):(((w.setCell ⟨g,0,none⟩ u0).setCell ⟨g,1,none⟩ u1).setCell ⟨g,2,none⟩ u2).heap[h]?=some x:=by
 rw [Below.heap_setCell _ _ _ _ hne,Below.heap_setCell _ _ _ _ hne,Below.heap_setCell _ _ _ _ hne];exact e

theorem oq (b1:Bool)(a1:Option Addr)(n1 c1:Nat)(M1 E1:Int)(b2:Bool)(a2:Option Addr)(n2 c2:Nat)(M2 E2:Int)(g:Nat)(w:World)(hD1:Dn w b1 (.slice a1 n1 c1) M1)(hD2:Dn w b2 (.slice a2 n2 c2) M2)(hM1:M1≠0)(hM2:M2≠0)(hodd:M2.natAbs % 2=1)(hg:E1 - E2=(g:Int))(f1:blen M1.natAbs≤4000000000000)(f2:blen M2.natAbs≤4000000000000)(he1:-1152921504606846976≤E1)(he2:E1≤1152921504606846976)(he3:-1152921504606846976≤E2)(he4:E2≤1152921504606846976) :
  Calls Tryz.prog 30 #[.agg #[.bool b1,.slice a1 n1 c1,.int .i64 E1],.agg #[.bool b2,.slice a2 n2 c2,.int .i64 E2]] w (dq w (blen M2.natAbs) (omz (M2+M1*2 ^ g)) (oe (M2+M1*2 ^ g) E2)):=by
 obtain⟨w0,hw0,hb0,h0,h1,h2⟩:=aE w (.cells #[.bool b1,.slice a1 n1 c1,.int .i64 E1] 41) (.cells #[.bool b2,.slice a2 n2 c2,.int .i64 E2] 41) (.cells #[.bool false,.slice none 0 0,.int .i64 0] 41)
 obtain⟨x0,x1,x2⟩:=tri8 h0
 have HS:=bo _ M1 w0 (hD1.below hb0).zn
 have hs1:(M1.sign == 0)=false:=by
  rw [beq_eq_false_iff_ne]
  exact fun h=>hM1 (Int.sign_eq_zero_iff_zero.1 h)
 have hs2:(M2.sign == 0)=false:=by
  rw [beq_eq_false_iff_ne]
  exact fun h=>hM2 (Int.sign_eq_zero_iff_zero.1 h)
 have HQ2:=ab (fun (W:World) (h:Dn W b2 (.slice a2 n2 c2) M2)=>bo _ M2 W h.zn)
 generalize M1.sign=s1 at *
 generalize M2.sign=s2 at *
 have HK0:=ab h0
 have HK1:=ab h1
 have HK2:=ab h2
 have HB:=ab hb0
 have HD1:=ab (hD1.below hb0)
 have HD2:=ab (hD2.below hb0)
 have HM:=ab (And.intro hM1 hM2)
 have hEE:E2≤E1:=by omega
 have hEd:=decide_eq_false (show ¬E1<E2 by omega)
 have wg:IntKind.i64.wrap (E1 - E2)=E1 - E2:=by rw [IntKind.wrap_i64];omega
 clear h0 h1 h2 hb0 hD1 hD2 hM1 hM2
 have hbs:blen (M2+M1*2 ^ g).natAbs≤1125899906840000∨67108864+blen M2.natAbs+2<g:=by
  by_cases hq:67108864+blen M2.natAbs+2<g
  ·exact .inr hq
  ·have h9:=dF (M1:=M2) (M2:=M1) (g:=g) (n:=30000000000000) (by omega) (by omega)
   exact .inl (by omega)
 go_enter Tryz.func30,Tryz.ntmps30
 go_wp2_with fail
 refine HS.mono ?_
 rintro e t0 ⟨rfl,g0⟩
 have HS2:=HQ2.out t0 (HD2.out.below g0)
 obtain⟨y0,y1,y2⟩:=tri8 (ac g0 HK1.out)
 have HG0:=ab g0
 clear x0 x1 x2 HS g0 HQ2
 go_wp2_with fail
 refine HS2.mono ?_
 rintro e t1 ⟨rfl,g1'⟩
 have g1:=ae HG0.out g1'
 clear y0 y1 y2 HS2 g1'
 obtain⟨T,hT⟩:∃T,t1=T:=⟨_,rfl⟩
 subst hT
 have k0:=ac g1 HK0.out
 have k1:=ac g1 HK1.out
 have k2:=ac g1 HK2.out
 have dT1:=HD1.out.below g1
 have dT2:=HD2.out.below g1
 have GT:=ae HB.out g1
 have HTK0:=ab k0
 have HTK1:=ab k1
 have HTK2:=ab k2
 have HTD1:=ab dT1
 have HTD2:=ab dT2
 have HGT:=ab GT
 obtain⟨x0,x1,x2⟩:=tri8 k0
 obtain⟨y0,y1,y2⟩:=tri8 k1
 have CL:=dI (.slice a2 n2 c2) M2.natAbs t1 dT2.2
 clear k0 k1 k2 dT1 dT2 GT g1
 generalize hgi:(g:Int)=gi at *
 have HGI:=ab hgi
 have hgi2:E1 - E2=gi:=hg
 have HLB:Hid (blen M2.natAbs≤4000000000000):=ab f2
 obtain⟨lb,hlb⟩:∃lb,blen M2.natAbs=lb:=⟨_,rfl⟩
 rw [hlb] at CL hbs HLB
 have hlb9:lb≤4000000000000:=HLB.out
 have wl:IntKind.i64.wrap (67108864+(lb:Int))=67108864+(lb:Int):=by rw [IntKind.wrap_i64];omega
 have wl2:IntKind.i64.wrap (67108864+(lb:Int)+2)=67108864+(lb:Int)+2:=by rw [IntKind.wrap_i64];omega
 have HLL:=ab hlb
 clear hlb hg
 by_cases hfar:67108864+lb+2<g
 ·have hi:67108864+(lb:Int)+2<gi:=by rw [←HGI.out];omega
  have HBIG:Hid (67108864+blen M2.natAbs<blen (omz (M2+M1*2 ^ g)).natAbs):=ab (by
   have h9:=gS (M1:=M2) (M2:=M1) (g:=g) (by have:=HM.out;omega) (by rw [HLL.out];omega) hodd
   rw [HLL.out]
   omega)
  generalize omz (M2+M1*2 ^ g)=RM at *
  generalize oe (M2+M1*2 ^ g) E2=RE at *
  have hf9:=am HTK2.out
  obtain⟨m0,m1,m2⟩:=tri8 HTK2.out
  clear hbs hodd
  go_wp2_with fail
  refine CL.mono ?_
  rintro e wn ⟨rfl,hw⟩;rw [hw];clear hw wn CL
  go_wp2
  have T3:=ay HTK2.out (.bool false) (.slice none 0 0) (.int .i64 0)
  have T4:=an HGT.out (show w.heap.size≤w.heap.size+1+1 by omega) (.bool false) (.slice none 0 0) (.int .i64 0)
  obtain⟨p0,p1,p2⟩:=tri8 T3
  have HE:=ab T4
  clear T3 T4
  generalize ((t1.setCell ⟨w.heap.size+1+1,0,none⟩ (.bool false)).setCell ⟨w.heap.size+1+1,1,none⟩ (.slice none 0 0)).setCell ⟨w.heap.size+1+1,2,none⟩ (.int .i64 0)=w5 at *
  refine bodyPost_ret (v:=.tuple #[.agg #[.bool false,.slice none 0 0,.int .i64 0],.bool false]) (by simp [results,Tryz.results30,go_sem,p0,p1,p2]) rfl ?_
  exact⟨⟨_,_,_,_,_,_,rfl,.inr ⟨rfl,HBIG.out,⟨rfl,Num.nil8 _⟩⟩⟩,HE.out⟩
 ·have hi:decide (67108864+(lb:Int)+2<gi)=false:=decide_eq_false (by rw [←HGI.out];omega)
  have hi2:gi≤67108864+(lb:Int)+2:=by rw [←HGI.out];omega
  have hbm:blen (M1*2 ^ g+M2).natAbs≤1125899906840000:=by
   rw [Int.add_comm]
   rcases hbs with h|h
   ·exact h
   ·exact absurd h hfar
  have hbh:blen (M1*2 ^ g).natAbs≤1125899906840000:=by
   have h9:=dF (M1:=0) (M2:=M1) (g:=g) (n:=30000000000000) (by decide) (by omega)
   rw [Int.zero_add] at h9
   omega
  have g0:Below t1.drew.heap.size t1.drew t1.drew:=Below.refl _ _
  have HSH:=gm b1 a1 n1 c1 M1 g t1.drew (HTD1.out.below (Below.refl _ _).drew).zn (by omega)
  rw [HGI.out] at HSH
  have HAD:=ab (fun (W:World) (v:Value) (h:Zn W v (M1*2 ^ g)) (hg:Below t1.drew.heap.size t1.drew W)=>eF v (.agg #[.bool b2,.slice a2 n2 c2]) (M1*2 ^ g) M2 W h ((HTD2.out.below (Below.refl _ _).drew).below hg).zn hbh (Nat.le_trans f2 (by omega)))
  have HOF:=ab (fun (W:World) (b3:Bool) (a3:Option Addr) (n3 c3:Nat) (h:Zn W (.agg #[.bool b3,.slice a3 n3 c3]) (M1*2 ^ g+M2))=>cP b3 a3 n3 c3 (M1*2 ^ g+M2) E2 W h hbm (by omega) (by omega))
  rw [Int.add_comm (M1*2 ^ g) M2] at HAD HOF
  have KS:=ab (fun (W:World) (hg:Below t1.drew.heap.size t1.drew W)=>show W.cell? ⟨w.heap.size,0,none⟩=some (.bool b1)∧W.cell? ⟨w.heap.size,1,none⟩=some (.slice a1 n1 c1)∧W.cell? ⟨w.heap.size,2,none⟩=some (.int .i64 E1)∧W.cell? ⟨w.heap.size+1,0,none⟩=some (.bool b2)∧W.cell? ⟨w.heap.size+1,1,none⟩=some (.slice a2 n2 c2)∧W.cell? ⟨w.heap.size+1,2,none⟩=some (.int .i64 E2) from by
   obtain⟨u0,u1,u2⟩:=tri8 (ac hg (show t1.drew.heap[w.heap.size]?=some (.cells #[.bool b1,.slice a1 n1 c1,.int .i64 E1] 41) from HTK0.out))
   obtain⟨u3,u4,u5⟩:=tri8 (ac hg (show t1.drew.heap[w.heap.size+1]?=some (.cells #[.bool b2,.slice a2 n2 c2,.int .i64 E2] 41) from HTK1.out))
   exact⟨u0,u1,u2,u3,u4,u5⟩)
  have so:∀(W:World) (k:Nat) (u:Value) (k':Nat),(W.setCell ⟨w.heap.size+1+1,k,none⟩ u).cell? ⟨w.heap.size,k',none⟩=W.cell? ⟨w.heap.size,k',none⟩:=fun W k u k'=>bf (by omega)
  have so2:∀(W:World) (k:Nat) (u:Value) (k':Nat),(W.setCell ⟨w.heap.size+1+1,k,none⟩ u).cell? ⟨w.heap.size+1,k',none⟩=W.cell? ⟨w.heap.size+1,k',none⟩:=fun W k u k'=>bf (by omega)
  have HD:=ab (show Below w.heap.size w t1.drew from HGT.out.drew)
  clear hbm hbh hbs hodd
  generalize omz (M2+M1*2 ^ g)=RM at *
  generalize oe (M2+M1*2 ^ g) E2=RE at *
  generalize M2+M1*2 ^ g=RZ at *
  generalize M1*2 ^ g=RH at *
  go_wp2_with fail
  refine CL.mono ?_
  rintro e wn ⟨rfl,hw⟩;rw [hw];clear hw wn CL
  go_wp2
  go_region_held3 (fun w'=>w'.cell? ⟨w.heap.size,0,none⟩=some (.bool b1)∧w'.cell? ⟨w.heap.size,1,none⟩=some (.slice a1 n1 c1)∧w'.cell? ⟨w.heap.size,2,none⟩=some (.int .i64 E1)∧w'.cell? ⟨w.heap.size+1,0,none⟩=some (.bool b2)∧w'.cell? ⟨w.heap.size+1,1,none⟩=some (.slice a2 n2 c2)∧w'.cell? ⟨w.heap.size+1,2,none⟩=some (.int .i64 E2)) (first|with_reducible exact KS.out _ g3|with_reducible exact KS.out _ g2|with_reducible exact KS.out _ g1|with_reducible exact KS.out _ g0 | (refine⟨?_,?_,?_,?_,?_,?_⟩ <;> (first|rw [so,so,so] | rw [so2,so2,so2]) <;> (first|exact (KS.out _ g3).1|exact (KS.out _ g3).2.1|exact (KS.out _ g3).2.2.1|exact (KS.out _ g3).2.2.2.1|exact (KS.out _ g3).2.2.2.2.1|exact (KS.out _ g3).2.2.2.2.2))) (first
   | (go_at_call 45;refine HSH.mono ?_;rintro e' t2 ⟨⟨b3,a3,n3,c3,rfl,Z2⟩,g1⟩)
   | (go_at_call 61;refine (HAD.out t2 _ Z2 g1).mono ?_;rintro e' t3 ⟨⟨b5,a5,n5,c5,rfl,Z3⟩,hb2⟩;have g2:=ae g1 hb2)
   | (go_at_call 40;refine (HOF.out t3 b5 a5 n5 c5 Z3).mono ?_;rintro e' t4 ⟨⟨b4,a4,n4,c4,rfl,N4⟩,hb3⟩;have g3:=ae g2 hb3;have hz:=ac g3 (show t1.drew.heap[w.heap.size+1+1]?=some (.cells #[.bool false,.slice none 0 0,.int .i64 0] 41) from HTK2.out);have hf:=am hz;obtain⟨m0,m1,m2⟩:=tri8 hz))
  have T3:=ay hz (.bool b4) (.slice a4 n4 c4) (.int .i64 RE)
  have T4:=an (ae HD.out g3) (show w.heap.size≤w.heap.size+1+1 by omega) (.bool b4) (.slice a4 n4 c4) (.int .i64 RE)
  have T5:=N4.tri8 hz b4 a4 n4 c4 (.int .i64 RE)
  obtain⟨p0,p1,p2⟩:=tri8 T3
  have HE:=ab (And.intro T5 T4)
  clear T3 T4 T5 so so2 m0 m1 m2 hf KS g0 g1 g2 g3 hb2 hb3 HSH hz N4 Z2 Z3 HOF HAD
  generalize ((t4.setCell ⟨w.heap.size+1+1,0,none⟩ (.bool b4)).setCell ⟨w.heap.size+1+1,1,none⟩ (.slice a4 n4 c4)).setCell ⟨w.heap.size+1+1,2,none⟩ (.int .i64 RE)=w5 at *
  go_wp2
  refine bodyPost_ret (v:=.tuple #[.agg #[.bool b4,.slice a4 n4 c4,.int .i64 RE],.bool true]) (by simp [results,Tryz.results30,go_sem,p0,p1,p2]) rfl ?_
  exact⟨⟨_,_,_,_,_,_,rfl,.inl ⟨rfl,HE.out.1,rfl⟩⟩,HE.out.2⟩

theorem rH (b1:Bool)(a1:Option Addr)(n1 c1:Nat)(M1 E1:Int)(b2:Bool)(a2:Option Addr)(n2 c2:Nat)(M2 E2:Int)(g:Nat)(w:World)(hD1:Dn w b1 (.slice a1 n1 c1) M1)(hD2:Dn w b2 (.slice a2 n2 c2) M2)(hM1:M1≠0)(hM2:M2≠0)(hodd:M1.natAbs % 2=1)(hg:E2 - E1=(g:Int))(hgp:0<g)(f1:blen M1.natAbs≤4000000000000)(f2:blen M2.natAbs≤4000000000000)(he1:-1152921504606846976≤E1)(he2:E1≤1152921504606846976)(he3:-1152921504606846976≤E2)(he4:E2≤1152921504606846976) :
  Calls Tryz.prog 30 #[.agg #[.bool b1,.slice a1 n1 c1,.int .i64 E1],.agg #[.bool b2,.slice a2 n2 c2,.int .i64 E2]] w (dq w (blen M1.natAbs) (omz (M1+M2*2 ^ g)) (oe (M1+M2*2 ^ g) E1)):=by
 obtain⟨w0,hw0,hb0,h0,h1,h2⟩:=aE w (.cells #[.bool b1,.slice a1 n1 c1,.int .i64 E1] 41) (.cells #[.bool b2,.slice a2 n2 c2,.int .i64 E2] 41) (.cells #[.bool false,.slice none 0 0,.int .i64 0] 41)
 obtain⟨x0,x1,x2⟩:=tri8 h0
 have HS:=bo _ M1 w0 (hD1.below hb0).zn
 have hs1:(M1.sign == 0)=false:=by
  rw [beq_eq_false_iff_ne]
  exact fun h=>hM1 (Int.sign_eq_zero_iff_zero.1 h)
 have hs2:(M2.sign == 0)=false:=by
  rw [beq_eq_false_iff_ne]
  exact fun h=>hM2 (Int.sign_eq_zero_iff_zero.1 h)
 have HQ2:=ab (fun (W:World) (h:Dn W b2 (.slice a2 n2 c2) M2)=>bo _ M2 W h.zn)
 generalize M1.sign=s1 at *
 generalize M2.sign=s2 at *
 have HK0:=ab h0
 have HK1:=ab h1
 have HK2:=ab h2
 have HB:=ab hb0
 have HD1:=ab (hD1.below hb0)
 have HD2:=ab (hD2.below hb0)
 have HM:=ab (And.intro hM1 hM2)
 have hEE:E1<E2:=by omega
 have hEd:=decide_eq_true (show E1<E2 by omega)
 have wg:IntKind.i64.wrap (E2 - E1)=E2 - E1:=by rw [IntKind.wrap_i64];omega
 clear h0 h1 h2 hb0 hD1 hD2 hM1 hM2
 have hbs:blen (M1+M2*2 ^ g).natAbs≤1125899906840000∨67108864+blen M1.natAbs+2<g:=by
  by_cases hq:67108864+blen M1.natAbs+2<g
  ·exact .inr hq
  ·have h9:=dF (M1:=M1) (M2:=M2) (g:=g) (n:=30000000000000) (by omega) (by omega)
   exact .inl (by omega)
 go_enter Tryz.func30,Tryz.ntmps30
 go_wp2_with fail
 refine HS.mono ?_
 rintro e t0 ⟨rfl,g0⟩
 have HS2:=HQ2.out t0 (HD2.out.below g0)
 obtain⟨y0,y1,y2⟩:=tri8 (ac g0 HK1.out)
 have HG0:=ab g0
 clear x0 x1 x2 HS g0 HQ2
 go_wp2_with fail
 refine HS2.mono ?_
 rintro e t1 ⟨rfl,g1'⟩
 have g1:=ae HG0.out g1'
 clear y0 y1 y2 HS2 g1'
 have q0:=ac g1 HK0.out
 have q1:=ac g1 HK1.out
 have q2:=ac g1 HK2.out
 have fq0:=am q0
 have fq1:=am q1
 obtain⟨x0,x1,x2⟩:=tri8 q0
 obtain⟨x3,x4,x5⟩:=tri8 q1
 have q1s:=fj (u0:=.bool b2) (u1:=.slice a2 n2 c2) (u2:=.int .i64 E2) q1 (show w.heap.size+1≠w.heap.size by omega)
 have fq2:=am q1s
 obtain⟨x6,x7,x8⟩:=tri8 q1s
 obtain⟨T,hT⟩:∃T,((((((t1.setCell ⟨w.heap.size,0,none⟩ (.bool b2)).setCell ⟨w.heap.size,1,none⟩ (.slice a2 n2 c2)).setCell ⟨w.heap.size,2,none⟩ (.int .i64 E2)).setCell ⟨w.heap.size+1,0,none⟩ (.bool b1)).setCell ⟨w.heap.size+1,1,none⟩ (.slice a1 n1 c1)).setCell ⟨w.heap.size+1,2,none⟩ (.int .i64 E1))=T:=⟨_,rfl⟩
 have k0:T.heap[w.heap.size]?=some (.cells #[.bool b2,.slice a2 n2 c2,.int .i64 E2] 41):=by rw [←hT];exact fj (ay q0 _ _ _) (by omega)
 have k1:T.heap[w.heap.size+1]?=some (.cells #[.bool b1,.slice a1 n1 c1,.int .i64 E1] 41):=by rw [←hT];exact ay q1s _ _ _
 have k2:T.heap[w.heap.size+1+1]?=some (.cells #[.bool false,.slice none 0 0,.int .i64 0] 41):=by rw [←hT];exact fj (fj q2 (by omega)) (by omega)
 have dT1:Dn T b1 (.slice a1 n1 c1) M1:=by rw [←hT];exact ((HD1.out.below g1).tri8 q0 b2 a2 n2 c2 (.int .i64 E2)).tri8 q1s b1 a1 n1 c1 (.int .i64 E1)
 have dT2:Dn T b2 (.slice a2 n2 c2) M2:=by rw [←hT];exact ((HD2.out.below g1).tri8 q0 b2 a2 n2 c2 (.int .i64 E2)).tri8 q1s b1 a1 n1 c1 (.int .i64 E1)
 have GT:Below w.heap.size w T:=by rw [←hT];exact an (an (ae HB.out g1) (Nat.le_refl _) _ _ _) (by omega) _ _ _
 clear q0 q1 q2 q1s
 have HTK0:=ab k0
 have HTK1:=ab k1
 have HTK2:=ab k2
 have HTD1:=ab dT1
 have HTD2:=ab dT2
 have HGT:=ab GT
 obtain⟨y0,y1,y2⟩:=tri8 k1
 obtain⟨z0,z1,z2⟩:=tri8 k0
 have CL:=dI (.slice a1 n1 c1) M1.natAbs T dT1.2
 clear k0 k1 k2 dT1 dT2 GT g1
 generalize hgi:(g:Int)=gi at *
 have HGI:=ab hgi
 have hgi2:E2 - E1=gi:=hg
 have HLB:Hid (blen M1.natAbs≤4000000000000):=ab f1
 obtain⟨lb,hlb⟩:∃lb,blen M1.natAbs=lb:=⟨_,rfl⟩
 rw [hlb] at CL hbs HLB
 have hlb9:lb≤4000000000000:=HLB.out
 have wl:IntKind.i64.wrap (67108864+(lb:Int))=67108864+(lb:Int):=by rw [IntKind.wrap_i64];omega
 have wl2:IntKind.i64.wrap (67108864+(lb:Int)+2)=67108864+(lb:Int)+2:=by rw [IntKind.wrap_i64];omega
 have HLL:=ab hlb
 clear hlb hg
 by_cases hfar:67108864+lb+2<g
 ·have hi:67108864+(lb:Int)+2<gi:=by rw [←HGI.out];omega
  have HBIG:Hid (67108864+blen M1.natAbs<blen (omz (M1+M2*2 ^ g)).natAbs):=ab (by
   have h9:=gS (M1:=M1) (M2:=M2) (g:=g) (by have:=HM.out;omega) (by rw [HLL.out];omega) hodd
   rw [HLL.out]
   omega)
  generalize omz (M1+M2*2 ^ g)=RM at *
  generalize oe (M1+M2*2 ^ g) E1=RE at *
  have hf9:=am HTK2.out
  obtain⟨m0,m1,m2⟩:=tri8 HTK2.out
  clear hbs hodd
  go_wp2_with fail
  refine CL.mono ?_
  rintro e wn ⟨rfl,hw⟩;rw [hw];clear hw wn CL
  go_wp2
  have T3:=ay HTK2.out (.bool false) (.slice none 0 0) (.int .i64 0)
  have T4:=an HGT.out (show w.heap.size≤w.heap.size+1+1 by omega) (.bool false) (.slice none 0 0) (.int .i64 0)
  obtain⟨p0,p1,p2⟩:=tri8 T3
  have HE:=ab T4
  clear T3 T4
  generalize ((T.setCell ⟨w.heap.size+1+1,0,none⟩ (.bool false)).setCell ⟨w.heap.size+1+1,1,none⟩ (.slice none 0 0)).setCell ⟨w.heap.size+1+1,2,none⟩ (.int .i64 0)=w5 at *
  refine bodyPost_ret (v:=.tuple #[.agg #[.bool false,.slice none 0 0,.int .i64 0],.bool false]) (by simp [results,Tryz.results30,go_sem,p0,p1,p2]) rfl ?_
  exact⟨⟨_,_,_,_,_,_,rfl,.inr ⟨rfl,HBIG.out,⟨rfl,Num.nil8 _⟩⟩⟩,HE.out⟩
 ·have hi:decide (67108864+(lb:Int)+2<gi)=false:=decide_eq_false (by rw [←HGI.out];omega)
  have hi2:gi≤67108864+(lb:Int)+2:=by rw [←HGI.out];omega
  have hbm:blen (M2*2 ^ g+M1).natAbs≤1125899906840000:=by
   rw [Int.add_comm]
   rcases hbs with h|h
   ·exact h
   ·exact absurd h hfar
  have hbh:blen (M2*2 ^ g).natAbs≤1125899906840000:=by
   have h9:=dF (M1:=0) (M2:=M2) (g:=g) (n:=30000000000000) (by decide) (by omega)
   rw [Int.zero_add] at h9
   omega
  have g0:Below T.drew.heap.size T.drew T.drew:=Below.refl _ _
  have HSH:=gm b2 a2 n2 c2 M2 g T.drew (HTD2.out.below (Below.refl _ _).drew).zn (by omega)
  rw [HGI.out] at HSH
  have HAD:=ab (fun (W:World) (v:Value) (h:Zn W v (M2*2 ^ g)) (hg:Below T.drew.heap.size T.drew W)=>eF v (.agg #[.bool b1,.slice a1 n1 c1]) (M2*2 ^ g) M1 W h ((HTD1.out.below (Below.refl _ _).drew).below hg).zn hbh (Nat.le_trans f1 (by omega)))
  have HOF:=ab (fun (W:World) (b3:Bool) (a3:Option Addr) (n3 c3:Nat) (h:Zn W (.agg #[.bool b3,.slice a3 n3 c3]) (M2*2 ^ g+M1))=>cP b3 a3 n3 c3 (M2*2 ^ g+M1) E1 W h hbm (by omega) (by omega))
  rw [Int.add_comm (M2*2 ^ g) M1] at HAD HOF
  have KS:=ab (fun (W:World) (hg:Below T.drew.heap.size T.drew W)=>show W.cell? ⟨w.heap.size,0,none⟩=some (.bool b2)∧W.cell? ⟨w.heap.size,1,none⟩=some (.slice a2 n2 c2)∧W.cell? ⟨w.heap.size,2,none⟩=some (.int .i64 E2)∧W.cell? ⟨w.heap.size+1,0,none⟩=some (.bool b1)∧W.cell? ⟨w.heap.size+1,1,none⟩=some (.slice a1 n1 c1)∧W.cell? ⟨w.heap.size+1,2,none⟩=some (.int .i64 E1) from by
   obtain⟨u0,u1,u2⟩:=tri8 (ac hg (show T.drew.heap[w.heap.size]?=some (.cells #[.bool b2,.slice a2 n2 c2,.int .i64 E2] 41) from HTK0.out))
   obtain⟨u3,u4,u5⟩:=tri8 (ac hg (show T.drew.heap[w.heap.size+1]?=some (.cells #[.bool b1,.slice a1 n1 c1,.int .i64 E1] 41) from HTK1.out))
   exact⟨u0,u1,u2,u3,u4,u5⟩)
  have so:∀(W:World) (k:Nat) (u:Value) (k':Nat),(W.setCell ⟨w.heap.size+1+1,k,none⟩ u).cell? ⟨w.heap.size,k',none⟩=W.cell? ⟨w.heap.size,k',none⟩:=fun W k u k'=>bf (by omega)
  have so2:∀(W:World) (k:Nat) (u:Value) (k':Nat),(W.setCell ⟨w.heap.size+1+1,k,none⟩ u).cell? ⟨w.heap.size+1,k',none⟩=W.cell? ⟨w.heap.size+1,k',none⟩:=fun W k u k'=>bf (by omega)
  have HD:=ab (show Below w.heap.size w T.drew from HGT.out.drew)
  clear hbm hbh hbs hodd
  generalize omz (M1+M2*2 ^ g)=RM at *
  generalize oe (M1+M2*2 ^ g) E1=RE at *
  generalize M1+M2*2 ^ g=RZ at *
  generalize M2*2 ^ g=RH at *
  go_wp2_with fail
  refine CL.mono ?_
  rintro e wn ⟨rfl,hw⟩;rw [hw];clear hw wn CL
  go_wp2
  go_region_held3 (fun w'=>w'.cell? ⟨w.heap.size,0,none⟩=some (.bool b2)∧w'.cell? ⟨w.heap.size,1,none⟩=some (.slice a2 n2 c2)∧w'.cell? ⟨w.heap.size,2,none⟩=some (.int .i64 E2)∧w'.cell? ⟨w.heap.size+1,0,none⟩=some (.bool b1)∧w'.cell? ⟨w.heap.size+1,1,none⟩=some (.slice a1 n1 c1)∧w'.cell? ⟨w.heap.size+1,2,none⟩=some (.int .i64 E1)) (first|with_reducible exact KS.out _ g3|with_reducible exact KS.out _ g2|with_reducible exact KS.out _ g1|with_reducible exact KS.out _ g0 | (refine⟨?_,?_,?_,?_,?_,?_⟩ <;> (first|rw [so,so,so] | rw [so2,so2,so2]) <;> (first|exact (KS.out _ g3).1|exact (KS.out _ g3).2.1|exact (KS.out _ g3).2.2.1|exact (KS.out _ g3).2.2.2.1|exact (KS.out _ g3).2.2.2.2.1|exact (KS.out _ g3).2.2.2.2.2))) (first
   | (go_at_call 45;refine HSH.mono ?_;rintro e' t2 ⟨⟨b3,a3,n3,c3,rfl,Z2⟩,g1⟩)
   | (go_at_call 61;refine (HAD.out t2 _ Z2 g1).mono ?_;rintro e' t3 ⟨⟨b5,a5,n5,c5,rfl,Z3⟩,hb2⟩;have g2:=ae g1 hb2)
   | (go_at_call 40;refine (HOF.out t3 b5 a5 n5 c5 Z3).mono ?_;rintro e' t4 ⟨⟨b4,a4,n4,c4,rfl,N4⟩,hb3⟩;have g3:=ae g2 hb3;have hz:=ac g3 (show T.drew.heap[w.heap.size+1+1]?=some (.cells #[.bool false,.slice none 0 0,.int .i64 0] 41) from HTK2.out);have hf:=am hz;obtain⟨m0,m1,m2⟩:=tri8 hz))
  have T3:=ay hz (.bool b4) (.slice a4 n4 c4) (.int .i64 RE)
  have T4:=an (ae HD.out g3) (show w.heap.size≤w.heap.size+1+1 by omega) (.bool b4) (.slice a4 n4 c4) (.int .i64 RE)
  have T5:=N4.tri8 hz b4 a4 n4 c4 (.int .i64 RE)
  obtain⟨p0,p1,p2⟩:=tri8 T3
  have HE:=ab (And.intro T5 T4)
  clear T3 T4 T5 so so2 m0 m1 m2 hf KS g0 g1 g2 g3 hb2 hb3 HSH hz N4 Z2 Z3 HOF HAD
  generalize ((t4.setCell ⟨w.heap.size+1+1,0,none⟩ (.bool b4)).setCell ⟨w.heap.size+1+1,1,none⟩ (.slice a4 n4 c4)).setCell ⟨w.heap.size+1+1,2,none⟩ (.int .i64 RE)=w5 at *
  go_wp2
  refine bodyPost_ret (v:=.tuple #[.agg #[.bool b4,.slice a4 n4 c4,.int .i64 RE],.bool true]) (by simp [results,Tryz.results30,go_sem,p0,p1,p2]) rfl ?_
  exact⟨⟨_,_,_,_,_,_,rfl,.inl ⟨rfl,HE.out.1,rfl⟩⟩,HE.out.2⟩

theorem Nr8.odd {M E:Int}(h:Nr8 M E)(h0:M≠0):M.natAbs % 2=1:=by
 rcases h with ⟨h,_⟩|h
 ·exact absurd h h0
 ·exact h

theorem uu (b1:Bool)(a1:Option Addr)(n1 c1:Nat)(M1 E1:Int)(b2:Bool)(a2:Option Addr)(n2 c2:Nat)(M2 E2:Int)(w:World)(hD1:Dn w b1 (.slice a1 n1 c1) M1)(hD2:Dn w b2 (.slice a2 n2 c2) M2)(r1:Nr8 M1 E1)(r2:Nr8 M2 E2)(f1:blen M1.natAbs≤4000000000000)(f2:blen M2.natAbs≤4000000000000)(he1:-1152921504606846976≤E1)(he2:E1≤1152921504606846976)(he3:-1152921504606846976≤E2)(he4:E2≤1152921504606846976) :
  Calls Tryz.prog 30 #[.agg #[.bool b1,.slice a1 n1 c1,.int .i64 E1],.agg #[.bool b2,.slice a2 n2 c2,.int .i64 E2]] w (dq w (if M1=0 then blen M2.natAbs else if M2=0 then blen M1.natAbs else if E2≤E1 then blen M2.natAbs else blen M1.natAbs) (omz (sm M1 E1 M2 E2)) (oe (sm M1 E1 M2 E2) (min E1 E2))):=by
 by_cases h1:M1=0
 ·subst h1
  rw [(cU M2 E1 E2).1,(cU M2 E1 E2).2,r2.stay.1,r2.stay.2]
  exact rp b1 a1 n1 c1 E1 b2 a2 n2 c2 M2 E2 w hD1 hD2 _
 ·by_cases h2:M2=0
  ·subst h2
   rw [gZ,Int.min_comm,(cU M1 E2 E1).1,(cU M1 E2 E1).2,r1.stay.1,r1.stay.2]
   exact tO b1 a1 n1 c1 M1 E1 b2 a2 n2 c2 E2 w hD1 hD2 h1 _
  ·by_cases hl:E2≤E1
   ·obtain⟨g,hg⟩:∃g:Nat,E1 - E2=(g:Int):=⟨(E1 - E2).toNat,by omega⟩
    have hm:min E1 E2=E2:=by omega
    have hs:sm M1 E1 M2 E2=M2+M1*2 ^ g:=by
     unfold sm
     rw [hm,hg,show (E2 - E2).toNat=0 by omega,Int.toNat_natCast,Int.pow_zero,Int.mul_one,Int.add_comm]
    rw [hs,hm,if_neg h1,if_neg h2,if_pos hl]
    exact oq b1 a1 n1 c1 M1 E1 b2 a2 n2 c2 M2 E2 g w hD1 hD2 h1 h2 (r2.odd h2) hg f1 f2 he1 he2 he3 he4
   ·obtain⟨g,hg⟩:∃g:Nat,E2 - E1=(g:Int):=⟨(E2 - E1).toNat,by omega⟩
    have hm:min E1 E2=E1:=by omega
    have hs:sm M1 E1 M2 E2=M1+M2*2 ^ g:=by
     unfold sm
     rw [hm,hg,show (E1 - E1).toNat=0 by omega,Int.toNat_natCast,Int.pow_zero,Int.mul_one]
    rw [hs,hm,if_neg h1,if_neg h2,if_neg hl]
    exact rH b1 a1 n1 c1 M1 E1 b2 a2 n2 c2 M2 E2 g w hD1 hD2 h1 h2 (r1.odd h1) hg (by omega) f1 f2 he1 he2 he3 he4

theorem qY (b1:Bool)(a1:Option Addr)(n1 c1:Nat)(M1 E1:Int)(b2:Bool)(a2:Option Addr)(n2 c2:Nat)(M2 E2:Int)(w:World)(hD1:Dn w b1 (.slice a1 n1 c1) M1)(hD2:Dn w b2 (.slice a2 n2 c2) M2)(r1:Nr8 M1 E1)(r2:Nr8 M2 E2)(f1:blen M1.natAbs≤4000000000000)(f2:blen M2.natAbs≤4000000000000)(he1:-1152921504606846976≤E1)(he2:E1≤1152921504606846976)(he3:-1152921504606846976≤E2)(he4:E2≤1152921504606846976) :
  Calls Tryz.prog 30 #[.agg #[.bool b1,.slice a1 n1 c1,.int .i64 E1],.agg #[.bool b2,.slice a2 n2 c2,.int .i64 E2]] w (kO w (omz (sm M1 E1 M2 E2)) (oe (sm M1 E1 M2 E2) (min E1 E2))):=
 (uu b1 a1 n1 c1 M1 E1 b2 a2 n2 c2 M2 E2 w hD1 hD2 r1 r2 f1 f2 he1 he2 he3 he4).mono fun _ _ h=>h.r



theorem pc (b:Bool)(a:Option Addr)(n c:Nat)(M E pos m:Int)(w:World)(h:Dn w b (.slice a n c) M)(hs:M=0∨pos≤E) :
  Calls Tryz.prog 62 #[.agg #[.bool b,.slice a n c,.int .i64 E],.int .i64 pos,.int .i64 m] w (cR w M E):=by
 obtain⟨w0,hw0,hb0,h0,h1'⟩:=aA w (.cells #[.bool b,.slice a n c,.int .i64 E] 41) (.cells #[.bool false,.slice none 0 0,.int .i64 0] 41)
 obtain⟨k0,k1,k2⟩:=tri8 h0
 have HS:=bo _ M w0 (h.below hb0).zn
 have H0:=ab h0
 have H1:=ab h1'
 have HB:=ab hb0
 have HD:=ab h
 clear h0 h1' hb0 h
 by_cases hM:M=0
 ·have hsg:(M.sign == 0)=true:=by rw [hM];rfl
  generalize M.sign=sg' at *
  clear hM hs
  go_enter Tryz.func62,Tryz.ntmps62
  go_wp2_with fail
  refine HS.mono ?_
  rintro e t1 ⟨rfl,g1⟩
  have HC1:=ab (ac g1 H1.out)
  have HG:=ab (ae HB.out g1)
  have HDN:=ab (HD.out.below HG.out)
  have hf1:=am HC1.out
  obtain⟨m0,m1,m2⟩:=tri8 HC1.out
  obtain⟨l0,l1,l2⟩:=tri8 (ac g1 H0.out)
  clear g1 HS
  go_wp2
  have T3:=ay HC1.out (.bool b) (.slice a n c) (.int .i64 E)
  have T4:=an HG.out (show w.heap.size≤w.heap.size+1 by omega) (.bool b) (.slice a n c) (.int .i64 E)
  have T5:=HDN.out.tri8 HC1.out b a n c (.int .i64 E)
  obtain⟨p0,p1,p2⟩:=tri8 T3
  have HE:=ab (And.intro T5 T4)
  clear T3 T4 T5
  generalize ((t1.setCell ⟨w.heap.size+1,0,none⟩ (.bool b)).setCell ⟨w.heap.size+1,1,none⟩ (.slice a n c)).setCell ⟨w.heap.size+1,2,none⟩ (.int .i64 E)=w5 at *
  refine bodyPost_ret (v:=.agg #[.bool b,.slice a n c,.int .i64 E]) (by simp [results,Tryz.results62,go_sem,p0,p1,p2]) rfl ?_
  exact⟨⟨_,_,_,_,rfl,HE.out.1⟩,HE.out.2⟩
 ·have hsg:(M.sign == 0)=false:=by
   rw [beq_eq_false_iff_ne]
   intro h;exact hM (Int.sign_eq_zero_iff_zero.1 h)
  have hpe:pos≤E:=by rcases hs with hs|hs;exact absurd hs hM;exact hs
  generalize M.sign=sg' at *
  clear hM hs
  go_enter Tryz.func62,Tryz.ntmps62
  go_wp2_with fail
  refine HS.mono ?_
  rintro e t1 ⟨rfl,g1⟩
  have HC1:=ab (ac g1 H1.out)
  have HG:=ab (ae HB.out g1)
  have HDN:=ab (HD.out.below HG.out)
  have hf1:=am HC1.out
  obtain⟨m0,m1,m2⟩:=tri8 HC1.out
  obtain⟨l0,l1,l2⟩:=tri8 (ac g1 H0.out)
  clear g1 HS
  go_wp2
  have T3:=ay HC1.out (.bool b) (.slice a n c) (.int .i64 E)
  have T4:=an HG.out (show w.heap.size≤w.heap.size+1 by omega) (.bool b) (.slice a n c) (.int .i64 E)
  have T5:=HDN.out.tri8 HC1.out b a n c (.int .i64 E)
  obtain⟨p0,p1,p2⟩:=tri8 T3
  have HE:=ab (And.intro T5 T4)
  clear T3 T4 T5
  generalize ((t1.setCell ⟨w.heap.size+1,0,none⟩ (.bool b)).setCell ⟨w.heap.size+1,1,none⟩ (.slice a n c)).setCell ⟨w.heap.size+1,2,none⟩ (.int .i64 E)=w5 at *
  refine bodyPost_ret (v:=.agg #[.bool b,.slice a n c,.int .i64 E]) (by simp [results,Tryz.results62,go_sem,p0,p1,p2]) rfl ?_
  exact⟨⟨_,_,_,_,rfl,HE.out.1⟩,HE.out.2⟩

theorem oz (b:Bool)(a:Option Addr)(n c:Nat)(M E pos m:Int)(s:Nat)(w:World)(h:Dn w b (.slice a n c) M)(hM:M≠0)(hs:pos - E=(s:Int))(hs0:0<s)(hfar:blen M.natAbs+2<s)(hs3:s≤4611686018427387904)(hp1:-1152921504606846976≤pos)(hp2:pos≤1152921504606846976)(hm:m=0∨m=1∨m=2) :
  Calls Tryz.prog 62 #[.agg #[.bool b,.slice a n c,.int .i64 E],.int .i64 pos,.int .i64 m] w (cR w (omz (zz b (rq b M.natAbs s m))) (oe (zz b (rq b M.natAbs s m)) pos)):=by
 rw [tJ b M.natAbs s m hfar hm]
 obtain⟨w0,hw0,hb0,h0,h1'⟩:=aA w (.cells #[.bool b,.slice a n c,.int .i64 E] 41) (.cells #[.bool false,.slice none 0 0,.int .i64 0] 41)
 obtain⟨k0,k1,k2⟩:=tri8 h0
 have HS:=bo _ M w0 (h.below hb0).zn
 have hsg:(M.sign == 0)=false:=by
  rw [beq_eq_false_iff_ne]
  intro h;exact hM (Int.sign_eq_zero_iff_zero.1 h)
 have hpe:¬pos≤E:=by omega
 have wd:IntKind.i64.wrap (s:Int)=(s:Int):=by rw [IntKind.wrap_i64];omega
 have HLN:=ab (fun (W:World) (hg:Below w.heap.size w W)=>dI (.slice a n c) M.natAbs W (h.2.below hg))
 have H0:=ab h0
 have H1:=ab h1'
 have HB:=ab hb0
 have HD:=ab h
 generalize M.sign=sg' at *
 have i1:((blen M.natAbs:Nat):Int)+2<(s:Int):=by omega
 have w2:IntKind.i64.wrap (((blen M.natAbs:Nat):Int)+2)=((blen M.natAbs:Nat):Int)+2:=by rw [IntKind.wrap_i64];omega
 generalize blen M.natAbs=l at *
 clear hfar
 rcases hm with rfl|rfl|rfl
 ·cases b
  ·rw [show zz false (if (0:Int)=0∧false=true∨(0:Int)=1∧false=false then 1 else 0)=0 by decide,bT,show oe 0 pos=0 by simp [oe]]
   clear h0 h1' hb0 h hM
   go_enter Tryz.func62,Tryz.ntmps62
   go_wp2_with fail
   refine HS.mono ?_
   rintro e t1 ⟨rfl,g1⟩
   have HC1:=ab (ac g1 H1.out)
   have HC0:=ab (ac g1 H0.out)
   have HG:=ab (ae HB.out g1)
   have hf1:=am HC1.out
   obtain⟨m0,m1,m2⟩:=tri8 HC1.out
   obtain⟨l0,l1,l2⟩:=tri8 HC0.out
   have HL:=HLN.out t1 HG.out
   clear g1 HS HLN H0 H1 HB
   go_wp2_with fail
   refine HL.mono ?_
   rintro e wn ⟨rfl,hw⟩;rw [hw];clear hw wn HL
   have HDN:=ab (show Dn t1 false (.slice none 0 0) 0 from ⟨rfl,Num.nil8 _⟩)
   go_wp2
   have T3:=ay HC1.out (.bool false) (.slice none 0 0) (.int .i64 0)
   have T4:=an HG.out (show w.heap.size≤w.heap.size+1 by omega) (.bool false) (.slice none 0 0) (.int .i64 0)
   have T5:=HDN.out.tri8 HC1.out false none 0 0 (.int .i64 0)
   obtain⟨p0,p1,p2⟩:=tri8 T3
   have HE:=ab (And.intro T5 T4)
   clear T3 T4 T5
   generalize ((t1.setCell ⟨w.heap.size+1,0,none⟩ (.bool false)).setCell ⟨w.heap.size+1,1,none⟩ (.slice none 0 0)).setCell ⟨w.heap.size+1,2,none⟩ (.int .i64 0)=w5 at *
   refine bodyPost_ret (v:=.agg #[.bool false,.slice none 0 0,.int .i64 0]) (by simp [results,Tryz.results62,go_sem,p0,p1,p2]) rfl ?_
   exact⟨⟨_,_,_,_,rfl,HE.out.1⟩,HE.out.2⟩
  ·rw [show zz true (if (0:Int)=0∧true=true∨(0:Int)=1∧true=false then 1 else 0)=-1 by decide]
   clear h0 h1' hb0 h hM
   go_enter Tryz.func62,Tryz.ntmps62
   go_wp2_with fail
   refine HS.mono ?_
   rintro e t1 ⟨rfl,g1⟩
   have HC1:=ab (ac g1 H1.out)
   have HC0:=ab (ac g1 H0.out)
   have HG:=ab (ae HB.out g1)
   have hf1:=am HC1.out
   obtain⟨m0,m1,m2⟩:=tri8 HC1.out
   obtain⟨l0,l1,l2⟩:=tri8 HC0.out
   have HL:=HLN.out t1 HG.out
   clear g1 HS HLN H0 H1 HB
   go_wp2_with fail
   refine HL.mono ?_
   rintro e wn ⟨rfl,hw⟩;rw [hw];clear hw wn HL
   have HI:=eY (-1) pos t1 (by decide) (by decide) (by omega) (by omega)
   generalize omz (-1)=RM at *
   generalize oe (-1) pos=RE at *
   go_wp2_with fail
   refine HI.mono ?_
   rintro e t2 ⟨⟨b2,a2,n2,c2,rfl,d2⟩,g2⟩
   have HC2:=ab (ac g2 HC1.out)
   have HG2:=ab (ae HG.out g2)
   have HDN:=ab d2
   clear g2 d2 HI HC1 HG m0 m1 m2 hf1
   have HC1:=ab HC2.out
   have HG:=ab HG2.out
   have hf1:=am HC1.out
   obtain⟨m0,m1,m2⟩:=tri8 HC1.out
   go_wp2
   have T3:=ay HC1.out (.bool b2) (.slice a2 n2 c2) (.int .i64 RE)
   have T4:=an HG.out (show w.heap.size≤w.heap.size+1 by omega) (.bool b2) (.slice a2 n2 c2) (.int .i64 RE)
   have T5:=HDN.out.tri8 HC1.out b2 a2 n2 c2 (.int .i64 RE)
   obtain⟨p0,p1,p2⟩:=tri8 T3
   have HE:=ab (And.intro T5 T4)
   clear T3 T4 T5
   generalize ((t2.setCell ⟨w.heap.size+1,0,none⟩ (.bool b2)).setCell ⟨w.heap.size+1,1,none⟩ (.slice a2 n2 c2)).setCell ⟨w.heap.size+1,2,none⟩ (.int .i64 RE)=w5 at *
   refine bodyPost_ret (v:=.agg #[.bool b2,.slice a2 n2 c2,.int .i64 RE]) (by simp [results,Tryz.results62,go_sem,p0,p1,p2]) rfl ?_
   exact⟨⟨_,_,_,_,rfl,HE.out.1⟩,HE.out.2⟩
 ·cases b
  ·rw [show zz false (if (1:Int)=0∧false=true∨(1:Int)=1∧false=false then 1 else 0)=1 by decide]
   clear h0 h1' hb0 h hM
   go_enter Tryz.func62,Tryz.ntmps62
   go_wp2_with fail
   refine HS.mono ?_
   rintro e t1 ⟨rfl,g1⟩
   have HC1:=ab (ac g1 H1.out)
   have HC0:=ab (ac g1 H0.out)
   have HG:=ab (ae HB.out g1)
   have hf1:=am HC1.out
   obtain⟨m0,m1,m2⟩:=tri8 HC1.out
   obtain⟨l0,l1,l2⟩:=tri8 HC0.out
   have HL:=HLN.out t1 HG.out
   clear g1 HS HLN H0 H1 HB
   go_wp2_with fail
   refine HL.mono ?_
   rintro e wn ⟨rfl,hw⟩;rw [hw];clear hw wn HL
   have HI:=eY 1 pos t1 (by decide) (by decide) (by omega) (by omega)
   generalize omz 1=RM at *
   generalize oe 1 pos=RE at *
   go_wp2_with fail
   refine HI.mono ?_
   rintro e t2 ⟨⟨b2,a2,n2,c2,rfl,d2⟩,g2⟩
   have HC2:=ab (ac g2 HC1.out)
   have HG2:=ab (ae HG.out g2)
   have HDN:=ab d2
   clear g2 d2 HI HC1 HG m0 m1 m2 hf1
   have HC1:=ab HC2.out
   have HG:=ab HG2.out
   have hf1:=am HC1.out
   obtain⟨m0,m1,m2⟩:=tri8 HC1.out
   go_wp2
   have T3:=ay HC1.out (.bool b2) (.slice a2 n2 c2) (.int .i64 RE)
   have T4:=an HG.out (show w.heap.size≤w.heap.size+1 by omega) (.bool b2) (.slice a2 n2 c2) (.int .i64 RE)
   have T5:=HDN.out.tri8 HC1.out b2 a2 n2 c2 (.int .i64 RE)
   obtain⟨p0,p1,p2⟩:=tri8 T3
   have HE:=ab (And.intro T5 T4)
   clear T3 T4 T5
   generalize ((t2.setCell ⟨w.heap.size+1,0,none⟩ (.bool b2)).setCell ⟨w.heap.size+1,1,none⟩ (.slice a2 n2 c2)).setCell ⟨w.heap.size+1,2,none⟩ (.int .i64 RE)=w5 at *
   refine bodyPost_ret (v:=.agg #[.bool b2,.slice a2 n2 c2,.int .i64 RE]) (by simp [results,Tryz.results62,go_sem,p0,p1,p2]) rfl ?_
   exact⟨⟨_,_,_,_,rfl,HE.out.1⟩,HE.out.2⟩
  ·rw [show zz true (if (1:Int)=0∧true=true∨(1:Int)=1∧true=false then 1 else 0)=0 by decide,bT,show oe 0 pos=0 by simp [oe]]
   clear h0 h1' hb0 h hM
   go_enter Tryz.func62,Tryz.ntmps62
   go_wp2_with fail
   refine HS.mono ?_
   rintro e t1 ⟨rfl,g1⟩
   have HC1:=ab (ac g1 H1.out)
   have HC0:=ab (ac g1 H0.out)
   have HG:=ab (ae HB.out g1)
   have hf1:=am HC1.out
   obtain⟨m0,m1,m2⟩:=tri8 HC1.out
   obtain⟨l0,l1,l2⟩:=tri8 HC0.out
   have HL:=HLN.out t1 HG.out
   clear g1 HS HLN H0 H1 HB
   go_wp2_with fail
   refine HL.mono ?_
   rintro e wn ⟨rfl,hw⟩;rw [hw];clear hw wn HL
   have HDN:=ab (show Dn t1 false (.slice none 0 0) 0 from ⟨rfl,Num.nil8 _⟩)
   go_wp2
   have T3:=ay HC1.out (.bool false) (.slice none 0 0) (.int .i64 0)
   have T4:=an HG.out (show w.heap.size≤w.heap.size+1 by omega) (.bool false) (.slice none 0 0) (.int .i64 0)
   have T5:=HDN.out.tri8 HC1.out false none 0 0 (.int .i64 0)
   obtain⟨p0,p1,p2⟩:=tri8 T3
   have HE:=ab (And.intro T5 T4)
   clear T3 T4 T5
   generalize ((t1.setCell ⟨w.heap.size+1,0,none⟩ (.bool false)).setCell ⟨w.heap.size+1,1,none⟩ (.slice none 0 0)).setCell ⟨w.heap.size+1,2,none⟩ (.int .i64 0)=w5 at *
   refine bodyPost_ret (v:=.agg #[.bool false,.slice none 0 0,.int .i64 0]) (by simp [results,Tryz.results62,go_sem,p0,p1,p2]) rfl ?_
   exact⟨⟨_,_,_,_,rfl,HE.out.1⟩,HE.out.2⟩
 ·have e0:zz b (if (2:Int)=0∧b=true∨(2:Int)=1∧b=false then 1 else 0)=0:=by cases b <;> decide
  rw [e0,bT,show oe 0 pos=0 by simp [oe]]
  clear h0 h1' hb0 h hM
  go_enter Tryz.func62,Tryz.ntmps62
  go_wp2_with fail
  refine HS.mono ?_
  rintro e t1 ⟨rfl,g1⟩
  have HC1:=ab (ac g1 H1.out)
  have HC0:=ab (ac g1 H0.out)
  have HG:=ab (ae HB.out g1)
  have hf1:=am HC1.out
  obtain⟨m0,m1,m2⟩:=tri8 HC1.out
  obtain⟨l0,l1,l2⟩:=tri8 HC0.out
  have HL:=HLN.out t1 HG.out
  clear g1 HS HLN H0 H1 HB
  go_wp2_with fail
  refine HL.mono ?_
  rintro e wn ⟨rfl,hw⟩;rw [hw];clear hw wn HL
  have HDN:=ab (show Dn t1 false (.slice none 0 0) 0 from ⟨rfl,Num.nil8 _⟩)
  go_wp2
  have T3:=ay HC1.out (.bool false) (.slice none 0 0) (.int .i64 0)
  have T4:=an HG.out (show w.heap.size≤w.heap.size+1 by omega) (.bool false) (.slice none 0 0) (.int .i64 0)
  have T5:=HDN.out.tri8 HC1.out false none 0 0 (.int .i64 0)
  obtain⟨p0,p1,p2⟩:=tri8 T3
  have HE:=ab (And.intro T5 T4)
  clear T3 T4 T5
  generalize ((t1.setCell ⟨w.heap.size+1,0,none⟩ (.bool false)).setCell ⟨w.heap.size+1,1,none⟩ (.slice none 0 0)).setCell ⟨w.heap.size+1,2,none⟩ (.int .i64 0)=w5 at *
  refine bodyPost_ret (v:=.agg #[.bool false,.slice none 0 0,.int .i64 0]) (by simp [results,Tryz.results62,go_sem,p0,p1,p2]) rfl ?_
  exact⟨⟨_,_,_,_,rfl,HE.out.1⟩,HE.out.2⟩

theorem pY (b:Bool)(a:Option Addr)(n c:Nat)(M E pos m:Int)(s:Nat)(w:World)(h:Dn w b (.slice a n c) M)(hM:M≠0)(hodd:M.natAbs % 2=1)(hs:pos - E=(s:Int))(hs0:0<s)(hfar:s≤blen M.natAbs+2)(hbl:blen M.natAbs≤1125899906809900)(hp1:-1152921504606846976≤pos)(hp2:pos≤1152921504606846976)(hm:m=0∨m=1∨m=2) :
  Calls Tryz.prog 62 #[.agg #[.bool b,.slice a n c,.int .i64 E],.int .i64 pos,.int .i64 m] w (cR w (omz (zz b (rq b M.natAbs s m))) (oe (zz b (rq b M.natAbs s m)) pos)):=by
 have hMb:M=zz b M.natAbs:=by rw [h.1,cY]
 have hrb:blen (zz b (rq b M.natAbs s m)).natAbs≤1125899906840000:=by
  rw [bg]
  unfold rq
  have h1:=Nat.div_le_self M.natAbs (2 ^ s)
  have h2:=(blen_le_iff M.natAbs (blen M.natAbs)).1 (Nat.le_refl _)
  have h3:blen (M.natAbs / 2 ^ s+if ga b M.natAbs s m then 1 else 0)≤blen M.natAbs+1:=by
   refine (blen_le_iff _ _).2 ?_
   rw [Nat.pow_succ]
   have:=Nat.two_pow_pos (blen M.natAbs)
   split <;> omega
  omega
 have HRB:=ab hrb
 clear hrb
 obtain⟨w0,hw0,hb0,h0,h1'⟩:=aA w (.cells #[.bool b,.slice a n c,.int .i64 E] 41) (.cells #[.bool false,.slice none 0 0,.int .i64 0] 41)
 obtain⟨k0,k1,k2⟩:=tri8 h0
 have HS:=bo _ M w0 (h.below hb0).zn
 have hsg:(M.sign == 0)=false:=by
  rw [beq_eq_false_iff_ne]
  intro h;exact hM (Int.sign_eq_zero_iff_zero.1 h)
 have hpe:¬pos≤E:=by omega
 have wd:IntKind.i64.wrap (s:Int)=(s:Int):=by rw [IntKind.wrap_i64];omega
 have HLN:=ab (fun (W:World) (hg:Below w.heap.size w W)=>dI (.slice a n c) M.natAbs W (h.2.below hg))
 have H0:=ab h0
 have H1:=ab h1'
 have HB:=ab hb0
 have HD:=ab h
 generalize M.sign=sg' at *
 have i1:¬((blen M.natAbs:Nat):Int)+2<(s:Int):=by omega
 have w2:IntKind.i64.wrap (((blen M.natAbs:Nat):Int)+2)=((blen M.natAbs:Nat):Int)+2:=by rw [IntKind.wrap_i64];omega
 rcases hm with rfl|rfl|rfl
 ·have HQE:Hid (flq M ((2 ^ s:Nat):Int)=zz b (rq b M.natAbs s 0)):=ab (by
   have:=kW b M.natAbs s hodd hs0
   rw [←hMb] at this;exact this)
  generalize zz b (rq b M.natAbs s 0)=RM at *
  clear hMb
  clear h0 h1' hb0 h hM
  go_enter Tryz.func62,Tryz.ntmps62
  go_wp2_with fail
  refine HS.mono ?_
  rintro e t1 ⟨rfl,g1⟩
  have HC1:=ab (ac g1 H1.out)
  have HC0:=ab (ac g1 H0.out)
  have HG:=ab (ae HB.out g1)
  have hf1:=am HC1.out
  obtain⟨m0,m1,m2⟩:=tri8 HC1.out
  obtain⟨l0,l1,l2⟩:=tri8 HC0.out
  have HL:=HLN.out t1 HG.out
  clear g1 HS HLN H0 H1 HB
  go_wp2_with fail
  refine HL.mono ?_
  rintro e wn ⟨rfl,hw⟩;rw [hw];clear hw wn HL
  have HI1:=eW 1 t1 (by omega)
  go_wp2_with fail
  refine HI1.mono ?_
  rintro e t2 ⟨⟨v2,rfl,N2⟩,g2⟩
  have HSL:=dm v2 1 s t2 N2 (by rw [show blen 1=1 by decide];omega)
  rw [Nat.one_mul] at HSL
  have HG2:=ab (ae HG.out g2)
  have HC2:=ab (ac g2 HC1.out)
  have HC3:=ab (ac g2 HC0.out)
  obtain⟨av2,nv2,cv2,rfl⟩:=N2.sl
  clear HI1 g2 N2
  go_wp2_with fail
  refine HSL.mono ?_
  rintro e t3 ⟨⟨v3,rfl,N3⟩,g3⟩
  obtain⟨a3,n3,c3,rfl⟩:=N3.sl
  obtain⟨w4,hw4,hb4,h4,h5⟩:=aA t3 (.cells #[.bool false,.slice a3 n3 c3] 39) (.cells #[.bool false,.slice none 0 0] 39)
  have hfz:=aI h5
  obtain⟨z0,z1⟩:=duo h5
  obtain⟨w4b,hw4b,hb4b,h4b,h5b⟩:∃w4b,(w4.setCell ⟨t3.heap.size+1,0,none⟩ (.bool false)).setCell ⟨t3.heap.size+1,1,none⟩ (.slice none 0 0)=w4b∧Below t3.heap.size t3 w4b∧w4b.heap[t3.heap.size]?=some (.cells #[.bool false,.slice a3 n3 c3] 39)∧w4b.heap[t3.heap.size+1]?=some (.cells #[.bool false,.slice none 0 0] 39):=⟨_,rfl,aS hb4 (by omega),cQ h4 (by omega),aU h5⟩
  have hsw:w4b.heap.size=t3.heap.size+2:=by
   rw [←hw4b]
   have h9:w4.heap.size=t3.heap.size+2:=by rw [←hw4,World.size_alloc,World.size_alloc]
   simpa [World.setCell] using h9
  have HSW:=ab hsw
  clear hsw
  have g4:=ae g3 hb4b
  have HG4:=ab (ae HG2.out g4)
  have HC4:=ab (ac g4 HC2.out)
  have HC5:=ab (ac g4 HC3.out)
  have hp2s:=Nat.two_pow_pos s
  have hzs:Zn w4b (.agg #[.bool false,.slice a3 n3 c3]) ((2 ^ s:Nat):Int):=⟨.slice a3 n3 c3,by rw [(ci s).2],by rw [(ci s).1];exact N3.below hb4b⟩
  have HZM:=(HD.out.below HG4.out).zn
  have hbs:blen (((2 ^ s:Nat):Int)).natAbs≤1125899906810000:=by
   rw [(ci s).1]
   have h6:=blen_eq (2 ^ s) s (Nat.le_refl _) (by rw [Nat.pow_succ];omega)
   omega
  have HQ:=gK _ _ M ((2 ^ s:Nat):Int) w4b HZM hzs (by omega) (by omega) hbs
  rw [HQE.out] at HQ
  obtain⟨u0,u1⟩:=duo h4b
  obtain⟨u2,u3⟩:=duo h5b
  have hf5:=aI h5b
  obtain⟨l0,l1,l2⟩:=tri8 HC5.out
  have H5:=ab h5b
  clear HSL g3 g4 hb4 h4 h5 hb4b h4b h5b N3 HZM hzs hbs HC2 HC3 HC0 HC1 HG HG2 hp2s m0 m1 m2 hf1
  go_wp2_with fail
  refine HQ.mono ?_
  rintro e t5 ⟨⟨b5,a5,n5,c5,b6,a6,n6,c6,rfl,Z5,Z6⟩,g5⟩
  have HQ5:=ac g5 H5.out
  have hf6:=aI HQ5
  obtain⟨x0,x1⟩:=duo HQ5
  have d5:=aU HQ5 (a':=.bool b5) (b':=.slice a5 n5 c5)
  have HG5:=ae HG4.out g5
  have hsz:w.heap.size≤t3.heap.size+1:=by
   have h7:=lt_of_block HC4.out
   have h8:=lt_of_block H5.out
   have h9:=HSW.out
   omega
  have hne:w.heap.size+1≠t3.heap.size+1:=by
   intro h
   have h7:=HC4.out
   rw [h,H5.out] at h7
   simp at h7
  have G6:=aS HG5 (g:=t3.heap.size+1) (u0:=.bool b5) (u1:=.slice a5 n5 c5) hsz
  have c6':=cQ (u0:=.bool b5) (u1:=.slice a5 n5 c5) (ac g5 HC4.out) hne
  have Z7:=Z5.duo (p1:=b5) (r1:=.slice a5 n5 c5) HQ5
  have HOF:=cP b5 a5 n5 c5 RM pos _ Z7 HRB.out (by omega) (by omega)
  obtain⟨y0,y1⟩:=duo d5
  have HC6:=ab c6'
  have HG6:=ab G6
  clear HQ HQ5 d5 G6 c6' Z5 Z6 Z7 HG5 g5 HG4 HC4 HC5 H5 hsz hne
  go_wp2_with fail
  generalize (t5.setCell ⟨t3.heap.size+1,0,none⟩ (.bool b5)).setCell ⟨t3.heap.size+1,1,none⟩ (.slice a5 n5 c5)=t6 at *
  refine HOF.mono ?_
  rintro e t7 ⟨⟨b7,a7,n7,c7,rfl,d7⟩,g7⟩
  have HC1:=ab (ac g7 HC6.out)
  have HG:=ab (ae HG6.out g7)
  have HDN:=ab d7
  have hf1:=am HC1.out
  obtain⟨m0,m1,m2⟩:=tri8 HC1.out
  clear g7 d7 HOF HC6 HG6
  generalize oe RM pos=RE at *
  go_wp2
  have T3:=ay HC1.out (.bool b7) (.slice a7 n7 c7) (.int .i64 RE)
  have T4:=an HG.out (show w.heap.size≤w.heap.size+1 by omega) (.bool b7) (.slice a7 n7 c7) (.int .i64 RE)
  have T5:=HDN.out.tri8 HC1.out b7 a7 n7 c7 (.int .i64 RE)
  obtain⟨p0,p1,p2⟩:=tri8 T3
  have HE:=ab (And.intro T5 T4)
  clear T3 T4 T5
  generalize ((t7.setCell ⟨w.heap.size+1,0,none⟩ (.bool b7)).setCell ⟨w.heap.size+1,1,none⟩ (.slice a7 n7 c7)).setCell ⟨w.heap.size+1,2,none⟩ (.int .i64 RE)=w5 at *
  refine bodyPost_ret (v:=.agg #[.bool b7,.slice a7 n7 c7,.int .i64 RE]) (by simp [results,Tryz.results62,go_sem,p0,p1,p2]) rfl ?_
  exact⟨⟨_,_,_,_,rfl,HE.out.1⟩,HE.out.2⟩
 ·have HQE:Hid (ceq M ((2 ^ s:Nat):Int)=zz b (rq b M.natAbs s 1)):=ab (by
   have:=l9 b M.natAbs s hodd hs0
   rw [←hMb] at this;exact this)
  generalize zz b (rq b M.natAbs s 1)=RM at *
  clear hMb
  clear h0 h1' hb0 h hM
  go_enter Tryz.func62,Tryz.ntmps62
  go_wp2_with fail
  refine HS.mono ?_
  rintro e t1 ⟨rfl,g1⟩
  have HC1:=ab (ac g1 H1.out)
  have HC0:=ab (ac g1 H0.out)
  have HG:=ab (ae HB.out g1)
  have hf1:=am HC1.out
  obtain⟨m0,m1,m2⟩:=tri8 HC1.out
  obtain⟨l0,l1,l2⟩:=tri8 HC0.out
  have HL:=HLN.out t1 HG.out
  clear g1 HS HLN H0 H1 HB
  go_wp2_with fail
  refine HL.mono ?_
  rintro e wn ⟨rfl,hw⟩;rw [hw];clear hw wn HL
  have HI1:=eW 1 t1 (by omega)
  go_wp2_with fail
  refine HI1.mono ?_
  rintro e t2 ⟨⟨v2,rfl,N2⟩,g2⟩
  have HSL:=dm v2 1 s t2 N2 (by rw [show blen 1=1 by decide];omega)
  rw [Nat.one_mul] at HSL
  have HG2:=ab (ae HG.out g2)
  have HC2:=ab (ac g2 HC1.out)
  have HC3:=ab (ac g2 HC0.out)
  obtain⟨av2,nv2,cv2,rfl⟩:=N2.sl
  clear HI1 g2 N2
  go_wp2_with fail
  refine HSL.mono ?_
  rintro e t3 ⟨⟨v3,rfl,N3⟩,g3⟩
  obtain⟨a3,n3,c3,rfl⟩:=N3.sl
  obtain⟨w4,hw4,hb4,h4,h5⟩:=aA t3 (.cells #[.bool false,.slice a3 n3 c3] 39) (.cells #[.bool false,.slice none 0 0] 39)
  have hfz:=aI h5
  obtain⟨z0,z1⟩:=duo h5
  obtain⟨w4b,hw4b,hb4b,h4b,h5b⟩:∃w4b,(w4.setCell ⟨t3.heap.size+1,0,none⟩ (.bool false)).setCell ⟨t3.heap.size+1,1,none⟩ (.slice none 0 0)=w4b∧Below t3.heap.size t3 w4b∧w4b.heap[t3.heap.size]?=some (.cells #[.bool false,.slice a3 n3 c3] 39)∧w4b.heap[t3.heap.size+1]?=some (.cells #[.bool false,.slice none 0 0] 39):=⟨_,rfl,aS hb4 (by omega),cQ h4 (by omega),aU h5⟩
  have hsw:w4b.heap.size=t3.heap.size+2:=by
   rw [←hw4b]
   have h9:w4.heap.size=t3.heap.size+2:=by rw [←hw4,World.size_alloc,World.size_alloc]
   simpa [World.setCell] using h9
  have HSW:=ab hsw
  clear hsw
  have g4:=ae g3 hb4b
  have HG4:=ab (ae HG2.out g4)
  have HC4:=ab (ac g4 HC2.out)
  have HC5:=ab (ac g4 HC3.out)
  have hp2s:=Nat.two_pow_pos s
  have hzs:Zn w4b (.agg #[.bool false,.slice a3 n3 c3]) ((2 ^ s:Nat):Int):=⟨.slice a3 n3 c3,by rw [(ci s).2],by rw [(ci s).1];exact N3.below hb4b⟩
  have HZM:=(HD.out.below HG4.out).zn
  have hbs:blen (((2 ^ s:Nat):Int)).natAbs≤1125899906810000:=by
   rw [(ci s).1]
   have h6:=blen_eq (2 ^ s) s (Nat.le_refl _) (by rw [Nat.pow_succ];omega)
   omega
  have HQ:=sK _ _ M ((2 ^ s:Nat):Int) w4b HZM hzs (by omega) (by omega) hbs
  rw [HQE.out] at HQ
  obtain⟨u0,u1⟩:=duo h4b
  obtain⟨u2,u3⟩:=duo h5b
  have hf5:=aI h5b
  obtain⟨l0,l1,l2⟩:=tri8 HC5.out
  have H5:=ab h5b
  clear HSL g3 g4 hb4 h4 h5 hb4b h4b h5b N3 HZM hzs hbs HC2 HC3 HC0 HC1 HG HG2 hp2s m0 m1 m2 hf1
  go_wp2_with fail
  refine HQ.mono ?_
  rintro e t5 ⟨⟨b5,a5,n5,c5,b6,a6,n6,c6,rfl,Z5,Z6⟩,g5⟩
  have HQ5:=ac g5 H5.out
  have hf6:=aI HQ5
  obtain⟨x0,x1⟩:=duo HQ5
  have d5:=aU HQ5 (a':=.bool b5) (b':=.slice a5 n5 c5)
  have HG5:=ae HG4.out g5
  have hsz:w.heap.size≤t3.heap.size+1:=by
   have h7:=lt_of_block HC4.out
   have h8:=lt_of_block H5.out
   have h9:=HSW.out
   omega
  have hne:w.heap.size+1≠t3.heap.size+1:=by
   intro h
   have h7:=HC4.out
   rw [h,H5.out] at h7
   simp at h7
  have G6:=aS HG5 (g:=t3.heap.size+1) (u0:=.bool b5) (u1:=.slice a5 n5 c5) hsz
  have c6':=cQ (u0:=.bool b5) (u1:=.slice a5 n5 c5) (ac g5 HC4.out) hne
  have Z7:=Z5.duo (p1:=b5) (r1:=.slice a5 n5 c5) HQ5
  have HOF:=cP b5 a5 n5 c5 RM pos _ Z7 HRB.out (by omega) (by omega)
  obtain⟨y0,y1⟩:=duo d5
  have HC6:=ab c6'
  have HG6:=ab G6
  clear HQ HQ5 d5 G6 c6' Z5 Z6 Z7 HG5 g5 HG4 HC4 HC5 H5 hsz hne
  go_wp2_with fail
  generalize (t5.setCell ⟨t3.heap.size+1,0,none⟩ (.bool b5)).setCell ⟨t3.heap.size+1,1,none⟩ (.slice a5 n5 c5)=t6 at *
  refine HOF.mono ?_
  rintro e t7 ⟨⟨b7,a7,n7,c7,rfl,d7⟩,g7⟩
  have HC1:=ab (ac g7 HC6.out)
  have HG:=ab (ae HG6.out g7)
  have HDN:=ab d7
  have hf1:=am HC1.out
  obtain⟨m0,m1,m2⟩:=tri8 HC1.out
  clear g7 d7 HOF HC6 HG6
  generalize oe RM pos=RE at *
  go_wp2
  have T3:=ay HC1.out (.bool b7) (.slice a7 n7 c7) (.int .i64 RE)
  have T4:=an HG.out (show w.heap.size≤w.heap.size+1 by omega) (.bool b7) (.slice a7 n7 c7) (.int .i64 RE)
  have T5:=HDN.out.tri8 HC1.out b7 a7 n7 c7 (.int .i64 RE)
  obtain⟨p0,p1,p2⟩:=tri8 T3
  have HE:=ab (And.intro T5 T4)
  clear T3 T4 T5
  generalize ((t7.setCell ⟨w.heap.size+1,0,none⟩ (.bool b7)).setCell ⟨w.heap.size+1,1,none⟩ (.slice a7 n7 c7)).setCell ⟨w.heap.size+1,2,none⟩ (.int .i64 RE)=w5 at *
  refine bodyPost_ret (v:=.agg #[.bool b7,.slice a7 n7 c7,.int .i64 RE]) (by simp [results,Tryz.results62,go_sem,p0,p1,p2]) rfl ?_
  exact⟨⟨_,_,_,_,rfl,HE.out.1⟩,HE.out.2⟩
 ·have HQE:Hid (neq M ((2 ^ s:Nat):Int)=zz b (rq b M.natAbs s 2)):=ab (by
   have:=jN b M.natAbs s hodd hs0
   rw [←hMb] at this;exact this)
  generalize zz b (rq b M.natAbs s 2)=RM at *
  clear hMb
  clear h0 h1' hb0 h hM
  go_enter Tryz.func62,Tryz.ntmps62
  go_wp2_with fail
  refine HS.mono ?_
  rintro e t1 ⟨rfl,g1⟩
  have HC1:=ab (ac g1 H1.out)
  have HC0:=ab (ac g1 H0.out)
  have HG:=ab (ae HB.out g1)
  have hf1:=am HC1.out
  obtain⟨m0,m1,m2⟩:=tri8 HC1.out
  obtain⟨l0,l1,l2⟩:=tri8 HC0.out
  have HL:=HLN.out t1 HG.out
  clear g1 HS HLN H0 H1 HB
  go_wp2_with fail
  refine HL.mono ?_
  rintro e wn ⟨rfl,hw⟩;rw [hw];clear hw wn HL
  have HI1:=eW 1 t1 (by omega)
  go_wp2_with fail
  refine HI1.mono ?_
  rintro e t2 ⟨⟨v2,rfl,N2⟩,g2⟩
  have HSL:=dm v2 1 s t2 N2 (by rw [show blen 1=1 by decide];omega)
  rw [Nat.one_mul] at HSL
  have HG2:=ab (ae HG.out g2)
  have HC2:=ab (ac g2 HC1.out)
  have HC3:=ab (ac g2 HC0.out)
  obtain⟨av2,nv2,cv2,rfl⟩:=N2.sl
  clear HI1 g2 N2
  go_wp2_with fail
  refine HSL.mono ?_
  rintro e t3 ⟨⟨v3,rfl,N3⟩,g3⟩
  obtain⟨a3,n3,c3,rfl⟩:=N3.sl
  obtain⟨w4,hw4,hb4,h4,h5⟩:=aA t3 (.cells #[.bool false,.slice a3 n3 c3] 39) (.cells #[.bool false,.slice none 0 0] 39)
  have hfz:=aI h5
  obtain⟨z0,z1⟩:=duo h5
  obtain⟨w4b,hw4b,hb4b,h4b,h5b⟩:∃w4b,(w4.setCell ⟨t3.heap.size+1,0,none⟩ (.bool false)).setCell ⟨t3.heap.size+1,1,none⟩ (.slice none 0 0)=w4b∧Below t3.heap.size t3 w4b∧w4b.heap[t3.heap.size]?=some (.cells #[.bool false,.slice a3 n3 c3] 39)∧w4b.heap[t3.heap.size+1]?=some (.cells #[.bool false,.slice none 0 0] 39):=⟨_,rfl,aS hb4 (by omega),cQ h4 (by omega),aU h5⟩
  have hsw:w4b.heap.size=t3.heap.size+2:=by
   rw [←hw4b]
   have h9:w4.heap.size=t3.heap.size+2:=by rw [←hw4,World.size_alloc,World.size_alloc]
   simpa [World.setCell] using h9
  have HSW:=ab hsw
  clear hsw
  have g4:=ae g3 hb4b
  have HG4:=ab (ae HG2.out g4)
  have HC4:=ab (ac g4 HC2.out)
  have HC5:=ab (ac g4 HC3.out)
  have hp2s:=Nat.two_pow_pos s
  have hzs:Zn w4b (.agg #[.bool false,.slice a3 n3 c3]) ((2 ^ s:Nat):Int):=⟨.slice a3 n3 c3,by rw [(ci s).2],by rw [(ci s).1];exact N3.below hb4b⟩
  have HZM:=(HD.out.below HG4.out).zn
  have hbs:blen (((2 ^ s:Nat):Int)).natAbs≤1125899906810000:=by
   rw [(ci s).1]
   have h6:=blen_eq (2 ^ s) s (Nat.le_refl _) (by rw [Nat.pow_succ];omega)
   omega
  have HQ:=pN _ _ M ((2 ^ s:Nat):Int) w4b HZM hzs (by omega) (by omega) hbs
  rw [HQE.out] at HQ
  obtain⟨u0,u1⟩:=duo h4b
  obtain⟨u2,u3⟩:=duo h5b
  have hf5:=aI h5b
  obtain⟨l0,l1,l2⟩:=tri8 HC5.out
  have H5:=ab h5b
  clear HSL g3 g4 hb4 h4 h5 hb4b h4b h5b N3 HZM hzs hbs HC2 HC3 HC0 HC1 HG HG2 hp2s m0 m1 m2 hf1
  go_wp2_with fail
  refine HQ.mono ?_
  rintro e t5 ⟨⟨b5,a5,n5,c5,b6,a6,n6,c6,rfl,Z5,Z6⟩,g5⟩
  have HQ5:=ac g5 H5.out
  have hf6:=aI HQ5
  obtain⟨x0,x1⟩:=duo HQ5
  have d5:=aU HQ5 (a':=.bool b5) (b':=.slice a5 n5 c5)
  have HG5:=ae HG4.out g5
  have hsz:w.heap.size≤t3.heap.size+1:=by
   have h7:=lt_of_block HC4.out
   have h8:=lt_of_block H5.out
   have h9:=HSW.out
   omega
  have hne:w.heap.size+1≠t3.heap.size+1:=by
   intro h
   have h7:=HC4.out
   rw [h,H5.out] at h7
   simp at h7
  have G6:=aS HG5 (g:=t3.heap.size+1) (u0:=.bool b5) (u1:=.slice a5 n5 c5) hsz
  have c6':=cQ (u0:=.bool b5) (u1:=.slice a5 n5 c5) (ac g5 HC4.out) hne
  have Z7:=Z5.duo (p1:=b5) (r1:=.slice a5 n5 c5) HQ5
  have HOF:=cP b5 a5 n5 c5 RM pos _ Z7 HRB.out (by omega) (by omega)
  obtain⟨y0,y1⟩:=duo d5
  have HC6:=ab c6'
  have HG6:=ab G6
  clear HQ HQ5 d5 G6 c6' Z5 Z6 Z7 HG5 g5 HG4 HC4 HC5 H5 hsz hne
  go_wp2_with fail
  generalize (t5.setCell ⟨t3.heap.size+1,0,none⟩ (.bool b5)).setCell ⟨t3.heap.size+1,1,none⟩ (.slice a5 n5 c5)=t6 at *
  refine HOF.mono ?_
  rintro e t7 ⟨⟨b7,a7,n7,c7,rfl,d7⟩,g7⟩
  have HC1:=ab (ac g7 HC6.out)
  have HG:=ab (ae HG6.out g7)
  have HDN:=ab d7
  have hf1:=am HC1.out
  obtain⟨m0,m1,m2⟩:=tri8 HC1.out
  clear g7 d7 HOF HC6 HG6
  generalize oe RM pos=RE at *
  go_wp2
  have T3:=ay HC1.out (.bool b7) (.slice a7 n7 c7) (.int .i64 RE)
  have T4:=an HG.out (show w.heap.size≤w.heap.size+1 by omega) (.bool b7) (.slice a7 n7 c7) (.int .i64 RE)
  have T5:=HDN.out.tri8 HC1.out b7 a7 n7 c7 (.int .i64 RE)
  obtain⟨p0,p1,p2⟩:=tri8 T3
  have HE:=ab (And.intro T5 T4)
  clear T3 T4 T5
  generalize ((t7.setCell ⟨w.heap.size+1,0,none⟩ (.bool b7)).setCell ⟨w.heap.size+1,1,none⟩ (.slice a7 n7 c7)).setCell ⟨w.heap.size+1,2,none⟩ (.int .i64 RE)=w5 at *
  refine bodyPost_ret (v:=.agg #[.bool b7,.slice a7 n7 c7,.int .i64 RE]) (by simp [results,Tryz.results62,go_sem,p0,p1,p2]) rfl ?_
  exact⟨⟨_,_,_,_,rfl,HE.out.1⟩,HE.out.2⟩

theorem lr (b:Bool)(a:Option Addr)(n c:Nat)(M E pos m:Int)(w:World)(h:Dn w b (.slice a n c) M)(hN:gC M E)(hbl:blen M.natAbs≤1125899906809900)(he1:-1152921504606846976≤E)(he2:E≤1152921504606846976)(hp1:-1152921504606846976≤pos)(hp2:pos≤1152921504606846976)(hm:m=0∨m=1∨m=2) :
  Calls Tryz.prog 62 #[.agg #[.bool b,.slice a n c,.int .i64 E],.int .i64 pos,.int .i64 m] w (cR w (omz (aT M E pos m)) (oe (aT M E pos m) (aQ M E pos))):=by
 by_cases hs:M=0∨pos≤E
 ·rw [show aT M E pos m=M by unfold aT;rw [if_pos hs],show aQ M E pos=E by unfold aQ;rw [if_pos hs],hN.stay.1,hN.stay.2]
  exact pc b a n c M E pos m w h hs
 ·have hM:M≠0:=fun h=>hs (.inl h)
  rw [show aT M E pos m=zz b (rq b M.natAbs (pos - E).toNat m) by unfold aT;rw [if_neg hs,h.1],show aQ M E pos=pos by unfold aQ;rw [if_neg hs]]
  have hpe:E<pos:=Int.lt_of_not_ge fun h=>hs (.inr h)
  have hodd:M.natAbs % 2=1:=by
   rcases hN with hN|hN
   ·exact absurd hN.1 hM
   ·exact hN
  by_cases hfar:blen M.natAbs+2<(pos - E).toNat
  ·exact oz b a n c M E pos m (pos - E).toNat w h hM (by omega) (by omega) hfar (by omega) hp1 hp2 hm
  ·exact pY b a n c M E pos m (pos - E).toNat w h hM hodd (by omega) (by omega) (by omega) hbl hp1 hp2 hm

def Sml (L:Nat)(V:Int):Prop:=∃M E,Rp L M E V∧Nr8 M E∧blen M.natAbs≤67108864

theorem Sml.blen {L:Nat}{M E V:Int}(h:Sml L V)(hr:Rp L M E V)(hn:Nr8 M E):blen M.natAbs≤67108864:=by
 obtain⟨M',E',h1,h2,h3⟩:=h
 obtain⟨rfl,rfl⟩:=Rp.one hr h1 hn h2
 exact h3

theorem Nr8.neg10 {M E:Int}(h:Nr8 M E):Nr8 (-M) E:=by
 rcases h with ⟨h1,h2⟩|h
 ·exact .inl ⟨by omega,h2⟩
 ·exact .inr (by omega)

theorem Sml.neg {L:Nat}{V:Int}(h:Sml L V):Sml L (-V):=by
 obtain⟨M,E,h1,h2,h3⟩:=h
 exact⟨-M,E,h1.neg,h2.neg10,by rw [Int.natAbs_neg];exact h3⟩

theorem f8 {w:World}{b:Bool}{v:Value}{X:List Nat}{ex:Int}{L:Nat}(hA:Arg w v X)(hf:X.length≤1048576)(hE:0≤ex+L):Sml L (vof b X ex L):=by
 have hbz:blen (zz b (val X)).natAbs≤64*X.length:=by rw [bg];exact cb hA.limbs
 have h5:=blen_mono (cV (zz b (val X)).natAbs)
 exact⟨_,_,(Rp.make L (zz b (val X)) ex hE).norm,bj _ _,by rw [cD];omega⟩

def mG (w:World)(e:Ending)(w':World)(c:Int)(L:Nat)(V:Int):Prop:=
 (∃b a n k E,e=.returned (.tuple #[.agg #[.bool b,.slice a n k,.int .i64 E],.int .i64 c])∧(c=0→V8 w' b a n k E L V))∧Below w.heap.size w w'

theorem jW (b:Bool)(a:Option Addr)(n c:Nat)(E:Int)(L:Nat)(V:Int)(w:World)(h:V8 w b a n c E L V) :
  Calls Tryz.prog 33 #[.agg #[.bool b,.slice a n c,.int .i64 E]] w fun e w'=>(∃b' a' n' c' E',e=.returned (.agg #[.bool b',.slice a' n' c',.int .i64 E'])∧V8 w' b' a' n' c' E' L (-V))∧Below w.heap.size w w':=by
 obtain⟨M,d,r,m,f,x,y⟩:=h
 refine (oU b a n c M E w d).mono fun e w' h=>?_
 obtain⟨⟨b',a',n',c',he,hd⟩,hb⟩:=h
 exact⟨⟨b',a',n',c',E,he,-M,hd,r.neg,m.neg10,by rw [Int.natAbs_neg];exact f,x,y⟩,hb⟩

theorem gB {M E:Int}(h:67108864<blen M.natAbs):ba M E=3:=by unfold ba;rw [if_pos h]

theorem ku {M E:Int}(h:blen M.natAbs≤67108864)(hE:aj E=false):ba M E=80:=by
 unfold ba;rw [if_neg (by omega),hE];rfl

theorem oT {M E:Int}(h:blen M.natAbs≤67108864)(hE:aj E=true):ba M E=0:=by
 unfold ba;rw [if_neg (by omega),if_pos hE]

theorem oG (b:Bool)(a:Option Addr)(n c:Nat)(M E:Int)(L:Nat)(V d:Int)(w:World)(h:Dn w b (.slice a n c) M)(hr:Rp L M E V)(hn:Nr8 M E)(hc:ah L V d) :
  Calls Tryz.prog 56 #[.agg #[.bool b,.slice a n c,.int .i64 E]] w fun e w'=>mG w e w' d L V:=by
 refine (gX b a n c M E w h).mono fun e w' h=>?_
 obtain⟨⟨b',a',n',c',E',f,he,h⟩,hb⟩:=h
 have hcc:=hc.one ⟨_,_,hr,hn,rfl⟩
 rcases h with ⟨rfl,rfl,g0,rfl,g1,g2,hd⟩|⟨rfl,g1⟩|⟨rfl,g1,g2⟩
 ·rw [oT g1 g2] at hcc
  subst hcc
  cases g0
  have hq:=(aM _).1 g2
  exact⟨⟨_,_,_,_,_,he,fun _=>⟨_,hd,hr,hn,by omega,by omega,by omega⟩⟩,hb⟩
 ·rw [gB g1] at hcc
  subst hcc
  exact⟨⟨_,_,_,_,_,he,fun h=>absurd h (by decide)⟩,hb⟩
 ·rw [ku g1 g2] at hcc
  subst hcc
  exact⟨⟨_,_,_,_,_,he,fun h=>absurd h (by decide)⟩,hb⟩

theorem qN (b:Bool)(a:Option Addr)(n c:Nat)(E pos:Int)(L:Nat)(V:Int)(w:World)(h:V8 w b a n c E L V)(hs:Sml L V)(hK:aj pos=true)(hL:4611686018427387904≤L) :
  Calls Tryz.prog 62 #[.agg #[.bool b,.slice a n c,.int .i64 E],.int .i64 pos,.int .i64 0] w fun e w'=>(∃b' a' n' c' E',e=.returned (.agg #[.bool b',.slice a' n' c',.int .i64 E'])∧V8 w' b' a' n' c' E' L (rv 0 V (2 ^ (pos+L).toNat)))∧Below w.heap.size w w':=by
 obtain⟨M,d,r,m,_,x,y⟩:=h
 have f:=hs.blen r m
 have hp:=(aM pos).1 hK
 have hR:=(dA (pos:=pos) (m:=0) r m (by omega) (.inl rfl)).norm
 have hsz:=sP (M:=M) (E:=E) (pos:=pos)
 have hsz2:=jR (M:=M) (E:=E) (pos:=pos)
 have hO:=dK (aT M E pos 0) (aQ M E pos) (by omega)
 have hEE:aQ M E pos=E∨aQ M E pos=pos:=by
  unfold aQ
  split
  ·exact .inl rfl
  ·exact .inr rfl
 have htl:=dX (aT M E pos 0).natAbs
 have hob:-1152921504606846976≤oe (aT M E pos 0) (aQ M E pos)∧oe (aT M E pos 0) (aQ M E pos)≤1152921504606846976:=by
  by_cases hc:M=0∨pos≤E
  ·have e1:aT M E pos 0=M:=by unfold aT;rw [if_pos hc]
   have e2:aQ M E pos=E:=by unfold aQ;rw [if_pos hc]
   rw [e1,e2,m.stay.2]
   exact⟨x,y⟩
  ·have e2:aQ M E pos=pos:=by unfold aQ;rw [if_neg hc]
   rw [e2]
   unfold oe
   split <;> omega
 refine (lr b a n c M E pos 0 w d m (by omega) x y (by omega) (by omega) (.inl rfl)).mono fun e w' h=>?_
 obtain⟨⟨b',a',n',c',he,hd⟩,hb⟩:=h
 exact⟨⟨b',a',n',c',_,he,_,hd,hR,bj _ _,by omega,hob.1,hob.2⟩,hb⟩

theorem lworst1 (gs:Nat)(f pos:Int)(w:World)(hg:w.heap[gs]?=some (.cells #[.int .i64 f] 3)) :
  Calls Tryz.prog 6 #[.int .i64 pos,.slice (some ⟨gs,0,none⟩) 1 1] w fun e w'=>e=.returned (.int .i64 (aY f pos))∧w'=w:=by
 have c0:w.cell? ⟨gs,0,none⟩=some (.int .i64 f):=by simp [World.cell?,hg]
 have C:=cH pos w
 clear hg
 by_cases h1:f=0
 ·subst h1
  cases hp:aj pos
  ·rw [hp] at C
   rw [show aY 0 pos=1 by unfold aY;rw [if_pos rfl,hp];rfl]
   clear hp
   go_enter Tryz.func6,Tryz.ntmps6
   go_wp2
   refine wp_loop_rounds 2 ?_
   rw [rounds_succ]
   go_wp2
   rw [rounds_succ]
   go_wp2_with fail
   refine C.mono ?_
   rintro e wn ⟨rfl,hw⟩;rw [hw];clear hw wn C
   go_wp2
   go_ret
   exact⟨rfl,rfl⟩
  ·rw [hp] at C
   rw [show aY 0 pos=0 by unfold aY;rw [if_pos rfl,if_pos hp]]
   clear hp
   go_enter Tryz.func6,Tryz.ntmps6
   go_wp2
   refine wp_loop_rounds 2 ?_
   rw [rounds_succ]
   go_wp2
   rw [rounds_succ]
   go_wp2_with fail
   refine C.mono ?_
   rintro e wn ⟨rfl,hw⟩;rw [hw];clear hw wn C
   go_wp2
   go_ret
   exact⟨rfl,rfl⟩
 ·rw [show aY f pos=f by unfold aY;rw [if_neg h1]]
  have i1:(f != 0)=true:=by simpa using h1
  clear h1 C
  go_enter Tryz.func6,Tryz.ntmps6
  go_wp2
  refine wp_loop_rounds 2 ?_
  rw [rounds_succ]
  go_wp2
  go_ret
  exact⟨rfl,rfl⟩

theorem V8.tri8 {w:World}{b0:Bool}{a0:Option Addr}{n0 c0:Nat}{E0:Int}{L:Nat}{V:Int}{g:Nat}{p:Bool}{a:Option Addr}{n c:Nat}{e:Int}{t:TypeId}(h:V8 w b0 a0 n0 c0 E0 L V)(hl:w.heap[g]?=some (.cells #[.bool p,.slice a n c,.int .i64 e] t))(b1:Bool)(a1:Option Addr)(n1 c1:Nat)(u2:Value) :
  V8 (((w.setCell ⟨g,0,none⟩ (.bool b1)).setCell ⟨g,1,none⟩ (.slice a1 n1 c1)).setCell ⟨g,2,none⟩ u2) b0 a0 n0 c0 E0 L V:=by
 obtain⟨M,h1,h2⟩:=h
 exact⟨M,h1.tri8 hl b1 a1 n1 c1 u2,h2⟩

theorem gH {w:World}{g:Nat}{c0 c1 c2 c3 c4 c5 c6 c7 c8:Value}{t:TypeId}(h:w.heap[g]?=some (.cells #[c0,c1,c2,c3,c4,c5,c6,c7,c8] t)):(w.cell? ⟨g,0,none⟩=some c0∧w.cell? ⟨g,1,none⟩=some c1∧w.cell? ⟨g,2,none⟩=some c2)∧(w.cell? ⟨g,3,none⟩=some c3∧w.cell? ⟨g,4,none⟩=some c4∧w.cell? ⟨g,5,none⟩=some c5)∧(w.cell? ⟨g,6,none⟩=some c6∧w.cell? ⟨g,7,none⟩=some c7∧w.cell? ⟨g,8,none⟩=some c8):=by
 simp [World.cell?,h]

theorem bR {c d:Int}(h1:aZ c)(h2:aZ d):aZ (ak c d):=by
 rcases h1 with rfl|rfl|rfl <;> rcases h2 with rfl|rfl|rfl <;> (unfold aZ;decide)

theorem sf {c d e:Int}(h1:aZ c)(h2:aZ d)(h3:aZ e):ak (ak (ak 0 c) d) e=ak (ak c d) (ak d e):=by
 rcases h1 with rfl|rfl|rfl <;> rcases h2 with rfl|rfl|rfl <;> rcases h3 with rfl|rfl|rfl <;> decide

end Go.Proofs.YteflkojglmleaaaGreatDoor

