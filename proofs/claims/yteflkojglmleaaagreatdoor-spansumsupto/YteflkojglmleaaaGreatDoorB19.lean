/- The document's Round upwards, Outward, Neg of spans, Told, Bad, at one scale. -/
import Derived.Test.YteflkojglmleaaaGreatDoorB18
import Derived.Deep.RegionHeld3
import Derived.Test.YteflkojglmleaaaGreatDoorB14
set_option maxRecDepth 20000
set_option maxHeartbeats 4000000
namespace Go.Proofs.YteflkojglmleaaaGreatDoor
open Go.RowKit
open Lm
attribute [local go_sem ↓] Go.wp_at_zero Go.wp_at_succ

theorem tc (b:Bool){x d:Nat}(hx:0<x)(hd:0<d):rq b x d 1≤x:=by
 unfold rq
 have h2:2 ^ 1≤2 ^ d:=Nat.pow_le_pow_right (by omega) hd
 rw [Nat.pow_one] at h2
 by_cases h1:x=1
 ·rw [h1,Nat.div_eq_of_lt (by omega)]
  split <;> omega
 ·have h3:x / 2 ^ d≤x / 2:=Nat.div_le_div_left h2 (by omega)
  split <;> omega

theorem jZ {M E pos:Int}:blen (aT M E pos 1).natAbs≤blen M.natAbs:=by
 unfold aT
 by_cases h:M=0∨pos≤E
 ·rw [if_pos h];exact Nat.le_refl _
 ·rw [if_neg h,bg]
  exact blen_mono (tc _ (by omega) (by omega))

theorem og {M E pos:Int}:blen (omz (aT M E pos 1)).natAbs≤blen M.natAbs:=by
 rw [cD]
 exact Nat.le_trans (blen_mono (cV _)) jZ

theorem pB (b:Bool)(a:Option Addr)(n c:Nat)(E pos:Int)(L:Nat)(V:Int)(w:World)(h:V8 w b a n c E L V)(hs:Sml L V)(hK:aj pos=true)(hL:4611686018427387904≤L) :
  Calls Tryz.prog 62 #[.agg #[.bool b,.slice a n c,.int .i64 E],.int .i64 pos,.int .i64 1] w fun e w'=>(∃b' a' n' c' E',e=.returned (.agg #[.bool b',.slice a' n' c',.int .i64 E'])∧V8 w' b' a' n' c' E' L (rv 1 V (2 ^ (pos+L).toNat)))∧Below w.heap.size w w':=by
 obtain⟨M,d,r,m,_,x,y⟩:=h
 have f:=hs.blen r m
 have hp:=(aM pos).1 hK
 have hR:=(dA (pos:=pos) (m:=1) r m (by omega) (.inr (.inl rfl))).norm
 have hsz:=og (M:=M) (E:=E) (pos:=pos)
 have hsz2:=jZ (M:=M) (E:=E) (pos:=pos)
 have hO:=dK (aT M E pos 1) (aQ M E pos) (by omega)
 have hEE:aQ M E pos=E∨aQ M E pos=pos:=by
  unfold aQ
  split
  ·exact .inl rfl
  ·exact .inr rfl
 have htl:=dX (aT M E pos 1).natAbs
 have hob:-1152921504606846976≤oe (aT M E pos 1) (aQ M E pos)∧oe (aT M E pos 1) (aQ M E pos)≤1152921504606846976:=by
  by_cases hc:M=0∨pos≤E
  ·have e1:aT M E pos 1=M:=by unfold aT;rw [if_pos hc]
   have e2:aQ M E pos=E:=by unfold aQ;rw [if_pos hc]
   rw [e1,e2,m.stay.2]
   exact⟨x,y⟩
  ·have e2:aQ M E pos=pos:=by unfold aQ;rw [if_neg hc]
   rw [e2]
   unfold oe
   split <;> omega
 refine (lr b a n c M E pos 1 w d m (by omega) x y (by omega) (by omega) (.inr (.inl rfl))).mono fun e w' h=>?_
 obtain⟨⟨b',a',n',c',he,hd⟩,hb⟩:=h
 exact⟨⟨b',a',n',c',_,he,_,hd,hR,bj _ _,by omega,hob.1,hob.2⟩,hb⟩

theorem kj (b1:Bool)(a1:Option Addr)(n1 k1:Nat)(ex1:Int)(b2:Bool)(a2:Option Addr)(n2 k2:Nat)(ex2:Int)(pos:Int)(K:Nat)(VA VB:Int)(w:World)(h1:V8 w b1 a1 n1 k1 ex1 K VA)(h2:V8 w b2 a2 n2 k2 ex2 K VB)(s1:Sml K VA)(s2:Sml K VB)(hK:aj pos=true)(hL:4611686018427387904≤K) :
  Calls Tryz.prog 32 #[.agg #[.bool b1,.slice a1 n1 k1,.int .i64 ex1],.agg #[.bool b2,.slice a2 n2 k2,.int .i64 ex2],.int .i64 pos] w fun e w'=>fI w e w' K (rv 0 VA (2 ^ (pos+K).toNat)) (rv 1 VB (2 ^ (pos+K).toNat)):=by
 obtain⟨w0,hw0,hb0,q0,q1,q9⟩:=aE w (.cells #[.bool b1,.slice a1 n1 k1,.int .i64 ex1] 41) (.cells #[.bool b2,.slice a2 n2 k2,.int .i64 ex2] 41) (.cells #[.bool false,.slice none 0 0,.int .i64 0,.bool false,.slice none 0 0,.int .i64 0] 43)
 have K1:=ab (fun (W:World) (hg:Below w0.heap.size w0 W)=>qN b1 a1 n1 k1 ex1 pos K VA W ((h1.below hb0).below hg) s1 hK hL)
 have K2:=ab (fun (W:World) (hg:Below w0.heap.size w0 W)=>pB b2 a2 n2 k2 ex2 pos K VB W ((h2.below hb0).below hg) s2 hK hL)
 have KS:=ab (fun (W:World) (hg:Below w0.heap.size w0 W)=>show W.cell? ⟨w.heap.size,0,none⟩=some (.bool b1)∧W.cell? ⟨w.heap.size,1,none⟩=some (.slice a1 n1 k1)∧W.cell? ⟨w.heap.size,2,none⟩=some (.int .i64 ex1)∧W.cell? ⟨w.heap.size+1,0,none⟩=some (.bool b2)∧W.cell? ⟨w.heap.size+1,1,none⟩=some (.slice a2 n2 k2)∧W.cell? ⟨w.heap.size+1,2,none⟩=some (.int .i64 ex2) from (by
  obtain⟨x0,x1,x2⟩:=tri8 (ac hg q0)
  obtain⟨x3,x4,x5⟩:=tri8 (ac hg q1)
  exact⟨x0,x1,x2,x3,x4,x5⟩))
 have KT:=ab (fun (W:World) (hg:Below w0.heap.size w0 W) (u0 u1 u2 u3 u4 u5:Value)=>show ((((((W.setCell ⟨w.heap.size+1+1,0,none⟩ u0).setCell ⟨w.heap.size+1+1,1,none⟩ u1).setCell ⟨w.heap.size+1+1,2,none⟩ u2).setCell ⟨w.heap.size+1+1,3,none⟩ u3).setCell ⟨w.heap.size+1+1,4,none⟩ u4).setCell ⟨w.heap.size+1+1,5,none⟩ u5).cell? ⟨w.heap.size,0,none⟩=some (.bool b1)∧((((((W.setCell ⟨w.heap.size+1+1,0,none⟩ u0).setCell ⟨w.heap.size+1+1,1,none⟩ u1).setCell ⟨w.heap.size+1+1,2,none⟩ u2).setCell ⟨w.heap.size+1+1,3,none⟩ u3).setCell ⟨w.heap.size+1+1,4,none⟩ u4).setCell ⟨w.heap.size+1+1,5,none⟩ u5).cell? ⟨w.heap.size,1,none⟩=some (.slice a1 n1 k1)∧((((((W.setCell ⟨w.heap.size+1+1,0,none⟩ u0).setCell ⟨w.heap.size+1+1,1,none⟩ u1).setCell ⟨w.heap.size+1+1,2,none⟩ u2).setCell ⟨w.heap.size+1+1,3,none⟩ u3).setCell ⟨w.heap.size+1+1,4,none⟩ u4).setCell ⟨w.heap.size+1+1,5,none⟩ u5).cell? ⟨w.heap.size,2,none⟩=some (.int .i64 ex1)∧((((((W.setCell ⟨w.heap.size+1+1,0,none⟩ u0).setCell ⟨w.heap.size+1+1,1,none⟩ u1).setCell ⟨w.heap.size+1+1,2,none⟩ u2).setCell ⟨w.heap.size+1+1,3,none⟩ u3).setCell ⟨w.heap.size+1+1,4,none⟩ u4).setCell ⟨w.heap.size+1+1,5,none⟩ u5).cell? ⟨w.heap.size+1,0,none⟩=some (.bool b2)∧((((((W.setCell ⟨w.heap.size+1+1,0,none⟩ u0).setCell ⟨w.heap.size+1+1,1,none⟩ u1).setCell ⟨w.heap.size+1+1,2,none⟩ u2).setCell ⟨w.heap.size+1+1,3,none⟩ u3).setCell ⟨w.heap.size+1+1,4,none⟩ u4).setCell ⟨w.heap.size+1+1,5,none⟩ u5).cell? ⟨w.heap.size+1,1,none⟩=some (.slice a2 n2 k2)∧((((((W.setCell ⟨w.heap.size+1+1,0,none⟩ u0).setCell ⟨w.heap.size+1+1,1,none⟩ u1).setCell ⟨w.heap.size+1+1,2,none⟩ u2).setCell ⟨w.heap.size+1+1,3,none⟩ u3).setCell ⟨w.heap.size+1+1,4,none⟩ u4).setCell ⟨w.heap.size+1+1,5,none⟩ u5).cell? ⟨w.heap.size+1,2,none⟩=some (.int .i64 ex2) from (by
  obtain⟨x0,x1,x2⟩:=tri8 ((dL (g:=w.heap.size+1+1) (h:=w.heap.size) (by omega) u0 u1 u2 u3 u4 u5).trans (ac hg q0))
  obtain⟨x3,x4,x5⟩:=tri8 ((dL (g:=w.heap.size+1+1) (h:=w.heap.size+1) (by omega) u0 u1 u2 u3 u4 u5).trans (ac hg q1))
  exact⟨x0,x1,x2,x3,x4,x5⟩))
 have HZ:Hid (w0.drew.heap[w.heap.size+1+1]?=some (.cells #[.bool false,.slice none 0 0,.int .i64 0,.bool false,.slice none 0 0,.int .i64 0] 43)):=ab q9
 have HB:=ab hb0
 have g0:Below w0.heap.size w0 w0.drew:=bE (Below.refl _ _)
 generalize rv 0 VA (2 ^ (pos+K).toNat)=M1 at *
 generalize rv 1 VB (2 ^ (pos+K).toNat)=M2 at *
 clear h1 h2 q0 q1 q9 hb0 s1 s2
 go_enter Tryz.func32,Tryz.ntmps32
 go_upto_region 1 with fail
 go_region_held3 (fun w'=>w'.cell? ⟨w.heap.size,0,none⟩=some (.bool b1)∧w'.cell? ⟨w.heap.size,1,none⟩=some (.slice a1 n1 k1)∧w'.cell? ⟨w.heap.size,2,none⟩=some (.int .i64 ex1)∧w'.cell? ⟨w.heap.size+1,0,none⟩=some (.bool b2)∧w'.cell? ⟨w.heap.size+1,1,none⟩=some (.slice a2 n2 k2)∧w'.cell? ⟨w.heap.size+1,2,none⟩=some (.int .i64 ex2)) (first | (with_reducible exact KT.out _ g2 _ _ _ _ _ _) | (refine KS.out _ ?_;first|with_reducible exact g2|with_reducible exact g1|with_reducible exact g0)) (first
  | (go_at_call_of 62 a2;refine (K2.out _ g1).mono ?_;rintro e' t2 ⟨⟨q,qa,qn,qk,qe,rfl,v6⟩,hb2⟩;have g2:=ae g1 hb2;have v5':=v5.below hb2;have hz:=ac hb2 (ac hb1 HZ.out);have hf:=aD hz;obtain⟨m0,m1,m2,m3,m4,m5⟩:=hexa hz)
  | (go_at_call_of 62 a1;refine (K1.out _ g0).mono ?_;rintro e' t1 ⟨⟨p,pa,pn,pk,pe,rfl,v5⟩,hb1⟩;have g1:=ae g0 hb1))
 have T3:=aK hz (.bool p) (.slice pa pn pk) (.int .i64 pe) (.bool q) (.slice qa qn qk) (.int .i64 qe)
 have T4:=aG (ae HB.out g2) (show w.heap.size≤w.heap.size+1+1 by omega) (.bool p) (.slice pa pn pk) (.int .i64 pe) (.bool q) (.slice qa qn qk) (.int .i64 qe)
 have T5:=v5'.hexa hz p pa pn pk pe q qa qn qk qe
 have T6:=v6.hexa hz p pa pn pk pe q qa qn qk qe
 obtain⟨p0,p1,p2,p3,p4,p5⟩:=hexa T3
 have HE:=ab (And.intro T5 (And.intro T6 T4))
 clear T3 T4 T5 T6 hz hf m0 m1 m2 m3 m4 m5 KS KT K1 K2 g0 g1 g2 hb1 hb2 v5 v6 v5' HZ
 generalize (((((t2.setCell ⟨w.heap.size+1+1,0,none⟩ (.bool p)).setCell ⟨w.heap.size+1+1,1,none⟩ (.slice pa pn pk)).setCell ⟨w.heap.size+1+1,2,none⟩ (.int .i64 pe)).setCell ⟨w.heap.size+1+1,3,none⟩ (.bool q)).setCell ⟨w.heap.size+1+1,4,none⟩ (.slice qa qn qk)).setCell ⟨w.heap.size+1+1,5,none⟩ (.int .i64 qe)=w5 at *
 go_wp2
 refine bodyPost_ret (v:=.agg #[.bool p,.slice pa pn pk,.int .i64 pe,.bool q,.slice qa qn qk,.int .i64 qe]) (by simp [results,Tryz.results32,go_sem,p0,p1,p2,p3,p4,p5]) rfl ?_
 exact⟨⟨_,_,_,_,_,_,_,_,_,_,rfl,HE.out.1,HE.out.2.1⟩,HE.out.2.2⟩

theorem pU (b1:Bool)(a1:Option Addr)(n1 k1:Nat)(ex1:Int)(b2:Bool)(a2:Option Addr)(n2 k2:Nat)(ex2:Int)(K:Nat)(VA VB:Int)(w:World)(h1:V8 w b1 a1 n1 k1 ex1 K VA)(h2:V8 w b2 a2 n2 k2 ex2 K VB) :
  Calls Tryz.prog 13 #[.agg #[.bool b1,.slice a1 n1 k1,.int .i64 ex1,.bool b2,.slice a2 n2 k2,.int .i64 ex2]] w fun e w'=>fI w e w' K (-VB) (-VA):=by
 obtain⟨w0,hw0,hb0,q0,q9⟩:=aA w (.cells #[.bool b1,.slice a1 n1 k1,.int .i64 ex1,.bool b2,.slice a2 n2 k2,.int .i64 ex2] 43) (.cells #[.bool false,.slice none 0 0,.int .i64 0,.bool false,.slice none 0 0,.int .i64 0] 43)
 have K1:=ab (fun (W:World) (hg:Below w0.heap.size w0 W)=>jW b2 a2 n2 k2 ex2 K VB W ((h2.below hb0).below hg))
 have K2:=ab (fun (W:World) (hg:Below w0.heap.size w0 W)=>jW b1 a1 n1 k1 ex1 K VA W ((h1.below hb0).below hg))
 have KS:=ab (fun (W:World) (hg:Below w0.heap.size w0 W)=>show W.cell? ⟨w.heap.size,0,none⟩=some (.bool b1)∧W.cell? ⟨w.heap.size,1,none⟩=some (.slice a1 n1 k1)∧W.cell? ⟨w.heap.size,2,none⟩=some (.int .i64 ex1)∧W.cell? ⟨w.heap.size,3,none⟩=some (.bool b2)∧W.cell? ⟨w.heap.size,4,none⟩=some (.slice a2 n2 k2)∧W.cell? ⟨w.heap.size,5,none⟩=some (.int .i64 ex2) from (by
  obtain⟨x0,x1,x2,x3,x4,x5⟩:=hexa (ac hg q0)
  exact⟨x0,x1,x2,x3,x4,x5⟩))
 have KT:=ab (fun (W:World) (hg:Below w0.heap.size w0 W) (u0 u1 u2 u3 u4 u5:Value)=>show ((((((W.setCell ⟨w.heap.size+1,0,none⟩ u0).setCell ⟨w.heap.size+1,1,none⟩ u1).setCell ⟨w.heap.size+1,2,none⟩ u2).setCell ⟨w.heap.size+1,3,none⟩ u3).setCell ⟨w.heap.size+1,4,none⟩ u4).setCell ⟨w.heap.size+1,5,none⟩ u5).cell? ⟨w.heap.size,0,none⟩=some (.bool b1)∧((((((W.setCell ⟨w.heap.size+1,0,none⟩ u0).setCell ⟨w.heap.size+1,1,none⟩ u1).setCell ⟨w.heap.size+1,2,none⟩ u2).setCell ⟨w.heap.size+1,3,none⟩ u3).setCell ⟨w.heap.size+1,4,none⟩ u4).setCell ⟨w.heap.size+1,5,none⟩ u5).cell? ⟨w.heap.size,1,none⟩=some (.slice a1 n1 k1)∧((((((W.setCell ⟨w.heap.size+1,0,none⟩ u0).setCell ⟨w.heap.size+1,1,none⟩ u1).setCell ⟨w.heap.size+1,2,none⟩ u2).setCell ⟨w.heap.size+1,3,none⟩ u3).setCell ⟨w.heap.size+1,4,none⟩ u4).setCell ⟨w.heap.size+1,5,none⟩ u5).cell? ⟨w.heap.size,2,none⟩=some (.int .i64 ex1)∧((((((W.setCell ⟨w.heap.size+1,0,none⟩ u0).setCell ⟨w.heap.size+1,1,none⟩ u1).setCell ⟨w.heap.size+1,2,none⟩ u2).setCell ⟨w.heap.size+1,3,none⟩ u3).setCell ⟨w.heap.size+1,4,none⟩ u4).setCell ⟨w.heap.size+1,5,none⟩ u5).cell? ⟨w.heap.size,3,none⟩=some (.bool b2)∧((((((W.setCell ⟨w.heap.size+1,0,none⟩ u0).setCell ⟨w.heap.size+1,1,none⟩ u1).setCell ⟨w.heap.size+1,2,none⟩ u2).setCell ⟨w.heap.size+1,3,none⟩ u3).setCell ⟨w.heap.size+1,4,none⟩ u4).setCell ⟨w.heap.size+1,5,none⟩ u5).cell? ⟨w.heap.size,4,none⟩=some (.slice a2 n2 k2)∧((((((W.setCell ⟨w.heap.size+1,0,none⟩ u0).setCell ⟨w.heap.size+1,1,none⟩ u1).setCell ⟨w.heap.size+1,2,none⟩ u2).setCell ⟨w.heap.size+1,3,none⟩ u3).setCell ⟨w.heap.size+1,4,none⟩ u4).setCell ⟨w.heap.size+1,5,none⟩ u5).cell? ⟨w.heap.size,5,none⟩=some (.int .i64 ex2) from (by
  obtain⟨x0,x1,x2,x3,x4,x5⟩:=hexa ((dL (g:=w.heap.size+1) (h:=w.heap.size) (by omega) u0 u1 u2 u3 u4 u5).trans (ac hg q0))
  exact⟨x0,x1,x2,x3,x4,x5⟩))
 have HZ:Hid (w0.drew.heap[w.heap.size+1]?=some (.cells #[.bool false,.slice none 0 0,.int .i64 0,.bool false,.slice none 0 0,.int .i64 0] 43)):=ab q9
 have HB:=ab hb0
 have g0:Below w0.heap.size w0 w0.drew:=bE (Below.refl _ _)
 generalize -VA=M1 at *
 generalize -VB=M2 at *
 clear h1 h2 q0 q9 hb0
 go_enter Tryz.func13,Tryz.ntmps13
 go_upto_region 1 with fail
 go_region_held3 (fun w'=>w'.cell? ⟨w.heap.size,0,none⟩=some (.bool b1)∧w'.cell? ⟨w.heap.size,1,none⟩=some (.slice a1 n1 k1)∧w'.cell? ⟨w.heap.size,2,none⟩=some (.int .i64 ex1)∧w'.cell? ⟨w.heap.size,3,none⟩=some (.bool b2)∧w'.cell? ⟨w.heap.size,4,none⟩=some (.slice a2 n2 k2)∧w'.cell? ⟨w.heap.size,5,none⟩=some (.int .i64 ex2)) (first | (with_reducible exact KT.out _ g2 _ _ _ _ _ _) | (refine KS.out _ ?_;first|with_reducible exact g2|with_reducible exact g1|with_reducible exact g0)) (first
  | (go_at_call_of 33 a1;refine (K2.out _ g1).mono ?_;rintro e' t2 ⟨⟨q,qa,qn,qk,qe,rfl,v6⟩,hb2⟩;have g2:=ae g1 hb2;have v5':=v5.below hb2;have hz:=ac hb2 (ac hb1 HZ.out);have hf:=aD hz;obtain⟨m0,m1,m2,m3,m4,m5⟩:=hexa hz)
  | (go_at_call_of 33 a2;refine (K1.out _ g0).mono ?_;rintro e' t1 ⟨⟨p,pa,pn,pk,pe,rfl,v5⟩,hb1⟩;have g1:=ae g0 hb1))
 have T3:=aK hz (.bool p) (.slice pa pn pk) (.int .i64 pe) (.bool q) (.slice qa qn qk) (.int .i64 qe)
 have T4:=aG (ae HB.out g2) (show w.heap.size≤w.heap.size+1 by omega) (.bool p) (.slice pa pn pk) (.int .i64 pe) (.bool q) (.slice qa qn qk) (.int .i64 qe)
 have T5:=v5'.hexa hz p pa pn pk pe q qa qn qk qe
 have T6:=v6.hexa hz p pa pn pk pe q qa qn qk qe
 obtain⟨p0,p1,p2,p3,p4,p5⟩:=hexa T3
 have HE:=ab (And.intro T5 (And.intro T6 T4))
 clear T3 T4 T5 T6 hz hf m0 m1 m2 m3 m4 m5 KS KT K1 K2 g0 g1 g2 hb1 hb2 v5 v6 v5' HZ
 generalize (((((t2.setCell ⟨w.heap.size+1,0,none⟩ (.bool p)).setCell ⟨w.heap.size+1,1,none⟩ (.slice pa pn pk)).setCell ⟨w.heap.size+1,2,none⟩ (.int .i64 pe)).setCell ⟨w.heap.size+1,3,none⟩ (.bool q)).setCell ⟨w.heap.size+1,4,none⟩ (.slice qa qn qk)).setCell ⟨w.heap.size+1,5,none⟩ (.int .i64 qe)=w5 at *
 go_wp2
 refine bodyPost_ret (v:=.agg #[.bool p,.slice pa pn pk,.int .i64 pe,.bool q,.slice qa qn qk,.int .i64 qe]) (by simp [results,Tryz.results13,go_sem,p0,p1,p2,p3,p4,p5]) rfl ?_
 exact⟨⟨_,_,_,_,_,_,_,_,_,_,rfl,HE.out.1,HE.out.2.1⟩,HE.out.2.2⟩

def cF (w:World)(e:Ending)(w':World)(c:Int)(L:Nat)(V1 V2:Int):Prop:=
 (∃b a n k x b' a' n' k' x',e=.returned (.tuple #[.agg #[.bool b,.slice a n k,.int .i64 x,.bool b',.slice a' n' k',.int .i64 x'],.int .i64 c])∧(c=0→V8 w' b a n k x L V1∧V8 w' b' a' n' k' x' L V2))∧Below w.heap.size w w'

theorem lG (b1:Bool)(a1:Option Addr)(n1 k1:Nat)(ex1:Int)(b2:Bool)(a2:Option Addr)(n2 k2:Nat)(ex2:Int)(L:Nat)(V1 V2 d1 d2:Int)(w:World)(h1:V8 w b1 a1 n1 k1 ex1 L V1)(h2:V8 w b2 a2 n2 k2 ex2 L V2)(c1:ah L V1 d1)(c2:ah L V2 d2) :
  Calls Tryz.prog 25 #[.agg #[.bool b1,.slice a1 n1 k1,.int .i64 ex1,.bool b2,.slice a2 n2 k2,.int .i64 ex2]] w fun e w'=>cF w e w' (ak d1 d2) L V1 V2:=by
 obtain⟨M1,g1,r1,m1,_⟩:=id h1
 obtain⟨M2,g2,r2,m2,_⟩:=id h2
 rw [c1.one ⟨_,_,r1,m1,rfl⟩,c2.one ⟨_,_,r2,m2,rfl⟩]
 refine (jv b1 a1 n1 k1 M1 ex1 b2 a2 n2 k2 M2 ex2 w g1 g2).mono fun e w' h=>?_
 obtain⟨⟨p,a,n,k,x,p',a',n',k',x',he,h⟩,hb⟩:=h
 refine⟨⟨p,a,n,k,x,p',a',n',k',x',he,fun h0=>?_⟩,hb⟩
 obtain⟨rfl,rfl,rfl,rfl,rfl,rfl,rfl,rfl,rfl,rfl⟩:=h h0
 exact⟨h1.below hb,h2.below hb⟩

theorem tz (b:Bool)(a:Option Addr)(n k:Nat)(ex:Int)(b':Bool)(a':Option Addr)(n' k':Nat)(ex' r:Int)(b1:Bool)(a1:Option Addr)(n1 k1:Nat)(E1:Int)(b2:Bool)(a2:Option Addr)(n2 k2:Nat)(E2:Int)(L:Nat)(V1 V2 d1 d2:Int)(base:Nat)(w:World)(hS:SRV w base b (.slice a n k) ex b' (.slice a' n' k') ex' r 0 L V1 V2)(c1:ah L V1 d1)(c2:ah L V2 d2)(hv:ak d1 d2=0→V8 w b1 a1 n1 k1 E1 L V1∧V8 w b2 a2 n2 k2 E2 L V2) :
  Calls Tryz.prog 10 #[.agg #[.bool b,.slice a n k,.int .i64 ex,.bool b',.slice a' n' k',.int .i64 ex'],.int .i64 r,.agg #[.bool b1,.slice a1 n1 k1,.int .i64 E1,.bool b2,.slice a2 n2 k2,.int .i64 E2],.int .i64 (ak d1 d2)] w fun e w'=>e=.returned (.bool true)∧Below w.heap.size w w':=by
 have hc:=hS.codes c1 c2
 by_cases h0:ak d1 d2=0
 ·rw [h0]
  exact dT b a n k ex b' a' n' k' ex' r 0 b1 a1 n1 k1 E1 b2 a2 n2 k2 E2 L V1 V2 base w hS (fun _=>(hv h0).1) (fun _=>(hv h0).2)
 ·rcases hS with ⟨g0,_⟩|⟨_,M1,X1,M2,X2,hs,_⟩
  ·exact absurd rfl g0
  ·obtain⟨rfl,g1,rfl,rfl,g2,rfl⟩:=hs.2.2 (by rw [hc];exact h0)
   cases g1
   cases g2
   rw [hc]
   exact ll _ b1 a1 n1 k1 E1 b2 a2 n2 k2 E2 w h0

theorem j9 {c d:Int}(h1:aZ c)(h2:aZ d):ak (ak 0 c) d=ak c d:=by
 rcases h1 with rfl|rfl|rfl <;> rcases h2 with rfl|rfl|rfl <;> decide

def V7 (w:World)(b:Bool)(a:Option Addr)(n c:Nat)(E:Int)(L:Nat)(V:Int):Prop:=∃M,Dn w b (.slice a n c) M∧Rp L M E V∧Nr8 M E

theorem V7.below {w w':World}{b:Bool}{a:Option Addr}{n c:Nat}{E:Int}{L:Nat}{V:Int}(h:V7 w b a n c E L V)(hb:Below w.heap.size w w'):V7 w' b a n c E L V:=by
 obtain⟨M,h1,h2⟩:=h
 exact⟨M,h1.below hb,h2⟩

theorem V7.told {w:World}{b:Bool}{a:Option Addr}{n c:Nat}{E:Int}{L:Nat}{V d:Int}(h:V7 w b a n c E L V)(hc:ah L V d)(W:World)(hg:Below w.heap.size w W) :
  Calls Tryz.prog 56 #[.agg #[.bool b,.slice a n c,.int .i64 E]] W fun e w'=>mG W e w' d L V:=by
 obtain⟨M,h1,h2,h3⟩:=h
 exact oG b a n c M E L V d W (h1.below hg) h2 h3 hc

theorem ah.sml {L:Nat}{V:Int}(h:ah L V 0):Sml L V:=by
 obtain⟨M,E,h1,h2,h3⟩:=h
 refine⟨M,E,h1,h2,?_⟩
 rcases Nat.lt_or_ge 67108864 (blen M.natAbs) with g|g
 ·rw [gB g] at h3
  omega
 ·exact g

theorem ah.fit {L:Nat}{V M E:Int}(h:ah L V 0)(hr:Rp L M E V)(hn:Nr8 M E):blen M.natAbs≤67108864∧aj E=true:=by
 have h1:=h.sml.blen hr hn
 have h2:=h.one ⟨M,E,hr,hn,rfl⟩
 refine⟨h1,?_⟩
 cases hE:aj E
 ·rw [ku h1 hE] at h2
  omega
 ·rfl

theorem V7.v8 {w:World}{b:Bool}{a:Option Addr}{n c:Nat}{E:Int}{L:Nat}{V:Int}(h:V7 w b a n c E L V)(hc:ah L V 0):V8 w b a n c E L V:=by
 obtain⟨M,h1,h2,h3⟩:=h
 obtain⟨g1,g2⟩:=hc.fit h2 h3
 have hr:=(aM E).1 g2
 exact⟨M,h1,h2,h3,by omega,by omega,by omega⟩

theorem rbad2s (gs:Nat)(b1:Bool)(a1:Option Addr)(n1 k1:Nat)(E1:Int)(b2:Bool)(a2:Option Addr)(n2 k2:Nat)(E2:Int)(L:Nat)(V1 V2 d1 d2:Int)(w:World)(hg:w.heap[gs]?=some (.cells #[.bool b1,.slice a1 n1 k1,.int .i64 E1,.bool b2,.slice a2 n2 k2,.int .i64 E2] 41))(h1:V7 w b1 a1 n1 k1 E1 L V1)(h2:V7 w b2 a2 n2 k2 E2 L V2)(c1:ah L V1 d1)(c2:ah L V2 d2) :
  Calls Tryz.prog 31 #[.slice (some ⟨gs,0,none⟩) 2 2] w fun e w'=>e=.returned (.int .i64 (ak d1 d2))∧Below w.heap.size w w':=by
 have HS:=ab hg
 have K1:=ab (h1.told c1)
 have K2:=ab (h2.told c2)
 have i0:aZ 0:=.inl rfl
 obtain⟨f1,hf1⟩:∃f,ak 0 d1=f:=⟨_,rfl⟩
 have i1:aZ f1:=by rw [←hf1];exact bR i0 c1.is
 have W1:=ab (fun (X:World)=>bH 0 d1 X i0 c1.is)
 rw [hf1] at W1
 obtain⟨f2,hf2⟩:∃f,ak f1 d2=f:=⟨_,rfl⟩
 have i2:aZ f2:=by rw [←hf2];exact bR i1 c2.is
 have W2:=ab (fun (X:World)=>bH f1 d2 X i1 c2.is)
 rw [hf2] at W2
 rw [show ak d1 d2=f2 by rw [←j9 c1.is c2.is,hf1,hf2]]
 clear hg h1 c1 hf1 i1 h2 c2 hf2 i2 i0
 go_enter Tryz.func31,Tryz.ntmps31
 go_wp2
 refine wp_loop_rounds 3 ?_
 have HB0:Hid (Below w.heap.size w w):=ab (Below.refl _ _)
 rw [rounds_succ]
 obtain⟨u1,hu1,hbu1,qu1⟩:=af w (.cells #[.bool b1,.slice a1 n1 k1,.int .i64 E1] 41)
 have HU1:=ab (ae HB0.out hbu1)
 have C:=K1.out u1 HU1.out
 obtain⟨z0,z1,z2⟩:=tri8 qu1
 have CS:=ac HB0.out HS.out
 have y0:w.cell? ⟨gs,0,none⟩=some (.bool b1):=by simp [World.cell?,CS]
 have y1:w.cell? ⟨gs,1,none⟩=some (.slice a1 n1 k1):=by simp [World.cell?,CS]
 have y2:w.cell? ⟨gs,2,none⟩=some (.int .i64 E1):=by simp [World.cell?,CS]
 clear hbu1 qu1 CS
 go_wp2_with fail
 refine C.mono ?_
 rintro e s1 ⟨⟨o1,p1,q1,r1,j1,rfl,_⟩,g1⟩
 obtain⟨t1,ht1,hbt1,qt1⟩:=af s1 (.cells #[.bool o1,.slice p1 q1 r1,.int .i64 j1] 41)
 have HB1:=ab (ae (ae HU1.out g1) hbt1)
 have C:=W1.out t1
 clear g1 hbt1 qt1 y0 y1 y2 z0 z1 z2 hu1
 go_wp2_with fail
 refine C.mono ?_
 rintro e wn ⟨rfl,hw⟩;rw [hw];clear hw wn C ht1
 go_wp2
 rw [rounds_succ]
 obtain⟨u2,hu2,hbu2,qu2⟩:=af t1 (.cells #[.bool b2,.slice a2 n2 k2,.int .i64 E2] 41)
 have HU2:=ab (ae HB1.out hbu2)
 have C:=K2.out u2 HU2.out
 obtain⟨z0,z1,z2⟩:=tri8 qu2
 have CS:=ac HB1.out HS.out
 have y0:t1.cell? ⟨gs,3,none⟩=some (.bool b2):=by simp [World.cell?,CS]
 have y1:t1.cell? ⟨gs,4,none⟩=some (.slice a2 n2 k2):=by simp [World.cell?,CS]
 have y2:t1.cell? ⟨gs,5,none⟩=some (.int .i64 E2):=by simp [World.cell?,CS]
 clear hbu2 qu2 CS
 go_wp2_with fail
 refine C.mono ?_
 rintro e s2 ⟨⟨o2,p2,q2,r2,j2,rfl,_⟩,g2⟩
 obtain⟨t2,ht2,hbt2,qt2⟩:=af s2 (.cells #[.bool o2,.slice p2 q2 r2,.int .i64 j2] 41)
 have HB2:=ab (ae (ae HU2.out g2) hbt2)
 have C:=W2.out t2
 clear g2 hbt2 qt2 y0 y1 y2 z0 z1 z2 hu2
 go_wp2_with fail
 refine C.mono ?_
 rintro e wn ⟨rfl,hw⟩;rw [hw];clear hw wn C ht2
 go_wp2
 rw [rounds_succ]
 go_wp2
 go_ret
 exact⟨rfl,HB2.out⟩

theorem rbad4s (gs:Nat)(b1:Bool)(a1:Option Addr)(n1 k1:Nat)(E1:Int)(b2:Bool)(a2:Option Addr)(n2 k2:Nat)(E2:Int)(b3:Bool)(a3:Option Addr)(n3 k3:Nat)(E3:Int)(b4:Bool)(a4:Option Addr)(n4 k4:Nat)(E4:Int)(L:Nat)(V1 V2 V3 V4 d1 d2 d3 d4:Int)(w:World)(hg:w.heap[gs]?=some (.cells #[.bool b1,.slice a1 n1 k1,.int .i64 E1,.bool b2,.slice a2 n2 k2,.int .i64 E2,.bool b3,.slice a3 n3 k3,.int .i64 E3,.bool b4,.slice a4 n4 k4,.int .i64 E4] 41))(h1:V7 w b1 a1 n1 k1 E1 L V1)(h2:V7 w b2 a2 n2 k2 E2 L V2)(h3:V7 w b3 a3 n3 k3 E3 L V3)(h4:V7 w b4 a4 n4 k4 E4 L V4)(c1:ah L V1 d1)(c2:ah L V2 d2)(c3:ah L V3 d3)(c4:ah L V4 d4) :
  Calls Tryz.prog 31 #[.slice (some ⟨gs,0,none⟩) 4 4] w fun e w'=>e=.returned (.int .i64 (bk d1 d2 d3 d4))∧Below w.heap.size w w':=by
 have HS:=ab hg
 have K1:=ab (h1.told c1)
 have K2:=ab (h2.told c2)
 have K3:=ab (h3.told c3)
 have K4:=ab (h4.told c4)
 have i0:aZ 0:=.inl rfl
 obtain⟨f1,hf1⟩:∃f,ak 0 d1=f:=⟨_,rfl⟩
 have i1:aZ f1:=by rw [←hf1];exact bR i0 c1.is
 have W1:=ab (fun (X:World)=>bH 0 d1 X i0 c1.is)
 rw [hf1] at W1
 obtain⟨f2,hf2⟩:∃f,ak f1 d2=f:=⟨_,rfl⟩
 have i2:aZ f2:=by rw [←hf2];exact bR i1 c2.is
 have W2:=ab (fun (X:World)=>bH f1 d2 X i1 c2.is)
 rw [hf2] at W2
 obtain⟨f3,hf3⟩:∃f,ak f2 d3=f:=⟨_,rfl⟩
 have i3:aZ f3:=by rw [←hf3];exact bR i2 c3.is
 have W3:=ab (fun (X:World)=>bH f2 d3 X i2 c3.is)
 rw [hf3] at W3
 obtain⟨f4,hf4⟩:∃f,ak f3 d4=f:=⟨_,rfl⟩
 have i4:aZ f4:=by rw [←hf4];exact bR i3 c4.is
 have W4:=ab (fun (X:World)=>bH f3 d4 X i3 c4.is)
 rw [hf4] at W4
 rw [show bk d1 d2 d3 d4=f4 by unfold bk;rw [hf1,hf2,hf3,hf4]]
 clear hg h1 c1 hf1 i1 h2 c2 hf2 i2 h3 c3 hf3 i3 h4 c4 hf4 i4 i0
 go_enter Tryz.func31,Tryz.ntmps31
 go_wp2
 refine wp_loop_rounds 5 ?_
 have HB0:Hid (Below w.heap.size w w):=ab (Below.refl _ _)
 rw [rounds_succ]
 obtain⟨u1,hu1,hbu1,qu1⟩:=af w (.cells #[.bool b1,.slice a1 n1 k1,.int .i64 E1] 41)
 have HU1:=ab (ae HB0.out hbu1)
 have C:=K1.out u1 HU1.out
 obtain⟨z0,z1,z2⟩:=tri8 qu1
 have CS:=ac HB0.out HS.out
 have y0:w.cell? ⟨gs,0,none⟩=some (.bool b1):=by simp [World.cell?,CS]
 have y1:w.cell? ⟨gs,1,none⟩=some (.slice a1 n1 k1):=by simp [World.cell?,CS]
 have y2:w.cell? ⟨gs,2,none⟩=some (.int .i64 E1):=by simp [World.cell?,CS]
 clear hbu1 qu1 CS
 go_wp2_with fail
 refine C.mono ?_
 rintro e s1 ⟨⟨o1,p1,q1,r1,j1,rfl,_⟩,g1⟩
 obtain⟨t1,ht1,hbt1,qt1⟩:=af s1 (.cells #[.bool o1,.slice p1 q1 r1,.int .i64 j1] 41)
 have HB1:=ab (ae (ae HU1.out g1) hbt1)
 have C:=W1.out t1
 clear g1 hbt1 qt1 y0 y1 y2 z0 z1 z2 hu1
 go_wp2_with fail
 refine C.mono ?_
 rintro e wn ⟨rfl,hw⟩;rw [hw];clear hw wn C ht1
 go_wp2
 rw [rounds_succ]
 obtain⟨u2,hu2,hbu2,qu2⟩:=af t1 (.cells #[.bool b2,.slice a2 n2 k2,.int .i64 E2] 41)
 have HU2:=ab (ae HB1.out hbu2)
 have C:=K2.out u2 HU2.out
 obtain⟨z0,z1,z2⟩:=tri8 qu2
 have CS:=ac HB1.out HS.out
 have y0:t1.cell? ⟨gs,3,none⟩=some (.bool b2):=by simp [World.cell?,CS]
 have y1:t1.cell? ⟨gs,4,none⟩=some (.slice a2 n2 k2):=by simp [World.cell?,CS]
 have y2:t1.cell? ⟨gs,5,none⟩=some (.int .i64 E2):=by simp [World.cell?,CS]
 clear hbu2 qu2 CS
 go_wp2_with fail
 refine C.mono ?_
 rintro e s2 ⟨⟨o2,p2,q2,r2,j2,rfl,_⟩,g2⟩
 obtain⟨t2,ht2,hbt2,qt2⟩:=af s2 (.cells #[.bool o2,.slice p2 q2 r2,.int .i64 j2] 41)
 have HB2:=ab (ae (ae HU2.out g2) hbt2)
 have C:=W2.out t2
 clear g2 hbt2 qt2 y0 y1 y2 z0 z1 z2 hu2
 go_wp2_with fail
 refine C.mono ?_
 rintro e wn ⟨rfl,hw⟩;rw [hw];clear hw wn C ht2
 go_wp2
 rw [rounds_succ]
 obtain⟨u3,hu3,hbu3,qu3⟩:=af t2 (.cells #[.bool b3,.slice a3 n3 k3,.int .i64 E3] 41)
 have HU3:=ab (ae HB2.out hbu3)
 have C:=K3.out u3 HU3.out
 obtain⟨z0,z1,z2⟩:=tri8 qu3
 have CS:=ac HB2.out HS.out
 have y0:t2.cell? ⟨gs,6,none⟩=some (.bool b3):=by simp [World.cell?,CS]
 have y1:t2.cell? ⟨gs,7,none⟩=some (.slice a3 n3 k3):=by simp [World.cell?,CS]
 have y2:t2.cell? ⟨gs,8,none⟩=some (.int .i64 E3):=by simp [World.cell?,CS]
 clear hbu3 qu3 CS
 go_wp2_with fail
 refine C.mono ?_
 rintro e s3 ⟨⟨o3,p3,q3,r3,j3,rfl,_⟩,g3⟩
 obtain⟨t3,ht3,hbt3,qt3⟩:=af s3 (.cells #[.bool o3,.slice p3 q3 r3,.int .i64 j3] 41)
 have HB3:=ab (ae (ae HU3.out g3) hbt3)
 have C:=W3.out t3
 clear g3 hbt3 qt3 y0 y1 y2 z0 z1 z2 hu3
 go_wp2_with fail
 refine C.mono ?_
 rintro e wn ⟨rfl,hw⟩;rw [hw];clear hw wn C ht3
 go_wp2
 rw [rounds_succ]
 obtain⟨u4,hu4,hbu4,qu4⟩:=af t3 (.cells #[.bool b4,.slice a4 n4 k4,.int .i64 E4] 41)
 have HU4:=ab (ae HB3.out hbu4)
 have C:=K4.out u4 HU4.out
 obtain⟨z0,z1,z2⟩:=tri8 qu4
 have CS:=ac HB3.out HS.out
 have y0:t3.cell? ⟨gs,9,none⟩=some (.bool b4):=by simp [World.cell?,CS]
 have y1:t3.cell? ⟨gs,10,none⟩=some (.slice a4 n4 k4):=by simp [World.cell?,CS]
 have y2:t3.cell? ⟨gs,11,none⟩=some (.int .i64 E4):=by simp [World.cell?,CS]
 clear hbu4 qu4 CS
 go_wp2_with fail
 refine C.mono ?_
 rintro e s4 ⟨⟨o4,p4,q4,r4,j4,rfl,_⟩,g4⟩
 obtain⟨t4,ht4,hbt4,qt4⟩:=af s4 (.cells #[.bool o4,.slice p4 q4 r4,.int .i64 j4] 41)
 have HB4:=ab (ae (ae HU4.out g4) hbt4)
 have C:=W4.out t4
 clear g4 hbt4 qt4 y0 y1 y2 z0 z1 z2 hu4
 go_wp2_with fail
 refine C.mono ?_
 rintro e wn ⟨rfl,hw⟩;rw [hw];clear hw wn C ht4
 go_wp2
 rw [rounds_succ]
 go_wp2
 go_ret
 exact⟨rfl,HB4.out⟩

theorem tN (b1:Bool)(a1:Option Addr)(n1 k1:Nat)(ex1:Int)(b2:Bool)(a2:Option Addr)(n2 k2:Nat)(ex2:Int)(b3:Bool)(a3:Option Addr)(n3 k3:Nat)(ex3:Int)(b4:Bool)(a4:Option Addr)(n4 k4:Nat)(ex4:Int)(pos:Int)(L:Nat)(VA VB RA RB c1 c2 DD:Int)(w:World)(hA1:∀W,Below w.heap.size w W→Calls Tryz.prog 30 #[.agg #[.bool b1,.slice a1 n1 k1,.int .i64 ex1],.agg #[.bool b3,.slice a3 n3 k3,.int .i64 ex3]] W fun e w'=>(∃b a n k E ok,e=.returned (.tuple #[.agg #[.bool b,.slice a n k,.int .i64 E],.bool ok])∧((ok=true∧V7 w' b a n k E L VA)∨(ok=false∧c1=3)))∧Below W.heap.size W w')(hA2:∀W,Below w.heap.size w W→Calls Tryz.prog 30 #[.agg #[.bool b2,.slice a2 n2 k2,.int .i64 ex2],.agg #[.bool b4,.slice a4 n4 k4,.int .i64 ex4]] W fun e w'=>(∃b a n k E ok,e=.returned (.tuple #[.agg #[.bool b,.slice a n k,.int .i64 E],.bool ok])∧((ok=true∧V7 w' b a n k E L VB)∨(ok=false∧c2=3)))∧Below W.heap.size W w')(kc1:ah L VA c1)(kc2:ah L VB c2)(hm:ak c1 c2=0)(hO:∀W (b1:Bool) (a1:Option Addr) (n1 k1:Nat) (ex1:Int) (b2:Bool) (a2:Option Addr) (n2 k2:Nat) (ex2:Int),Below w.heap.size w W→V8 W b1 a1 n1 k1 ex1 L VA→V8 W b2 a2 n2 k2 ex2 L VB→Calls Tryz.prog 32 #[.agg #[.bool b1,.slice a1 n1 k1,.int .i64 ex1],.agg #[.bool b2,.slice a2 n2 k2,.int .i64 ex2],.int .i64 pos] W fun e w'=>fI W e w' L RA RB)(hD:∀W (b1:Bool) (a1:Option Addr) (n1 k1:Nat) (ex1:Int) (b2:Bool) (a2:Option Addr) (n2 k2:Nat) (ex2:Int),V8 W b1 a1 n1 k1 ex1 L RA→V8 W b2 a2 n2 k2 ex2 L RB→Calls Tryz.prog 25 #[.agg #[.bool b1,.slice a1 n1 k1,.int .i64 ex1,.bool b2,.slice a2 n2 k2,.int .i64 ex2]] W fun e w'=>cF W e w' DD L RA RB) :
  Calls Tryz.prog 12 #[.agg #[.bool b1,.slice a1 n1 k1,.int .i64 ex1,.bool b2,.slice a2 n2 k2,.int .i64 ex2],.agg #[.bool b3,.slice a3 n3 k3,.int .i64 ex3,.bool b4,.slice a4 n4 k4,.int .i64 ex4],.int .i64 pos] w fun e w'=>cF w e w' DD L RA RB:=by
 obtain⟨z1,z2⟩:=cK.1 hm
 subst z1 z2
 obtain⟨w0,hw0,hb0,q0,q1,q9⟩:=aE w (.cells #[.bool b1,.slice a1 n1 k1,.int .i64 ex1,.bool b2,.slice a2 n2 k2,.int .i64 ex2] 43) (.cells #[.bool b3,.slice a3 n3 k3,.int .i64 ex3,.bool b4,.slice a4 n4 k4,.int .i64 ex4] 43) (.cells #[.bool false,.slice none 0 0,.int .i64 0,.bool false,.slice none 0 0,.int .i64 0] 43)
 have HU0:=ab hb0
 have HQ0:=ab q0
 have HQ1:=ab q1
 have HR0:Hid (w0.heap[w.heap.size+1+1]?=some (.cells #[.bool false,.slice none 0 0,.int .i64 0,.bool false,.slice none 0 0,.int .i64 0] 43)):=ab q9
 have C:=hA1 w0 hb0
 have CA2:=ab hA2
 have KC1:=ab kc1
 have KC2:=ab kc2
 obtain⟨y0,y1,y2,y3,y4,y5⟩:=hexa q0
 obtain⟨z0,z1,z2,z3,z4,z5⟩:=hexa q1
 have HOO:=ab hO
 have HDD:=ab hD
 clear q0 q1 q9 hb0 hA1 hA2 kc1 kc2 hm hO hD
 go_enter Tryz.func12,Tryz.ntmps12
 go_wp2_with fail
 refine C.mono ?_
 rintro e t1 ⟨⟨b5,a5,n5,c5,e5,ok5,rfl,hv5⟩,g1⟩
 obtain⟨w2,hw2,hb2,q2⟩:=af t1 (.cells #[.bool b5,.slice a5 n5 c5,.int .i64 e5] 41)
 have g2:=ae g1 hb2
 have HU2:=ab (ae HU0.out g2)
 have HR2:=ab (ac g2 HR0.out)
 have HX2:=ab q2
 have C2:=CA2.out w2 HU2.out
 clear C y0 y1 y2 y3 y4 y5 z0 z1 z2 z3 z4 z5 hw0
 obtain⟨y0,y1,y2,y3,y4,y5⟩:=hexa (ac g2 HQ0.out)
 obtain⟨z0,z1,z2,z3,z4,z5⟩:=hexa (ac g2 HQ1.out)
 have HV5:=ab hv5
 have HBT:=ab hb2
 clear g1 g2 hb2 q2 hv5 CA2
 go_wp2_with fail
 refine C2.mono ?_
 rintro e t3 ⟨⟨b6,a6,n6,c6,e6,ok6,rfl,hv6⟩,g3⟩
 obtain⟨w4,hw4,hb4,q4⟩:=af t3 (.cells #[.bool b6,.slice a6 n6 c6,.int .i64 e6] 41)
 have g4:=ae g3 hb4
 have HU4:=ab (ae HU2.out g4)
 have HR4:=ab (ac g4 HR2.out)
 have HX4:=ab (ac g4 HX2.out)
 have HY4:=ab q4
 clear C2 y0 y1 y2 y3 y4 y5 z0 z1 z2 z3 z4 z5 hw2 q4
 have v5:ok5=true∧V7 w4 b5 a5 n5 c5 e5 L VA:=by
  rcases HV5.out with ⟨h,h'⟩|⟨_,h'⟩
  ·exact⟨h,(h'.below HBT.out).below g4⟩
  ·exact absurd h' (by decide)
 have v6:ok6=true∧V7 w4 b6 a6 n6 c6 e6 L VB:=by
  rcases hv6 with ⟨h,h'⟩|⟨_,h'⟩
  ·exact⟨h,h'.below hb4⟩
  ·exact absurd h' (by decide)
 obtain⟨k5,v5⟩:=v5
 obtain⟨k6,v6⟩:=v6
 subst k5 k6
 obtain⟨w6,hw6,hb6,q6⟩:=af w4 (.cells #[.bool b5,.slice a5 n5 c5,.int .i64 e5,.bool b6,.slice a6 n6 c6,.int .i64 e6] 41)
 have CB:=rbad2s w4.heap.size b5 a5 n5 c5 e5 b6 a6 n6 c6 e6 L VA VB 0 0 w6 q6 (v5.below hb6) (v6.below hb6) KC1.out KC2.out
 rw [show ak 0 0=0 from rfl] at CB
 have HV7:=ab (And.intro v5 v6)
 obtain⟨x0,x1,x2⟩:=tri8 HX4.out
 obtain⟨x3,x4,x5⟩:=tri8 HY4.out
 have HB6:=ab hb6
 clear g3 g4 hb4 hv6 v5 v6 q6 hb6
 go_wp2_with fail
 refine CB.mono ?_
 rintro e t7 ⟨rfl,g7⟩
 have g67:=ae HB6.out g7
 have HU7:=ab (ae HU4.out g67)
 have HR7:=ab (ac g67 HR4.out)
 have HX7:=ab (ac g67 HX4.out)
 have HY7:=ab (ac g67 HY4.out)
 have C:=HOO.out t7 b5 a5 n5 c5 e5 b6 a6 n6 c6 e6 HU7.out ((HV7.out.1.below g67).v8 KC1.out) ((HV7.out.2.below g67).v8 KC2.out)
 clear CB g7 g67 x0 x1 x2 x3 x4 x5 hw4 hw6
 obtain⟨x0,x1,x2⟩:=tri8 HX7.out
 obtain⟨x3,x4,x5⟩:=tri8 HY7.out
 go_wp2_with fail
 refine C.mono ?_
 rintro e t8 ⟨⟨p8,pa8,pn8,pk8,pe8,q8,qa8,qn8,qk8,qe8,rfl,v8,v9⟩,g8⟩
 have C9:=HDD.out t8 p8 pa8 pn8 pk8 pe8 q8 qa8 qn8 qk8 qe8 v8 v9
 have HU8:=ab (ae HU7.out g8)
 have HR8:=ab (ac g8 HR7.out)
 clear C g8 v8 v9 x0 x1 x2 x3 x4 x5
 go_wp2_with fail
 refine C9.mono ?_
 rintro e t9 ⟨⟨b8,a8,n8,c8,e8,b9,a9,n9,c9,e9,rfl,hv⟩,g9⟩
 have HC1:=ab (ac g9 HR8.out)
 have HG:=ab (ae HU8.out g9)
 have HV:=ab hv
 have hf1:=aD HC1.out
 obtain⟨m0,m1,m2,m3,m4,m5⟩:=hexa HC1.out
 clear C9 g9 hv
 go_wp2
 have T3:=aK HC1.out (.bool b8) (.slice a8 n8 c8) (.int .i64 e8) (.bool b9) (.slice a9 n9 c9) (.int .i64 e9)
 have T4:=aG HG.out (show w.heap.size≤w.heap.size+1+1 by omega) (.bool b8) (.slice a8 n8 c8) (.int .i64 e8) (.bool b9) (.slice a9 n9 c9) (.int .i64 e9)
 have T5:=fun (h:DD=0)=>And.intro ((HV.out h).1.hexa HC1.out b8 a8 n8 c8 e8 b9 a9 n9 c9 e9) ((HV.out h).2.hexa HC1.out b8 a8 n8 c8 e8 b9 a9 n9 c9 e9)
 obtain⟨p0,p1,p2,p3,p4,p5⟩:=hexa T3
 have HE:=ab (And.intro T5 T4)
 clear T3 T4 T5
 generalize (((((t9.setCell ⟨w.heap.size+1+1,0,none⟩ (.bool b8)).setCell ⟨w.heap.size+1+1,1,none⟩ (.slice a8 n8 c8)).setCell ⟨w.heap.size+1+1,2,none⟩ (.int .i64 e8)).setCell ⟨w.heap.size+1+1,3,none⟩ (.bool b9)).setCell ⟨w.heap.size+1+1,4,none⟩ (.slice a9 n9 c9)).setCell ⟨w.heap.size+1+1,5,none⟩ (.int .i64 e9)=w9 at *
 refine bodyPost_ret (v:=.tuple #[.agg #[.bool b8,.slice a8 n8 c8,.int .i64 e8,.bool b9,.slice a9 n9 c9,.int .i64 e9],.int .i64 DD]) (by simp [results,Tryz.results12,go_sem,p0,p1,p2,p3,p4,p5]) rfl ?_
 exact⟨⟨_,_,_,_,_,_,_,_,_,_,rfl,HE.out.1⟩,HE.out.2⟩

theorem sk (b1:Bool)(a1:Option Addr)(n1 k1:Nat)(ex1:Int)(b2:Bool)(a2:Option Addr)(n2 k2:Nat)(ex2:Int)(b3:Bool)(a3:Option Addr)(n3 k3:Nat)(ex3:Int)(b4:Bool)(a4:Option Addr)(n4 k4:Nat)(ex4:Int)(pos:Int)(L:Nat)(VA VB RA RB c1 c2 R:Int)(w:World)(hA1:∀W,Below w.heap.size w W→Calls Tryz.prog 30 #[.agg #[.bool b1,.slice a1 n1 k1,.int .i64 ex1],.agg #[.bool b3,.slice a3 n3 k3,.int .i64 ex3]] W fun e w'=>(∃b a n k E ok,e=.returned (.tuple #[.agg #[.bool b,.slice a n k,.int .i64 E],.bool ok])∧((ok=true∧V7 w' b a n k E L VA)∨(ok=false∧c1=3)))∧Below W.heap.size W w')(hA2:∀W,Below w.heap.size w W→Calls Tryz.prog 30 #[.agg #[.bool b2,.slice a2 n2 k2,.int .i64 ex2],.agg #[.bool b4,.slice a4 n4 k4,.int .i64 ex4]] W fun e w'=>(∃b a n k E ok,e=.returned (.tuple #[.agg #[.bool b,.slice a n k,.int .i64 E],.bool ok])∧((ok=true∧V7 w' b a n k E L VB)∨(ok=false∧c2=3)))∧Below W.heap.size W w')(kc1:ah L VA c1)(kc2:ah L VB c2)(hm:ak c1 c2=R)(h0:R≠0) :
  Calls Tryz.prog 12 #[.agg #[.bool b1,.slice a1 n1 k1,.int .i64 ex1,.bool b2,.slice a2 n2 k2,.int .i64 ex2],.agg #[.bool b3,.slice a3 n3 k3,.int .i64 ex3,.bool b4,.slice a4 n4 k4,.int .i64 ex4],.int .i64 pos] w fun e w'=>cF w e w' R L RA RB:=by
 have HMM:=ab hm
 have HR00:=ab h0
 have i9:(R != 0)=true:=by simpa using h0
 have H31:Hid (c1=3→R=3):=ab fun h=>by rw [←hm,h];exact dt _
 have H32:Hid (c2=3→R=3):=ab fun h=>by rw [←hm,h];exact ew _
 obtain⟨w0,hw0,hb0,q0,q1,q9⟩:=aE w (.cells #[.bool b1,.slice a1 n1 k1,.int .i64 ex1,.bool b2,.slice a2 n2 k2,.int .i64 ex2] 43) (.cells #[.bool b3,.slice a3 n3 k3,.int .i64 ex3,.bool b4,.slice a4 n4 k4,.int .i64 ex4] 43) (.cells #[.bool false,.slice none 0 0,.int .i64 0,.bool false,.slice none 0 0,.int .i64 0] 43)
 have HU0:=ab hb0
 have HQ0:=ab q0
 have HQ1:=ab q1
 have HR0:Hid (w0.heap[w.heap.size+1+1]?=some (.cells #[.bool false,.slice none 0 0,.int .i64 0,.bool false,.slice none 0 0,.int .i64 0] 43)):=ab q9
 have C:=hA1 w0 hb0
 have CA2:=ab hA2
 have KC1:=ab kc1
 have KC2:=ab kc2
 obtain⟨y0,y1,y2,y3,y4,y5⟩:=hexa q0
 obtain⟨z0,z1,z2,z3,z4,z5⟩:=hexa q1
 clear q0 q1 q9 hb0 hA1 hA2 kc1 kc2 hm h0
 go_enter Tryz.func12,Tryz.ntmps12
 go_wp2_with fail
 refine C.mono ?_
 rintro e t1 ⟨⟨b5,a5,n5,c5,e5,ok5,rfl,hv5⟩,g1⟩
 obtain⟨w2,hw2,hb2,q2⟩:=af t1 (.cells #[.bool b5,.slice a5 n5 c5,.int .i64 e5] 41)
 have g2:=ae g1 hb2
 have HU2:=ab (ae HU0.out g2)
 have HR2:=ab (ac g2 HR0.out)
 have HX2:=ab q2
 have C2:=CA2.out w2 HU2.out
 clear C y0 y1 y2 y3 y4 y5 z0 z1 z2 z3 z4 z5 hw0
 obtain⟨y0,y1,y2,y3,y4,y5⟩:=hexa (ac g2 HQ0.out)
 obtain⟨z0,z1,z2,z3,z4,z5⟩:=hexa (ac g2 HQ1.out)
 have HV5:=ab hv5
 have HBT:=ab hb2
 clear g1 g2 hb2 q2 hv5 CA2
 go_wp2_with fail
 refine C2.mono ?_
 rintro e t3 ⟨⟨b6,a6,n6,c6,e6,ok6,rfl,hv6⟩,g3⟩
 obtain⟨w4,hw4,hb4,q4⟩:=af t3 (.cells #[.bool b6,.slice a6 n6 c6,.int .i64 e6] 41)
 have g4:=ae g3 hb4
 have HU4:=ab (ae HU2.out g4)
 have HR4:=ab (ac g4 HR2.out)
 have HX4:=ab (ac g4 HX2.out)
 have HY4:=ab q4
 clear C2 y0 y1 y2 y3 y4 y5 z0 z1 z2 z3 z4 z5 hw2 q4
 rcases HV5.out with ⟨rfl,v5⟩|⟨rfl,h3⟩
 ·rcases hv6 with ⟨rfl,v6⟩|⟨rfl,h3⟩
  ·obtain⟨w6,hw6,hb6,q6⟩:=af w4 (.cells #[.bool b5,.slice a5 n5 c5,.int .i64 e5,.bool b6,.slice a6 n6 c6,.int .i64 e6] 41)
   have HV7:=ab (And.intro ((v5.below HBT.out).below g4) (v6.below hb4))
   have CB:=rbad2s w4.heap.size b5 a5 n5 c5 e5 b6 a6 n6 c6 e6 L VA VB c1 c2 w6 q6 (HV7.out.1.below hb6) (HV7.out.2.below hb6) KC1.out KC2.out
   rw [HMM.out] at CB
   obtain⟨x0,x1,x2⟩:=tri8 HX4.out
   obtain⟨x3,x4,x5⟩:=tri8 HY4.out
   have HB6:=ab hb6
   clear g3 g4 hb4 v5 v6 q6 hb6
   go_wp2_with fail
   refine CB.mono ?_
   rintro e t7 ⟨rfl,g7⟩
   have g67:=ae HB6.out g7
   have HU7:=ab (ae HU4.out g67)
   have HR7:=ab (ac g67 HR4.out)
   obtain⟨w8,hw8,hb8,q8⟩:=af t7 (.cells #[.bool b5,.slice a5 n5 c5,.int .i64 e5,.bool b6,.slice a6 n6 c6,.int .i64 e6] 41)
   have CB2:=rbad2s t7.heap.size b5 a5 n5 c5 e5 b6 a6 n6 c6 e6 L VA VB c1 c2 w8 q8 ((HV7.out.1.below g67).below hb8) ((HV7.out.2.below g67).below hb8) KC1.out KC2.out
   rw [HMM.out] at CB2
   have HX7:=ab (ac g67 HX4.out)
   have HY7:=ab (ac g67 HY4.out)
   have HB8:=ab hb8
   clear CB g7 g67 x0 x1 x2 x3 x4 x5 hw4 hw6 hb8 q8
   obtain⟨x0,x1,x2⟩:=tri8 HX7.out
   obtain⟨x3,x4,x5⟩:=tri8 HY7.out
   go_wp2_with fail
   refine CB2.mono ?_
   rintro e t9 ⟨rfl,g9⟩
   have g89:=ae HB8.out g9
   have HC1:=ab (ac g89 HR7.out)
   have HG:=ab (ae HU7.out g89)
   have hf1:=aD HC1.out
   obtain⟨m0,m1,m2,m3,m4,m5⟩:=hexa HC1.out
   clear CB2 g9 g89 x0 x1 x2 x3 x4 x5
   go_wp2
   have T3:=aK HC1.out (.bool false) (.slice none 0 0) (.int .i64 0) (.bool false) (.slice none 0 0) (.int .i64 0)
   have T4:=aG HG.out (show w.heap.size≤w.heap.size+1+1 by omega) (.bool false) (.slice none 0 0) (.int .i64 0) (.bool false) (.slice none 0 0) (.int .i64 0)
   obtain⟨p0,p1,p2,p3,p4,p5⟩:=hexa T3
   have HE:=ab T4
   clear T3 T4
   generalize (((((t9.setCell ⟨w.heap.size+1+1,0,none⟩ (.bool false)).setCell ⟨w.heap.size+1+1,1,none⟩ (.slice none 0 0)).setCell ⟨w.heap.size+1+1,2,none⟩ (.int .i64 0)).setCell ⟨w.heap.size+1+1,3,none⟩ (.bool false)).setCell ⟨w.heap.size+1+1,4,none⟩ (.slice none 0 0)).setCell ⟨w.heap.size+1+1,5,none⟩ (.int .i64 0)=w9 at *
   refine bodyPost_ret (v:=.tuple #[.agg #[.bool false,.slice none 0 0,.int .i64 0,.bool false,.slice none 0 0,.int .i64 0],.int .i64 R]) (by simp [results,Tryz.results12,go_sem,p0,p1,p2,p3,p4,p5]) rfl ?_
   exact⟨⟨_,_,_,_,_,_,_,_,_,_,rfl,fun h=>absurd h HR00.out⟩,HE.out⟩
  ·have hr:=H32.out h3
   subst hr
   have HC1:=HR4
   have HG:=HU4
   have hf1:=aD HC1.out
   obtain⟨m0,m1,m2,m3,m4,m5⟩:=hexa HC1.out
   clear g3 g4 hb4 v5 h3
   go_wp2
   have T3:=aK HC1.out (.bool false) (.slice none 0 0) (.int .i64 0) (.bool false) (.slice none 0 0) (.int .i64 0)
   have T4:=aG HG.out (show w.heap.size≤w.heap.size+1+1 by omega) (.bool false) (.slice none 0 0) (.int .i64 0) (.bool false) (.slice none 0 0) (.int .i64 0)
   obtain⟨p0,p1,p2,p3,p4,p5⟩:=hexa T3
   have HE:=ab T4
   clear T3 T4
   generalize (((((w4.setCell ⟨w.heap.size+1+1,0,none⟩ (.bool false)).setCell ⟨w.heap.size+1+1,1,none⟩ (.slice none 0 0)).setCell ⟨w.heap.size+1+1,2,none⟩ (.int .i64 0)).setCell ⟨w.heap.size+1+1,3,none⟩ (.bool false)).setCell ⟨w.heap.size+1+1,4,none⟩ (.slice none 0 0)).setCell ⟨w.heap.size+1+1,5,none⟩ (.int .i64 0)=w9 at *
   refine bodyPost_ret (v:=.tuple #[.agg #[.bool false,.slice none 0 0,.int .i64 0,.bool false,.slice none 0 0,.int .i64 0],.int .i64 3]) (by simp [results,Tryz.results12,go_sem,p0,p1,p2,p3,p4,p5]) rfl ?_
   exact⟨⟨_,_,_,_,_,_,_,_,_,_,rfl,fun h=>absurd h (by decide)⟩,HE.out⟩
 ·have hr:=H31.out h3
  subst hr
  have HC1:=HR4
  have HG:=HU4
  have hf1:=aD HC1.out
  obtain⟨m0,m1,m2,m3,m4,m5⟩:=hexa HC1.out
  clear g3 g4 hb4 hv6 h3
  go_wp2
  have T3:=aK HC1.out (.bool false) (.slice none 0 0) (.int .i64 0) (.bool false) (.slice none 0 0) (.int .i64 0)
  have T4:=aG HG.out (show w.heap.size≤w.heap.size+1+1 by omega) (.bool false) (.slice none 0 0) (.int .i64 0) (.bool false) (.slice none 0 0) (.int .i64 0)
  obtain⟨p0,p1,p2,p3,p4,p5⟩:=hexa T3
  have HE:=ab T4
  clear T3 T4
  generalize (((((w4.setCell ⟨w.heap.size+1+1,0,none⟩ (.bool false)).setCell ⟨w.heap.size+1+1,1,none⟩ (.slice none 0 0)).setCell ⟨w.heap.size+1+1,2,none⟩ (.int .i64 0)).setCell ⟨w.heap.size+1+1,3,none⟩ (.bool false)).setCell ⟨w.heap.size+1+1,4,none⟩ (.slice none 0 0)).setCell ⟨w.heap.size+1+1,5,none⟩ (.int .i64 0)=w9 at *
  refine bodyPost_ret (v:=.tuple #[.agg #[.bool false,.slice none 0 0,.int .i64 0,.bool false,.slice none 0 0,.int .i64 0],.int .i64 3]) (by simp [results,Tryz.results12,go_sem,p0,p1,p2,p3,p4,p5]) rfl ?_
  exact⟨⟨_,_,_,_,_,_,_,_,_,_,rfl,fun h=>absurd h (by decide)⟩,HE.out⟩

theorem j8 (b1:Bool)(a1:Option Addr)(n1 k1:Nat)(ex1:Int)(b2:Bool)(a2:Option Addr)(n2 k2:Nat)(ex2:Int)(L:Nat)(V1 V2 c:Int)(w:World)(h1:V8 w b1 a1 n1 k1 ex1 L V1)(h2:V8 w b2 a2 n2 k2 ex2 L V2)(s1:Sml L V1)(s2:Sml L V2)(hc:ah L (V1+V2) c) :
  Calls Tryz.prog 30 #[.agg #[.bool b1,.slice a1 n1 k1,.int .i64 ex1],.agg #[.bool b2,.slice a2 n2 k2,.int .i64 ex2]] w fun e w'=>(∃b a n k E ok,e=.returned (.tuple #[.agg #[.bool b,.slice a n k,.int .i64 E],.bool ok])∧((ok=true∧V7 w' b a n k E L (V1+V2))∨(ok=false∧c=3)))∧Below w.heap.size w w':=by
 obtain⟨M1,d1,r1,m1,_,x1,y1⟩:=h1
 obtain⟨M2,d2,r2,m2,_,x2,y2⟩:=h2
 have f1:=s1.blen r1 m1
 have f2:=s2.blen r2 m2
 have hR:=(r1.add r2).norm
 refine (qY b1 a1 n1 k1 M1 ex1 b2 a2 n2 k2 M2 ex2 w d1 d2 m1 m2 (by omega) (by omega) x1 y1 x2 y2).mono fun e w' h=>?_
 obtain⟨⟨b,a,n,k,E',ok,he,h⟩,hb⟩:=h
 refine⟨⟨b,a,n,k,E',ok,he,?_⟩,hb⟩
 rcases h with ⟨g1,g2,rfl⟩|⟨g1,g2,_⟩
 ·exact .inl ⟨g1,_,g2,hR,bj _ _⟩
 ·exact .inr ⟨g1,by rw [hc.one ⟨_,_,hR,bj _ _,rfl⟩,gB g2]⟩

theorem mj (b1:Bool)(a1:Option Addr)(n1 k1:Nat)(ex1:Int)(b2:Bool)(a2:Option Addr)(n2 k2:Nat)(ex2:Int)(b3:Bool)(a3:Option Addr)(n3 k3:Nat)(ex3:Int)(b4:Bool)(a4:Option Addr)(n4 k4:Nat)(ex4:Int)(pos:Int)(L:Nat)(V1 V2 V3 V4 c1 c2 d1 d2:Int)(w:World)(h1:V8 w b1 a1 n1 k1 ex1 L V1)(h2:V8 w b2 a2 n2 k2 ex2 L V2)(h3:V8 w b3 a3 n3 k3 ex3 L V3)(h4:V8 w b4 a4 n4 k4 ex4 L V4)(s1:Sml L V1)(s2:Sml L V2)(s3:Sml L V3)(s4:Sml L V4)(kc1:ah L (V1+V3) c1)(kc2:ah L (V2+V4) c2)(kd1:ah L (rv 0 (V1+V3) (2 ^ (pos+L).toNat)) d1)(kd2:ah L (rv 1 (V2+V4) (2 ^ (pos+L).toNat)) d2)(hK:aj pos=true)(hL:4611686018427387904≤L) :
  Calls Tryz.prog 12 #[.agg #[.bool b1,.slice a1 n1 k1,.int .i64 ex1,.bool b2,.slice a2 n2 k2,.int .i64 ex2],.agg #[.bool b3,.slice a3 n3 k3,.int .i64 ex3,.bool b4,.slice a4 n4 k4,.int .i64 ex4],.int .i64 pos] w fun e w'=>cF w e w' (if ak c1 c2=0 then ak d1 d2 else ak c1 c2) L (rv 0 (V1+V3) (2 ^ (pos+L).toNat)) (rv 1 (V2+V4) (2 ^ (pos+L).toNat)):=by
 have A1:=fun (W:World) (hg:Below w.heap.size w W)=>j8 b1 a1 n1 k1 ex1 b3 a3 n3 k3 ex3 L V1 V3 c1 W (h1.below hg) (h3.below hg) s1 s3 kc1
 have A2:=fun (W:World) (hg:Below w.heap.size w W)=>j8 b2 a2 n2 k2 ex2 b4 a4 n4 k4 ex4 L V2 V4 c2 W (h2.below hg) (h4.below hg) s2 s4 kc2
 by_cases hm:ak c1 c2=0
 ·rw [if_pos hm]
  obtain⟨z1,z2⟩:=cK.1 hm
  exact tN b1 a1 n1 k1 ex1 b2 a2 n2 k2 ex2 b3 a3 n3 k3 ex3 b4 a4 n4 k4 ex4 pos L _ _ _ _ c1 c2 _ w A1 A2 kc1 kc2 hm
   (fun W b1 a1 n1 k1 ex1 b2 a2 n2 k2 ex2 _ g1 g2=>kj b1 a1 n1 k1 ex1 b2 a2 n2 k2 ex2 pos L _ _ W g1 g2 (ah.sml (by rw [z1] at kc1;exact kc1)) (ah.sml (by rw [z2] at kc2;exact kc2)) hK hL)
   (fun W b1 a1 n1 k1 ex1 b2 a2 n2 k2 ex2 g1 g2=>lG b1 a1 n1 k1 ex1 b2 a2 n2 k2 ex2 L _ _ d1 d2 W g1 g2 kd1 kd2)
 ·rw [if_neg hm]
  exact sk b1 a1 n1 k1 ex1 b2 a2 n2 k2 ex2 b3 a3 n3 k3 ex3 b4 a4 n4 k4 ex4 pos L _ _ _ _ c1 c2 _ w A1 A2 kc1 kc2 rfl hm

def NoU (cs:Array Value):Prop:=∀(k:Nat) (z:Int),cs[k]?≠some (.int .u64 z)

theorem NoU.set {cs:Array Value}(h:NoU cs){o:Nat}{u:Value}(hu:∀z:Int,u≠.int .u64 z):NoU (cs.setIfInBounds o u):=by
 intro k z e
 rw [Array.getElem?_setIfInBounds] at e
 split at e
 ·split at e
  ·exact hu z (Option.some.inj e)
  ·cases e
 ·exact h k z e

theorem aF.offN {w:World}{ao:Option Addr}{zs:List Nat}{g o:Nat}{cs:Array Value}{t:TypeId}{u:Value}(h:aF w ao zs)(hl:w.heap[g]?=some (.cells cs t))(hn:NoU cs):aF (w.setCell ⟨g,o,none⟩ u) ao zs:=by
 rcases h with h|⟨b,off,rfl,hc⟩
 ·exact .inl h
 ·rcases Nat.eq_zero_or_pos zs.length with h0|h0
  ·exact .inl (List.eq_nil_of_length_eq_zero h0)
  ·refine .inr ⟨b,off,rfl,fun k hk=>?_⟩
   rw [bf]
   ·exact hc k hk
   ·rintro rfl
    have h1:=hc 0 h0
    rw [Nat.add_zero] at h1
    simp only [World.cell?,hl] at h1
    exact hn off _ h1

theorem V7.offN {w:World}{b:Bool}{a:Option Addr}{n c:Nat}{E:Int}{L:Nat}{V:Int}{g o:Nat}{cs:Array Value}{t:TypeId}{u:Value}(h:V7 w b a n c E L V)(hl:w.heap[g]?=some (.cells cs t))(hn:NoU cs):V7 (w.setCell ⟨g,o,none⟩ u) b a n c E L V:=by
 obtain⟨M,⟨h1,ds,h2,h3⟩,h4⟩:=h
 obtain⟨ao,cap,p1,p2,p3,p4⟩:=h2.form
 exact⟨M,⟨h1,ds,⟨⟨ao,cap,p1,p2,p3,p4.offN hl hn⟩,h2.limbs,h2.few,h2.nz⟩,h3⟩,h4⟩

def setL (g:Nat):Nat→List Value→World→World
 | _,[],w=>w
 | o,u :: us,w=>setL g (o+1) us (w.setCell ⟨g,o,none⟩ u)

def fH:Nat→List Value→Array Value→Array Value
 | _,[],cs=>cs
 | o,u :: us,cs=>fH (o+1) us (cs.setIfInBounds o u)

theorem jQ {g:Nat}{t:TypeId}:∀(us:List Value) (o:Nat) (w:World) (cs:Array Value),w.heap[g]?=some (.cells cs t)→(setL g o us w).heap[g]?=some (.cells (fH o us cs) t)
 | [],_,_,_,h=>h
 | u :: us,o,_,_,h=>jQ us (o+1) _ _ (aC (k:=o) h u)

theorem Below.setL {B g:Nat}{w0:World}:∀(us:List Value) (o:Nat) (w:World),Below B w0 w→B≤g→Below B w0 (setL g o us w)
 | [],_,_,h,_=>h
 | u :: us,o,_,h,hg=>Below.setL us (o+1) _ (h.setCell (p:=⟨g,o,none⟩) hg u) hg

theorem V7.setL {b:Bool}{a:Option Addr}{n c:Nat}{E:Int}{L:Nat}{V:Int}{g:Nat}{t:TypeId}:∀(us:List Value) (o:Nat) (w:World) (cs:Array Value),(∀u ∈ us,∀z:Int,u≠.int .u64 z)→w.heap[g]?=some (.cells cs t)→NoU cs→V7 w b a n c E L V→V7 (setL g o us w) b a n c E L V
 | [],_,_,_,_,_,_,h=>h
 | u :: us,o,_,_,hu,hl,hn,h=>V7.setL us (o+1) _ _ (fun v hv=>hu v (List.mem_cons_of_mem _ hv)) (aC (k:=o) hl u) (hn.set (hu u List.mem_cons_self)) (h.offN hl hn)

def gY (U:World)(L:Nat)(Q1 Q2 Q3 Q4:Int)(s:Value)(wx:World):Prop:=
 ∃(g:Nat) (x1:Bool) (xa1:Option Addr) (xn1 xk1:Nat) (xe1:Int) (x2:Bool) (xa2:Option Addr) (xn2 xk2:Nat) (xe2:Int) (x3:Bool) (xa3:Option Addr) (xn3 xk3:Nat) (xe3:Int) (x4:Bool) (xa4:Option Addr) (xn4 xk4:Nat) (xe4:Int),s=.pointer (some ⟨g,0,none⟩)∧wx.heap[g]?=some (.cells #[.bool x1,.slice xa1 xn1 xk1,.int .i64 xe1,.bool x2,.slice xa2 xn2 xk2,.int .i64 xe2,.bool x3,.slice xa3 xn3 xk3,.int .i64 xe3,.bool x4,.slice xa4 xn4 xk4,.int .i64 xe4] 76)∧V7 wx x1 xa1 xn1 xk1 xe1 L Q1∧V7 wx x2 xa2 xn2 xk2 xe2 L Q2∧V7 wx x3 xa3 xn3 xk3 xe3 L Q3∧V7 wx x4 xa4 xn4 xk4 xe4 L Q4∧Below U.heap.size U wx

theorem sw:NoU #[.bool false,.slice none 0 0,.int .i64 0,.bool false,.slice none 0 0,.int .i64 0,.bool false,.slice none 0 0,.int .i64 0,.bool false,.slice none 0 0,.int .i64 0]:=by
 intro k z e
 match k,e with
 | 0,e=>simp at e
 | 1,e=>simp at e
 | 2,e=>simp at e
 | 3,e=>simp at e
 | 4,e=>simp at e
 | 5,e=>simp at e
 | 6,e=>simp at e
 | 7,e=>simp at e
 | 8,e=>simp at e
 | 9,e=>simp at e
 | 10,e=>simp at e
 | 11,e=>simp at e
 | k+12,e=>simp at e

theorem fU (w:World)(g:Nat)(u0 u1 u2 u3 u4 u5 u6 u7 u8 u9 u10 u11:Value):setL g 0 [u0,u1,u2,u3,u4,u5,u6,u7,u8,u9,u10,u11] w=((((((((((((w.setCell ⟨g,0,none⟩ u0).setCell ⟨g,1,none⟩ u1).setCell ⟨g,2,none⟩ u2).setCell ⟨g,3,none⟩ u3).setCell ⟨g,4,none⟩ u4).setCell ⟨g,5,none⟩ u5).setCell ⟨g,6,none⟩ u6).setCell ⟨g,7,none⟩ u7).setCell ⟨g,8,none⟩ u8).setCell ⟨g,9,none⟩ u9).setCell ⟨g,10,none⟩ u10).setCell ⟨g,11,none⟩ u11):=by simp only [setL,Nat.zero_add,Nat.reduceAdd]

theorem ud (u0 u1 u2 u3 u4 u5 u6 u7 u8 u9 u10 u11 z0 z1 z2 z3 z4 z5 z6 z7 z8 z9 z10 z11:Value):fH 0 [u0,u1,u2,u3,u4,u5,u6,u7,u8,u9,u10,u11] #[z0,z1,z2,z3,z4,z5,z6,z7,z8,z9,z10,z11]=#[u0,u1,u2,u3,u4,u5,u6,u7,u8,u9,u10,u11]:=by simp [fH]

theorem cn {U t:World}{L:Nat}{Q1 Q2 Q3 Q4:Int}{x1:Bool}{xa1:Option Addr}{xn1 xk1:Nat}{xe1:Int}{x2:Bool}{xa2:Option Addr}{xn2 xk2:Nat}{xe2:Int}{x3:Bool}{xa3:Option Addr}{xn3 xk3:Nat}{xe3:Int}{x4:Bool}{xa4:Option Addr}{xn4 xk4:Nat}{xe4:Int}{g:Nat}(hq:t.heap[g]?=some (.cells #[.bool false,.slice none 0 0,.int .i64 0,.bool false,.slice none 0 0,.int .i64 0,.bool false,.slice none 0 0,.int .i64 0,.bool false,.slice none 0 0,.int .i64 0] 76))(hge:U.heap.size≤g)(v1:V7 t x1 xa1 xn1 xk1 xe1 L Q1)(v2:V7 t x2 xa2 xn2 xk2 xe2 L Q2)(v3:V7 t x3 xa3 xn3 xk3 xe3 L Q3)(v4:V7 t x4 xa4 xn4 xk4 xe4 L Q4)(hb:Below U.heap.size U t):gY U L Q1 Q2 Q3 Q4 (.pointer (some ⟨g,0,none⟩)) ((((((((((((t.setCell ⟨g,0,none⟩ (.bool x1)).setCell ⟨g,1,none⟩ (.slice xa1 xn1 xk1)).setCell ⟨g,2,none⟩ (.int .i64 xe1)).setCell ⟨g,3,none⟩ (.bool x2)).setCell ⟨g,4,none⟩ (.slice xa2 xn2 xk2)).setCell ⟨g,5,none⟩ (.int .i64 xe2)).setCell ⟨g,6,none⟩ (.bool x3)).setCell ⟨g,7,none⟩ (.slice xa3 xn3 xk3)).setCell ⟨g,8,none⟩ (.int .i64 xe3)).setCell ⟨g,9,none⟩ (.bool x4)).setCell ⟨g,10,none⟩ (.slice xa4 xn4 xk4)).setCell ⟨g,11,none⟩ (.int .i64 xe4)):=by
 obtain⟨us,hus⟩:∃us:List Value,[(.bool x1),(.slice xa1 xn1 xk1),(.int .i64 xe1),(.bool x2),(.slice xa2 xn2 xk2),(.int .i64 xe2),(.bool x3),(.slice xa3 xn3 xk3),(.int .i64 xe3),(.bool x4),(.slice xa4 xn4 xk4),(.int .i64 xe4)]=us:=⟨_,rfl⟩
 have hu:∀u ∈ us,∀z:Int,u≠.int .u64 z:=by
  intro u hu z e
  subst e
  rw [←hus] at hu
  simp at hu
 have hh:=jQ us 0 t _ hq
 rw [←hus,ud,fU] at hh
 have hbb:=Below.setL us 0 t hb hge
 rw [←hus,fU] at hbb
 have up:∀ {b:Bool} {a:Option Addr} {n c:Nat} {E V:Int},V7 t b a n c E L V→V7 ((((((((((((t.setCell ⟨g,0,none⟩ (.bool x1)).setCell ⟨g,1,none⟩ (.slice xa1 xn1 xk1)).setCell ⟨g,2,none⟩ (.int .i64 xe1)).setCell ⟨g,3,none⟩ (.bool x2)).setCell ⟨g,4,none⟩ (.slice xa2 xn2 xk2)).setCell ⟨g,5,none⟩ (.int .i64 xe2)).setCell ⟨g,6,none⟩ (.bool x3)).setCell ⟨g,7,none⟩ (.slice xa3 xn3 xk3)).setCell ⟨g,8,none⟩ (.int .i64 xe3)).setCell ⟨g,9,none⟩ (.bool x4)).setCell ⟨g,10,none⟩ (.slice xa4 xn4 xk4)).setCell ⟨g,11,none⟩ (.int .i64 xe4)) b a n c E L V:=fun h=>by
  have:=V7.setL us 0 t _ hu hq sw h
  rw [←hus,fU] at this
  exact this
 exact⟨g,_,_,_,_,_,_,_,_,_,_,_,_,_,_,_,_,_,_,_,_,rfl,hh,up v1,up v2,up v3,up v4,hbb⟩

theorem cv {B g:Nat}{w0 w:World}(h:Below B w0 w)(hg:B≤g)(u0 u1 u2 u3 u4 u5 u6 u7 u8 u9 u10 u11:Value):Below B w0 ((((((((((((w.setCell ⟨g,0,none⟩ u0).setCell ⟨g,1,none⟩ u1).setCell ⟨g,2,none⟩ u2).setCell ⟨g,3,none⟩ u3).setCell ⟨g,4,none⟩ u4).setCell ⟨g,5,none⟩ u5).setCell ⟨g,6,none⟩ u6).setCell ⟨g,7,none⟩ u7).setCell ⟨g,8,none⟩ u8).setCell ⟨g,9,none⟩ u9).setCell ⟨g,10,none⟩ u10).setCell ⟨g,11,none⟩ u11):=
 fU w g u0 u1 u2 u3 u4 u5 u6 u7 u8 u9 u10 u11 ▸ Below.setL [u0,u1,u2,u3,u4,u5,u6,u7,u8,u9,u10,u11] 0 w h hg

theorem fD (b1:Bool)(a1:Option Addr)(n1 k1:Nat)(ex1:Int)(b2:Bool)(a2:Option Addr)(n2 k2:Nat)(ex2:Int)(L:Nat)(V1 V2:Int)(w:World)(h1:V8 w b1 a1 n1 k1 ex1 L V1)(h2:V8 w b2 a2 n2 k2 ex2 L V2)(s1:Sml L V1)(s2:Sml L V2) :
  Calls Tryz.prog 34 #[.agg #[.bool b1,.slice a1 n1 k1,.int .i64 ex1],.agg #[.bool b2,.slice a2 n2 k2,.int .i64 ex2]] w fun e w'=>(∃b a n k E,e=.returned (.agg #[.bool b,.slice a n k,.int .i64 E])∧V7 w' b a n k E (L+L) (V1*V2))∧Below w.heap.size w w':=by
 obtain⟨M1,d1,r1,m1,_,x1,y1⟩:=h1
 obtain⟨M2,d2,r2,m2,_,x2,y2⟩:=h2
 have f1:=s1.blen r1 m1
 have f2:=s2.blen r2 m2
 refine (sr b1 a1 n1 k1 M1 ex1 b2 a2 n2 k2 M2 ex2 w d1 d2 (by omega) (by omega) (by omega) (by omega) (by omega)).mono fun e w' h=>?_
 obtain⟨⟨b,a,n,k,he,h⟩,hb⟩:=h
 exact⟨⟨b,a,n,k,_,he,_,h,(r1.mul r2).norm,bj _ _⟩,hb⟩
end Go.Proofs.YteflkojglmleaaaGreatDoor

