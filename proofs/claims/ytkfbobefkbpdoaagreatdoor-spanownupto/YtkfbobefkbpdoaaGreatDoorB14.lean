/- Package span: fault, less, sign at one scale. -/
import Derived.Test.YtkfbobefkbpdoaaGreatDoorB10
import Derived.Test.YtkfbobefkbpdoaaGreatDoorB04
import Derived.Test.YtkfbobefkbpdoaaGreatDoorB06
import Derived.Test.YtkfbobefkbpdoaaGreatDoorB03
import Derived.Test.YtkfbobefkbpdoaaGreatDoorB01
import Derived.Test.YtkfbobefkbpdoaaGreatDoorB02
import Derived.Test.YtkfbobefkbpdoaaGreatDoorB07
import Derived.Deep.RegionHeld3
import Derived.Test.YtkfbobefkbpdoaaGreatDoorB05
import Derived.Test.YtkfbobefkbpdoaaGreatDoorB09
set_option maxRecDepth 20000
set_option maxHeartbeats 4000000
namespace Go.Proofs.YtkfbobefkbpdoaaGreatDoor
open Go.RowKit
open Lm
attribute [local go_sem ↓] Go.wp_at_zero Go.wp_at_succ

def wst (f g:Int):Int:=if f=0 then g else f

theorem oM (gs:Nat)(b1:Bool)(a1:Option Addr)(n1 k1:Nat)(ex1:Int)(b2:Bool)(a2:Option Addr)(n2 k2:Nat)(ex2:Int)(b3:Bool)(a3:Option Addr)(n3 k3:Nat)(ex3:Int)(b4:Bool)(a4:Option Addr)(n4 k4:Nat)(ex4:Int)(o1 c1 o2 c2:Int)(w:World)(hg:w.heap[gs]?=some (.cells #[.bool b1,.slice a1 n1 k1,.int .i64 ex1,.bool b2,.slice a2 n2 k2,.int .i64 ex2,.bool b3,.slice a3 n3 k3,.int .i64 ex3,.bool b4,.slice a4 n4 k4,.int .i64 ex4] 45))(h1:ch w b1 a1 n1 k1 ex1 b2 a2 n2 k2 ex2 o1 c1)(h2:ch w b3 a3 n3 k3 ex3 b4 a4 n4 k4 ex4 o2 c2) :
  Calls Tryz.prog 47 #[.slice (some ⟨gs,0,none⟩) 2 2] w fun e w'=>e=.returned (.int .i64 (wst (aQ o1 c1) (aQ o2 c2)))∧Below w.heap.size w w':=by
 have HS:=ab hg
 have C1:=ab h1
 have C2:=ab h2
 clear hg h1 h2
 by_cases z1:c1=0
 ·subst z1
  by_cases p1:0<o1
  ·rw [show wst (aQ o1 0) (aQ o2 c2)=100 by unfold wst aQ;rw [if_pos rfl,if_pos p1];rfl]
   have i1:decide (0<o1)=true:=decide_eq_true p1
   clear p1
   go_enter Tryz.func47,Tryz.ntmps47
   go_wp2
   refine wp_loop_rounds 3 ?_
   rw [rounds_succ]
   have HB:Hid (Below w.heap.size w w):=ab (Below.refl _ _)
   obtain⟨u1,hu1,hbu1,qu1⟩:=ag w (.cells #[.bool b1,.slice a1 n1 k1,.int .i64 ex1,.bool b2,.slice a2 n2 k2,.int .i64 ex2] 45)
   have Hu1:=ab (ae HB.out hbu1)
   have C:=C1.out u1 Hu1.out
   obtain⟨x0,x1,x2,x3,x4,x5⟩:=hexa qu1
   obtain⟨⟨c0,c1,c2,c3,c4,c5⟩,c6,c7,c8,c9,c10,c11⟩:=cm (ac HB.out HS.out)
   clear hbu1 qu1
   go_wp2_with fail
   refine C.mono ?_
   rintro e t1 ⟨rfl,gt1⟩
   have Ht1:=ab (ae Hu1.out gt1)
   clear gt1 C x0 x1 x2 x3 x4 x5 c0 c1 c2 c3 c4 c5 c6 c7 c8 c9 c10 c11 hu1
   go_wp2
   go_ret
   exact⟨rfl,Ht1.out⟩
  ·have i1:decide (0<o1)=false:=decide_eq_false p1
   rw [show wst (aQ o1 0) (aQ o2 c2)=aQ o2 c2 by unfold wst;rw [if_pos (by unfold aQ;rw [if_pos rfl,if_neg p1])]]
   clear p1
   by_cases z2:c2=0
   ·subst z2
    by_cases p2:0<o2
    ·rw [show aQ o2 0=100 by unfold aQ;rw [if_pos rfl,if_pos p2]]
     have i2:decide (0<o2)=true:=decide_eq_true p2
     clear p2
     go_enter Tryz.func47,Tryz.ntmps47
     go_wp2
     refine wp_loop_rounds 3 ?_
     rw [rounds_succ]
     have HB:Hid (Below w.heap.size w w):=ab (Below.refl _ _)
     obtain⟨u1,hu1,hbu1,qu1⟩:=ag w (.cells #[.bool b1,.slice a1 n1 k1,.int .i64 ex1,.bool b2,.slice a2 n2 k2,.int .i64 ex2] 45)
     have Hu1:=ab (ae HB.out hbu1)
     have C:=C1.out u1 Hu1.out
     obtain⟨x0,x1,x2,x3,x4,x5⟩:=hexa qu1
     obtain⟨⟨c0,c1,c2,c3,c4,c5⟩,c6,c7,c8,c9,c10,c11⟩:=cm (ac HB.out HS.out)
     clear hbu1 qu1
     go_wp2_with fail
     refine C.mono ?_
     rintro e t1 ⟨rfl,gt1⟩
     have Ht1:=ab (ae Hu1.out gt1)
     clear gt1 C x0 x1 x2 x3 x4 x5 c0 c1 c2 c3 c4 c5 c6 c7 c8 c9 c10 c11 hu1
     go_wp2
     rw [rounds_succ]
     obtain⟨u2,hu2,hbu2,qu2⟩:=ag t1 (.cells #[.bool b3,.slice a3 n3 k3,.int .i64 ex3,.bool b4,.slice a4 n4 k4,.int .i64 ex4] 45)
     have Hu2:=ab (ae Ht1.out hbu2)
     have C:=C2.out u2 Hu2.out
     obtain⟨x0,x1,x2,x3,x4,x5⟩:=hexa qu2
     obtain⟨⟨c0,c1,c2,c3,c4,c5⟩,c6,c7,c8,c9,c10,c11⟩:=cm (ac Ht1.out HS.out)
     clear hbu2 qu2
     go_wp2_with fail
     refine C.mono ?_
     rintro e t2 ⟨rfl,gt2⟩
     have Ht2:=ab (ae Hu2.out gt2)
     clear gt2 C x0 x1 x2 x3 x4 x5 c0 c1 c2 c3 c4 c5 c6 c7 c8 c9 c10 c11 hu2
     go_wp2
     go_ret
     exact⟨rfl,Ht2.out⟩
    ·rw [show aQ o2 0=0 by unfold aQ;rw [if_pos rfl,if_neg p2]]
     have i2:decide (0<o2)=false:=decide_eq_false p2
     clear p2
     go_enter Tryz.func47,Tryz.ntmps47
     go_wp2
     refine wp_loop_rounds 3 ?_
     rw [rounds_succ]
     have HB:Hid (Below w.heap.size w w):=ab (Below.refl _ _)
     obtain⟨u1,hu1,hbu1,qu1⟩:=ag w (.cells #[.bool b1,.slice a1 n1 k1,.int .i64 ex1,.bool b2,.slice a2 n2 k2,.int .i64 ex2] 45)
     have Hu1:=ab (ae HB.out hbu1)
     have C:=C1.out u1 Hu1.out
     obtain⟨x0,x1,x2,x3,x4,x5⟩:=hexa qu1
     obtain⟨⟨c0,c1,c2,c3,c4,c5⟩,c6,c7,c8,c9,c10,c11⟩:=cm (ac HB.out HS.out)
     clear hbu1 qu1
     go_wp2_with fail
     refine C.mono ?_
     rintro e t1 ⟨rfl,gt1⟩
     have Ht1:=ab (ae Hu1.out gt1)
     clear gt1 C x0 x1 x2 x3 x4 x5 c0 c1 c2 c3 c4 c5 c6 c7 c8 c9 c10 c11 hu1
     go_wp2
     rw [rounds_succ]
     obtain⟨u2,hu2,hbu2,qu2⟩:=ag t1 (.cells #[.bool b3,.slice a3 n3 k3,.int .i64 ex3,.bool b4,.slice a4 n4 k4,.int .i64 ex4] 45)
     have Hu2:=ab (ae Ht1.out hbu2)
     have C:=C2.out u2 Hu2.out
     obtain⟨x0,x1,x2,x3,x4,x5⟩:=hexa qu2
     obtain⟨⟨c0,c1,c2,c3,c4,c5⟩,c6,c7,c8,c9,c10,c11⟩:=cm (ac Ht1.out HS.out)
     clear hbu2 qu2
     go_wp2_with fail
     refine C.mono ?_
     rintro e t2 ⟨rfl,gt2⟩
     have Ht2:=ab (ae Hu2.out gt2)
     clear gt2 C x0 x1 x2 x3 x4 x5 c0 c1 c2 c3 c4 c5 c6 c7 c8 c9 c10 c11 hu2
     go_wp2
     rw [rounds_succ]
     go_wp2
     go_ret
     exact⟨rfl,Ht2.out⟩
   ·rw [show aQ o2 c2=c2 by unfold aQ;rw [if_neg z2]]
    have i2:(c2 != 0)=true:=by simpa using z2
    clear z2
    go_enter Tryz.func47,Tryz.ntmps47
    go_wp2
    refine wp_loop_rounds 3 ?_
    rw [rounds_succ]
    have HB:Hid (Below w.heap.size w w):=ab (Below.refl _ _)
    obtain⟨u1,hu1,hbu1,qu1⟩:=ag w (.cells #[.bool b1,.slice a1 n1 k1,.int .i64 ex1,.bool b2,.slice a2 n2 k2,.int .i64 ex2] 45)
    have Hu1:=ab (ae HB.out hbu1)
    have C:=C1.out u1 Hu1.out
    obtain⟨x0,x1,x2,x3,x4,x5⟩:=hexa qu1
    obtain⟨⟨c0,c1,c2,c3,c4,c5⟩,c6,c7,c8,c9,c10,c11⟩:=cm (ac HB.out HS.out)
    clear hbu1 qu1
    go_wp2_with fail
    refine C.mono ?_
    rintro e t1 ⟨rfl,gt1⟩
    have Ht1:=ab (ae Hu1.out gt1)
    clear gt1 C x0 x1 x2 x3 x4 x5 c0 c1 c2 c3 c4 c5 c6 c7 c8 c9 c10 c11 hu1
    go_wp2
    rw [rounds_succ]
    obtain⟨u2,hu2,hbu2,qu2⟩:=ag t1 (.cells #[.bool b3,.slice a3 n3 k3,.int .i64 ex3,.bool b4,.slice a4 n4 k4,.int .i64 ex4] 45)
    have Hu2:=ab (ae Ht1.out hbu2)
    have C:=C2.out u2 Hu2.out
    obtain⟨x0,x1,x2,x3,x4,x5⟩:=hexa qu2
    obtain⟨⟨c0,c1,c2,c3,c4,c5⟩,c6,c7,c8,c9,c10,c11⟩:=cm (ac Ht1.out HS.out)
    clear hbu2 qu2
    go_wp2_with fail
    refine C.mono ?_
    rintro e t2 ⟨rfl,gt2⟩
    have Ht2:=ab (ae Hu2.out gt2)
    clear gt2 C x0 x1 x2 x3 x4 x5 c0 c1 c2 c3 c4 c5 c6 c7 c8 c9 c10 c11 hu2
    go_wp2
    go_ret
    exact⟨rfl,Ht2.out⟩
 ·rw [show wst (aQ o1 c1) (aQ o2 c2)=c1 by unfold wst aQ;rw [if_neg z1,if_neg z1]]
  have i1:(c1 != 0)=true:=by simpa using z1
  clear z1
  go_enter Tryz.func47,Tryz.ntmps47
  go_wp2
  refine wp_loop_rounds 3 ?_
  rw [rounds_succ]
  have HB:Hid (Below w.heap.size w w):=ab (Below.refl _ _)
  obtain⟨u1,hu1,hbu1,qu1⟩:=ag w (.cells #[.bool b1,.slice a1 n1 k1,.int .i64 ex1,.bool b2,.slice a2 n2 k2,.int .i64 ex2] 45)
  have Hu1:=ab (ae HB.out hbu1)
  have C:=C1.out u1 Hu1.out
  obtain⟨x0,x1,x2,x3,x4,x5⟩:=hexa qu1
  obtain⟨⟨c0,c1,c2,c3,c4,c5⟩,c6,c7,c8,c9,c10,c11⟩:=cm (ac HB.out HS.out)
  clear hbu1 qu1
  go_wp2_with fail
  refine C.mono ?_
  rintro e t1 ⟨rfl,gt1⟩
  have Ht1:=ab (ae Hu1.out gt1)
  clear gt1 C x0 x1 x2 x3 x4 x5 c0 c1 c2 c3 c4 c5 c6 c7 c8 c9 c10 c11 hu1
  go_wp2
  go_ret
  exact⟨rfl,Ht1.out⟩

def ic (w:World)(b1:Bool)(a1:Option Addr)(n1 k1:Nat)(ex1:Int)(b2:Bool)(a2:Option Addr)(n2 k2:Nat)(ex2:Int)(b3:Bool)(a3:Option Addr)(n3 k3:Nat)(ex3:Int)(b4:Bool)(a4:Option Addr)(n4 k4:Nat)(ex4:Int)(F:Int):Prop:=
 ∀W gs,Below w.heap.size w W→W.heap[gs]?=some (.cells #[.bool b1,.slice a1 n1 k1,.int .i64 ex1,.bool b2,.slice a2 n2 k2,.int .i64 ex2,.bool b3,.slice a3 n3 k3,.int .i64 ex3,.bool b4,.slice a4 n4 k4,.int .i64 ex4] 45)→Calls Tryz.prog 47 #[.slice (some ⟨gs,0,none⟩) 2 2] W fun e w'=>e=.returned (.int .i64 F)∧Below W.heap.size W w'

theorem ro (b1:Bool)(a1:Option Addr)(k1:Nat)(X:List Nat)(ex1:Int)(b2:Bool)(a2:Option Addr)(k2:Nat)(Y:List Nat)(ex2:Int)(b3:Bool)(a3:Option Addr)(k3:Nat)(Z:List Nat)(ex3:Int)(b4:Bool)(a4:Option Addr)(k4:Nat)(U:List Nat)(ex4:Int)(L:Nat)(w:World)(hA:Arg w (.slice a1 X.length k1) X)(hB:Arg w (.slice a2 Y.length k2) Y)(hC:Arg w (.slice a3 Z.length k3) Z)(hD:Arg w (.slice a4 U.length k4) U)(f1:X.length≤17592186043904)(f2:Y.length≤17592186043904)(f3:Z.length≤17592186043904)(f4:U.length≤17592186043904)(hL:4611686018427387904≤L) :
  ic w b1 a1 X.length k1 ex1 b2 a2 Y.length k2 ex2 b3 a3 Z.length k3 ex3 b4 a4 U.length k4 ex4 (wst (flt ex1 ex2 (vof b1 X ex1 L) (vof b2 Y ex2 L)) (flt ex3 ex4 (vof b3 Z ex3 L) (vof b4 U ex4 L))):=by
 obtain⟨o,c,hc,hfl⟩:=iw b1 a1 k1 X ex1 b2 a2 k2 Y ex2 L w hA hB f1 f2 hL
 obtain⟨o',c',hc',hfl'⟩:=iw b3 a3 k3 Z ex3 b4 a4 k4 U ex4 L w hC hD f3 f4 hL
 rw [←hfl,←hfl']
 exact fun W gs hb hg=>oM gs b1 a1 X.length k1 ex1 b2 a2 Y.length k2 ex2 b3 a3 Z.length k3 ex3 b4 a4 U.length k4 ex4 o c o' c' W hg (hc.below hb) (hc'.below hb)

theorem dB {ex1 ex2 V1 V2:Int}(h:flt ex1 ex2 V1 V2=0):ah ex1=true∧ah ex2=true∧V1≤V2:=by
 unfold flt at h
 split at h
 ·split at h
  ·split at h
   ·omega
   ·exact⟨by assumption,by assumption,by omega⟩
  ·omega
 ·omega

def N8 (w:World)(b:Bool)(a:Option Addr)(n k:Nat)(ex:Int)(L:Nat)(V:Int):Prop:=
 ∃X:List Nat,n=X.length∧Arg w (.slice a n k) X∧X.length≤17592186043904∧ah ex=true∧vof b X ex L=V

theorem N8.below {w w':World}{b:Bool}{a:Option Addr}{n k:Nat}{ex:Int}{L:Nat}{V:Int}(h:N8 w b a n k ex L V)(hb:Below w.heap.size w w'):N8 w' b a n k ex L V:=by
 obtain⟨X,h1,h2,h3⟩:=h
 exact⟨X,h1,h2.below hb,h3⟩

theorem oE {y z:Int}:am y z<0 ↔ y<z:=by
 unfold am
 split
 ·omega
 ·split <;> omega

theorem cB (b1:Bool)(a1:Option Addr)(n1 k1:Nat)(ex1:Int)(b2:Bool)(a2:Option Addr)(n2 k2:Nat)(ex2:Int)(L:Nat)(V1 V2:Int)(w:World)(h1:N8 w b1 a1 n1 k1 ex1 L V1)(h2:N8 w b2 a2 n2 k2 ex2 L V2)(hL:4611686018427387904≤L) :
  Calls Tryz.prog 72 #[.agg #[.bool b1,.slice a1 n1 k1,.int .i64 ex1],.agg #[.bool b2,.slice a2 n2 k2,.int .i64 ex2]] w fun e w'=>e=.returned (.bool (decide (V1<V2)))∧Below w.heap.size w w':=by
 obtain⟨X,rfl,hA,f1,hE1,rfl⟩:=h1
 obtain⟨Y,rfl,hB,f2,hE2,rfl⟩:=h2
 obtain⟨w0,hw0,hb0,q0,q1⟩:=al w (.cells #[.bool b1,.slice a1 X.length k1,.int .i64 ex1] 43) (.cells #[.bool b2,.slice a2 Y.length k2,.int .i64 ex2] 43)
 obtain⟨y0,y1,y2⟩:=tri8 q0
 obtain⟨y3,y4,y5⟩:=tri8 q1
 have r1:=(aH ex1).1 hE1
 have r2:=(aH ex2).1 hE2
 have C:=im b1 a1 k1 X ex1 b2 a2 k2 Y ex2 L (ex1+L).toNat (ex2+L).toNat w0 (hA.below hb0) (hB.below hb0) (by omega) (by omega) hE1 hE2 hL (by omega) (by omega)
 rw [show zz b1 (val X)*2 ^ (ex1+L).toNat=vof b1 X ex1 L from rfl,show zz b2 (val Y)*2 ^ (ex2+L).toNat=vof b2 Y ex2 L from rfl] at C
 generalize vof b1 X ex1 L=V1 at *
 generalize vof b2 Y ex2 L=V2 at *
 obtain⟨D,hD⟩:∃D,decide (V1<V2)=D:=⟨_,rfl⟩
 have i1:decide (am V1 V2<0)=D:=by rw [←hD];simp only [oE]
 rw [hD]
 generalize am V1 V2=cz at *
 have HB:=ab hb0
 clear hA hB q0 q1 hb0 r1 r2 hE1 hE2 hD
 go_enter Tryz.func72,Tryz.ntmps72
 go_wp2_with fail
 refine C.mono ?_
 rintro e t1 ⟨rfl,g1⟩
 have HE:=ab (ae HB.out g1)
 clear g1 C
 go_wp2
 go_ret
 exact⟨rfl,HE.out⟩

theorem rM {y z:Int}:am y z≤0 ↔ y≤z:=by
 unfold am
 split
 ·omega
 ·split <;> omega

theorem ru (n:Int)(w:World):Calls Tryz.prog 68 #[.int .i64 n] w fun e w'=>e=.returned (.bool (ah n))∧w'=w:=by
 by_cases h1:-1099511627776≤n
 ·have h1':decide (-1099511627776≤n)=true:=decide_eq_true h1
  by_cases h2:n≤1099511627776
  ·have h2':decide (n≤1099511627776)=true:=decide_eq_true h2
   rw [(aH n).2 ⟨h1,h2⟩]
   go_enter Tryz.func68,Tryz.ntmps68
   go_wp2
   go_ret
   exact⟨rfl,rfl⟩
  ·have h2':decide (n≤1099511627776)=false:=decide_eq_false h2
   have e:ah n=false:=by rw [←Bool.not_eq_true,aH];omega
   rw [e]
   go_enter Tryz.func68,Tryz.ntmps68
   go_wp2
   go_ret
   exact⟨rfl,rfl⟩
 ·have h1':decide (-1099511627776≤n)=false:=decide_eq_false h1
  have e:ah n=false:=by rw [←Bool.not_eq_true,aH];omega
  rw [e]
  go_enter Tryz.func68,Tryz.ntmps68
  go_wp2
  go_ret
  exact⟨rfl,rfl⟩

theorem V8.sign {w:World}{b:Bool}{a:Option Addr}{n c:Nat}{E:Int}{L:Nat}{V:Int}(h:V8 w b a n c E L V):∃s:Int,(∀W,Below w.heap.size w W→Calls Tryz.prog 13 #[.agg #[.bool b,.slice a n c]] W fun e w'=>e=.returned (.int .i64 s)∧Below W.heap.size W w')∧(0<s ↔ 0<V)∧(s<0 ↔ V<0):=by
 obtain⟨M,d,r,_⟩:=h
 refine⟨M.sign,fun W hg=>bn _ M W (d.below hg).zn,?_,?_⟩
 ·obtain⟨p1,p2⟩:=r.pos
  rcases Int.lt_trichotomy M 0 with g|g|g
  ·have:=p1.2 g;rw [Int.sign_eq_neg_one_of_neg g];omega
  ·subst g;have:=p2.2 rfl;simp;omega
  ·rw [Int.sign_eq_one_of_pos g]
   have q1:¬V<0:=fun h=>by have:=p1.1 h;omega
   have q2:¬V=0:=fun h=>by have:=p2.1 h;omega
   omega
 ·obtain⟨p1,p2⟩:=r.pos
  rcases Int.lt_trichotomy M 0 with g|g|g
  ·have:=p1.2 g;rw [Int.sign_eq_neg_one_of_neg g];omega
  ·subst g;have:=p2.2 rfl;simp;omega
  ·rw [Int.sign_eq_one_of_pos g]
   have q1:¬V<0:=fun h=>by have:=p1.1 h;omega
   omega









def ox (w:World)(e:Ending)(w':World)(L:Nat)(V1 V2:Int):Prop:=
 (∃b a n k x b' a' n' k' x',e=.returned (.agg #[.bool b,.slice a n k,.int .i64 x,.bool b',.slice a' n' k',.int .i64 x'])∧N8 w' b a n k x L V1∧N8 w' b' a' n' k' x' L V2)∧Below w.heap.size w w'

theorem N8.boxH {w:World}{b:Bool}{a0:Option Addr}{n0 k0:Nat}{ex:Int}{L:Nat}{V:Int}{g o:Nat}{p:Bool}{a:Option Addr}{n c:Nat}{e:Int}{p':Bool}{a':Option Addr}{n' c':Nat}{e':Int}{t:TypeId}{u:Value}(h:N8 w b a0 n0 k0 ex L V)(hl:w.heap[g]?=some (.cells #[.bool p,.slice a n c,.int .i64 e,.bool p',.slice a' n' c',.int .i64 e'] t)):N8 (w.setCell ⟨g,o,none⟩ u) b a0 n0 k0 ex L V:=by
 obtain⟨X,h1,h2,h3⟩:=h
 exact⟨X,h1,h2.boxH hl,h3⟩

theorem N8.hexa {w:World}{b:Bool}{a0:Option Addr}{n0 k0:Nat}{ex:Int}{L:Nat}{V:Int}{g:Nat}{p:Bool}{a:Option Addr}{n c:Nat}{e:Int}{p':Bool}{a':Option Addr}{n' c':Nat}{e':Int}{t:TypeId}(h:N8 w b a0 n0 k0 ex L V)(hl:w.heap[g]?=some (.cells #[.bool p,.slice a n c,.int .i64 e,.bool p',.slice a' n' c',.int .i64 e'] t))(b1:Bool)(a1:Option Addr)(n1 c1:Nat)(e1:Int)(b2:Bool)(a2:Option Addr)(n2 c2:Nat)(e2:Int) :
  N8 ((((((w.setCell ⟨g,0,none⟩ (.bool b1)).setCell ⟨g,1,none⟩ (.slice a1 n1 c1)).setCell ⟨g,2,none⟩ (.int .i64 e1)).setCell ⟨g,3,none⟩ (.bool b2)).setCell ⟨g,4,none⟩ (.slice a2 n2 c2)).setCell ⟨g,5,none⟩ (.int .i64 e2)) b a0 n0 k0 ex L V:=by
 obtain⟨X,h1,h2,h3⟩:=h
 exact⟨X,h1,h2.hexa hl b1 a1 n1 c1 e1 b2 a2 n2 c2 e2,h3⟩

theorem lo3 {t:World}{g:Nat}{p:Bool}{a:Option Addr}{n c:Nat}{e:Int}{p':Bool}{a':Option Addr}{n' c':Nat}{e':Int}{ty:TypeId}(hl:t.heap[g]?=some (.cells #[.bool p,.slice a n c,.int .i64 e,.bool p',.slice a' n' c',.int .i64 e'] ty))(b0:Bool)(a0:Option Addr)(n0 c0:Nat)(e0:Int) :
  ∃W,((t.setCell ⟨g,0,none⟩ (.bool b0)).setCell ⟨g,1,none⟩ (.slice a0 n0 c0)).setCell ⟨g,2,none⟩ (.int .i64 e0)=W∧W.heap[g]?=some (.cells #[.bool b0,.slice a0 n0 c0,.int .i64 e0,.bool p',.slice a' n' c',.int .i64 e'] ty)∧(∀h x,h≠g→t.heap[h]?=some x→W.heap[h]?=some x)∧(∀B w,Below B w t→B≤g→Below B w W)∧(∀b a n k ex L V,N8 t b a n k ex L V→N8 W b a n k ex L V):=by
 have l0:(t.setCell ⟨g,0,none⟩ (.bool b0)).heap[g]?=some (.cells #[.bool b0,.slice a n c,.int .i64 e,.bool p',.slice a' n' c',.int .i64 e'] ty):=az (k:=0) hl _
 have l1:((t.setCell ⟨g,0,none⟩ (.bool b0)).setCell ⟨g,1,none⟩ (.slice a0 n0 c0)).heap[g]?=some (.cells #[.bool b0,.slice a0 n0 c0,.int .i64 e,.bool p',.slice a' n' c',.int .i64 e'] ty):=az (k:=1) l0 _
 have l2:(((t.setCell ⟨g,0,none⟩ (.bool b0)).setCell ⟨g,1,none⟩ (.slice a0 n0 c0)).setCell ⟨g,2,none⟩ (.int .i64 e0)).heap[g]?=some (.cells #[.bool b0,.slice a0 n0 c0,.int .i64 e0,.bool p',.slice a' n' c',.int .i64 e'] ty):=az (k:=2) l1 _
 refine⟨_,rfl,l2,fun h x hn hx=>?_,fun B w hb hB=>((hb.setCell (p:=⟨g,0,none⟩) hB _).setCell (p:=⟨g,1,none⟩) hB _).setCell (p:=⟨g,2,none⟩) hB _,fun b a n k ex L V h=>((h.boxH hl).boxH l0).boxH l1⟩
 rw [Below.heap_setCell _ _ _ _ hn,Below.heap_setCell _ _ _ _ hn,Below.heap_setCell _ _ _ _ hn];exact hx

theorem hi3 {t:World}{g:Nat}{p:Bool}{a:Option Addr}{n c:Nat}{e:Int}{p':Bool}{a':Option Addr}{n' c':Nat}{e':Int}{ty:TypeId}(hl:t.heap[g]?=some (.cells #[.bool p,.slice a n c,.int .i64 e,.bool p',.slice a' n' c',.int .i64 e'] ty))(b0:Bool)(a0:Option Addr)(n0 c0:Nat)(e0:Int) :
  ∃W,((t.setCell ⟨g,3,none⟩ (.bool b0)).setCell ⟨g,4,none⟩ (.slice a0 n0 c0)).setCell ⟨g,5,none⟩ (.int .i64 e0)=W∧W.heap[g]?=some (.cells #[.bool p,.slice a n c,.int .i64 e,.bool b0,.slice a0 n0 c0,.int .i64 e0] ty)∧(∀h x,h≠g→t.heap[h]?=some x→W.heap[h]?=some x)∧(∀B w,Below B w t→B≤g→Below B w W)∧(∀b a n k ex L V,N8 t b a n k ex L V→N8 W b a n k ex L V):=by
 have l0:(t.setCell ⟨g,3,none⟩ (.bool b0)).heap[g]?=some (.cells #[.bool p,.slice a n c,.int .i64 e,.bool b0,.slice a' n' c',.int .i64 e'] ty):=az (k:=3) hl _
 have l1:((t.setCell ⟨g,3,none⟩ (.bool b0)).setCell ⟨g,4,none⟩ (.slice a0 n0 c0)).heap[g]?=some (.cells #[.bool p,.slice a n c,.int .i64 e,.bool b0,.slice a0 n0 c0,.int .i64 e'] ty):=az (k:=4) l0 _
 have l2:(((t.setCell ⟨g,3,none⟩ (.bool b0)).setCell ⟨g,4,none⟩ (.slice a0 n0 c0)).setCell ⟨g,5,none⟩ (.int .i64 e0)).heap[g]?=some (.cells #[.bool p,.slice a n c,.int .i64 e,.bool b0,.slice a0 n0 c0,.int .i64 e0] ty):=az (k:=5) l1 _
 refine⟨_,rfl,l2,fun h x hn hx=>?_,fun B w hb hB=>((hb.setCell (p:=⟨g,3,none⟩) hB _).setCell (p:=⟨g,4,none⟩) hB _).setCell (p:=⟨g,5,none⟩) hB _,fun b a n k ex L V h=>((h.boxH hl).boxH l0).boxH l1⟩
 rw [Below.heap_setCell _ _ _ _ hn,Below.heap_setCell _ _ _ _ hn,Below.heap_setCell _ _ _ _ hn];exact hx
end Go.Proofs.YtkfbobefkbpdoaaGreatDoor
namespace Go.Proofs.YtkfbobefkbpdoaaGreatDoor
open Go.RowKit
open Lm
end Go.Proofs.YtkfbobefkbpdoaaGreatDoor
namespace Go.Proofs.YtkfbobefkbpdoaaGreatDoor
open Go.RowKit
open Lm
attribute [local go_sem ↓] Go.wp_at_zero Go.wp_at_succ



theorem nw (b:Bool){x d:Nat}(hx:0<x)(hd:0<d):rq b x d 0≤x:=by
 unfold rq
 have h2:2 ^ 1≤2 ^ d:=Nat.pow_le_pow_right (by omega) hd
 rw [Nat.pow_one] at h2
 by_cases h1:x=1
 ·rw [h1,Nat.div_eq_of_lt (by omega)]
  split <;> omega
 ·have h3:x / 2 ^ d≤x / 2:=Nat.div_le_div_left h2 (by omega)
  split <;> omega

theorem kc {M E pos:Int}:blen (aN M E pos 0).natAbs≤blen M.natAbs:=by
 unfold aN
 by_cases h:M=0∨pos≤E
 ·rw [if_pos h];exact Nat.le_refl _
 ·rw [if_neg h,aV]
  exact blen_mono (nw _ (by omega) (by omega))

theorem rV {M E pos:Int}:blen (omz (aN M E pos 0)).natAbs≤blen M.natAbs:=by
 rw [ct]
 exact Nat.le_trans (blen_mono (cJ _)) kc

def bq (F pos:Int):Int:=if F=0 then (if ah pos=true then 0 else 1) else F

theorem nC (v:Value)(F pos:Int)(w:World)(hf:Calls Tryz.prog 47 #[v] w fun e w'=>e=.returned (.int .i64 F)∧Below w.heap.size w w') :
  Calls Tryz.prog 42 #[.int .i64 pos,v] w fun e w'=>e=.returned (.int .i64 (bq F pos))∧Below w.heap.size w w':=by
 have HP:=ab (fun (W:World)=>ru pos W)
 by_cases h0:F=0
 ·subst h0
  cases hp:ah pos
  ·rw [show bq 0 pos=1 by unfold bq;rw [if_pos rfl,hp];rfl]
   go_enter Tryz.func42,Tryz.ntmps42
   go_wp2_with fail
   refine hf.mono ?_
   rintro e t1 ⟨rfl,g1⟩
   have HG:=ab g1
   have C:=HP.out t1
   rw [hp] at C
   clear g1
   go_wp2_with fail
   refine C.mono ?_
   rintro e wn ⟨rfl,hw⟩;rw [hw];clear hw wn C
   go_wp2
   go_ret
   exact⟨rfl,HG.out⟩
  ·rw [show bq 0 pos=0 by unfold bq;rw [if_pos rfl,if_pos hp]]
   go_enter Tryz.func42,Tryz.ntmps42
   go_wp2_with fail
   refine hf.mono ?_
   rintro e t1 ⟨rfl,g1⟩
   have HG:=ab g1
   have C:=HP.out t1
   rw [hp] at C
   clear g1
   go_wp2_with fail
   refine C.mono ?_
   rintro e wn ⟨rfl,hw⟩;rw [hw];clear hw wn C
   go_wp2
   go_ret
   exact⟨rfl,HG.out⟩
 ·rw [show bq F pos=F by unfold bq;rw [if_neg h0]]
  have i9:(F != 0)=true:=by simpa using h0
  clear h0 HP
  go_enter Tryz.func42,Tryz.ntmps42
  go_wp2_with fail
  refine hf.mono ?_
  rintro e t1 ⟨rfl,g1⟩
  have HG:=ab g1
  clear g1
  go_wp2
  go_ret
  exact⟨rfl,HG.out⟩

theorem Ans.len10 {w:World}{base:Nat}{a:Option Addr}{n k:Nat}{rs:List Nat}(h:Ans w base (.slice a n k) rs):n=rs.length:=by
 obtain⟨_,h2⟩:=h.own
 rcases h2 with ⟨e,h0⟩|⟨g,cap,cur,e,_⟩
 ·cases e;exact h0.symm
 ·cases e;rfl

theorem DR.n8 {w:World}{base:Nat}{b:Bool}{a:Option Addr}{n k:Nat}{ex M E:Int}{L:Nat}{V:Int}(h:DR w base b (.slice a n k) ex 0 M E)(hr:Rp L M E V):N8 w b a n k ex L V:=by
 obtain⟨rs,h1,h2|h2|h2⟩:=h
 ·obtain⟨_,e1,e2,e3,rfl,e5,e6⟩:=h2
  have hl:rs.length≤1048576:=bu e3 e2 (by omega)
  have hn:n=rs.length:=h1.len10
  refine⟨rs,hn,h1.arg (by omega),by omega,e6,?_⟩
  unfold vof
  rw [e1,e2,cL]
  exact hr.2
 ·exact absurd h2.1 (by decide)
 ·exact absurd h2.1 (by decide)

theorem rf:(Tryz.prog.info? 22).map (fun i=>(i.zero,i.size,i.bytes))=some (some (.slice none 0 0),1,24):=by kernel_rfl

theorem ef {w:World}(l:List Value)(t:TypeId)(j:Nat)(u:Value)(hj:l[j]?=some u):(w.alloc (.cells l.toArray t)).cell? ((⟨w.heap.size,0,none⟩:Addr).add j)=some u:=by
 have e:(⟨w.heap.size,0,none⟩:Addr).add j=⟨w.heap.size,j,none⟩:=by
  unfold Addr.add;split <;> simp_all
 rw [e]
 simp only [World.cell?,heap_alloc_new]
 simpa using hj

theorem BK.after10 {base:Nat}{w w5 w':World}(hb:Below w.heap.size w w5)(hle:base≤w.heap.size)(h:BK base w5 w'):BK base w w':=
 ⟨(hb.mono hle).trans h.below,fun g cs t ht ht2 hc=>h.box g cs t ht ht2 (ac hb hc)⟩

theorem bk.none10 (w:World)(base:Nat):bk w base [] []:=⟨rfl,fun i hi=>absurd hi (by simp),fun i j hi=>absurd hi (by simp)⟩

theorem m8 {w w5:World}{base:Nat}{vs:List Value}{rss:List (List Nat)}{g cap:Nat}(hown:w5.ownsRow w.heap.size 22 1 (.slice (some ⟨g,0,none⟩) vs.length cap) vs.length vs)(hA:bk w base vs rss)(hb:Below w.heap.size w w5):(∃sp,StX sp w5 base g vs (fun i=>rss.getD i []))∧w.heap.size≤g:=by
 obtain⟨_,h2⟩:=hown
 rcases h2 with ⟨e,_⟩|⟨g',cap',cur,e,hge,hh,_,_,_,ht⟩
 ·cases e
 ·simp only [Value.slice.injEq,Option.some.injEq,Addr.mk.injEq] at e
  obtain⟨⟨rfl,_⟩,_⟩:=e
  refine⟨⟨cur.toList.drop vs.length,?_,(hA.below hb).row,hA.apart⟩,hge⟩
  rw [hh]
  rw [Nat.mul_one] at ht
  have:vs ++ cur.toList.drop vs.length=cur.toList:=by
   conv=>lhs;lhs;rw [←ht]
   exact List.take_append_drop _ _
  rw [this]

theorem nQ (b:Bool)(a:Option Addr)(n k:Nat)(e:Int)(b':Bool)(a':Option Addr)(n' k':Nat)(e':Int)(w:World):(Instr.field 45 (.agg #[.bool b,.slice a n k,.int .i64 e,.bool b',.slice a' n' k',.int .i64 e']) 1).run Tryz.prog w=.ok (.agg #[.bool b',.slice a' n' k',.int .i64 e']) w:=by kernel_rfl

attribute [local go_sem] nQ

def aj (L:Nat)(V c:Int):Prop:=∃M E,Rp L M E V∧Nr8 M E∧c=aS M E

theorem aj.one {L:Nat}{V c c':Int}(h:aj L V c)(h':aj L V c'):c=c':=by
 obtain⟨M,E,h1,h2,rfl⟩:=h
 obtain⟨M',E',h1',h2',rfl⟩:=h'
 obtain⟨rfl,rfl⟩:=Rp.one h1 h1' h2 h2'
 rfl

theorem aj.is {L:Nat}{V c:Int}(h:aj L V c):bB c:=by
 obtain⟨M,E,_,_,rfl⟩:=h
 unfold aS bB
 split
 ·exact .inr (.inl rfl)
 ·split
  ·exact .inl rfl
  ·exact .inr (.inr rfl)

theorem SRV.codes {w:World}{base:Nat}{b1:Bool}{v1:Value}{e1:Int}{b2:Bool}{v2:Value}{e2 c:Int}{L:Nat}{V1 V2 d1 d2:Int}(h:SRV w base b1 v1 e1 b2 v2 e2 c 0 L V1 V2)(h1:aj L V1 d1)(h2:aj L V2 d2):c=aE d1 d2:=by
 rcases h with ⟨h0,_⟩|⟨_,M1,E1,M2,E2,hs,r1,m1,r2,m2⟩
 ·exact absurd rfl h0
 ·rw [hs.1,h1.one ⟨M1,E1,r1,m1,rfl⟩,h2.one ⟨M2,E2,r2,m2,rfl⟩]
end Go.Proofs.YtkfbobefkbpdoaaGreatDoor
namespace Go.Proofs.YtkfbobefkbpdoaaGreatDoor
open Go.RowKit
open Lm
attribute [local go_sem ↓] Go.wp_at_zero Go.wp_at_succ

theorem mj {w:World}{g:Nat}{o:Obj}(h:w.heap[g]?=some o):g<w.heap.size:=(Array.getElem?_eq_some_iff.1 h).1

theorem mL {a b m n:Nat}(ha:blen a≤m)(hb:blen b≤n):blen (a*b)≤m+n:=by
 refine (blen_le_iff _ _).2 ?_
 have h1:=(blen_le_iff a m).1 ha
 have h2:=(blen_le_iff b n).1 hb
 rw [Nat.pow_add]
 exact Nat.mul_lt_mul_of_lt_of_lt h1 h2

theorem oV (b1:Bool)(a1:Option Addr)(n1 c1:Nat)(M1 E1:Int)(b2:Bool)(a2:Option Addr)(n2 c2:Nat)(M2 E2:Int)(w:World)(hD1:Dn w b1 (.slice a1 n1 c1) M1)(hD2:Dn w b2 (.slice a2 n2 c2) M2)(hf:blen M1.natAbs+blen M2.natAbs≤1125899906840000)(he1:-2305843009213693952≤E1)(he2:E1≤2305843009213693952)(he3:-2305843009213693952≤E2)(he4:E2≤2305843009213693952) :
  Calls Tryz.prog 26 #[.agg #[.bool b1,.slice a1 n1 c1,.int .i64 E1],.agg #[.bool b2,.slice a2 n2 c2,.int .i64 E2]] w (cU w (omz (M1*M2)) (oe (M1*M2) (E1+E2))):=by
 obtain⟨w0,hw0,hb0,h0,h1,h2⟩:=aM w (.cells #[.bool b1,.slice a1 n1 c1,.int .i64 E1] 31) (.cells #[.bool b2,.slice a2 n2 c2,.int .i64 E2] 31) (.cells #[.bool false,.slice none 0 0,.int .i64 0] 31)
 have gd:Below w.heap.size w w0.drew:=hb0.drew
 have g0:Below w0.drew.heap.size w0.drew w0.drew:=Below.refl _ _
 have HR:=cQ (.agg #[.bool b1,.slice a1 n1 c1]) (.agg #[.bool b2,.slice a2 n2 c2]) M1 M2 w0.drew (hD1.below gd).zn (hD2.below gd).zn hf
 have hbm:blen (M1*M2).natAbs≤1125899906840000:=by
  rw [Int.natAbs_mul]
  exact Nat.le_trans (mL (Nat.le_refl _) (Nat.le_refl _)) hf
 have HOF:=ab (fun (W:World) (b3:Bool) (a3:Option Addr) (n3 c3:Nat) (h:Zn W (.agg #[.bool b3,.slice a3 n3 c3]) (M1*M2))=>dF b3 a3 n3 c3 (M1*M2) (E1+E2) W h hbm (by omega) (by omega))
 have wk:IntKind.i64.wrap (E1+E2)=E1+E2:=by rw [IntKind.wrap_i64];omega
 have KS:=ab (fun (W:World) (hg:Below w0.drew.heap.size w0.drew W)=>show W.cell? ⟨w.heap.size,0,none⟩=some (.bool b1)∧W.cell? ⟨w.heap.size,1,none⟩=some (.slice a1 n1 c1)∧W.cell? ⟨w.heap.size,2,none⟩=some (.int .i64 E1)∧W.cell? ⟨w.heap.size+1,0,none⟩=some (.bool b2)∧W.cell? ⟨w.heap.size+1,1,none⟩=some (.slice a2 n2 c2)∧W.cell? ⟨w.heap.size+1,2,none⟩=some (.int .i64 E2) from by
  obtain⟨x0,x1,x2⟩:=tri8 (ac hg (show w0.drew.heap[w.heap.size]?=some (.cells #[.bool b1,.slice a1 n1 c1,.int .i64 E1] 31) from h0))
  obtain⟨x3,x4,x5⟩:=tri8 (ac hg (show w0.drew.heap[w.heap.size+1]?=some (.cells #[.bool b2,.slice a2 n2 c2,.int .i64 E2] 31) from h1))
  exact⟨x0,x1,x2,x3,x4,x5⟩)
 have so:∀(W:World) (k:Nat) (u:Value) (k':Nat),(W.setCell ⟨w.heap.size+1+1,k,none⟩ u).cell? ⟨w.heap.size,k',none⟩=W.cell? ⟨w.heap.size,k',none⟩:=fun W k u k'=>aZ (by omega)
 have so2:∀(W:World) (k:Nat) (u:Value) (k':Nat),(W.setCell ⟨w.heap.size+1+1,k,none⟩ u).cell? ⟨w.heap.size+1,k',none⟩=W.cell? ⟨w.heap.size+1,k',none⟩:=fun W k u k'=>aZ (by omega)
 have HC1:=ab h2
 have HD:=ab gd
 clear gd h0 h1 h2 hb0 hD1 hD2 hbm hf
 generalize oe (M1*M2) (E1+E2)=EE at *
 generalize omz (M1*M2)=MM at *
 generalize hes:E1+E2=es at *
 have hes2:E1+E2=es:=hes
 clear hes
 go_enter Tryz.func26,Tryz.ntmps26
 go_wp2
 go_region_held3 (fun w'=>w'.cell? ⟨w.heap.size,0,none⟩=some (.bool b1)∧w'.cell? ⟨w.heap.size,1,none⟩=some (.slice a1 n1 c1)∧w'.cell? ⟨w.heap.size,2,none⟩=some (.int .i64 E1)∧w'.cell? ⟨w.heap.size+1,0,none⟩=some (.bool b2)∧w'.cell? ⟨w.heap.size+1,1,none⟩=some (.slice a2 n2 c2)∧w'.cell? ⟨w.heap.size+1,2,none⟩=some (.int .i64 E2)) (first|with_reducible exact KS.out _ g2|with_reducible exact KS.out _ g1|with_reducible exact KS.out _ g0 | (refine⟨?_,?_,?_,?_,?_,?_⟩ <;> (first|rw [so,so,so] | rw [so2,so2,so2]) <;> (first|exact (KS.out _ g2).1|exact (KS.out _ g2).2.1|exact (KS.out _ g2).2.2.1|exact (KS.out _ g2).2.2.2.1|exact (KS.out _ g2).2.2.2.2.1|exact (KS.out _ g2).2.2.2.2.2))) (first
  | (go_at_call 51;refine HR.mono ?_;rintro e' t2 ⟨⟨b3,a3,n3,c3,rfl,Z2⟩,g1⟩)
  | (go_at_call 34;refine (HOF.out t2 b3 a3 n3 c3 Z2).mono ?_;rintro e' t3 ⟨⟨b4,a4,n4,c4,rfl,N4⟩,hb2⟩;have g2:=ae g1 hb2;have hz:=ac g2 (show w0.drew.heap[w.heap.size+1+1]?=some (.cells #[.bool false,.slice none 0 0,.int .i64 0] 31) from HC1.out);have hf:=ak hz;obtain⟨m0,m1,m2⟩:=tri8 hz))
 have T3:=ay hz (.bool b4) (.slice a4 n4 c4) (.int .i64 EE)
 have T4:=an (ae HD.out g2) (show w.heap.size≤w.heap.size+1+1 by omega) (.bool b4) (.slice a4 n4 c4) (.int .i64 EE)
 have T5:=N4.tri8 hz b4 a4 n4 c4 (.int .i64 EE)
 obtain⟨p0,p1,p2⟩:=tri8 T3
 have HE:=ab (And.intro T5 T4)
 clear T3 T4 T5 so so2 m0 m1 m2 hf KS g0 g1 g2 hb2 HR hz N4 Z2 HOF
 generalize ((t3.setCell ⟨w.heap.size+1+1,0,none⟩ (.bool b4)).setCell ⟨w.heap.size+1+1,1,none⟩ (.slice a4 n4 c4)).setCell ⟨w.heap.size+1+1,2,none⟩ (.int .i64 EE)=w5 at *
 go_wp2
 refine bodyPost_ret (v:=.agg #[.bool b4,.slice a4 n4 c4,.int .i64 EE]) (by simp [results,Tryz.results26,go_sem,p0,p1,p2]) rfl ?_
 exact⟨⟨_,_,_,_,rfl,HE.out.1⟩,HE.out.2⟩











theorem lS (b:Bool)(a:Option Addr)(n c:Nat)(M E pos m:Int)(w:World)(h:Dn w b (.slice a n c) M)(hs:M=0∨pos≤E) :
  Calls Tryz.prog 54 #[.agg #[.bool b,.slice a n c,.int .i64 E],.int .i64 pos,.int .i64 m] w (cU w M E):=by
 obtain⟨w0,hw0,hb0,h0,h1'⟩:=al w (.cells #[.bool b,.slice a n c,.int .i64 E] 31) (.cells #[.bool false,.slice none 0 0,.int .i64 0] 31)
 obtain⟨k0,k1,k2⟩:=tri8 h0
 have HS:=bn _ M w0 (h.below hb0).zn
 have H0:=ab h0
 have H1:=ab h1'
 have HB:=ab hb0
 have HD:=ab h
 clear h0 h1' hb0 h
 by_cases hM:M=0
 ·have hsg:(M.sign == 0)=true:=by rw [hM];rfl
  generalize M.sign=sg' at *
  clear hM hs
  go_enter Tryz.func54,Tryz.ntmps54
  go_wp2_with fail
  refine HS.mono ?_
  rintro e t1 ⟨rfl,g1⟩
  have HC1:=ab (ac g1 H1.out)
  have HG:=ab (ae HB.out g1)
  have HDN:=ab (HD.out.below HG.out)
  have hf1:=ak HC1.out
  obtain⟨m0,m1,m2⟩:=tri8 HC1.out
  obtain⟨l0,l1,l2⟩:=tri8 (ac g1 H0.out)
  clear g1 HS
  go_wp2
  have T3:=ay HC1.out (.bool b) (.slice a n c) (.int .i64 E)
  have T4:=an HG.out (show w.heap.size≤w.heap.size+1 by omega) (.bool b) (.slice a n c) (.int .i64 E)
  have T5:=HDN.out.tri8 HC1.out b a n c (.int .i64 E)
  obtain⟨p0,p1,p2⟩:=tri8 T3
  have HE:=ab (And.intro T5 T4)
  clear T3 T4 T5
  generalize ((t1.setCell ⟨w.heap.size+1,0,none⟩ (.bool b)).setCell ⟨w.heap.size+1,1,none⟩ (.slice a n c)).setCell ⟨w.heap.size+1,2,none⟩ (.int .i64 E)=w5 at *
  refine bodyPost_ret (v:=.agg #[.bool b,.slice a n c,.int .i64 E]) (by simp [results,Tryz.results54,go_sem,p0,p1,p2]) rfl ?_
  exact⟨⟨_,_,_,_,rfl,HE.out.1⟩,HE.out.2⟩
 ·have hsg:(M.sign == 0)=false:=by
   rw [beq_eq_false_iff_ne]
   intro h;exact hM (Int.sign_eq_zero_iff_zero.1 h)
  have hpe:pos≤E:=by rcases hs with hs|hs;exact absurd hs hM;exact hs
  generalize M.sign=sg' at *
  clear hM hs
  go_enter Tryz.func54,Tryz.ntmps54
  go_wp2_with fail
  refine HS.mono ?_
  rintro e t1 ⟨rfl,g1⟩
  have HC1:=ab (ac g1 H1.out)
  have HG:=ab (ae HB.out g1)
  have HDN:=ab (HD.out.below HG.out)
  have hf1:=ak HC1.out
  obtain⟨m0,m1,m2⟩:=tri8 HC1.out
  obtain⟨l0,l1,l2⟩:=tri8 (ac g1 H0.out)
  clear g1 HS
  go_wp2
  have T3:=ay HC1.out (.bool b) (.slice a n c) (.int .i64 E)
  have T4:=an HG.out (show w.heap.size≤w.heap.size+1 by omega) (.bool b) (.slice a n c) (.int .i64 E)
  have T5:=HDN.out.tri8 HC1.out b a n c (.int .i64 E)
  obtain⟨p0,p1,p2⟩:=tri8 T3
  have HE:=ab (And.intro T5 T4)
  clear T3 T4 T5
  generalize ((t1.setCell ⟨w.heap.size+1,0,none⟩ (.bool b)).setCell ⟨w.heap.size+1,1,none⟩ (.slice a n c)).setCell ⟨w.heap.size+1,2,none⟩ (.int .i64 E)=w5 at *
  refine bodyPost_ret (v:=.agg #[.bool b,.slice a n c,.int .i64 E]) (by simp [results,Tryz.results54,go_sem,p0,p1,p2]) rfl ?_
  exact⟨⟨_,_,_,_,rfl,HE.out.1⟩,HE.out.2⟩

theorem pc (b:Bool)(a:Option Addr)(n c:Nat)(M E pos m:Int)(s:Nat)(w:World)(h:Dn w b (.slice a n c) M)(hM:M≠0)(hs:pos - E=(s:Int))(hs0:0<s)(hfar:blen M.natAbs+2<s)(hs3:s≤4611686018427387904)(hp1:-1152921504606846976≤pos)(hp2:pos≤1152921504606846976)(hm:m=0∨m=1∨m=2) :
  Calls Tryz.prog 54 #[.agg #[.bool b,.slice a n c,.int .i64 E],.int .i64 pos,.int .i64 m] w (cU w (omz (zz b (rq b M.natAbs s m))) (oe (zz b (rq b M.natAbs s m)) pos)):=by
 rw [mE b M.natAbs s m hfar hm]
 obtain⟨w0,hw0,hb0,h0,h1'⟩:=al w (.cells #[.bool b,.slice a n c,.int .i64 E] 31) (.cells #[.bool false,.slice none 0 0,.int .i64 0] 31)
 obtain⟨k0,k1,k2⟩:=tri8 h0
 have HS:=bn _ M w0 (h.below hb0).zn
 have hsg:(M.sign == 0)=false:=by
  rw [beq_eq_false_iff_ne]
  intro h;exact hM (Int.sign_eq_zero_iff_zero.1 h)
 have hpe:¬pos≤E:=by omega
 have wd:IntKind.i64.wrap (s:Int)=(s:Int):=by rw [IntKind.wrap_i64];omega
 have HLN:=ab (fun (W:World) (hg:Below w.heap.size w W)=>fN (.slice a n c) M.natAbs W (h.2.below hg))
 have H0:=ab h0
 have H1:=ab h1'
 have HB:=ab hb0
 have HD:=ab h
 generalize M.sign=sg' at *
 have i1:((blen M.natAbs:Nat):Int)+2<(s:Int):=by omega
 have w2:IntKind.i64.wrap (((blen M.natAbs:Nat):Int)+2)=((blen M.natAbs:Nat):Int)+2:=by rw [IntKind.wrap_i64];omega
 generalize blen M.natAbs=l at *
 clear hfar
 rcases hm with rfl|rfl|rfl
 ·cases b
  ·rw [show zz false (if (0:Int)=0∧false=true∨(0:Int)=1∧false=false then 1 else 0)=0 by decide,bC,show oe 0 pos=0 by simp [oe]]
   clear h0 h1' hb0 h hM
   go_enter Tryz.func54,Tryz.ntmps54
   go_wp2_with fail
   refine HS.mono ?_
   rintro e t1 ⟨rfl,g1⟩
   have HC1:=ab (ac g1 H1.out)
   have HC0:=ab (ac g1 H0.out)
   have HG:=ab (ae HB.out g1)
   have hf1:=ak HC1.out
   obtain⟨m0,m1,m2⟩:=tri8 HC1.out
   obtain⟨l0,l1,l2⟩:=tri8 HC0.out
   have HL:=HLN.out t1 HG.out
   clear g1 HS HLN H0 H1 HB
   go_wp2_with fail
   refine HL.mono ?_
   rintro e wn ⟨rfl,hw⟩;rw [hw];clear hw wn HL
   have HDN:=ab (show Dn t1 false (.slice none 0 0) 0 from ⟨rfl,Num.nil8 _⟩)
   go_wp2
   have T3:=ay HC1.out (.bool false) (.slice none 0 0) (.int .i64 0)
   have T4:=an HG.out (show w.heap.size≤w.heap.size+1 by omega) (.bool false) (.slice none 0 0) (.int .i64 0)
   have T5:=HDN.out.tri8 HC1.out false none 0 0 (.int .i64 0)
   obtain⟨p0,p1,p2⟩:=tri8 T3
   have HE:=ab (And.intro T5 T4)
   clear T3 T4 T5
   generalize ((t1.setCell ⟨w.heap.size+1,0,none⟩ (.bool false)).setCell ⟨w.heap.size+1,1,none⟩ (.slice none 0 0)).setCell ⟨w.heap.size+1,2,none⟩ (.int .i64 0)=w5 at *
   refine bodyPost_ret (v:=.agg #[.bool false,.slice none 0 0,.int .i64 0]) (by simp [results,Tryz.results54,go_sem,p0,p1,p2]) rfl ?_
   exact⟨⟨_,_,_,_,rfl,HE.out.1⟩,HE.out.2⟩
  ·rw [show zz true (if (0:Int)=0∧true=true∨(0:Int)=1∧true=false then 1 else 0)=-1 by decide]
   clear h0 h1' hb0 h hM
   go_enter Tryz.func54,Tryz.ntmps54
   go_wp2_with fail
   refine HS.mono ?_
   rintro e t1 ⟨rfl,g1⟩
   have HC1:=ab (ac g1 H1.out)
   have HC0:=ab (ac g1 H0.out)
   have HG:=ab (ae HB.out g1)
   have hf1:=ak HC1.out
   obtain⟨m0,m1,m2⟩:=tri8 HC1.out
   obtain⟨l0,l1,l2⟩:=tri8 HC0.out
   have HL:=HLN.out t1 HG.out
   clear g1 HS HLN H0 H1 HB
   go_wp2_with fail
   refine HL.mono ?_
   rintro e wn ⟨rfl,hw⟩;rw [hw];clear hw wn HL
   have HI:=eF (-1) pos t1 (by decide) (by decide) (by omega) (by omega)
   generalize omz (-1)=RM at *
   generalize oe (-1) pos=RE at *
   go_wp2_with fail
   refine HI.mono ?_
   rintro e t2 ⟨⟨b2,a2,n2,c2,rfl,d2⟩,g2⟩
   have HC2:=ab (ac g2 HC1.out)
   have HG2:=ab (ae HG.out g2)
   have HDN:=ab d2
   clear g2 d2 HI HC1 HG m0 m1 m2 hf1
   have HC1:=ab HC2.out
   have HG:=ab HG2.out
   have hf1:=ak HC1.out
   obtain⟨m0,m1,m2⟩:=tri8 HC1.out
   go_wp2
   have T3:=ay HC1.out (.bool b2) (.slice a2 n2 c2) (.int .i64 RE)
   have T4:=an HG.out (show w.heap.size≤w.heap.size+1 by omega) (.bool b2) (.slice a2 n2 c2) (.int .i64 RE)
   have T5:=HDN.out.tri8 HC1.out b2 a2 n2 c2 (.int .i64 RE)
   obtain⟨p0,p1,p2⟩:=tri8 T3
   have HE:=ab (And.intro T5 T4)
   clear T3 T4 T5
   generalize ((t2.setCell ⟨w.heap.size+1,0,none⟩ (.bool b2)).setCell ⟨w.heap.size+1,1,none⟩ (.slice a2 n2 c2)).setCell ⟨w.heap.size+1,2,none⟩ (.int .i64 RE)=w5 at *
   refine bodyPost_ret (v:=.agg #[.bool b2,.slice a2 n2 c2,.int .i64 RE]) (by simp [results,Tryz.results54,go_sem,p0,p1,p2]) rfl ?_
   exact⟨⟨_,_,_,_,rfl,HE.out.1⟩,HE.out.2⟩
 ·cases b
  ·rw [show zz false (if (1:Int)=0∧false=true∨(1:Int)=1∧false=false then 1 else 0)=1 by decide]
   clear h0 h1' hb0 h hM
   go_enter Tryz.func54,Tryz.ntmps54
   go_wp2_with fail
   refine HS.mono ?_
   rintro e t1 ⟨rfl,g1⟩
   have HC1:=ab (ac g1 H1.out)
   have HC0:=ab (ac g1 H0.out)
   have HG:=ab (ae HB.out g1)
   have hf1:=ak HC1.out
   obtain⟨m0,m1,m2⟩:=tri8 HC1.out
   obtain⟨l0,l1,l2⟩:=tri8 HC0.out
   have HL:=HLN.out t1 HG.out
   clear g1 HS HLN H0 H1 HB
   go_wp2_with fail
   refine HL.mono ?_
   rintro e wn ⟨rfl,hw⟩;rw [hw];clear hw wn HL
   have HI:=eF 1 pos t1 (by decide) (by decide) (by omega) (by omega)
   generalize omz 1=RM at *
   generalize oe 1 pos=RE at *
   go_wp2_with fail
   refine HI.mono ?_
   rintro e t2 ⟨⟨b2,a2,n2,c2,rfl,d2⟩,g2⟩
   have HC2:=ab (ac g2 HC1.out)
   have HG2:=ab (ae HG.out g2)
   have HDN:=ab d2
   clear g2 d2 HI HC1 HG m0 m1 m2 hf1
   have HC1:=ab HC2.out
   have HG:=ab HG2.out
   have hf1:=ak HC1.out
   obtain⟨m0,m1,m2⟩:=tri8 HC1.out
   go_wp2
   have T3:=ay HC1.out (.bool b2) (.slice a2 n2 c2) (.int .i64 RE)
   have T4:=an HG.out (show w.heap.size≤w.heap.size+1 by omega) (.bool b2) (.slice a2 n2 c2) (.int .i64 RE)
   have T5:=HDN.out.tri8 HC1.out b2 a2 n2 c2 (.int .i64 RE)
   obtain⟨p0,p1,p2⟩:=tri8 T3
   have HE:=ab (And.intro T5 T4)
   clear T3 T4 T5
   generalize ((t2.setCell ⟨w.heap.size+1,0,none⟩ (.bool b2)).setCell ⟨w.heap.size+1,1,none⟩ (.slice a2 n2 c2)).setCell ⟨w.heap.size+1,2,none⟩ (.int .i64 RE)=w5 at *
   refine bodyPost_ret (v:=.agg #[.bool b2,.slice a2 n2 c2,.int .i64 RE]) (by simp [results,Tryz.results54,go_sem,p0,p1,p2]) rfl ?_
   exact⟨⟨_,_,_,_,rfl,HE.out.1⟩,HE.out.2⟩
  ·rw [show zz true (if (1:Int)=0∧true=true∨(1:Int)=1∧true=false then 1 else 0)=0 by decide,bC,show oe 0 pos=0 by simp [oe]]
   clear h0 h1' hb0 h hM
   go_enter Tryz.func54,Tryz.ntmps54
   go_wp2_with fail
   refine HS.mono ?_
   rintro e t1 ⟨rfl,g1⟩
   have HC1:=ab (ac g1 H1.out)
   have HC0:=ab (ac g1 H0.out)
   have HG:=ab (ae HB.out g1)
   have hf1:=ak HC1.out
   obtain⟨m0,m1,m2⟩:=tri8 HC1.out
   obtain⟨l0,l1,l2⟩:=tri8 HC0.out
   have HL:=HLN.out t1 HG.out
   clear g1 HS HLN H0 H1 HB
   go_wp2_with fail
   refine HL.mono ?_
   rintro e wn ⟨rfl,hw⟩;rw [hw];clear hw wn HL
   have HDN:=ab (show Dn t1 false (.slice none 0 0) 0 from ⟨rfl,Num.nil8 _⟩)
   go_wp2
   have T3:=ay HC1.out (.bool false) (.slice none 0 0) (.int .i64 0)
   have T4:=an HG.out (show w.heap.size≤w.heap.size+1 by omega) (.bool false) (.slice none 0 0) (.int .i64 0)
   have T5:=HDN.out.tri8 HC1.out false none 0 0 (.int .i64 0)
   obtain⟨p0,p1,p2⟩:=tri8 T3
   have HE:=ab (And.intro T5 T4)
   clear T3 T4 T5
   generalize ((t1.setCell ⟨w.heap.size+1,0,none⟩ (.bool false)).setCell ⟨w.heap.size+1,1,none⟩ (.slice none 0 0)).setCell ⟨w.heap.size+1,2,none⟩ (.int .i64 0)=w5 at *
   refine bodyPost_ret (v:=.agg #[.bool false,.slice none 0 0,.int .i64 0]) (by simp [results,Tryz.results54,go_sem,p0,p1,p2]) rfl ?_
   exact⟨⟨_,_,_,_,rfl,HE.out.1⟩,HE.out.2⟩
 ·have e0:zz b (if (2:Int)=0∧b=true∨(2:Int)=1∧b=false then 1 else 0)=0:=by cases b <;> decide
  rw [e0,bC,show oe 0 pos=0 by simp [oe]]
  clear h0 h1' hb0 h hM
  go_enter Tryz.func54,Tryz.ntmps54
  go_wp2_with fail
  refine HS.mono ?_
  rintro e t1 ⟨rfl,g1⟩
  have HC1:=ab (ac g1 H1.out)
  have HC0:=ab (ac g1 H0.out)
  have HG:=ab (ae HB.out g1)
  have hf1:=ak HC1.out
  obtain⟨m0,m1,m2⟩:=tri8 HC1.out
  obtain⟨l0,l1,l2⟩:=tri8 HC0.out
  have HL:=HLN.out t1 HG.out
  clear g1 HS HLN H0 H1 HB
  go_wp2_with fail
  refine HL.mono ?_
  rintro e wn ⟨rfl,hw⟩;rw [hw];clear hw wn HL
  have HDN:=ab (show Dn t1 false (.slice none 0 0) 0 from ⟨rfl,Num.nil8 _⟩)
  go_wp2
  have T3:=ay HC1.out (.bool false) (.slice none 0 0) (.int .i64 0)
  have T4:=an HG.out (show w.heap.size≤w.heap.size+1 by omega) (.bool false) (.slice none 0 0) (.int .i64 0)
  have T5:=HDN.out.tri8 HC1.out false none 0 0 (.int .i64 0)
  obtain⟨p0,p1,p2⟩:=tri8 T3
  have HE:=ab (And.intro T5 T4)
  clear T3 T4 T5
  generalize ((t1.setCell ⟨w.heap.size+1,0,none⟩ (.bool false)).setCell ⟨w.heap.size+1,1,none⟩ (.slice none 0 0)).setCell ⟨w.heap.size+1,2,none⟩ (.int .i64 0)=w5 at *
  refine bodyPost_ret (v:=.agg #[.bool false,.slice none 0 0,.int .i64 0]) (by simp [results,Tryz.results54,go_sem,p0,p1,p2]) rfl ?_
  exact⟨⟨_,_,_,_,rfl,HE.out.1⟩,HE.out.2⟩

theorem pJ (b:Bool)(a:Option Addr)(n c:Nat)(M E pos m:Int)(s:Nat)(w:World)(h:Dn w b (.slice a n c) M)(hM:M≠0)(hodd:M.natAbs % 2=1)(hs:pos - E=(s:Int))(hs0:0<s)(hfar:s≤blen M.natAbs+2)(hbl:blen M.natAbs≤1125899906809900)(hp1:-1152921504606846976≤pos)(hp2:pos≤1152921504606846976)(hm:m=0∨m=1∨m=2) :
  Calls Tryz.prog 54 #[.agg #[.bool b,.slice a n c,.int .i64 E],.int .i64 pos,.int .i64 m] w (cU w (omz (zz b (rq b M.natAbs s m))) (oe (zz b (rq b M.natAbs s m)) pos)):=by
 have hMb:M=zz b M.natAbs:=by rw [h.1,cL]
 have hrb:blen (zz b (rq b M.natAbs s m)).natAbs≤1125899906840000:=by
  rw [aV]
  unfold rq
  have h1:=Nat.div_le_self M.natAbs (2 ^ s)
  have h2:=(blen_le_iff M.natAbs (blen M.natAbs)).1 (Nat.le_refl _)
  have h3:blen (M.natAbs / 2 ^ s+if ga b M.natAbs s m then 1 else 0)≤blen M.natAbs+1:=by
   refine (blen_le_iff _ _).2 ?_
   rw [Nat.pow_succ]
   have:=Nat.two_pow_pos (blen M.natAbs)
   split <;> omega
  omega
 have HRB:=ab hrb
 clear hrb
 obtain⟨w0,hw0,hb0,h0,h1'⟩:=al w (.cells #[.bool b,.slice a n c,.int .i64 E] 31) (.cells #[.bool false,.slice none 0 0,.int .i64 0] 31)
 obtain⟨k0,k1,k2⟩:=tri8 h0
 have HS:=bn _ M w0 (h.below hb0).zn
 have hsg:(M.sign == 0)=false:=by
  rw [beq_eq_false_iff_ne]
  intro h;exact hM (Int.sign_eq_zero_iff_zero.1 h)
 have hpe:¬pos≤E:=by omega
 have wd:IntKind.i64.wrap (s:Int)=(s:Int):=by rw [IntKind.wrap_i64];omega
 have HLN:=ab (fun (W:World) (hg:Below w.heap.size w W)=>fN (.slice a n c) M.natAbs W (h.2.below hg))
 have H0:=ab h0
 have H1:=ab h1'
 have HB:=ab hb0
 have HD:=ab h
 generalize M.sign=sg' at *
 have i1:¬((blen M.natAbs:Nat):Int)+2<(s:Int):=by omega
 have w2:IntKind.i64.wrap (((blen M.natAbs:Nat):Int)+2)=((blen M.natAbs:Nat):Int)+2:=by rw [IntKind.wrap_i64];omega
 rcases hm with rfl|rfl|rfl
 ·have HQE:Hid (flq M ((2 ^ s:Nat):Int)=zz b (rq b M.natAbs s 0)):=ab (by
   have:=iH b M.natAbs s hodd hs0
   rw [←hMb] at this;exact this)
  generalize zz b (rq b M.natAbs s 0)=RM at *
  clear hMb
  clear h0 h1' hb0 h hM
  go_enter Tryz.func54,Tryz.ntmps54
  go_wp2_with fail
  refine HS.mono ?_
  rintro e t1 ⟨rfl,g1⟩
  have HC1:=ab (ac g1 H1.out)
  have HC0:=ab (ac g1 H0.out)
  have HG:=ab (ae HB.out g1)
  have hf1:=ak HC1.out
  obtain⟨m0,m1,m2⟩:=tri8 HC1.out
  obtain⟨l0,l1,l2⟩:=tri8 HC0.out
  have HL:=HLN.out t1 HG.out
  clear g1 HS HLN H0 H1 HB
  go_wp2_with fail
  refine HL.mono ?_
  rintro e wn ⟨rfl,hw⟩;rw [hw];clear hw wn HL
  have HI1:=fA 1 t1 (by omega)
  go_wp2_with fail
  refine HI1.mono ?_
  rintro e t2 ⟨⟨v2,rfl,N2⟩,g2⟩
  have HSL:=cY v2 1 s t2 N2 (by rw [show blen 1=1 by decide];omega)
  rw [Nat.one_mul] at HSL
  have HG2:=ab (ae HG.out g2)
  have HC2:=ab (ac g2 HC1.out)
  have HC3:=ab (ac g2 HC0.out)
  obtain⟨av2,nv2,cv2,rfl⟩:=N2.sl
  clear HI1 g2 N2
  go_wp2_with fail
  refine HSL.mono ?_
  rintro e t3 ⟨⟨v3,rfl,N3⟩,g3⟩
  obtain⟨a3,n3,c3,rfl⟩:=N3.sl
  obtain⟨w4,hw4,hb4,h4,h5⟩:=al t3 (.cells #[.bool false,.slice a3 n3 c3] 29) (.cells #[.bool false,.slice none 0 0] 29)
  have hfz:=aB h5
  obtain⟨z0,z1⟩:=duo h5
  obtain⟨w4b,hw4b,hb4b,h4b,h5b⟩:∃w4b,(w4.setCell ⟨t3.heap.size+1,0,none⟩ (.bool false)).setCell ⟨t3.heap.size+1,1,none⟩ (.slice none 0 0)=w4b∧Below t3.heap.size t3 w4b∧w4b.heap[t3.heap.size]?=some (.cells #[.bool false,.slice a3 n3 c3] 29)∧w4b.heap[t3.heap.size+1]?=some (.cells #[.bool false,.slice none 0 0] 29):=⟨_,rfl,aO hb4 (by omega),cP h4 (by omega),aP h5⟩
  have hsw:w4b.heap.size=t3.heap.size+2:=by
   rw [←hw4b]
   have h9:w4.heap.size=t3.heap.size+2:=by rw [←hw4,World.size_alloc,World.size_alloc]
   simpa [World.setCell] using h9
  have HSW:=ab hsw
  clear hsw
  have g4:=ae g3 hb4b
  have HG4:=ab (ae HG2.out g4)
  have HC4:=ab (ac g4 HC2.out)
  have HC5:=ab (ac g4 HC3.out)
  have hp2s:=Nat.two_pow_pos s
  have hzs:Zn w4b (.agg #[.bool false,.slice a3 n3 c3]) ((2 ^ s:Nat):Int):=⟨.slice a3 n3 c3,by rw [(bW s).2],by rw [(bW s).1];exact N3.below hb4b⟩
  have HZM:=(HD.out.below HG4.out).zn
  have hbs:blen (((2 ^ s:Nat):Int)).natAbs≤1125899906810000:=by
   rw [(bW s).1]
   have h6:=blen_eq (2 ^ s) s (Nat.le_refl _) (by rw [Nat.pow_succ];omega)
   omega
  have HQ:=iz _ _ M ((2 ^ s:Nat):Int) w4b HZM hzs (by omega) (by omega) hbs
  rw [HQE.out] at HQ
  obtain⟨u0,u1⟩:=duo h4b
  obtain⟨u2,u3⟩:=duo h5b
  have hf5:=aB h5b
  obtain⟨l0,l1,l2⟩:=tri8 HC5.out
  have H5:=ab h5b
  clear HSL g3 g4 hb4 h4 h5 hb4b h4b h5b N3 HZM hzs hbs HC2 HC3 HC0 HC1 HG HG2 hp2s m0 m1 m2 hf1
  go_wp2_with fail
  refine HQ.mono ?_
  rintro e t5 ⟨⟨b5,a5,n5,c5,b6,a6,n6,c6,rfl,Z5,Z6⟩,g5⟩
  have HQ5:=ac g5 H5.out
  have hf6:=aB HQ5
  obtain⟨x0,x1⟩:=duo HQ5
  have d5:=aP HQ5 (a':=.bool b5) (b':=.slice a5 n5 c5)
  have HG5:=ae HG4.out g5
  have hsz:w.heap.size≤t3.heap.size+1:=by
   have h7:=lt_of_block HC4.out
   have h8:=lt_of_block H5.out
   have h9:=HSW.out
   omega
  have hne:w.heap.size+1≠t3.heap.size+1:=by
   intro h
   have h7:=HC4.out
   rw [h,H5.out] at h7
   simp at h7
  have G6:=aO HG5 (g:=t3.heap.size+1) (u0:=.bool b5) (u1:=.slice a5 n5 c5) hsz
  have c6':=cP (u0:=.bool b5) (u1:=.slice a5 n5 c5) (ac g5 HC4.out) hne
  have Z7:=Z5.duo (p1:=b5) (r1:=.slice a5 n5 c5) HQ5
  have HOF:=dF b5 a5 n5 c5 RM pos _ Z7 HRB.out (by omega) (by omega)
  obtain⟨y0,y1⟩:=duo d5
  have HC6:=ab c6'
  have HG6:=ab G6
  clear HQ HQ5 d5 G6 c6' Z5 Z6 Z7 HG5 g5 HG4 HC4 HC5 H5 hsz hne
  go_wp2_with fail
  generalize (t5.setCell ⟨t3.heap.size+1,0,none⟩ (.bool b5)).setCell ⟨t3.heap.size+1,1,none⟩ (.slice a5 n5 c5)=t6 at *
  refine HOF.mono ?_
  rintro e t7 ⟨⟨b7,a7,n7,c7,rfl,d7⟩,g7⟩
  have HC1:=ab (ac g7 HC6.out)
  have HG:=ab (ae HG6.out g7)
  have HDN:=ab d7
  have hf1:=ak HC1.out
  obtain⟨m0,m1,m2⟩:=tri8 HC1.out
  clear g7 d7 HOF HC6 HG6
  generalize oe RM pos=RE at *
  go_wp2
  have T3:=ay HC1.out (.bool b7) (.slice a7 n7 c7) (.int .i64 RE)
  have T4:=an HG.out (show w.heap.size≤w.heap.size+1 by omega) (.bool b7) (.slice a7 n7 c7) (.int .i64 RE)
  have T5:=HDN.out.tri8 HC1.out b7 a7 n7 c7 (.int .i64 RE)
  obtain⟨p0,p1,p2⟩:=tri8 T3
  have HE:=ab (And.intro T5 T4)
  clear T3 T4 T5
  generalize ((t7.setCell ⟨w.heap.size+1,0,none⟩ (.bool b7)).setCell ⟨w.heap.size+1,1,none⟩ (.slice a7 n7 c7)).setCell ⟨w.heap.size+1,2,none⟩ (.int .i64 RE)=w5 at *
  refine bodyPost_ret (v:=.agg #[.bool b7,.slice a7 n7 c7,.int .i64 RE]) (by simp [results,Tryz.results54,go_sem,p0,p1,p2]) rfl ?_
  exact⟨⟨_,_,_,_,rfl,HE.out.1⟩,HE.out.2⟩
 ·have HQE:Hid (ceq M ((2 ^ s:Nat):Int)=zz b (rq b M.natAbs s 1)):=ab (by
   have:=jv b M.natAbs s hodd hs0
   rw [←hMb] at this;exact this)
  generalize zz b (rq b M.natAbs s 1)=RM at *
  clear hMb
  clear h0 h1' hb0 h hM
  go_enter Tryz.func54,Tryz.ntmps54
  go_wp2_with fail
  refine HS.mono ?_
  rintro e t1 ⟨rfl,g1⟩
  have HC1:=ab (ac g1 H1.out)
  have HC0:=ab (ac g1 H0.out)
  have HG:=ab (ae HB.out g1)
  have hf1:=ak HC1.out
  obtain⟨m0,m1,m2⟩:=tri8 HC1.out
  obtain⟨l0,l1,l2⟩:=tri8 HC0.out
  have HL:=HLN.out t1 HG.out
  clear g1 HS HLN H0 H1 HB
  go_wp2_with fail
  refine HL.mono ?_
  rintro e wn ⟨rfl,hw⟩;rw [hw];clear hw wn HL
  have HI1:=fA 1 t1 (by omega)
  go_wp2_with fail
  refine HI1.mono ?_
  rintro e t2 ⟨⟨v2,rfl,N2⟩,g2⟩
  have HSL:=cY v2 1 s t2 N2 (by rw [show blen 1=1 by decide];omega)
  rw [Nat.one_mul] at HSL
  have HG2:=ab (ae HG.out g2)
  have HC2:=ab (ac g2 HC1.out)
  have HC3:=ab (ac g2 HC0.out)
  obtain⟨av2,nv2,cv2,rfl⟩:=N2.sl
  clear HI1 g2 N2
  go_wp2_with fail
  refine HSL.mono ?_
  rintro e t3 ⟨⟨v3,rfl,N3⟩,g3⟩
  obtain⟨a3,n3,c3,rfl⟩:=N3.sl
  obtain⟨w4,hw4,hb4,h4,h5⟩:=al t3 (.cells #[.bool false,.slice a3 n3 c3] 29) (.cells #[.bool false,.slice none 0 0] 29)
  have hfz:=aB h5
  obtain⟨z0,z1⟩:=duo h5
  obtain⟨w4b,hw4b,hb4b,h4b,h5b⟩:∃w4b,(w4.setCell ⟨t3.heap.size+1,0,none⟩ (.bool false)).setCell ⟨t3.heap.size+1,1,none⟩ (.slice none 0 0)=w4b∧Below t3.heap.size t3 w4b∧w4b.heap[t3.heap.size]?=some (.cells #[.bool false,.slice a3 n3 c3] 29)∧w4b.heap[t3.heap.size+1]?=some (.cells #[.bool false,.slice none 0 0] 29):=⟨_,rfl,aO hb4 (by omega),cP h4 (by omega),aP h5⟩
  have hsw:w4b.heap.size=t3.heap.size+2:=by
   rw [←hw4b]
   have h9:w4.heap.size=t3.heap.size+2:=by rw [←hw4,World.size_alloc,World.size_alloc]
   simpa [World.setCell] using h9
  have HSW:=ab hsw
  clear hsw
  have g4:=ae g3 hb4b
  have HG4:=ab (ae HG2.out g4)
  have HC4:=ab (ac g4 HC2.out)
  have HC5:=ab (ac g4 HC3.out)
  have hp2s:=Nat.two_pow_pos s
  have hzs:Zn w4b (.agg #[.bool false,.slice a3 n3 c3]) ((2 ^ s:Nat):Int):=⟨.slice a3 n3 c3,by rw [(bW s).2],by rw [(bW s).1];exact N3.below hb4b⟩
  have HZM:=(HD.out.below HG4.out).zn
  have hbs:blen (((2 ^ s:Nat):Int)).natAbs≤1125899906810000:=by
   rw [(bW s).1]
   have h6:=blen_eq (2 ^ s) s (Nat.le_refl _) (by rw [Nat.pow_succ];omega)
   omega
  have HQ:=pj _ _ M ((2 ^ s:Nat):Int) w4b HZM hzs (by omega) (by omega) hbs
  rw [HQE.out] at HQ
  obtain⟨u0,u1⟩:=duo h4b
  obtain⟨u2,u3⟩:=duo h5b
  have hf5:=aB h5b
  obtain⟨l0,l1,l2⟩:=tri8 HC5.out
  have H5:=ab h5b
  clear HSL g3 g4 hb4 h4 h5 hb4b h4b h5b N3 HZM hzs hbs HC2 HC3 HC0 HC1 HG HG2 hp2s m0 m1 m2 hf1
  go_wp2_with fail
  refine HQ.mono ?_
  rintro e t5 ⟨⟨b5,a5,n5,c5,b6,a6,n6,c6,rfl,Z5,Z6⟩,g5⟩
  have HQ5:=ac g5 H5.out
  have hf6:=aB HQ5
  obtain⟨x0,x1⟩:=duo HQ5
  have d5:=aP HQ5 (a':=.bool b5) (b':=.slice a5 n5 c5)
  have HG5:=ae HG4.out g5
  have hsz:w.heap.size≤t3.heap.size+1:=by
   have h7:=lt_of_block HC4.out
   have h8:=lt_of_block H5.out
   have h9:=HSW.out
   omega
  have hne:w.heap.size+1≠t3.heap.size+1:=by
   intro h
   have h7:=HC4.out
   rw [h,H5.out] at h7
   simp at h7
  have G6:=aO HG5 (g:=t3.heap.size+1) (u0:=.bool b5) (u1:=.slice a5 n5 c5) hsz
  have c6':=cP (u0:=.bool b5) (u1:=.slice a5 n5 c5) (ac g5 HC4.out) hne
  have Z7:=Z5.duo (p1:=b5) (r1:=.slice a5 n5 c5) HQ5
  have HOF:=dF b5 a5 n5 c5 RM pos _ Z7 HRB.out (by omega) (by omega)
  obtain⟨y0,y1⟩:=duo d5
  have HC6:=ab c6'
  have HG6:=ab G6
  clear HQ HQ5 d5 G6 c6' Z5 Z6 Z7 HG5 g5 HG4 HC4 HC5 H5 hsz hne
  go_wp2_with fail
  generalize (t5.setCell ⟨t3.heap.size+1,0,none⟩ (.bool b5)).setCell ⟨t3.heap.size+1,1,none⟩ (.slice a5 n5 c5)=t6 at *
  refine HOF.mono ?_
  rintro e t7 ⟨⟨b7,a7,n7,c7,rfl,d7⟩,g7⟩
  have HC1:=ab (ac g7 HC6.out)
  have HG:=ab (ae HG6.out g7)
  have HDN:=ab d7
  have hf1:=ak HC1.out
  obtain⟨m0,m1,m2⟩:=tri8 HC1.out
  clear g7 d7 HOF HC6 HG6
  generalize oe RM pos=RE at *
  go_wp2
  have T3:=ay HC1.out (.bool b7) (.slice a7 n7 c7) (.int .i64 RE)
  have T4:=an HG.out (show w.heap.size≤w.heap.size+1 by omega) (.bool b7) (.slice a7 n7 c7) (.int .i64 RE)
  have T5:=HDN.out.tri8 HC1.out b7 a7 n7 c7 (.int .i64 RE)
  obtain⟨p0,p1,p2⟩:=tri8 T3
  have HE:=ab (And.intro T5 T4)
  clear T3 T4 T5
  generalize ((t7.setCell ⟨w.heap.size+1,0,none⟩ (.bool b7)).setCell ⟨w.heap.size+1,1,none⟩ (.slice a7 n7 c7)).setCell ⟨w.heap.size+1,2,none⟩ (.int .i64 RE)=w5 at *
  refine bodyPost_ret (v:=.agg #[.bool b7,.slice a7 n7 c7,.int .i64 RE]) (by simp [results,Tryz.results54,go_sem,p0,p1,p2]) rfl ?_
  exact⟨⟨_,_,_,_,rfl,HE.out.1⟩,HE.out.2⟩
 ·have HQE:Hid (neq M ((2 ^ s:Nat):Int)=zz b (rq b M.natAbs s 2)):=ab (by
   have:=jb b M.natAbs s hodd hs0
   rw [←hMb] at this;exact this)
  generalize zz b (rq b M.natAbs s 2)=RM at *
  clear hMb
  clear h0 h1' hb0 h hM
  go_enter Tryz.func54,Tryz.ntmps54
  go_wp2_with fail
  refine HS.mono ?_
  rintro e t1 ⟨rfl,g1⟩
  have HC1:=ab (ac g1 H1.out)
  have HC0:=ab (ac g1 H0.out)
  have HG:=ab (ae HB.out g1)
  have hf1:=ak HC1.out
  obtain⟨m0,m1,m2⟩:=tri8 HC1.out
  obtain⟨l0,l1,l2⟩:=tri8 HC0.out
  have HL:=HLN.out t1 HG.out
  clear g1 HS HLN H0 H1 HB
  go_wp2_with fail
  refine HL.mono ?_
  rintro e wn ⟨rfl,hw⟩;rw [hw];clear hw wn HL
  have HI1:=fA 1 t1 (by omega)
  go_wp2_with fail
  refine HI1.mono ?_
  rintro e t2 ⟨⟨v2,rfl,N2⟩,g2⟩
  have HSL:=cY v2 1 s t2 N2 (by rw [show blen 1=1 by decide];omega)
  rw [Nat.one_mul] at HSL
  have HG2:=ab (ae HG.out g2)
  have HC2:=ab (ac g2 HC1.out)
  have HC3:=ab (ac g2 HC0.out)
  obtain⟨av2,nv2,cv2,rfl⟩:=N2.sl
  clear HI1 g2 N2
  go_wp2_with fail
  refine HSL.mono ?_
  rintro e t3 ⟨⟨v3,rfl,N3⟩,g3⟩
  obtain⟨a3,n3,c3,rfl⟩:=N3.sl
  obtain⟨w4,hw4,hb4,h4,h5⟩:=al t3 (.cells #[.bool false,.slice a3 n3 c3] 29) (.cells #[.bool false,.slice none 0 0] 29)
  have hfz:=aB h5
  obtain⟨z0,z1⟩:=duo h5
  obtain⟨w4b,hw4b,hb4b,h4b,h5b⟩:∃w4b,(w4.setCell ⟨t3.heap.size+1,0,none⟩ (.bool false)).setCell ⟨t3.heap.size+1,1,none⟩ (.slice none 0 0)=w4b∧Below t3.heap.size t3 w4b∧w4b.heap[t3.heap.size]?=some (.cells #[.bool false,.slice a3 n3 c3] 29)∧w4b.heap[t3.heap.size+1]?=some (.cells #[.bool false,.slice none 0 0] 29):=⟨_,rfl,aO hb4 (by omega),cP h4 (by omega),aP h5⟩
  have hsw:w4b.heap.size=t3.heap.size+2:=by
   rw [←hw4b]
   have h9:w4.heap.size=t3.heap.size+2:=by rw [←hw4,World.size_alloc,World.size_alloc]
   simpa [World.setCell] using h9
  have HSW:=ab hsw
  clear hsw
  have g4:=ae g3 hb4b
  have HG4:=ab (ae HG2.out g4)
  have HC4:=ab (ac g4 HC2.out)
  have HC5:=ab (ac g4 HC3.out)
  have hp2s:=Nat.two_pow_pos s
  have hzs:Zn w4b (.agg #[.bool false,.slice a3 n3 c3]) ((2 ^ s:Nat):Int):=⟨.slice a3 n3 c3,by rw [(bW s).2],by rw [(bW s).1];exact N3.below hb4b⟩
  have HZM:=(HD.out.below HG4.out).zn
  have hbs:blen (((2 ^ s:Nat):Int)).natAbs≤1125899906810000:=by
   rw [(bW s).1]
   have h6:=blen_eq (2 ^ s) s (Nat.le_refl _) (by rw [Nat.pow_succ];omega)
   omega
  have HQ:=qz _ _ M ((2 ^ s:Nat):Int) w4b HZM hzs (by omega) (by omega) hbs
  rw [HQE.out] at HQ
  obtain⟨u0,u1⟩:=duo h4b
  obtain⟨u2,u3⟩:=duo h5b
  have hf5:=aB h5b
  obtain⟨l0,l1,l2⟩:=tri8 HC5.out
  have H5:=ab h5b
  clear HSL g3 g4 hb4 h4 h5 hb4b h4b h5b N3 HZM hzs hbs HC2 HC3 HC0 HC1 HG HG2 hp2s m0 m1 m2 hf1
  go_wp2_with fail
  refine HQ.mono ?_
  rintro e t5 ⟨⟨b5,a5,n5,c5,b6,a6,n6,c6,rfl,Z5,Z6⟩,g5⟩
  have HQ5:=ac g5 H5.out
  have hf6:=aB HQ5
  obtain⟨x0,x1⟩:=duo HQ5
  have d5:=aP HQ5 (a':=.bool b5) (b':=.slice a5 n5 c5)
  have HG5:=ae HG4.out g5
  have hsz:w.heap.size≤t3.heap.size+1:=by
   have h7:=lt_of_block HC4.out
   have h8:=lt_of_block H5.out
   have h9:=HSW.out
   omega
  have hne:w.heap.size+1≠t3.heap.size+1:=by
   intro h
   have h7:=HC4.out
   rw [h,H5.out] at h7
   simp at h7
  have G6:=aO HG5 (g:=t3.heap.size+1) (u0:=.bool b5) (u1:=.slice a5 n5 c5) hsz
  have c6':=cP (u0:=.bool b5) (u1:=.slice a5 n5 c5) (ac g5 HC4.out) hne
  have Z7:=Z5.duo (p1:=b5) (r1:=.slice a5 n5 c5) HQ5
  have HOF:=dF b5 a5 n5 c5 RM pos _ Z7 HRB.out (by omega) (by omega)
  obtain⟨y0,y1⟩:=duo d5
  have HC6:=ab c6'
  have HG6:=ab G6
  clear HQ HQ5 d5 G6 c6' Z5 Z6 Z7 HG5 g5 HG4 HC4 HC5 H5 hsz hne
  go_wp2_with fail
  generalize (t5.setCell ⟨t3.heap.size+1,0,none⟩ (.bool b5)).setCell ⟨t3.heap.size+1,1,none⟩ (.slice a5 n5 c5)=t6 at *
  refine HOF.mono ?_
  rintro e t7 ⟨⟨b7,a7,n7,c7,rfl,d7⟩,g7⟩
  have HC1:=ab (ac g7 HC6.out)
  have HG:=ab (ae HG6.out g7)
  have HDN:=ab d7
  have hf1:=ak HC1.out
  obtain⟨m0,m1,m2⟩:=tri8 HC1.out
  clear g7 d7 HOF HC6 HG6
  generalize oe RM pos=RE at *
  go_wp2
  have T3:=ay HC1.out (.bool b7) (.slice a7 n7 c7) (.int .i64 RE)
  have T4:=an HG.out (show w.heap.size≤w.heap.size+1 by omega) (.bool b7) (.slice a7 n7 c7) (.int .i64 RE)
  have T5:=HDN.out.tri8 HC1.out b7 a7 n7 c7 (.int .i64 RE)
  obtain⟨p0,p1,p2⟩:=tri8 T3
  have HE:=ab (And.intro T5 T4)
  clear T3 T4 T5
  generalize ((t7.setCell ⟨w.heap.size+1,0,none⟩ (.bool b7)).setCell ⟨w.heap.size+1,1,none⟩ (.slice a7 n7 c7)).setCell ⟨w.heap.size+1,2,none⟩ (.int .i64 RE)=w5 at *
  refine bodyPost_ret (v:=.agg #[.bool b7,.slice a7 n7 c7,.int .i64 RE]) (by simp [results,Tryz.results54,go_sem,p0,p1,p2]) rfl ?_
  exact⟨⟨_,_,_,_,rfl,HE.out.1⟩,HE.out.2⟩

theorem jM (b:Bool)(a:Option Addr)(n c:Nat)(M E pos m:Int)(w:World)(h:Dn w b (.slice a n c) M)(hN:ia M E)(hbl:blen M.natAbs≤1125899906809900)(he1:-1152921504606846976≤E)(he2:E≤1152921504606846976)(hp1:-1152921504606846976≤pos)(hp2:pos≤1152921504606846976)(hm:m=0∨m=1∨m=2) :
  Calls Tryz.prog 54 #[.agg #[.bool b,.slice a n c,.int .i64 E],.int .i64 pos,.int .i64 m] w (cU w (omz (aN M E pos m)) (oe (aN M E pos m) (aL M E pos))):=by
 by_cases hs:M=0∨pos≤E
 ·rw [show aN M E pos m=M by unfold aN;rw [if_pos hs],show aL M E pos=E by unfold aL;rw [if_pos hs],hN.stay.1,hN.stay.2]
  exact lS b a n c M E pos m w h hs
 ·have hM:M≠0:=fun h=>hs (.inl h)
  rw [show aN M E pos m=zz b (rq b M.natAbs (pos - E).toNat m) by unfold aN;rw [if_neg hs,h.1],show aL M E pos=pos by unfold aL;rw [if_neg hs]]
  have hpe:E<pos:=Int.lt_of_not_ge fun h=>hs (.inr h)
  have hodd:M.natAbs % 2=1:=by
   rcases hN with hN|hN
   ·exact absurd hN.1 hM
   ·exact hN
  by_cases hfar:blen M.natAbs+2<(pos - E).toNat
  ·exact pc b a n c M E pos m (pos - E).toNat w h hM (by omega) (by omega) hfar (by omega) hp1 hp2 hm
  ·exact pJ b a n c M E pos m (pos - E).toNat w h hM hodd (by omega) (by omega) (by omega) hbl hp1 hp2 hm

def Sml (L:Nat)(V:Int):Prop:=∃M E,Rp L M E V∧Nr8 M E∧blen M.natAbs≤67108864

theorem Sml.blen {L:Nat}{M E V:Int}(h:Sml L V)(hr:Rp L M E V)(hn:Nr8 M E):blen M.natAbs≤67108864:=by
 obtain⟨M',E',h1,h2,h3⟩:=h
 obtain⟨rfl,rfl⟩:=Rp.one hr h1 hn h2
 exact h3

theorem fZ {w:World}{b:Bool}{v:Value}{X:List Nat}{ex:Int}{L:Nat}(hA:Arg w v X)(hf:X.length≤1048576)(hE:0≤ex+L):Sml L (vof b X ex L):=by
 have hbz:blen (zz b (val X)).natAbs≤64*X.length:=by rw [aV];exact bO hA.limbs
 have h5:=blen_mono (cJ (zz b (val X)).natAbs)
 exact⟨_,_,(Rp.make L (zz b (val X)) ex hE).norm,ba _ _,by rw [ct];omega⟩

def iL (w:World)(e:Ending)(w':World)(c:Int)(L:Nat)(V:Int):Prop:=
 (∃b a n k E,e=.returned (.tuple #[.agg #[.bool b,.slice a n k,.int .i64 E],.int .i64 c])∧(c=0→V8 w' b a n k E L V))∧Below w.heap.size w w'

theorem j7 {M E:Int}(h:67108864<blen M.natAbs):aS M E=3:=by unfold aS;rw [if_pos h]

theorem jV {M E:Int}(h:blen M.natAbs≤67108864)(hE:ah E=false):aS M E=80:=by
 unfold aS;rw [if_neg (by omega),hE];rfl

theorem pF {M E:Int}(h:blen M.natAbs≤67108864)(hE:ah E=true):aS M E=0:=by
 unfold aS;rw [if_neg (by omega),if_pos hE]

theorem sL (b:Bool)(a:Option Addr)(n c:Nat)(M E:Int)(L:Nat)(V d:Int)(w:World)(h:Dn w b (.slice a n c) M)(hr:Rp L M E V)(hn:Nr8 M E)(hc:aj L V d) :
  Calls Tryz.prog 52 #[.agg #[.bool b,.slice a n c,.int .i64 E]] w fun e w'=>iL w e w' d L V:=by
 refine (gv b a n c M E w h).mono fun e w' h=>?_
 obtain⟨⟨b',a',n',c',E',f,he,h⟩,hb⟩:=h
 have hcc:=hc.one ⟨_,_,hr,hn,rfl⟩
 rcases h with ⟨rfl,rfl,g0,rfl,g1,g2,hd⟩|⟨rfl,g1⟩|⟨rfl,g1,g2⟩
 ·rw [pF g1 g2] at hcc
  subst hcc
  cases g0
  have hq:=(aH _).1 g2
  exact⟨⟨_,_,_,_,_,he,fun _=>⟨_,hd,hr,hn,by omega,by omega,by omega⟩⟩,hb⟩
 ·rw [j7 g1] at hcc
  subst hcc
  exact⟨⟨_,_,_,_,_,he,fun h=>absurd h (by decide)⟩,hb⟩
 ·rw [jV g1 g2] at hcc
  subst hcc
  exact⟨⟨_,_,_,_,_,he,fun h=>absurd h (by decide)⟩,hb⟩

theorem qw (b:Bool)(a:Option Addr)(n c:Nat)(E pos:Int)(L:Nat)(V:Int)(w:World)(h:V8 w b a n c E L V)(hs:Sml L V)(hK:ah pos=true)(hL:4611686018427387904≤L) :
  Calls Tryz.prog 54 #[.agg #[.bool b,.slice a n c,.int .i64 E],.int .i64 pos,.int .i64 0] w fun e w'=>(∃b' a' n' c' E',e=.returned (.agg #[.bool b',.slice a' n' c',.int .i64 E'])∧V8 w' b' a' n' c' E' L (rv 0 V (2 ^ (pos+L).toNat)))∧Below w.heap.size w w':=by
 obtain⟨M,d,r,m,_,x,y⟩:=h
 have f:=hs.blen r m
 have hp:=(aH pos).1 hK
 have hR:=(dl (pos:=pos) (m:=0) r m (by omega) (.inl rfl)).norm
 have hsz:=rV (M:=M) (E:=E) (pos:=pos)
 have hsz2:=kc (M:=M) (E:=E) (pos:=pos)
 have hO:=dv (aN M E pos 0) (aL M E pos) (by omega)
 have hEE:aL M E pos=E∨aL M E pos=pos:=by
  unfold aL
  split
  ·exact .inl rfl
  ·exact .inr rfl
 have htl:=eB (aN M E pos 0).natAbs
 have hob:-1152921504606846976≤oe (aN M E pos 0) (aL M E pos)∧oe (aN M E pos 0) (aL M E pos)≤1152921504606846976:=by
  by_cases hc:M=0∨pos≤E
  ·have e1:aN M E pos 0=M:=by unfold aN;rw [if_pos hc]
   have e2:aL M E pos=E:=by unfold aL;rw [if_pos hc]
   rw [e1,e2,m.stay.2]
   exact⟨x,y⟩
  ·have e2:aL M E pos=pos:=by unfold aL;rw [if_neg hc]
   rw [e2]
   unfold oe
   split <;> omega
 refine (jM b a n c M E pos 0 w d m (by omega) x y (by omega) (by omega) (.inl rfl)).mono fun e w' h=>?_
 obtain⟨⟨b',a',n',c',he,hd⟩,hb⟩:=h
 exact⟨⟨b',a',n',c',_,he,_,hd,hR,ba _ _,by omega,hob.1,hob.2⟩,hb⟩

theorem V8.tri8 {w:World}{b0:Bool}{a0:Option Addr}{n0 c0:Nat}{E0:Int}{L:Nat}{V:Int}{g:Nat}{p:Bool}{a:Option Addr}{n c:Nat}{e:Int}{t:TypeId}(h:V8 w b0 a0 n0 c0 E0 L V)(hl:w.heap[g]?=some (.cells #[.bool p,.slice a n c,.int .i64 e] t))(b1:Bool)(a1:Option Addr)(n1 c1:Nat)(u2:Value) :
  V8 (((w.setCell ⟨g,0,none⟩ (.bool b1)).setCell ⟨g,1,none⟩ (.slice a1 n1 c1)).setCell ⟨g,2,none⟩ u2) b0 a0 n0 c0 E0 L V:=by
 obtain⟨M,h1,h2⟩:=h
 exact⟨M,h1.tri8 hl b1 a1 n1 c1 u2,h2⟩

theorem eK {c d:Int}(h1:bB c)(h2:bB d):bB (aE c d):=by
 rcases h1 with rfl|rfl|rfl <;> rcases h2 with rfl|rfl|rfl <;> (unfold bB;decide)
end Go.Proofs.YtkfbobefkbpdoaaGreatDoor
namespace Go.Proofs.YtkfbobefkbpdoaaGreatDoor
open Go.RowKit
open Lm

theorem Rp.zero10 (L:Nat):Rp L 0 0 0:=⟨by omega,by simp⟩

theorem Sml.zero10 {L:Nat}:Sml L 0:=⟨0,0,Rp.zero10 L,.inl ⟨rfl,rfl⟩,by rw [show (0:Int).natAbs=0 from rfl];exact Nat.le_trans (Nat.le_of_eq rfl) (by decide:(0:Nat)≤67108864)⟩

theorem bk.swap10 {w:World}{base:Nat}{v0 v1 v2 v3 v4 v5 v6 v7 v8 v9:Value}{r0 r1 r2 r3 r4 r5 r6 r7 r8 r9:List Nat}(h:bk w base [v0,v1,v2,v3,v4,v5,v6,v7,v8,v9] [r0,r1,r2,r3,r4,r5,r6,r7,r8,r9]):bk w base [v0,v1,v2,v3,v6,v7,v4,v5,v8,v9] [r0,r1,r2,r3,r6,r7,r4,r5,r8,r9]:=by
 have key:∀i,i<10→∃k,k<10∧[v0,v1,v2,v3,v6,v7,v4,v5,v8,v9].getD i aK=[v0,v1,v2,v3,v4,v5,v6,v7,v8,v9].getD k aK∧[r0,r1,r2,r3,r6,r7,r4,r5,r8,r9].getD i []=[r0,r1,r2,r3,r4,r5,r6,r7,r8,r9].getD k []∧k=(if i=4 then 6 else if i=5 then 7 else if i=6 then 4 else if i=7 then 5 else i):=by
  intro i hi
  match i,hi with
  | 0,_=>exact⟨0,by omega,rfl,rfl,rfl⟩
  | 1,_=>exact⟨1,by omega,rfl,rfl,rfl⟩
  | 2,_=>exact⟨2,by omega,rfl,rfl,rfl⟩
  | 3,_=>exact⟨3,by omega,rfl,rfl,rfl⟩
  | 4,_=>exact⟨6,by omega,rfl,rfl,rfl⟩
  | 5,_=>exact⟨7,by omega,rfl,rfl,rfl⟩
  | 6,_=>exact⟨4,by omega,rfl,rfl,rfl⟩
  | 7,_=>exact⟨5,by omega,rfl,rfl,rfl⟩
  | 8,_=>exact⟨8,by omega,rfl,rfl,rfl⟩
  | 9,_=>exact⟨9,by omega,rfl,rfl,rfl⟩
  | n+10,h=>omega
 refine⟨rfl,fun i hi=>?_,fun i j hi hj hij=>?_⟩
 ·obtain⟨k,hk,e1,e2,_⟩:=key i hi
  rw [e1,e2]
  exact h.row k hk
 ·obtain⟨k,hk,e1,_,q1⟩:=key i hi
  obtain⟨m,hm,e2,_,q2⟩:=key j hj
  rw [e1,e2]
  exact h.apart k m hk hm (by rw [q1,q2];split <;> split <;> (try split) <;> (try split) <;> (try split) <;> (try split) <;> (try split) <;> (try split) <;> omega)

theorem kB {a b c d e f g h i j:List Nat}(h1:a.length≤1048576∧b.length≤1048576)(h2:c.length≤1048576∧d.length≤1048576)(h3:e.length≤1048576∧f.length≤1048576)(h4:g.length≤1048576∧h.length≤1048576)(h5:i.length≤1048576∧j.length≤1048576):∀r ∈ [a,b,c,d,e,f,g,h,i,j],r.length≤17592186044000:=by
 intro r hr
 simp only [List.mem_cons,List.not_mem_nil,or_false] at hr
 rcases hr with rfl|rfl|rfl|rfl|rfl|rfl|rfl|rfl|rfl|rfl <;> omega
end Go.Proofs.YtkfbobefkbpdoaaGreatDoor

