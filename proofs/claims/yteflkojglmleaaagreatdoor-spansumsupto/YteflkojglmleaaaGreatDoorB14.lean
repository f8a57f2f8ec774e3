/- Package span: the hull of an array's numbers, refusal of four, products. -/
import Derived.Test.YteflkojglmleaaaGreatDoorB13
import Derived.Deep.RegionHeld3
import Derived.Test.YteflkojglmleaaaGreatDoorB02
import Derived.Test.YteflkojglmleaaaGreatDoorB01
import Derived.Lib.SliceRun
set_option maxRecDepth 20000
set_option maxHeartbeats 4000000
namespace Go.Proofs.YteflkojglmleaaaGreatDoor
open Go.RowKit
open Lm
attribute [local go_sem ↓] Go.wp_at_zero Go.wp_at_succ

theorem oA (gs:Nat)(v0 v1 v2:Value)(b1:Bool)(a1:Option Addr)(n1 k1:Nat)(ex1:Int)(b2:Bool)(a2:Option Addr)(n2 k2:Nat)(ex2:Int)(b3:Bool)(a3:Option Addr)(n3 k3:Nat)(ex3:Int)(b4:Bool)(a4:Option Addr)(n4 k4:Nat)(ex4:Int)(L:Nat)(V1 V2 V3 V4:Int)(w:World)(hg:w.heap[gs]?=some (.cells #[v0,v1,v2,.bool b2,.slice a2 n2 k2,.int .i64 ex2,.bool b3,.slice a3 n3 k3,.int .i64 ex3,.bool b4,.slice a4 n4 k4,.int .i64 ex4] 97))(h1:N8 w b1 a1 n1 k1 ex1 L V1)(h2:N8 w b2 a2 n2 k2 ex2 L V2)(h3:N8 w b3 a3 n3 k3 ex3 L V3)(h4:N8 w b4 a4 n4 k4 ex4 L V4)(hL:4611686018427387904≤L) :
  Calls Tryz.prog 55 #[.agg #[.bool b1,.slice a1 n1 k1,.int .i64 ex1],.slice (some ⟨gs,3,none⟩) 3 3] w fun e w'=>oy w e w' L (min (min (min V1 V2) V3) V4) (max (max (max V1 V2) V3) V4):=by
 obtain⟨w0,hw0,hb0,q0,q9⟩:=aA w (.cells #[.bool b1,.slice a1 n1 k1,.int .i64 ex1] 31) (.cells #[.bool false,.slice none 0 0,.int .i64 0,.bool false,.slice none 0 0,.int .i64 0] 33)
 obtain⟨w1,hw1,hb1,qm⟩:=af w0 (.cells #[.bool b1,.slice a1 n1 k1,.int .i64 ex1,.bool b1,.slice a1 n1 k1,.int .i64 ex1] 33)
 obtain⟨y0,y1,y2⟩:=tri8 q0
 have HG:=ab hg
 have LL:Hid (4611686018427387904≤L):=ab hL
 have hb01:=ae hb0 hb1
 have I0:=h1.below hb01
 have IB:=hb01
 have IZ:=ac hb1 q9
 have IM:=qm
 have HNE:Hid (w.heap.size+1≠w0.heap.size):=ab (by have:=lt_of_block q9;omega)
 have HGE:Hid (w.heap.size≤w0.heap.size):=ab hb0.size
 have HX2:=ab h2
 have HX3:=ab h3
 have HX4:=ab h4
 have II:=ab (And.intro I0 (And.intro IB (And.intro IZ IM)))
 clear hg hL hb0 hb1 hb01 q0 q9 qm I0 IB IZ IM h1 h2 h3 h4
 go_enter Tryz.func55,Tryz.ntmps55
 go_wp2
 clear y0 y1 y2 hw0 hw1
 go_loopw [13] (fun i wr=>∃(k:Nat) (p:Bool) (pa:Option Addr) (pn pk:Nat) (pe:Int) (q:Bool) (qa:Option Addr) (qn qk:Nat) (qe:Int) (VL VH:Int),k≤3∧i=.int .i64 k∧(k=0→VL=V1∧VH=V1)∧(k=1→VL=(min V1 V2)∧VH=(max V1 V2))∧(k=2→VL=(min (min V1 V2) V3)∧VH=(max (max V1 V2) V3))∧(k=3→VL=(min (min (min V1 V2) V3) V4)∧VH=(max (max (max V1 V2) V3) V4))∧wr.heap[w0.heap.size]?=some (.cells #[.bool p,.slice pa pn pk,.int .i64 pe,.bool q,.slice qa qn qk,.int .i64 qe] 33)∧N8 wr p pa pn pk pe L VL∧N8 wr q qa qn qk qe L VH∧wr.heap[w.heap.size+1]?=some (.cells #[.bool false,.slice none 0 0,.int .i64 0,.bool false,.slice none 0 0,.int .i64 0] 33)∧Below w.heap.size w wr) (fun i _=>3 - (intOf i).toNat)
 case atStart=>exact⟨0,_,_,_,_,_,_,_,_,_,_,V1,V1,by omega,rfl,(fun _=>⟨rfl,rfl⟩),(fun h=>absurd h (by decide)),(fun h=>absurd h (by decide)),(fun h=>absurd h (by decide)),II.out.2.2.2,II.out.1,II.out.1,II.out.2.2.1,II.out.2.1⟩
 case round=>
  obtain⟨k,p,pa,pn,pk,pe,q,qa,qn,qk,qe,VL,VH,hk,rfl,e0,e1,e2,e3,hM,hLo,hHi,hZ,hB⟩:=hrel
  have HM:=ab hM
  have HLo:=ab hLo
  have HHi:=ab hHi
  have HZ:=ab hZ
  have HB:=ab hB
  have HOLD:Hid (w0.heap.size<wr.heap.size):=ab (lt_of_block hM)
  have E0:=ab e0
  have E1:=ab e1
  have E2:=ab e2
  have E3:=ab e3
  clear hM hLo hHi hZ hB II e0 e1 e2 e3
  rcases (show k=0∨k=1∨k=2∨k=3 by omega) with rfl|rfl|rfl|rfl
  ·have EE:=ab (E0.out rfl)
   clear E0 E1 E2 E3
   obtain⟨u1,hu1,hbu,qu⟩:=af wr (.cells #[.bool b2,.slice a2 n2 k2,.int .i64 ex2] 31)
   have CS:=ac HB.out HG.out
   have c0:wr.cell? ⟨gs,3,none⟩=some (.bool b2):=by simp [World.cell?,CS]
   have c1:wr.cell? ⟨gs,4,none⟩=some (.slice a2 n2 k2):=by simp [World.cell?,CS]
   have c2:wr.cell? ⟨gs,5,none⟩=some (.int .i64 ex2):=by simp [World.cell?,CS]
   have hbu1:=ae HB.out hbu
   have C:=cC b2 a2 n2 k2 ex2 p pa pn pk pe L V2 VL u1 (HX2.out.below hbu1) (HLo.out.below hbu) LL.out
   have M1:=ab (ac hbu HM.out)
   have Z1:=ab (ac hbu HZ.out)
   have D1x:=ab qu
   have L1:=ab (HLo.out.below hbu)
   have H1:=ab (HHi.out.below hbu)
   have B1:=ab hbu1
   obtain⟨m0,m1,m2,m3,m4,m5⟩:=hexa M1.out
   obtain⟨d0,d1,d2⟩:=tri8 D1x.out
   obtain⟨D1,hD1⟩:∃D,decide (V2<VL)=D:=⟨_,rfl⟩
   rw [hD1] at C
   have ED1:=ab hD1
   clear CS hbu hbu1 qu hD1 HM HZ HLo HHi HB
   cases D1
   ·skip
    go_wp2_with fail
    refine C.mono ?_
    rintro e t2 ⟨rfl,g2⟩
    clear C m0 m1 m2 m3 m4 m5 d0 d1 d2 c0 c1 c2 hu1
    have M2:=ab (ac g2 M1.out)
    have Z2:=ab (ac g2 Z1.out)
    have D2x:=ab (ac g2 D1x.out)
    have L2:=ab (L1.out.below g2)
    have H2:=ab (H1.out.below g2)
    have B2:=ab (ae B1.out g2)
    clear g2
    have C:=cC q qa qn qk qe b2 a2 n2 k2 ex2 L VH V2 t2 H2.out (HX2.out.below B2.out) LL.out
    obtain⟨D2,hD2⟩:∃D,decide (VH<V2)=D:=⟨_,rfl⟩
    rw [hD2] at C
    have ED2:=ab hD2
    clear hD2
    obtain⟨m0,m1,m2,m3,m4,m5⟩:=hexa M2.out
    obtain⟨d0,d1,d2⟩:=tri8 D2x.out
    cases D2
    ·skip
     go_wp2_with fail
     refine C.mono ?_
     rintro e t3 ⟨rfl,g3⟩
     clear C m0 m1 m2 m3 m4 m5 d0 d1 d2
     have M3:=ab (ac g3 M2.out)
     have Z3:=ab (ac g3 Z2.out)
     have L3:=ab (L2.out.below g3)
     have H3:=ab (H2.out.below g3)
     have B3:=ab (ae B2.out g3)
     clear g3
     go_wp2
     go_roundw
     case rel=>exact⟨1,p,pa,pn,pk,pe,q,qa,qn,qk,qe,_,_,by omega,by go_num,(fun h=>absurd h (by decide)),(fun _=>⟨(by have g:=of_decide_eq_false ED1.out;have e:=EE.out.1;omega),(by have g:=of_decide_eq_false ED2.out;have e:=EE.out.2;omega)⟩),(fun h=>absurd h (by decide)),(fun h=>absurd h (by decide)),M3.out,L3.out,H3.out,Z3.out,B3.out⟩
     case measure=>simp [intOf]
    ·skip
     go_wp2_with fail
     refine C.mono ?_
     rintro e t3 ⟨rfl,g3⟩
     clear C m0 m1 m2 m3 m4 m5 d0 d1 d2
     obtain⟨W4,hW4,n4',o4,l4,s4⟩:=hi3 (ac g3 M2.out) b2 a2 n2 k2 ex2
     obtain⟨m0,m1,m2,m3,m4,m5⟩:=hexa (ac g3 M2.out)
     have hf1:=aD (ac g3 M2.out)
     obtain⟨d0,d1,d2⟩:=tri8 (ac g3 D2x.out)
     have M3:=ab n4'
     have Z3:=ab (o4 _ _ HNE.out (ac g3 Z2.out))
     have L3:=ab (s4 _ _ _ _ _ _ _ (L2.out.below g3))
     have H3:=ab (s4 _ _ _ _ _ _ _ ((HX2.out.below (ae B2.out g3))))
     have B3:=ab (l4 _ _ (ae B2.out g3) HGE.out)
     clear g3 n4' o4 l4 s4
     go_wp2
     clear hW4 m0 m1 m2 m3 m4 m5 d0 d1 d2 hf1
     go_roundw
     case rel=>exact⟨1,p,pa,pn,pk,pe,b2,a2,n2,k2,ex2,_,_,by omega,by go_num,(fun h=>absurd h (by decide)),(fun _=>⟨(by have g:=of_decide_eq_false ED1.out;have e:=EE.out.1;omega),(by have g:=of_decide_eq_true ED2.out;have e:=EE.out.2;omega)⟩),(fun h=>absurd h (by decide)),(fun h=>absurd h (by decide)),M3.out,L3.out,H3.out,Z3.out,B3.out⟩
     case measure=>simp [intOf]
   ·skip
    go_wp2_with fail
    refine C.mono ?_
    rintro e t2 ⟨rfl,g2⟩
    clear C m0 m1 m2 m3 m4 m5 d0 d1 d2 c0 c1 c2 hu1
    obtain⟨W2,hW2,n2',o2,l2,s2⟩:=lo3 (ac g2 M1.out) b2 a2 n2 k2 ex2
    obtain⟨m0,m1,m2,m3,m4,m5⟩:=hexa (ac g2 M1.out)
    have hf1:=aD (ac g2 M1.out)
    obtain⟨d0,d1,d2⟩:=tri8 (ac g2 D1x.out)
    have M2:=ab n2'
    have Z2:=ab (o2 _ _ HNE.out (ac g2 Z1.out))
    have D2x:=ab (o2 _ _ (by have h1:=lt_of_block M1.out;have h2:=lt_of_block D1x.out;have h3:=HOLD.out;omega) (ac g2 D1x.out))
    have L2:=ab (s2 _ _ _ _ _ _ _ (HX2.out.below (ae B1.out g2)))
    have H2:=ab (s2 _ _ _ _ _ _ _ (H1.out.below g2))
    have B2:=ab (l2 _ _ (ae B1.out g2) HGE.out)
    clear g2 n2' o2 l2 s2
    go_upto_region 7 with fail
    clear hW2 m0 m1 m2 m3 m4 m5 d0 d1 d2 hf1
    have C:=cC q qa qn qk qe b2 a2 n2 k2 ex2 L VH V2 W2 H2.out (HX2.out.below B2.out) LL.out
    obtain⟨D2,hD2⟩:∃D,decide (VH<V2)=D:=⟨_,rfl⟩
    rw [hD2] at C
    have ED2:=ab hD2
    clear hD2
    obtain⟨m0,m1,m2,m3,m4,m5⟩:=hexa M2.out
    obtain⟨d0,d1,d2⟩:=tri8 D2x.out
    cases D2
    ·skip
     go_wp2_with fail
     refine C.mono ?_
     rintro e t3 ⟨rfl,g3⟩
     clear C m0 m1 m2 m3 m4 m5 d0 d1 d2
     have M3:=ab (ac g3 M2.out)
     have Z3:=ab (ac g3 Z2.out)
     have L3:=ab (L2.out.below g3)
     have H3:=ab (H2.out.below g3)
     have B3:=ab (ae B2.out g3)
     clear g3
     go_wp2
     go_roundw
     case rel=>exact⟨1,b2,a2,n2,k2,ex2,q,qa,qn,qk,qe,_,_,by omega,by go_num,(fun h=>absurd h (by decide)),(fun _=>⟨(by have g:=of_decide_eq_true ED1.out;have e:=EE.out.1;omega),(by have g:=of_decide_eq_false ED2.out;have e:=EE.out.2;omega)⟩),(fun h=>absurd h (by decide)),(fun h=>absurd h (by decide)),M3.out,L3.out,H3.out,Z3.out,B3.out⟩
     case measure=>simp [intOf]
    ·skip
     go_wp2_with fail
     refine C.mono ?_
     rintro e t3 ⟨rfl,g3⟩
     clear C m0 m1 m2 m3 m4 m5 d0 d1 d2
     obtain⟨W4,hW4,n4',o4,l4,s4⟩:=hi3 (ac g3 M2.out) b2 a2 n2 k2 ex2
     obtain⟨m0,m1,m2,m3,m4,m5⟩:=hexa (ac g3 M2.out)
     have hf1:=aD (ac g3 M2.out)
     obtain⟨d0,d1,d2⟩:=tri8 (ac g3 D2x.out)
     have M3:=ab n4'
     have Z3:=ab (o4 _ _ HNE.out (ac g3 Z2.out))
     have L3:=ab (s4 _ _ _ _ _ _ _ (L2.out.below g3))
     have H3:=ab (s4 _ _ _ _ _ _ _ ((HX2.out.below (ae B2.out g3))))
     have B3:=ab (l4 _ _ (ae B2.out g3) HGE.out)
     clear g3 n4' o4 l4 s4
     go_wp2
     clear hW4 m0 m1 m2 m3 m4 m5 d0 d1 d2 hf1
     go_roundw
     case rel=>exact⟨1,b2,a2,n2,k2,ex2,b2,a2,n2,k2,ex2,_,_,by omega,by go_num,(fun h=>absurd h (by decide)),(fun _=>⟨(by have g:=of_decide_eq_true ED1.out;have e:=EE.out.1;omega),(by have g:=of_decide_eq_true ED2.out;have e:=EE.out.2;omega)⟩),(fun h=>absurd h (by decide)),(fun h=>absurd h (by decide)),M3.out,L3.out,H3.out,Z3.out,B3.out⟩
     case measure=>simp [intOf]
  ·have EE:=ab (E1.out rfl)
   clear E0 E1 E2 E3
   obtain⟨u1,hu1,hbu,qu⟩:=af wr (.cells #[.bool b3,.slice a3 n3 k3,.int .i64 ex3] 31)
   have CS:=ac HB.out HG.out
   have c0:wr.cell? ⟨gs,6,none⟩=some (.bool b3):=by simp [World.cell?,CS]
   have c1:wr.cell? ⟨gs,7,none⟩=some (.slice a3 n3 k3):=by simp [World.cell?,CS]
   have c2:wr.cell? ⟨gs,8,none⟩=some (.int .i64 ex3):=by simp [World.cell?,CS]
   have hbu1:=ae HB.out hbu
   have C:=cC b3 a3 n3 k3 ex3 p pa pn pk pe L V3 VL u1 (HX3.out.below hbu1) (HLo.out.below hbu) LL.out
   have M1:=ab (ac hbu HM.out)
   have Z1:=ab (ac hbu HZ.out)
   have D1x:=ab qu
   have L1:=ab (HLo.out.below hbu)
   have H1:=ab (HHi.out.below hbu)
   have B1:=ab hbu1
   obtain⟨m0,m1,m2,m3,m4,m5⟩:=hexa M1.out
   obtain⟨d0,d1,d2⟩:=tri8 D1x.out
   obtain⟨D1,hD1⟩:∃D,decide (V3<VL)=D:=⟨_,rfl⟩
   rw [hD1] at C
   have ED1:=ab hD1
   clear CS hbu hbu1 qu hD1 HM HZ HLo HHi HB
   cases D1
   ·skip
    go_wp2_with fail
    refine C.mono ?_
    rintro e t2 ⟨rfl,g2⟩
    clear C m0 m1 m2 m3 m4 m5 d0 d1 d2 c0 c1 c2 hu1
    have M2:=ab (ac g2 M1.out)
    have Z2:=ab (ac g2 Z1.out)
    have D2x:=ab (ac g2 D1x.out)
    have L2:=ab (L1.out.below g2)
    have H2:=ab (H1.out.below g2)
    have B2:=ab (ae B1.out g2)
    clear g2
    have C:=cC q qa qn qk qe b3 a3 n3 k3 ex3 L VH V3 t2 H2.out (HX3.out.below B2.out) LL.out
    obtain⟨D2,hD2⟩:∃D,decide (VH<V3)=D:=⟨_,rfl⟩
    rw [hD2] at C
    have ED2:=ab hD2
    clear hD2
    obtain⟨m0,m1,m2,m3,m4,m5⟩:=hexa M2.out
    obtain⟨d0,d1,d2⟩:=tri8 D2x.out
    cases D2
    ·skip
     go_wp2_with fail
     refine C.mono ?_
     rintro e t3 ⟨rfl,g3⟩
     clear C m0 m1 m2 m3 m4 m5 d0 d1 d2
     have M3:=ab (ac g3 M2.out)
     have Z3:=ab (ac g3 Z2.out)
     have L3:=ab (L2.out.below g3)
     have H3:=ab (H2.out.below g3)
     have B3:=ab (ae B2.out g3)
     clear g3
     go_wp2
     go_roundw
     case rel=>exact⟨2,p,pa,pn,pk,pe,q,qa,qn,qk,qe,_,_,by omega,by go_num,(fun h=>absurd h (by decide)),(fun h=>absurd h (by decide)),(fun _=>⟨(by have g:=of_decide_eq_false ED1.out;have e:=EE.out.1;omega),(by have g:=of_decide_eq_false ED2.out;have e:=EE.out.2;omega)⟩),(fun h=>absurd h (by decide)),M3.out,L3.out,H3.out,Z3.out,B3.out⟩
     case measure=>simp [intOf]
    ·skip
     go_wp2_with fail
     refine C.mono ?_
     rintro e t3 ⟨rfl,g3⟩
     clear C m0 m1 m2 m3 m4 m5 d0 d1 d2
     obtain⟨W4,hW4,n4',o4,l4,s4⟩:=hi3 (ac g3 M2.out) b3 a3 n3 k3 ex3
     obtain⟨m0,m1,m2,m3,m4,m5⟩:=hexa (ac g3 M2.out)
     have hf1:=aD (ac g3 M2.out)
     obtain⟨d0,d1,d2⟩:=tri8 (ac g3 D2x.out)
     have M3:=ab n4'
     have Z3:=ab (o4 _ _ HNE.out (ac g3 Z2.out))
     have L3:=ab (s4 _ _ _ _ _ _ _ (L2.out.below g3))
     have H3:=ab (s4 _ _ _ _ _ _ _ ((HX3.out.below (ae B2.out g3))))
     have B3:=ab (l4 _ _ (ae B2.out g3) HGE.out)
     clear g3 n4' o4 l4 s4
     go_wp2
     clear hW4 m0 m1 m2 m3 m4 m5 d0 d1 d2 hf1
     go_roundw
     case rel=>exact⟨2,p,pa,pn,pk,pe,b3,a3,n3,k3,ex3,_,_,by omega,by go_num,(fun h=>absurd h (by decide)),(fun h=>absurd h (by decide)),(fun _=>⟨(by have g:=of_decide_eq_false ED1.out;have e:=EE.out.1;omega),(by have g:=of_decide_eq_true ED2.out;have e:=EE.out.2;omega)⟩),(fun h=>absurd h (by decide)),M3.out,L3.out,H3.out,Z3.out,B3.out⟩
     case measure=>simp [intOf]
   ·skip
    go_wp2_with fail
    refine C.mono ?_
    rintro e t2 ⟨rfl,g2⟩
    clear C m0 m1 m2 m3 m4 m5 d0 d1 d2 c0 c1 c2 hu1
    obtain⟨W2,hW2,n2',o2,l2,s2⟩:=lo3 (ac g2 M1.out) b3 a3 n3 k3 ex3
    obtain⟨m0,m1,m2,m3,m4,m5⟩:=hexa (ac g2 M1.out)
    have hf1:=aD (ac g2 M1.out)
    obtain⟨d0,d1,d2⟩:=tri8 (ac g2 D1x.out)
    have M2:=ab n2'
    have Z2:=ab (o2 _ _ HNE.out (ac g2 Z1.out))
    have D2x:=ab (o2 _ _ (by have h1:=lt_of_block M1.out;have h2:=lt_of_block D1x.out;have h3:=HOLD.out;omega) (ac g2 D1x.out))
    have L2:=ab (s2 _ _ _ _ _ _ _ (HX3.out.below (ae B1.out g2)))
    have H2:=ab (s2 _ _ _ _ _ _ _ (H1.out.below g2))
    have B2:=ab (l2 _ _ (ae B1.out g2) HGE.out)
    clear g2 n2' o2 l2 s2
    go_upto_region 7 with fail
    clear hW2 m0 m1 m2 m3 m4 m5 d0 d1 d2 hf1
    have C:=cC q qa qn qk qe b3 a3 n3 k3 ex3 L VH V3 W2 H2.out (HX3.out.below B2.out) LL.out
    obtain⟨D2,hD2⟩:∃D,decide (VH<V3)=D:=⟨_,rfl⟩
    rw [hD2] at C
    have ED2:=ab hD2
    clear hD2
    obtain⟨m0,m1,m2,m3,m4,m5⟩:=hexa M2.out
    obtain⟨d0,d1,d2⟩:=tri8 D2x.out
    cases D2
    ·skip
     go_wp2_with fail
     refine C.mono ?_
     rintro e t3 ⟨rfl,g3⟩
     clear C m0 m1 m2 m3 m4 m5 d0 d1 d2
     have M3:=ab (ac g3 M2.out)
     have Z3:=ab (ac g3 Z2.out)
     have L3:=ab (L2.out.below g3)
     have H3:=ab (H2.out.below g3)
     have B3:=ab (ae B2.out g3)
     clear g3
     go_wp2
     go_roundw
     case rel=>exact⟨2,b3,a3,n3,k3,ex3,q,qa,qn,qk,qe,_,_,by omega,by go_num,(fun h=>absurd h (by decide)),(fun h=>absurd h (by decide)),(fun _=>⟨(by have g:=of_decide_eq_true ED1.out;have e:=EE.out.1;omega),(by have g:=of_decide_eq_false ED2.out;have e:=EE.out.2;omega)⟩),(fun h=>absurd h (by decide)),M3.out,L3.out,H3.out,Z3.out,B3.out⟩
     case measure=>simp [intOf]
    ·skip
     go_wp2_with fail
     refine C.mono ?_
     rintro e t3 ⟨rfl,g3⟩
     clear C m0 m1 m2 m3 m4 m5 d0 d1 d2
     obtain⟨W4,hW4,n4',o4,l4,s4⟩:=hi3 (ac g3 M2.out) b3 a3 n3 k3 ex3
     obtain⟨m0,m1,m2,m3,m4,m5⟩:=hexa (ac g3 M2.out)
     have hf1:=aD (ac g3 M2.out)
     obtain⟨d0,d1,d2⟩:=tri8 (ac g3 D2x.out)
     have M3:=ab n4'
     have Z3:=ab (o4 _ _ HNE.out (ac g3 Z2.out))
     have L3:=ab (s4 _ _ _ _ _ _ _ (L2.out.below g3))
     have H3:=ab (s4 _ _ _ _ _ _ _ ((HX3.out.below (ae B2.out g3))))
     have B3:=ab (l4 _ _ (ae B2.out g3) HGE.out)
     clear g3 n4' o4 l4 s4
     go_wp2
     clear hW4 m0 m1 m2 m3 m4 m5 d0 d1 d2 hf1
     go_roundw
     case rel=>exact⟨2,b3,a3,n3,k3,ex3,b3,a3,n3,k3,ex3,_,_,by omega,by go_num,(fun h=>absurd h (by decide)),(fun h=>absurd h (by decide)),(fun _=>⟨(by have g:=of_decide_eq_true ED1.out;have e:=EE.out.1;omega),(by have g:=of_decide_eq_true ED2.out;have e:=EE.out.2;omega)⟩),(fun h=>absurd h (by decide)),M3.out,L3.out,H3.out,Z3.out,B3.out⟩
     case measure=>simp [intOf]
  ·have EE:=ab (E2.out rfl)
   clear E0 E1 E2 E3
   obtain⟨u1,hu1,hbu,qu⟩:=af wr (.cells #[.bool b4,.slice a4 n4 k4,.int .i64 ex4] 31)
   have CS:=ac HB.out HG.out
   have c0:wr.cell? ⟨gs,9,none⟩=some (.bool b4):=by simp [World.cell?,CS]
   have c1:wr.cell? ⟨gs,10,none⟩=some (.slice a4 n4 k4):=by simp [World.cell?,CS]
   have c2:wr.cell? ⟨gs,11,none⟩=some (.int .i64 ex4):=by simp [World.cell?,CS]
   have hbu1:=ae HB.out hbu
   have C:=cC b4 a4 n4 k4 ex4 p pa pn pk pe L V4 VL u1 (HX4.out.below hbu1) (HLo.out.below hbu) LL.out
   have M1:=ab (ac hbu HM.out)
   have Z1:=ab (ac hbu HZ.out)
   have D1x:=ab qu
   have L1:=ab (HLo.out.below hbu)
   have H1:=ab (HHi.out.below hbu)
   have B1:=ab hbu1
   obtain⟨m0,m1,m2,m3,m4,m5⟩:=hexa M1.out
   obtain⟨d0,d1,d2⟩:=tri8 D1x.out
   obtain⟨D1,hD1⟩:∃D,decide (V4<VL)=D:=⟨_,rfl⟩
   rw [hD1] at C
   have ED1:=ab hD1
   clear CS hbu hbu1 qu hD1 HM HZ HLo HHi HB
   cases D1
   ·skip
    go_wp2_with fail
    refine C.mono ?_
    rintro e t2 ⟨rfl,g2⟩
    clear C m0 m1 m2 m3 m4 m5 d0 d1 d2 c0 c1 c2 hu1
    have M2:=ab (ac g2 M1.out)
    have Z2:=ab (ac g2 Z1.out)
    have D2x:=ab (ac g2 D1x.out)
    have L2:=ab (L1.out.below g2)
    have H2:=ab (H1.out.below g2)
    have B2:=ab (ae B1.out g2)
    clear g2
    have C:=cC q qa qn qk qe b4 a4 n4 k4 ex4 L VH V4 t2 H2.out (HX4.out.below B2.out) LL.out
    obtain⟨D2,hD2⟩:∃D,decide (VH<V4)=D:=⟨_,rfl⟩
    rw [hD2] at C
    have ED2:=ab hD2
    clear hD2
    obtain⟨m0,m1,m2,m3,m4,m5⟩:=hexa M2.out
    obtain⟨d0,d1,d2⟩:=tri8 D2x.out
    cases D2
    ·skip
     go_wp2_with fail
     refine C.mono ?_
     rintro e t3 ⟨rfl,g3⟩
     clear C m0 m1 m2 m3 m4 m5 d0 d1 d2
     have M3:=ab (ac g3 M2.out)
     have Z3:=ab (ac g3 Z2.out)
     have L3:=ab (L2.out.below g3)
     have H3:=ab (H2.out.below g3)
     have B3:=ab (ae B2.out g3)
     clear g3
     go_wp2
     go_roundw
     case rel=>exact⟨3,p,pa,pn,pk,pe,q,qa,qn,qk,qe,_,_,by omega,by go_num,(fun h=>absurd h (by decide)),(fun h=>absurd h (by decide)),(fun h=>absurd h (by decide)),(fun _=>⟨(by have g:=of_decide_eq_false ED1.out;have e:=EE.out.1;omega),(by have g:=of_decide_eq_false ED2.out;have e:=EE.out.2;omega)⟩),M3.out,L3.out,H3.out,Z3.out,B3.out⟩
     case measure=>simp [intOf]
    ·skip
     go_wp2_with fail
     refine C.mono ?_
     rintro e t3 ⟨rfl,g3⟩
     clear C m0 m1 m2 m3 m4 m5 d0 d1 d2
     obtain⟨W4,hW4,n4',o4,l4,s4⟩:=hi3 (ac g3 M2.out) b4 a4 n4 k4 ex4
     obtain⟨m0,m1,m2,m3,m4,m5⟩:=hexa (ac g3 M2.out)
     have hf1:=aD (ac g3 M2.out)
     obtain⟨d0,d1,d2⟩:=tri8 (ac g3 D2x.out)
     have M3:=ab n4'
     have Z3:=ab (o4 _ _ HNE.out (ac g3 Z2.out))
     have L3:=ab (s4 _ _ _ _ _ _ _ (L2.out.below g3))
     have H3:=ab (s4 _ _ _ _ _ _ _ ((HX4.out.below (ae B2.out g3))))
     have B3:=ab (l4 _ _ (ae B2.out g3) HGE.out)
     clear g3 n4' o4 l4 s4
     go_wp2
     clear hW4 m0 m1 m2 m3 m4 m5 d0 d1 d2 hf1
     go_roundw
     case rel=>exact⟨3,p,pa,pn,pk,pe,b4,a4,n4,k4,ex4,_,_,by omega,by go_num,(fun h=>absurd h (by decide)),(fun h=>absurd h (by decide)),(fun h=>absurd h (by decide)),(fun _=>⟨(by have g:=of_decide_eq_false ED1.out;have e:=EE.out.1;omega),(by have g:=of_decide_eq_true ED2.out;have e:=EE.out.2;omega)⟩),M3.out,L3.out,H3.out,Z3.out,B3.out⟩
     case measure=>simp [intOf]
   ·skip
    go_wp2_with fail
    refine C.mono ?_
    rintro e t2 ⟨rfl,g2⟩
    clear C m0 m1 m2 m3 m4 m5 d0 d1 d2 c0 c1 c2 hu1
    obtain⟨W2,hW2,n2',o2,l2,s2⟩:=lo3 (ac g2 M1.out) b4 a4 n4 k4 ex4
    obtain⟨m0,m1,m2,m3,m4,m5⟩:=hexa (ac g2 M1.out)
    have hf1:=aD (ac g2 M1.out)
    obtain⟨d0,d1,d2⟩:=tri8 (ac g2 D1x.out)
    have M2:=ab n2'
    have Z2:=ab (o2 _ _ HNE.out (ac g2 Z1.out))
    have D2x:=ab (o2 _ _ (by have h1:=lt_of_block M1.out;have h2:=lt_of_block D1x.out;have h3:=HOLD.out;omega) (ac g2 D1x.out))
    have L2:=ab (s2 _ _ _ _ _ _ _ (HX4.out.below (ae B1.out g2)))
    have H2:=ab (s2 _ _ _ _ _ _ _ (H1.out.below g2))
    have B2:=ab (l2 _ _ (ae B1.out g2) HGE.out)
    clear g2 n2' o2 l2 s2
    go_upto_region 7 with fail
    clear hW2 m0 m1 m2 m3 m4 m5 d0 d1 d2 hf1
    have C:=cC q qa qn qk qe b4 a4 n4 k4 ex4 L VH V4 W2 H2.out (HX4.out.below B2.out) LL.out
    obtain⟨D2,hD2⟩:∃D,decide (VH<V4)=D:=⟨_,rfl⟩
    rw [hD2] at C
    have ED2:=ab hD2
    clear hD2
    obtain⟨m0,m1,m2,m3,m4,m5⟩:=hexa M2.out
    obtain⟨d0,d1,d2⟩:=tri8 D2x.out
    cases D2
    ·skip
     go_wp2_with fail
     refine C.mono ?_
     rintro e t3 ⟨rfl,g3⟩
     clear C m0 m1 m2 m3 m4 m5 d0 d1 d2
     have M3:=ab (ac g3 M2.out)
     have Z3:=ab (ac g3 Z2.out)
     have L3:=ab (L2.out.below g3)
     have H3:=ab (H2.out.below g3)
     have B3:=ab (ae B2.out g3)
     clear g3
     go_wp2
     go_roundw
     case rel=>exact⟨3,b4,a4,n4,k4,ex4,q,qa,qn,qk,qe,_,_,by omega,by go_num,(fun h=>absurd h (by decide)),(fun h=>absurd h (by decide)),(fun h=>absurd h (by decide)),(fun _=>⟨(by have g:=of_decide_eq_true ED1.out;have e:=EE.out.1;omega),(by have g:=of_decide_eq_false ED2.out;have e:=EE.out.2;omega)⟩),M3.out,L3.out,H3.out,Z3.out,B3.out⟩
     case measure=>simp [intOf]
    ·skip
     go_wp2_with fail
     refine C.mono ?_
     rintro e t3 ⟨rfl,g3⟩
     clear C m0 m1 m2 m3 m4 m5 d0 d1 d2
     obtain⟨W4,hW4,n4',o4,l4,s4⟩:=hi3 (ac g3 M2.out) b4 a4 n4 k4 ex4
     obtain⟨m0,m1,m2,m3,m4,m5⟩:=hexa (ac g3 M2.out)
     have hf1:=aD (ac g3 M2.out)
     obtain⟨d0,d1,d2⟩:=tri8 (ac g3 D2x.out)
     have M3:=ab n4'
     have Z3:=ab (o4 _ _ HNE.out (ac g3 Z2.out))
     have L3:=ab (s4 _ _ _ _ _ _ _ (L2.out.below g3))
     have H3:=ab (s4 _ _ _ _ _ _ _ ((HX4.out.below (ae B2.out g3))))
     have B3:=ab (l4 _ _ (ae B2.out g3) HGE.out)
     clear g3 n4' o4 l4 s4
     go_wp2
     clear hW4 m0 m1 m2 m3 m4 m5 d0 d1 d2 hf1
     go_roundw
     case rel=>exact⟨3,b4,a4,n4,k4,ex4,b4,a4,n4,k4,ex4,_,_,by omega,by go_num,(fun h=>absurd h (by decide)),(fun h=>absurd h (by decide)),(fun h=>absurd h (by decide)),(fun _=>⟨(by have g:=of_decide_eq_true ED1.out;have e:=EE.out.1;omega),(by have g:=of_decide_eq_true ED2.out;have e:=EE.out.2;omega)⟩),M3.out,L3.out,H3.out,Z3.out,B3.out⟩
     case measure=>simp [intOf]
  ·have EE:=ab (E3.out rfl)
   clear E0 E1 E2 E3
   obtain⟨m0,m1,m2,m3,m4,m5⟩:=hexa HM.out
   obtain⟨z0,z1,z2,z3,z4,z5⟩:=hexa HZ.out
   have zf:=aD HZ.out
   go_wp2
   have T3:=aK HZ.out (.bool p) (.slice pa pn pk) (.int .i64 pe) (.bool q) (.slice qa qn qk) (.int .i64 qe)
   have T4:=aG HB.out (show w.heap.size≤w.heap.size+1 by omega) (.bool p) (.slice pa pn pk) (.int .i64 pe) (.bool q) (.slice qa qn qk) (.int .i64 qe)
   have T5:=HLo.out.hexa HZ.out p pa pn pk pe q qa qn qk qe
   have T6:=HHi.out.hexa HZ.out p pa pn pk pe q qa qn qk qe
   obtain⟨p0,p1,p2,p3,p4,p5⟩:=hexa T3
   have HE:=ab (And.intro T5 (And.intro T6 T4))
   clear T3 T4 T5 T6
   generalize (((((wr.setCell ⟨w.heap.size+1,0,none⟩ (.bool p)).setCell ⟨w.heap.size+1,1,none⟩ (.slice pa pn pk)).setCell ⟨w.heap.size+1,2,none⟩ (.int .i64 pe)).setCell ⟨w.heap.size+1,3,none⟩ (.bool q)).setCell ⟨w.heap.size+1,4,none⟩ (.slice qa qn qk)).setCell ⟨w.heap.size+1,5,none⟩ (.int .i64 qe)=w5 at *
   refine bodyPost_ret (v:=.agg #[.bool p,.slice pa pn pk,.int .i64 pe,.bool q,.slice qa qn qk,.int .i64 qe]) (by simp [results,Tryz.results55,go_sem,p0,p1,p2,p3,p4,p5]) rfl ?_
   have x1:=HE.out.1
   have x2:=HE.out.2.1
   rw [EE.out.1] at x1
   rw [EE.out.2] at x2
   exact⟨⟨_,_,_,_,_,_,_,_,_,_,rfl,x1,x2⟩,HE.out.2.2⟩

theorem eo {w:World}{g:Nat}{a b c d:Value}{t:TypeId}(h:w.heap[g]?=some (.cells #[a,b,c,d] t)):w.cell? ⟨g,0,none⟩=some a∧w.cell? ⟨g,1,none⟩=some b∧w.cell? ⟨g,2,none⟩=some c∧w.cell? ⟨g,3,none⟩=some d:=by
 simp [World.cell?,h]

def bk (c1 c2 c3 c4:Int):Int:=ak (ak (ak (ak 0 c1) c2) c3) c4

def bv (t c:Int):Int:=if c=0 then t else c

theorem oc {c1 c2 c3 c4:Int}(h1:c1≠3)(h2:c2≠3)(h3:c3≠3)(h4:c4≠3):bk c1 c2 c3 c4=bv (bv (bv (bv 0 c1) c2) c3) c4:=by
 have e:∀t c:Int,t≠3→c≠3→ak t c=bv t c∧bv t c≠3:=by
  intro t c ht hc
  unfold ak bv
  rw [if_neg ht,if_neg hc]
  refine⟨rfl,?_⟩
  split <;> assumption
 unfold bk
 obtain⟨a1,b1⟩:=e 0 c1 (by decide) h1
 rw [a1]
 obtain⟨a2,b2⟩:=e _ c2 b1 h2
 rw [a2]
 obtain⟨a3,b3⟩:=e _ c3 b2 h3
 rw [a3,(e _ c4 b3 h4).1]

theorem dt (c:Int):ak 3 c=3:=by unfold ak;rw [if_pos rfl]

theorem ew (t:Int):ak t 3=3:=by unfold ak;split <;> rfl

theorem s7 {c1 c2 c3 c4:Int}(h:c1=3∨c2=3∨c3=3∨c4=3):bk c1 c2 c3 c4=3:=by
 unfold bk
 rcases h with rfl|rfl|rfl|rfl
 ·rw [ew,dt,dt,dt]
 ·rw [ew,dt,dt]
 ·rw [ew,dt]
 ·rw [ew]

theorem lw {c1 c2 c3 c4:Int}(h:bk c1 c2 c3 c4=0):c1=0∧c2=0∧c3=0∧c4=0:=by
 unfold bk at h
 obtain⟨h3,h4⟩:=cK.1 h
 obtain⟨h2,h3⟩:=cK.1 h3
 obtain⟨h1,h2⟩:=cK.1 h2
 exact⟨(cK.1 h1).2,h2,h3,h4⟩

theorem refusal4 (g:Nat)(c1 c2 c3 c4:Int)(t:TypeId)(w:World)(hL:w.heap[g]?=some (.cells #[.int .i64 c1,.int .i64 c2,.int .i64 c3,.int .i64 c4] t)) :
  Calls Tryz.prog 54 #[.slice (some ⟨g,0,none⟩) 4 4] w fun e w'=>e=.returned (.int .i64 (bk c1 c2 c3 c4))∧w'=w:=by
 obtain⟨d0,d1,d2,d3⟩:=eo hL
 clear hL
 obtain⟨R,hR⟩:∃R,bk c1 c2 c3 c4=R:=⟨_,rfl⟩
 obtain⟨r1,e1⟩:∃r,bv 0 c1=r:=⟨_,rfl⟩
 obtain⟨r2,e2⟩:∃r,bv r1 c2=r:=⟨_,rfl⟩
 obtain⟨r3,e3⟩:∃r,bv r2 c3=r:=⟨_,rfl⟩
 obtain⟨r4,e4⟩:∃r,bv r3 c4=r:=⟨_,rfl⟩
 have K3:Hid ((c1=3∨c2=3∨c3=3∨c4=3)→R=3):=ab fun h=>by rw [←hR];exact s7 h
 have KN:Hid (c1≠3→c2≠3→c3≠3→c4≠3→R=r4):=ab fun h1 h2 h3 h4=>by rw [←hR,oc h1 h2 h3 h4,e1,e2,e3,e4]
 have E1:=ab e1
 have E2:=ab e2
 have E3:=ab e3
 have E4:=ab e4
 rw [hR]
 clear hR e1 e2 e3 e4
 go_enter Tryz.func54,Tryz.ntmps54
 go_wp2
 go_loop [3,8] (fun t i=>∃(k:Nat) (x:Int),k≤4∧t=.int .i64 x∧i=.int .i64 k∧(k=0→x=0)∧(k=1→x=r1∧c1≠3)∧(k=2→x=r2∧c1≠3∧c2≠3)∧(k=3→x=r3∧c1≠3∧c2≠3∧c3≠3)∧(k=4→x=r4∧c1≠3∧c2≠3∧c3≠3∧c4≠3)) (fun _ i=>4 - (intOf i).toNat)
 case atStart=>exact⟨0,0,by omega,rfl,rfl,fun _=>rfl,fun h=>absurd h (by decide),fun h=>absurd h (by decide),fun h=>absurd h (by decide),fun h=>absurd h (by decide)⟩
 case round=>
  obtain⟨k,x,hk,rfl,rfl,h0,h1,h2,h3,h4⟩:=hrel
  rcases (show k=0∨k=1∨k=2∨k=3∨k=4 by omega) with rfl|rfl|rfl|rfl|rfl
  ·obtain rfl:=h0 rfl
   clear h0 h1 h2 h3 h4
   by_cases hc:c1=3
   ·subst hc
    have hr:=K3.out (.inl rfl)
    subst hr
    go_wp2
    go_ret
    exact⟨rfl,rfl⟩
   ·have i1:(c1 == 3)=false:=by rw [beq_eq_false_iff_ne];exact hc
    have HC:=ab hc
    clear hc
    by_cases hz:c1=0
    ·have hx:0=r1:=by rw [←E1.out];unfold bv;rw [if_pos hz]
     have HX:=ab hx
     subst hz
     clear hx
     go_wp2
     go_round
     case rel=>exact⟨1,_,by omega,rfl,by go_num,fun h=>absurd h (by decide),fun _=>⟨HX.out,HC.out⟩,fun h=>absurd h (by decide),fun h=>absurd h (by decide),fun h=>absurd h (by decide)⟩
     case measure=>simp [intOf]
    ·have i2:(c1 != 0)=true:=by simpa using hz
     have hx:c1=r1:=by rw [←E1.out];unfold bv;rw [if_neg hz]
     have HX:=ab hx
     clear hz hx
     go_wp2
     go_round
     case rel=>exact⟨1,_,by omega,rfl,by go_num,fun h=>absurd h (by decide),fun _=>⟨HX.out,HC.out⟩,fun h=>absurd h (by decide),fun h=>absurd h (by decide),fun h=>absurd h (by decide)⟩
     case measure=>simp [intOf]
  ·obtain⟨rfl,n1⟩:=h1 rfl
   have N1:=ab n1
   clear h0 h1 h2 h3 h4 n1
   by_cases hc:c2=3
   ·subst hc
    have hr:=K3.out (.inr (.inl rfl))
    subst hr
    go_wp2
    go_ret
    exact⟨rfl,rfl⟩
   ·have i1:(c2 == 3)=false:=by rw [beq_eq_false_iff_ne];exact hc
    have HC:=ab hc
    clear hc
    by_cases hz:c2=0
    ·have hx:x=r2:=by rw [←E2.out];unfold bv;rw [if_pos hz]
     have HX:=ab hx
     subst hz
     clear hx
     go_wp2
     go_round
     case rel=>exact⟨2,_,by omega,rfl,by go_num,fun h=>absurd h (by decide),fun h=>absurd h (by decide),fun _=>⟨HX.out,N1.out,HC.out⟩,fun h=>absurd h (by decide),fun h=>absurd h (by decide)⟩
     case measure=>simp [intOf]
    ·have i2:(c2 != 0)=true:=by simpa using hz
     have hx:c2=r2:=by rw [←E2.out];unfold bv;rw [if_neg hz]
     have HX:=ab hx
     clear hz hx
     go_wp2
     go_round
     case rel=>exact⟨2,_,by omega,rfl,by go_num,fun h=>absurd h (by decide),fun h=>absurd h (by decide),fun _=>⟨HX.out,N1.out,HC.out⟩,fun h=>absurd h (by decide),fun h=>absurd h (by decide)⟩
     case measure=>simp [intOf]
  ·obtain⟨rfl,n1,n2⟩:=h2 rfl
   have N1:=ab n1
   have N2:=ab n2
   clear h0 h1 h2 h3 h4 n1 n2
   by_cases hc:c3=3
   ·subst hc
    have hr:=K3.out (.inr (.inr (.inl rfl)))
    subst hr
    go_wp2
    go_ret
    exact⟨rfl,rfl⟩
   ·have i1:(c3 == 3)=false:=by rw [beq_eq_false_iff_ne];exact hc
    have HC:=ab hc
    clear hc
    by_cases hz:c3=0
    ·have hx:x=r3:=by rw [←E3.out];unfold bv;rw [if_pos hz]
     have HX:=ab hx
     subst hz
     clear hx
     go_wp2
     go_round
     case rel=>exact⟨3,_,by omega,rfl,by go_num,fun h=>absurd h (by decide),fun h=>absurd h (by decide),fun h=>absurd h (by decide),fun _=>⟨HX.out,N1.out,N2.out,HC.out⟩,fun h=>absurd h (by decide)⟩
     case measure=>simp [intOf]
    ·have i2:(c3 != 0)=true:=by simpa using hz
     have hx:c3=r3:=by rw [←E3.out];unfold bv;rw [if_neg hz]
     have HX:=ab hx
     clear hz hx
     go_wp2
     go_round
     case rel=>exact⟨3,_,by omega,rfl,by go_num,fun h=>absurd h (by decide),fun h=>absurd h (by decide),fun h=>absurd h (by decide),fun _=>⟨HX.out,N1.out,N2.out,HC.out⟩,fun h=>absurd h (by decide)⟩
     case measure=>simp [intOf]
  ·obtain⟨rfl,n1,n2,n3⟩:=h3 rfl
   have N1:=ab n1
   have N2:=ab n2
   have N3:=ab n3
   clear h0 h1 h2 h3 h4 n1 n2 n3
   by_cases hc:c4=3
   ·subst hc
    have hr:=K3.out (.inr (.inr (.inr rfl)))
    subst hr
    go_wp2
    go_ret
    exact⟨rfl,rfl⟩
   ·have i1:(c4 == 3)=false:=by rw [beq_eq_false_iff_ne];exact hc
    have HC:=ab hc
    clear hc
    by_cases hz:c4=0
    ·have hx:x=r4:=by rw [←E4.out];unfold bv;rw [if_pos hz]
     have HX:=ab hx
     subst hz
     clear hx
     go_wp2
     go_round
     case rel=>exact⟨4,_,by omega,rfl,by go_num,fun h=>absurd h (by decide),fun h=>absurd h (by decide),fun h=>absurd h (by decide),fun h=>absurd h (by decide),fun _=>⟨HX.out,N1.out,N2.out,N3.out,HC.out⟩⟩
     case measure=>simp [intOf]
    ·have i2:(c4 != 0)=true:=by simpa using hz
     have hx:c4=r4:=by rw [←E4.out];unfold bv;rw [if_neg hz]
     have HX:=ab hx
     clear hz hx
     go_wp2
     go_round
     case rel=>exact⟨4,_,by omega,rfl,by go_num,fun h=>absurd h (by decide),fun h=>absurd h (by decide),fun h=>absurd h (by decide),fun h=>absurd h (by decide),fun _=>⟨HX.out,N1.out,N2.out,N3.out,HC.out⟩⟩
     case measure=>simp [intOf]
  ·obtain⟨rfl,n1,n2,n3,n4⟩:=h4 rfl
   have hr:=KN.out n1 n2 n3 n4
   subst hr
   clear h0 h1 h2 h3 h4
   go_wp2
   go_ret
   exact⟨rfl,rfl⟩

theorem qr (v0 v1 v2 v3 v4 v5 v6 v7 v8 v9 v10 v11 v12 v13 v14 v15 v16 v17 v18 v19 v20 v21 v22 v23:Value)(w:World):(Instr.index 99 (.agg #[v0,v1,v2,v3,v4,v5,v6,v7,v8,v9,v10,v11,v12,v13,v14,v15,v16,v17,v18,v19,v20,v21,v22,v23]) (.int .i64 0)).run Tryz.prog w=.ok (.agg #[v0,v1,v2,v3,v4,v5]) w:=by kernel_rfl

theorem sS (v0 v1 v2 v3 v4 v5 v6 v7 v8 v9 v10 v11 v12 v13 v14 v15 v16 v17 v18 v19 v20 v21 v22 v23:Value)(w:World):(Instr.index 99 (.agg #[v0,v1,v2,v3,v4,v5,v6,v7,v8,v9,v10,v11,v12,v13,v14,v15,v16,v17,v18,v19,v20,v21,v22,v23]) (.int .i64 1)).run Tryz.prog w=.ok (.agg #[v6,v7,v8,v9,v10,v11]) w:=by kernel_rfl

theorem mV (v0 v1 v2 v3 v4 v5 v6 v7 v8 v9 v10 v11 v12 v13 v14 v15 v16 v17 v18 v19 v20 v21 v22 v23:Value)(w:World):(Instr.index 99 (.agg #[v0,v1,v2,v3,v4,v5,v6,v7,v8,v9,v10,v11,v12,v13,v14,v15,v16,v17,v18,v19,v20,v21,v22,v23]) (.int .i64 2)).run Tryz.prog w=.ok (.agg #[v12,v13,v14,v15,v16,v17]) w:=by kernel_rfl

theorem se (v0 v1 v2 v3 v4 v5 v6 v7 v8 v9 v10 v11 v12 v13 v14 v15 v16 v17 v18 v19 v20 v21 v22 v23:Value)(w:World):(Instr.index 99 (.agg #[v0,v1,v2,v3,v4,v5,v6,v7,v8,v9,v10,v11,v12,v13,v14,v15,v16,v17,v18,v19,v20,v21,v22,v23]) (.int .i64 3)).run Tryz.prog w=.ok (.agg #[v18,v19,v20,v21,v22,v23]) w:=by kernel_rfl

attribute [local go_sem] qr sS mV se

theorem DR.off1 {w:World}{base g o:Nat}{b:Bool}{va u:Value}{ex c M E:Int}{cs:Array Value}{t:TypeId}(h:DR w base b va ex c M E)(hl:w.heap[g]?=some (.cells cs t))(ht:t≠108):DR (w.setCell ⟨g,o,none⟩ u) base b va ex c M E:=by
 obtain⟨rs,h1,h2⟩:=h
 exact⟨rs,h1.off8 hl ht,h2⟩

theorem eT {W:World}{gM gE gR o i:Nat}{cs ds:Array Value}{oR:Obj}{tD tE:TypeId}(hM:W.heap[gM]?=some (.cells cs tD))(hE:W.heap[gE]?=some (.cells ds tE))(hR:W.heap[gR]?=some oR)(hne:gM≠gE)(hr1:gR≠gM)(hr2:gR≠gE)(tM:tD≠108)(tE':tE≠108)(u0 u1 u2 u3:Value) :
  ∃S,(((W.setCell ⟨gM,o,none⟩ u0).setCell ⟨gM,o+1,none⟩ u1).setCell ⟨gM,o+2,none⟩ u2).setCell ⟨gE,i,none⟩ u3=S∧S.heap[gM]?=some (.cells (((cs.setIfInBounds o u0).setIfInBounds (o+1) u1).setIfInBounds (o+2) u2) tD)∧S.heap[gE]?=some (.cells (ds.setIfInBounds i u3) tE)∧S.heap[gR]?=some oR∧(∀B w0,Below B w0 W→B≤gM→B≤gE→Below B w0 S)∧(∀base b va ex c M E,DR W base b va ex c M E→DR S base b va ex c M E):=by
 have l1:=aC (k:=o) hM u0
 have l2:=aC (k:=o+1) l1 u1
 have l3:=aC (k:=o+2) l2 u2
 have lE:(((W.setCell ⟨gM,o,none⟩ u0).setCell ⟨gM,o+1,none⟩ u1).setCell ⟨gM,o+2,none⟩ u2).heap[gE]?=some (.cells ds tE):=by
  rw [Below.heap_setCell _ _ _ _ (Ne.symm hne),Below.heap_setCell _ _ _ _ (Ne.symm hne),Below.heap_setCell _ _ _ _ (Ne.symm hne)];exact hE
 refine⟨_,rfl,?_,aC (k:=i) lE u3,?_,fun B w0 h h1 h2=>?_,fun base b va ex c M E h=>?_⟩
 ·rw [Below.heap_setCell _ _ _ _ hne];exact l3
 ·rw [Below.heap_setCell _ _ _ _ hr2,Below.heap_setCell _ _ _ _ hr1,Below.heap_setCell _ _ _ _ hr1,Below.heap_setCell _ _ _ _ hr1];exact hR
 ·exact (((h.setCell (p:=⟨gM,o,none⟩) h1 u0).setCell (p:=⟨gM,o+1,none⟩) h1 u1).setCell (p:=⟨gM,o+2,none⟩) h1 u2).setCell (p:=⟨gE,i,none⟩) h2 u3
 ·exact (((h.off1 (o:=o) (u:=u0) hM tM).off1 (o:=o+1) (u:=u1) l1 tM).off1 (o:=o+2) (u:=u2) l2 tM).off1 (o:=i) (u:=u3) lE tE'

theorem bA {w:World}{g:Nat}{c0 c1 c2 c3 c4 c5 c6 c7 c8 c9 c10 c11:Value}{t:TypeId}(h:w.heap[g]?=some (.cells #[c0,c1,c2,c3,c4,c5,c6,c7,c8,c9,c10,c11] t)):(w.cell? ⟨g,0,none⟩=some c0∧w.cell? ⟨g,1,none⟩=some c1∧w.cell? ⟨g,2,none⟩=some c2)∧(w.cell? ⟨g,3,none⟩=some c3∧w.cell? ⟨g,4,none⟩=some c4∧w.cell? ⟨g,5,none⟩=some c5)∧(w.cell? ⟨g,6,none⟩=some c6∧w.cell? ⟨g,7,none⟩=some c7∧w.cell? ⟨g,8,none⟩=some c8)∧(w.cell? ⟨g,9,none⟩=some c9∧w.cell? ⟨g,10,none⟩=some c10∧w.cell? ⟨g,11,none⟩=some c11):=by
 simp [World.cell?,h]

def dU (w:World)(e:Ending)(w':World)(m:Int)(K:Nat)(VA VB:Int):Prop:=
 (∃b1 a1 n1 k1 e1 b2 a2 n2 k2 e2,e=.returned (.tuple #[.agg #[.bool b1,.slice a1 n1 k1,.int .i64 e1,.bool b2,.slice a2 n2 k2,.int .i64 e2],.int .i64 m])∧(m=0→N8 w' b1 a1 n1 k1 e1 K VA∧N8 w' b2 a2 n2 k2 e2 K VB))∧Below w.heap.size w w'

theorem bC {w:World}{g:Nat}{cs:Array Value}{t:TypeId}(h:w.heap[g]?=some (.cells cs t)):∀k,w.frozen? ⟨g,k,none⟩=false:=fun k=>by simp [World.frozen?,h]

theorem oY (b1:Bool)(a1:Option Addr)(n1 k1:Nat)(ex1:Int)(b2:Bool)(a2:Option Addr)(n2 k2:Nat)(ex2:Int)(b3:Bool)(a3:Option Addr)(n3 k3:Nat)(ex3:Int)(b4:Bool)(a4:Option Addr)(n4 k4:Nat)(ex4:Int)(M1 E1 M2 E2 M3 E3 M4 E4:Int)(K:Nat)(P1 P2 P3 P4:Int)(w:World)(hL:4611686018427387904≤K)(hC1:∀W,Below w.heap.size w W→Calls Tryz.prog 53 #[.agg #[.bool b1,.slice a1 n1 k1,.int .i64 ex1],.agg #[.bool b3,.slice a3 n3 k3,.int .i64 ex3]] W fun e w'=>aO w' W.heap.size e M1 E1∧Below W.heap.size W w')(hC2:∀W,Below w.heap.size w W→Calls Tryz.prog 53 #[.agg #[.bool b1,.slice a1 n1 k1,.int .i64 ex1],.agg #[.bool b4,.slice a4 n4 k4,.int .i64 ex4]] W fun e w'=>aO w' W.heap.size e M2 E2∧Below W.heap.size W w')(hC3:∀W,Below w.heap.size w W→Calls Tryz.prog 53 #[.agg #[.bool b2,.slice a2 n2 k2,.int .i64 ex2],.agg #[.bool b3,.slice a3 n3 k3,.int .i64 ex3]] W fun e w'=>aO w' W.heap.size e M3 E3∧Below W.heap.size W w')(hC4:∀W,Below w.heap.size w W→Calls Tryz.prog 53 #[.agg #[.bool b2,.slice a2 n2 k2,.int .i64 ex2],.agg #[.bool b4,.slice a4 n4 k4,.int .i64 ex4]] W fun e w'=>aO w' W.heap.size e M4 E4∧Below W.heap.size W w')(r1:Rp K M1 E1 P1)(r2:Rp K M2 E2 P2)(r3:Rp K M3 E3 P3)(r4:Rp K M4 E4 P4) :
  Calls Tryz.prog 24 #[.agg #[.bool b1,.slice a1 n1 k1,.int .i64 ex1,.bool b2,.slice a2 n2 k2,.int .i64 ex2],.agg #[.bool b3,.slice a3 n3 k3,.int .i64 ex3,.bool b4,.slice a4 n4 k4,.int .i64 ex4]] w fun e w'=>dU w e w' (bk (ba M1 E1) (ba M2 E2) (ba M3 E3) (ba M4 E4)) K (min (min (min P1 P2) P3) P4) (max (max (max P1 P2) P3) P4):=by
 obtain⟨w0,hw0,hb0,q0,q1,q9⟩:=aE w (.cells #[.bool b1,.slice a1 n1 k1,.int .i64 ex1,.bool b2,.slice a2 n2 k2,.int .i64 ex2] 33) (.cells #[.bool b3,.slice a3 n3 k3,.int .i64 ex3,.bool b4,.slice a4 n4 k4,.int .i64 ex4] 33) (.cells #[.bool false,.slice none 0 0,.int .i64 0,.bool false,.slice none 0 0,.int .i64 0] 33)
 obtain⟨w1,hw1,hb1,qM,qE⟩:=aA w0 (.cells #[.bool false,.slice none 0 0,.int .i64 0,.bool false,.slice none 0 0,.int .i64 0,.bool false,.slice none 0 0,.int .i64 0,.bool false,.slice none 0 0,.int .i64 0] 97) (.cells #[.int .i64 0,.int .i64 0,.int .i64 0,.int .i64 0] 98)
 obtain⟨y0,y1,y2,y3,y4,y5⟩:=hexa (ac hb1 q0)
 obtain⟨z0,z1,z2,z3,z4,z5⟩:=hexa (ac hb1 q1)
 have hlt:w.heap.size+1+1<w0.heap.size:=sV q9
 have HLT:=ab hlt
 have HB0:=ab (ae hb0 hb1)
 have HM0:=ab qM
 have HE0:=ab qE
 have HR0:Hid (w1.heap[w.heap.size+1+1]?=some (.cells #[.bool false,.slice none 0 0,.int .i64 0,.bool false,.slice none 0 0,.int .i64 0] 33)):=ab (ac hb1 q9)
 have C1:=ab hC1
 have C2:=ab hC2
 have C3:=ab hC3
 have C4:=ab hC4
 have HRP:=ab (And.intro r1 (And.intro r2 (And.intro r3 r4)))
 have LL:=ab hL
 obtain⟨Q,hQ⟩:∃Q,bk (ba M1 E1) (ba M2 E2) (ba M3 E3) (ba M4 E4)=Q:=⟨_,rfl⟩
 obtain⟨VA,hVA⟩:∃V,min (min (min P1 P2) P3) P4=V:=⟨_,rfl⟩
 obtain⟨VB,hVB⟩:∃V,max (max (max P1 P2) P3) P4=V:=⟨_,rfl⟩
 rw [hQ,hVA,hVB]
 have HVA:=ab hVA
 have HVB:=ab hVB
 have HQQ:=ab hQ
 clear q0 q1 q9 hb0 hb1 qM qE hlt hC1 hC2 hC3 hC4 r1 r2 r3 r4 hL hQ hVA hVB
 go_enter Tryz.func24,Tryz.ntmps24
 go_wp2
 refine wp_loop_rounds 5 ?_
 rw [rounds_succ]
 obtain⟨u1,hu1,hbu,qu⟩:=af w1 (.cells #[.bool b1,.slice a1 n1 k1,.int .i64 ex1,.bool b3,.slice a3 n3 k3,.int .i64 ex3] 92)
 have HU:=ab (ae HB0.out hbu)
 have C:=C1.out u1 HU.out
 obtain⟨x0,x1,x2,x3,x4,x5⟩:=hexa qu
 go_wp2_with fail
 refine C.mono ?_
 rintro e t1 ⟨⟨x1',xa1,xn1,xk1,xe1,d1,rfl,hg⟩,g⟩
 have gg:=ae hbu g
 have tM:=ac gg HM0.out
 have tE:=ac gg HE0.out
 have tR:=ac gg HR0.out
 have hl:=HLT.out
 obtain⟨S1,hS1,sM,sE,sR,sB,hD⟩:=eT (o:=0) (i:=0) tM tE tR (show w0.heap.size≠w0.heap.size+1 by omega) (show w.heap.size+1+1≠w0.heap.size by omega) (show w.heap.size+1+1≠w0.heap.size+1 by omega) (by decide) (by decide) (.bool x1') (.slice xa1 xn1 xk1) (.int .i64 xe1) (.int .i64 d1)
 have HM1:Hid (S1.heap[w0.heap.size]?=some (.cells #[.bool x1',.slice xa1 xn1 xk1,.int .i64 xe1,.bool false,.slice none 0 0,.int .i64 0,.bool false,.slice none 0 0,.int .i64 0,.bool false,.slice none 0 0,.int .i64 0] 97)):=ab sM
 have HE1:Hid (S1.heap[w0.heap.size+1]?=some (.cells #[.int .i64 d1,.int .i64 0,.int .i64 0,.int .i64 0] 98)):=ab sE
 have HR1:=ab sR
 have HB1:=ab (sB _ _ (ae HU.out g) (show w.heap.size≤w0.heap.size by omega) (show w.heap.size≤w0.heap.size+1 by omega))
 have HD1:=ab (hD _ _ _ _ _ _ _ (hg.base HU.out.size))
 clear C y0 y1 y2 y3 y4 y5 z0 z1 z2 z3 z4 z5 hw0 hw1 x0 x1 x2 x3 x4 x5
 have fM:=bC tM
 have fE:=bC tE
 obtain⟨⟨m0,m1,m2⟩,_,_,_⟩:=bA tM
 obtain⟨m3,_,_,_⟩:=eo tE
 clear gg tM tE tR hl sM sE sR sB hD hg g hbu qu HU HM0 HE0 HR0 HB0 C1
 go_wp2
 rw [rounds_succ]
 obtain⟨u2,hu2,hbu,qu⟩:=af S1 (.cells #[.bool b1,.slice a1 n1 k1,.int .i64 ex1,.bool b4,.slice a4 n4 k4,.int .i64 ex4] 92)
 have HU:=ab (ae HB1.out hbu)
 have C:=C2.out u2 HU.out
 obtain⟨x0,x1,x2,x3,x4,x5⟩:=hexa qu
 go_wp2_with fail
 refine C.mono ?_
 rintro e t2 ⟨⟨x2',xa2,xn2,xk2,xe2,d2,rfl,hg⟩,g⟩
 have gg:=ae hbu g
 have tM:=ac gg HM1.out
 have tE:=ac gg HE1.out
 have tR:=ac gg HR1.out
 have hl:=HLT.out
 obtain⟨S2,hS2,sM,sE,sR,sB,hD⟩:=eT (o:=3) (i:=1) tM tE tR (show w0.heap.size≠w0.heap.size+1 by omega) (show w.heap.size+1+1≠w0.heap.size by omega) (show w.heap.size+1+1≠w0.heap.size+1 by omega) (by decide) (by decide) (.bool x2') (.slice xa2 xn2 xk2) (.int .i64 xe2) (.int .i64 d2)
 have HM2:Hid (S2.heap[w0.heap.size]?=some (.cells #[.bool x1',.slice xa1 xn1 xk1,.int .i64 xe1,.bool x2',.slice xa2 xn2 xk2,.int .i64 xe2,.bool false,.slice none 0 0,.int .i64 0,.bool false,.slice none 0 0,.int .i64 0] 97)):=ab sM
 have HE2:Hid (S2.heap[w0.heap.size+1]?=some (.cells #[.int .i64 d1,.int .i64 d2,.int .i64 0,.int .i64 0] 98)):=ab sE
 have HR2:=ab sR
 have HB2:=ab (sB _ _ (ae HU.out g) (show w.heap.size≤w0.heap.size by omega) (show w.heap.size≤w0.heap.size+1 by omega))
 have HD2:=ab (hD _ _ _ _ _ _ _ (hg.base HU.out.size))
 replace HD1:=ab (hD _ _ _ _ _ _ _ (HD1.out.below gg))
 clear C hS1 hu1 fM fE m0 m1 m2 m3 x0 x1 x2 x3 x4 x5
 have fM:=bC tM
 have fE:=bC tE
 obtain⟨_,⟨m0,m1,m2⟩,_,_⟩:=bA tM
 obtain⟨_,m3,_,_⟩:=eo tE
 clear gg tM tE tR hl sM sE sR sB hD hg g hbu qu HU HM1 HE1 HR1 HB1 C2
 go_wp2
 rw [rounds_succ]
 obtain⟨u3,hu3,hbu,qu⟩:=af S2 (.cells #[.bool b2,.slice a2 n2 k2,.int .i64 ex2,.bool b3,.slice a3 n3 k3,.int .i64 ex3] 92)
 have HU:=ab (ae HB2.out hbu)
 have C:=C3.out u3 HU.out
 obtain⟨x0,x1,x2,x3,x4,x5⟩:=hexa qu
 go_wp2_with fail
 refine C.mono ?_
 rintro e t3 ⟨⟨x3',xa3,xn3,xk3,xe3,d3,rfl,hg⟩,g⟩
 have gg:=ae hbu g
 have tM:=ac gg HM2.out
 have tE:=ac gg HE2.out
 have tR:=ac gg HR2.out
 have hl:=HLT.out
 obtain⟨S3,hS3,sM,sE,sR,sB,hD⟩:=eT (o:=6) (i:=2) tM tE tR (show w0.heap.size≠w0.heap.size+1 by omega) (show w.heap.size+1+1≠w0.heap.size by omega) (show w.heap.size+1+1≠w0.heap.size+1 by omega) (by decide) (by decide) (.bool x3') (.slice xa3 xn3 xk3) (.int .i64 xe3) (.int .i64 d3)
 have HM3:Hid (S3.heap[w0.heap.size]?=some (.cells #[.bool x1',.slice xa1 xn1 xk1,.int .i64 xe1,.bool x2',.slice xa2 xn2 xk2,.int .i64 xe2,.bool x3',.slice xa3 xn3 xk3,.int .i64 xe3,.bool false,.slice none 0 0,.int .i64 0] 97)):=ab sM
 have HE3:Hid (S3.heap[w0.heap.size+1]?=some (.cells #[.int .i64 d1,.int .i64 d2,.int .i64 d3,.int .i64 0] 98)):=ab sE
 have HR3:=ab sR
 have HB3:=ab (sB _ _ (ae HU.out g) (show w.heap.size≤w0.heap.size by omega) (show w.heap.size≤w0.heap.size+1 by omega))
 have HD3:=ab (hD _ _ _ _ _ _ _ (hg.base HU.out.size))
 replace HD1:=ab (hD _ _ _ _ _ _ _ (HD1.out.below gg))
 replace HD2:=ab (hD _ _ _ _ _ _ _ (HD2.out.below gg))
 clear C hS2 hu2 fM fE m0 m1 m2 m3 x0 x1 x2 x3 x4 x5
 have fM:=bC tM
 have fE:=bC tE
 obtain⟨_,_,⟨m0,m1,m2⟩,_⟩:=bA tM
 obtain⟨_,_,m3,_⟩:=eo tE
 clear gg tM tE tR hl sM sE sR sB hD hg g hbu qu HU HM2 HE2 HR2 HB2 C3
 go_wp2
 rw [rounds_succ]
 obtain⟨u4,hu4,hbu,qu⟩:=af S3 (.cells #[.bool b2,.slice a2 n2 k2,.int .i64 ex2,.bool b4,.slice a4 n4 k4,.int .i64 ex4] 92)
 have HU:=ab (ae HB3.out hbu)
 have C:=C4.out u4 HU.out
 obtain⟨x0,x1,x2,x3,x4,x5⟩:=hexa qu
 go_wp2_with fail
 refine C.mono ?_
 rintro e t4 ⟨⟨x4',xa4,xn4,xk4,xe4,d4,rfl,hg⟩,g⟩
 have gg:=ae hbu g
 have tM:=ac gg HM3.out
 have tE:=ac gg HE3.out
 have tR:=ac gg HR3.out
 have hl:=HLT.out
 obtain⟨S4,hS4,sM,sE,sR,sB,hD⟩:=eT (o:=9) (i:=3) tM tE tR (show w0.heap.size≠w0.heap.size+1 by omega) (show w.heap.size+1+1≠w0.heap.size by omega) (show w.heap.size+1+1≠w0.heap.size+1 by omega) (by decide) (by decide) (.bool x4') (.slice xa4 xn4 xk4) (.int .i64 xe4) (.int .i64 d4)
 have HM4:Hid (S4.heap[w0.heap.size]?=some (.cells #[.bool x1',.slice xa1 xn1 xk1,.int .i64 xe1,.bool x2',.slice xa2 xn2 xk2,.int .i64 xe2,.bool x3',.slice xa3 xn3 xk3,.int .i64 xe3,.bool x4',.slice xa4 xn4 xk4,.int .i64 xe4] 97)):=ab sM
 have HE4:Hid (S4.heap[w0.heap.size+1]?=some (.cells #[.int .i64 d1,.int .i64 d2,.int .i64 d3,.int .i64 d4] 98)):=ab sE
 have HR4:=ab sR
 have HB4:=ab (sB _ _ (ae HU.out g) (show w.heap.size≤w0.heap.size by omega) (show w.heap.size≤w0.heap.size+1 by omega))
 have HD4:=ab (hD _ _ _ _ _ _ _ (hg.base HU.out.size))
 replace HD1:=ab (hD _ _ _ _ _ _ _ (HD1.out.below gg))
 replace HD2:=ab (hD _ _ _ _ _ _ _ (HD2.out.below gg))
 replace HD3:=ab (hD _ _ _ _ _ _ _ (HD3.out.below gg))
 clear C hS3 hu3 fM fE m0 m1 m2 m3 x0 x1 x2 x3 x4 x5
 have fM:=bC tM
 have fE:=bC tE
 obtain⟨_,_,_,⟨m0,m1,m2⟩⟩:=bA tM
 obtain⟨_,_,_,m3⟩:=eo tE
 clear gg tM tE tR hl sM sE sR sB hD hg g hbu qu HU HM3 HE3 HR3 HB3 C4
 go_wp2
 rw [rounds_succ]
 have RF:=refusal4 (w0.heap.size+1) d1 d2 d3 d4 98 S4 HE4.out
 have e1:=HD1.out.code
 have e2:=HD2.out.code
 have e3:=HD3.out.code
 have e4:=HD4.out.code
 rw [←e1,←e2,←e3,←e4] at HQQ
 rw [HQQ.out] at RF
 clear e1 e2 e3 e4 fM fE m0 m1 m2 m3 hu4
 by_cases hQ0:Q=0
 ·subst hQ0
  obtain⟨z1,z2,z3,z4⟩:=lw HQQ.out
  have hd1:=HD1.out
  have hd2:=HD2.out
  have hd3:=HD3.out
  have hd4:=HD4.out
  rw [z1] at hd1
  rw [z2] at hd2
  rw [z3] at hd3
  rw [z4] at hd4
  have CH:=ab (fun (W:World) (hg:Below S4.heap.size S4 W)=>oA (w0.heap.size) _ _ _ x1' xa1 xn1 xk1 xe1 x2' xa2 xn2 xk2 xe2 x3' xa3 xn3 xk3 xe3 x4' xa4 xn4 xk4 xe4 K P1 P2 P3 P4 W (ac hg HM4.out) ((hd1.n8 HRP.out.1).below hg) ((hd2.n8 HRP.out.2.1).below hg) ((hd3.n8 HRP.out.2.2.1).below hg) ((hd4.n8 HRP.out.2.2.2).below hg) LL.out)
  rw [HVA.out,HVB.out] at CH
  have KS:=ab (fun (W:World) (hg:Below S4.heap.size S4 W)=>show W.cell? ⟨w0.heap.size,0,none⟩=some (.bool x1')∧W.cell? ⟨w0.heap.size,1,none⟩=some (.slice xa1 xn1 xk1)∧W.cell? ⟨w0.heap.size,2,none⟩=some (.int .i64 xe1) from (bA (ac hg HM4.out)).1)
  have HNE:Hid (w.heap.size+1+1≠w0.heap.size):=ab (by have:=HLT.out;omega)
  have KT:=ab (fun (W:World) (u0 u1 u2 u3 u4 u5:Value) (hg:Below S4.heap.size S4 W)=>show ((((((W.setCell ⟨w.heap.size+1+1,0,none⟩ u0).setCell ⟨w.heap.size+1+1,1,none⟩ u1).setCell ⟨w.heap.size+1+1,2,none⟩ u2).setCell ⟨w.heap.size+1+1,3,none⟩ u3).setCell ⟨w.heap.size+1+1,4,none⟩ u4).setCell ⟨w.heap.size+1+1,5,none⟩ u5).cell? ⟨w0.heap.size,0,none⟩=some (.bool x1')∧((((((W.setCell ⟨w.heap.size+1+1,0,none⟩ u0).setCell ⟨w.heap.size+1+1,1,none⟩ u1).setCell ⟨w.heap.size+1+1,2,none⟩ u2).setCell ⟨w.heap.size+1+1,3,none⟩ u3).setCell ⟨w.heap.size+1+1,4,none⟩ u4).setCell ⟨w.heap.size+1+1,5,none⟩ u5).cell? ⟨w0.heap.size,1,none⟩=some (.slice xa1 xn1 xk1)∧((((((W.setCell ⟨w.heap.size+1+1,0,none⟩ u0).setCell ⟨w.heap.size+1+1,1,none⟩ u1).setCell ⟨w.heap.size+1+1,2,none⟩ u2).setCell ⟨w.heap.size+1+1,3,none⟩ u3).setCell ⟨w.heap.size+1+1,4,none⟩ u4).setCell ⟨w.heap.size+1+1,5,none⟩ u5).cell? ⟨w0.heap.size,2,none⟩=some (.int .i64 xe1) from (bA ((dL (Ne.symm HNE.out) u0 u1 u2 u3 u4 u5).trans (ac hg HM4.out))).1)
  clear z1 z2 z3 z4 hd1 hd2 hd3 hd4
  go_wp2_with fail
  refine RF.mono ?_
  rintro e wn ⟨rfl,hw⟩;rw [hw];clear hw wn RF
  have g0:Below S4.heap.size S4 S4.drew:=(Below.refl _ _).drew
  obtain⟨y0,y1,y2⟩:=KS.out _ g0
  go_upto_region 11 with fail
  go_region_held3 (fun W=>W.cell? ⟨w0.heap.size,0,none⟩=some (.bool x1')∧W.cell? ⟨w0.heap.size,1,none⟩=some (.slice xa1 xn1 xk1)∧W.cell? ⟨w0.heap.size,2,none⟩=some (.int .i64 xe1)) (first|with_reducible exact KS.out _ g1|with_reducible exact KS.out _ g0|with_reducible exact KT.out _ _ _ _ _ _ _ g1) (first
   | (go_at_call 55;refine (CH.out _ g0).mono ?_;rintro e' t9 ⟨⟨b6,a6,n6,c6,e6,b7,a7,n7,c7,e7,rfl,hn1,hn2⟩,hb9⟩;have g1:=ae g0 hb9;have hz:=ac g1 HR4.out;have hf:=aD hz;obtain⟨m0,m1,m2,m3,m4,m5⟩:=hexa hz))
  all_goals
   have T3:=aK hz (.bool b6) (.slice a6 n6 c6) (.int .i64 e6) (.bool b7) (.slice a7 n7 c7) (.int .i64 e7)
   have T4:=aG (ae HB4.out g1) (g:=w.heap.size+1+1) (by omega) (.bool b6) (.slice a6 n6 c6) (.int .i64 e6) (.bool b7) (.slice a7 n7 c7) (.int .i64 e7)
   have T5:=hn1.hexa hz b6 a6 n6 c6 e6 b7 a7 n7 c7 e7
   have T6:=hn2.hexa hz b6 a6 n6 c6 e6 b7 a7 n7 c7 e7
   obtain⟨p0,p1,p2,p3,p4,p5⟩:=hexa T3
   have HE:=ab (And.intro T5 (And.intro T6 T4))
   clear T3 T4 T5 T6 hz hf m0 m1 m2 m3 m4 m5 y0 y1 y2 KS KT CH g0 g1 hb9 hn1 hn2
   generalize (((((t9.setCell ⟨w.heap.size+1+1,0,none⟩ (.bool b6)).setCell ⟨w.heap.size+1+1,1,none⟩ (.slice a6 n6 c6)).setCell ⟨w.heap.size+1+1,2,none⟩ (.int .i64 e6)).setCell ⟨w.heap.size+1+1,3,none⟩ (.bool b7)).setCell ⟨w.heap.size+1+1,4,none⟩ (.slice a7 n7 c7)).setCell ⟨w.heap.size+1+1,5,none⟩ (.int .i64 e7)=w9 at *
   go_wp2
   refine bodyPost_ret (v:=.tuple #[.agg #[.bool b6,.slice a6 n6 c6,.int .i64 e6,.bool b7,.slice a7 n7 c7,.int .i64 e7],.int .i64 0]) (by simp [results,Tryz.results24,go_sem,p0,p1,p2,p3,p4,p5]) rfl ?_
   exact⟨⟨_,_,_,_,_,_,_,_,_,_,rfl,fun _=>⟨HE.out.1,HE.out.2.1⟩⟩,HE.out.2.2⟩
 ·have i9:(Q != 0)=true:=by simpa using hQ0
  have HQ0:=ab hQ0
  have HC1:=HR4
  have HG:=HB4
  have hf1:=aD HC1.out
  obtain⟨m0,m1,m2,m3,m4,m5⟩:=hexa HC1.out
  clear hQ0
  go_wp2_with fail
  refine RF.mono ?_
  rintro e wn ⟨rfl,hw⟩;rw [hw];clear hw wn RF
  go_wp2
  have T3:=aK HC1.out (.bool false) (.slice none 0 0) (.int .i64 0) (.bool false) (.slice none 0 0) (.int .i64 0)
  have T4:=aG HG.out (show w.heap.size≤w.heap.size+1+1 by omega) (.bool false) (.slice none 0 0) (.int .i64 0) (.bool false) (.slice none 0 0) (.int .i64 0)
  obtain⟨p0,p1,p2,p3,p4,p5⟩:=hexa T3
  have HE:=ab T4
  clear T3 T4
  generalize (((((S4.setCell ⟨w.heap.size+1+1,0,none⟩ (.bool false)).setCell ⟨w.heap.size+1+1,1,none⟩ (.slice none 0 0)).setCell ⟨w.heap.size+1+1,2,none⟩ (.int .i64 0)).setCell ⟨w.heap.size+1+1,3,none⟩ (.bool false)).setCell ⟨w.heap.size+1+1,4,none⟩ (.slice none 0 0)).setCell ⟨w.heap.size+1+1,5,none⟩ (.int .i64 0)=w9 at *
  refine bodyPost_ret (v:=.tuple #[.agg #[.bool false,.slice none 0 0,.int .i64 0,.bool false,.slice none 0 0,.int .i64 0],.int .i64 Q]) (by simp [results,Tryz.results24,go_sem,p0,p1,p2,p3,p4,p5]) rfl ?_
  exact⟨⟨_,_,_,_,_,_,_,_,_,_,rfl,fun h=>absurd h HQ0.out⟩,HE.out⟩
end Go.Proofs.YteflkojglmleaaaGreatDoor
namespace Go.Proofs.YteflkojglmleaaaGreatDoor
open Lm

def seg (Z:List Nat)(o n:Nat):List Nat:=(Z.drop o).take n

def sv (Z:List Nat)(o n:Nat):Nat:=val (seg Z o n)

structure Out (Z Z':List Nat)(lo hi:Nat):Prop where
 len:Z'.length=Z.length
 same:∀k,k<lo∨hi≤k→Z'.getD k 0=Z.getD k 0

theorem Out.refl (Z:List Nat)(lo hi:Nat):Out Z Z lo hi:=⟨rfl,fun _ _=>rfl⟩

theorem Out.trans {Z Z' Z'':List Nat}{lo hi:Nat}(h:Out Z Z' lo hi)(k:Out Z' Z'' lo hi):Out Z Z'' lo hi:=
 ⟨k.len.trans h.len,fun j hj=>(k.same j hj).trans (h.same j hj)⟩

theorem Out.wider {Z Z':List Nat}{lo hi lo' hi':Nat}(h:Out Z Z' lo hi)(h1:lo'≤lo)(h2:hi≤hi'):Out Z Z' lo' hi':=
 ⟨h.len,fun k hk=>h.same k (by omega)⟩

theorem gj (Z:List Nat)(j k z:Nat):(Z.set j z).getD k 0=if j=k∧k<Z.length then z else Z.getD k 0:=by
 by_cases h:j=k
 ·subst h
  by_cases hl:j<Z.length
  ·simp [List.getD,hl]
  ·simp [List.getD,hl]
 ·simp [List.getD,h]

theorem Out.set {Z Z':List Nat}{lo hi:Nat}(h:Out Z Z' lo hi)(j z:Nat)(h1:lo≤j)(h2:j<hi):Out Z (Z'.set j z) lo hi:=
 ⟨by simp [h.len],fun k hk=>by rw [gj,if_neg (by omega)];exact h.same k hk⟩

theorem df (Z:List Nat)(o n:Nat)(h:o+n≤Z.length):(seg Z o n).length=n:=by
 simp [seg];omega

theorem fN (Z:List Nat)(o n k:Nat)(h:k<n):(seg Z o n).getD k 0=Z.getD (o+k) 0:=by
 simp [seg,List.getD,h]

theorem o8 {a b:List Nat}(hl:a.length=b.length)(h:∀k,k<a.length→a.getD k 0=b.getD k 0):a=b:=by
 refine List.ext_getElem hl fun k h1 h2=>?_
 have:=h k h1
 simpa [List.getD,h1,h2] using this

theorem Out.seg {Z Z':List Nat}{lo hi:Nat}(h:Out Z Z' lo hi)(o n:Nat)(hd:o+n≤lo∨hi≤o):seg Z' o n=seg Z o n:=by
 have hl:(Go.Proofs.YteflkojglmleaaaGreatDoor.seg Z' o n).length=(Go.Proofs.YteflkojglmleaaaGreatDoor.seg Z o n).length:=by simp [Go.Proofs.YteflkojglmleaaaGreatDoor.seg,h.len]
 refine o8 hl fun k hk=>?_
 have hk':k<n:=by simp [Go.Proofs.YteflkojglmleaaaGreatDoor.seg] at hk;omega
 rw [fN _ _ _ _ hk',fN _ _ _ _ hk',h.same _ (by omega)]

theorem Out.sv {Z Z':List Nat}{lo hi:Nat}(h:Out Z Z' lo hi)(o n:Nat)(hd:o+n≤lo∨hi≤o):sv Z' o n=sv Z o n:=by
 unfold Go.Proofs.YteflkojglmleaaaGreatDoor.sv;rw [h.seg o n hd]

theorem bV (Z:List Nat)(o:Nat):sv Z o 0=0:=by simp [sv,seg,val]

theorem bq (Z:List Nat)(o m n:Nat)(h:o+m≤Z.length):sv Z o (m+n)=sv Z o m+18446744073709551616 ^ m*sv Z (o+m) n:=by
 unfold sv
 have e:seg Z o (m+n)=seg Z o m ++ seg Z (o+m) n:=by
  unfold seg
  rw [List.take_add,List.drop_drop]
 rw [e,val_append,df Z o m h]

theorem iG (Z:List Nat)(o:Nat)(h:o<Z.length):sv Z o 1=Z.getD o 0:=by
 unfold sv seg
 rw [List.drop_eq_getElem_cons h,List.take_succ_cons,List.take_zero,val,val]
 simp [List.getD,h]

theorem dO (Z:List Nat)(o i:Nat)(h:o+i<Z.length):sv Z o (i+1)=sv Z o i+18446744073709551616 ^ i*Z.getD (o+i) 0:=by
 rw [bq Z o i 1 (by omega),iG _ _ h]

theorem eV {Z:List Nat}(h:Limbs Z)(o n:Nat):Limbs (seg Z o n):=fun z hz=>h z (List.mem_of_mem_drop (List.mem_of_mem_take hz))

theorem iL {Z:List Nat}(h:Limbs Z)(o n:Nat):sv Z o n<18446744073709551616 ^ n:=by
 have h1:=val_lt (eV h o n)
 refine Nat.lt_of_lt_of_le h1 (Nat.pow_le_pow_right (by omega) ?_)
 simp [seg];omega

theorem dR (Z:List Nat)(o i z:Nat)(h:o+i<Z.length):sv (Z.set (o+i) z) o (i+1)=sv Z o i+18446744073709551616 ^ i*z:=by
 rw [dO _ _ _ (by simpa using h),gj,if_pos ⟨rfl,h⟩]
 have e:Out Z (Z.set (o+i) z) (o+i) (o+i+1):=(Out.refl _ _ _).set _ _ (by omega) (by omega)
 rw [e.sv o i (by omega)]

theorem eA (Z:List Nat):sv Z 0 Z.length=val Z:=by simp [sv,seg]

theorem nS (Z Z' X:List Nat)(o i m cy hi lo:Nat)(hz:o+i<Z'.length)(h0:Z'.getD (o+i) 0=Z.getD (o+i) 0)(hZ:Z'.length=Z.length)
  (h:sv Z' o i+cy*18446744073709551616 ^ i=sv Z o i+val (X.take i)*m)
  (hs:lo+hi*18446744073709551616=X.getD i 0*m+Z.getD (o+i) 0+cy) :
  sv (Z'.set (o+i) lo) o (i+1)+hi*18446744073709551616 ^ (i+1)=sv Z o (i+1)+val (X.take (i+1))*m:=by
 have:=h0
 rw [dR _ _ _ _ hz,dO Z o i (by omega),val_take_next X i,show (18446744073709551616:Nat) ^ (i+1)=18446744073709551616 ^ i*18446744073709551616 from Nat.pow_succ ..]
 generalize sv Z' o i=V' at *
 generalize sv Z o i=V at *
 generalize val (X.take i)=U at *
 generalize Z.getD (o+i) 0=z at *
 generalize X.getD i 0=x at *
 generalize (18446744073709551616:Nat) ^ i=P at *
 generalize (18446744073709551616:Nat)=W at *
 grind

theorem sy (x m z cy:Nat)(hx:x<18446744073709551616)(hm:m<18446744073709551616)(hz:z<18446744073709551616)(hc:cy<18446744073709551616) :
  x*m+z+cy<18446744073709551616*18446744073709551616:=by
 have h:=Nat.mul_le_mul (Nat.le_sub_one_of_lt hx) (Nat.le_sub_one_of_lt hm)
 omega
end Go.Proofs.YteflkojglmleaaaGreatDoor
namespace Go.Proofs.YteflkojglmleaaaGreatDoor
open Go.RowKit
open Lm

theorem oO (b off cap:Nat)(zs:List Nat)(w:World)(hcap:zs.length≤cap)(hmax:cap≤9223372036854775807)
  (hc:∀k,k<zs.length→w.cell? ⟨b,off+k,none⟩=some (.int .u64 ((zs.getD k 0:Nat):Int))) :
  Calls Tryz.prog 151 #[.slice (some ⟨b,off,none⟩) zs.length cap] w fun e w'=>e=.returned (.slice (some ⟨b,off,none⟩) (tr zs).length cap)∧w'=w:=by
 go_enter Tryz.func151,Tryz.ntmps151
 go_wp2
 go_loop [3] (fun n=>∃k:Nat,k≤zs.length∧n=.int .i64 k∧tr (zs.take k)=tr zs) (fun n=>(intOf n).toNat)
 case atStart=>exact⟨zs.length,Nat.le_refl _,rfl,by rw [List.take_length]⟩
 case round=>
  obtain⟨k,hk,rfl,ht⟩:=hrel
  have HT:Hid (tr (zs.take k)=tr zs):=ht
  clear ht
  by_cases h0:k=0
  ·subst h0
   go_wp2
   go_ret
   have e:=HT.out
   simp only [List.take_zero,tr] at e
   rw [←e]
   exact⟨rfl,rfl⟩
  ·obtain⟨j,rfl⟩:∃j,k=j+1:=⟨k - 1,by omega⟩
   have hcj:=hc j (by omega)
   clear hc
   by_cases hz:zs.getD j 0=0
   ·have HZ:Hid (tr (zs.take j)=tr zs):=by rw [←tr_step zs j (by omega) hz];exact HT.out
    rw [hz] at hcj
    clear hz HT
    go_wp2
    go_round
    case rel=>exact⟨j,by omega,by go_num,HZ.out⟩
    case measure=>simp [intOf]
   ·have HZ:Hid (tr zs=zs.take (j+1)):=by rw [←HT.out];exact tr_stop zs j (by omega) hz
    clear HT
    generalize zs.getD j 0=z at hcj hz
    have hne:((z:Int) == 0)=false:=by rw [beq_eq_false_iff_ne];omega
    clear hz
    go_wp2
    go_ret
    rw [HZ.out]
    have e:(zs.take (j+1)).length=j+1:=by simp;omega
    rw [e]
    exact⟨rfl,rfl⟩

theorem sG (ao:Option Addr)(cap:Nat)(w:World)(_hmax:cap≤9223372036854775807) :
  Calls Tryz.prog 151 #[.slice ao 0 cap] w fun e w'=>e=.returned (.slice ao 0 cap)∧w'=w:=by
 go_enter Tryz.func151,Tryz.ntmps151
 go_wp2
 refine wp_loop_rounds 1 ?_
 rw [rounds_succ]
 go_wp2
 go_ret
 exact⟨rfl,rfl⟩

theorem cj (ao:Option Addr)(cap:Nat)(zs:List Nat)(w:World)(hcap:zs.length≤cap)(hmax:cap≤9223372036854775807)(hl:aF w ao zs) :
  Calls Tryz.prog 151 #[.slice ao zs.length cap] w fun e w'=>e=.returned (.slice ao (tr zs).length cap)∧w'=w:=by
 rcases hl with rfl|⟨b,off,rfl,hc⟩
 ·exact sG ao cap w hmax
 ·exact oO b off cap zs w hcap hmax hc

structure Fr (bz:Nat)(w w':World):Prop where
 os:w'.os=w.os
 tape:w'.tape=w.tape
 output:w'.output=w.output
 size:w.heap.size≤w'.heap.size
 block:∀k,k<w.heap.size→k≠bz→w'.heap[k]?=w.heap[k]?

theorem Fr.refl (bz:Nat)(w:World):Fr bz w w:=⟨rfl,rfl,rfl,Nat.le_refl _,fun _ _ _=>rfl⟩

theorem Fr.trans {bz:Nat}{a b c:World}(h:Fr bz a b)(k:Fr bz b c):Fr bz a c:=
 ⟨k.os.trans h.os,k.tape.trans h.tape,k.output.trans h.output,Nat.le_trans h.size k.size,fun i h1 h2=>(k.block i (Nat.lt_of_lt_of_le h1 h.size) h2).trans (h.block i h1 h2)⟩

theorem Fr.setCell {bz:Nat}{a w:World}(h:Fr bz a w)(off:Nat)(u:Value):Fr bz a (w.setCell ⟨bz,off,none⟩ u):=
 ⟨h.os,h.tape,h.output,by simpa using h.size,fun k h1 h2=>(Below.heap_setCell w _ u k h2).trans (h.block k h1 h2)⟩

theorem Fr.drew {bz:Nat}{a w:World}(h:Fr bz a w):Fr bz a w.drew:=⟨h.os,h.tape,h.output,h.size,h.block⟩

theorem Fr.of_below {bz:Nat}{w w':World}(h:Below w.heap.size w w'):Fr bz w w':=⟨h.os,h.tape,h.output,h.size,fun k h1 _=>h.block k h1⟩

theorem Fr.below {bz base:Nat}{w w':World}(h:Fr bz w w')(h1:base≤bz)(h2:base≤w.heap.size):Below base w w':=
 ⟨h.os,h.tape,h.output,h.size,fun k hk=>h.block k (by omega) (by omega)⟩

def Off (v:Value)(bz lo hi:Nat):Prop:=∀b off n c,v=.slice (some ⟨b,off,none⟩) n c→b≠bz∨off+n≤lo∨hi≤off

theorem aF.fr {w w':World}{ao:Option Addr}{X Z Z':List Nat}{bz lo hi:Nat}(h:aF w ao X)(ho:∀b off,ao=some ⟨b,off,none⟩→b≠bz∨off+X.length≤lo∨hi≤off)
  (hf:Fr bz w w') (hb:Blk w bz Z) (hb':Blk w' bz Z') (hz:Out Z Z' lo hi):aF w' ao X:=by
 rcases h with h|⟨b,off,rfl,hc⟩
 ·exact .inl h
 ·rcases Nat.eq_zero_or_pos X.length with h0|h0
  ·exact .inl (List.length_eq_zero_iff.1 h0)
  refine .inr ⟨b,off,rfl,fun k hk=>?_⟩
  have hlt:b<w.heap.size:=aF.block (zs:=X) (.inr ⟨b,off,rfl,hc⟩) h0
  by_cases hbz:b=bz
  ·subst hbz
   have h1:=hc k hk
   have hin:off+k<Z.length:=by
    refine Nat.lt_of_not_le fun hle=>?_
    have:w.cell? ⟨b,off+k,none⟩=none:=by
     unfold Blk at hb
     simp [World.cell?,hb];omega
    rw [this] at h1;cases h1
   rw [hb.cell _ hin] at h1
   rw [hb'.cell _ (by rw [hz.len];exact hin),hz.same _ (by have:=ho b off rfl;omega)]
   exact h1
  ·have:=hf.block b hlt hbz
   rw [World.cell?_of_block (w:=w) this]
   exact hc k hk

theorem Arg.fr {w w':World}{v:Value}{X Z Z':List Nat}{bz lo hi:Nat}(h:Arg w v X)(ho:Off v bz lo hi)
  (hf:Fr bz w w') (hb:Blk w bz Z) (hb':Blk w' bz Z') (hz:Out Z Z' lo hi):Arg w' v X:=by
 obtain⟨ao,cap,h1,h2,h3,h4⟩:=h.form
 exact⟨⟨ao,cap,h1,h2,h3,h4.fr (fun b off e=>by subst e;exact ho b off _ _ h1) hf hb hb' hz⟩,h.limbs,h.few,h.nz⟩
end Go.Proofs.YteflkojglmleaaaGreatDoor
namespace Go.Proofs.YteflkojglmleaaaGreatDoor
open Go.RowKit
open Lm
attribute [local go_sem ↓] Go.wp_at_zero Go.wp_at_succ

theorem sn (P z cy:Nat)(h:P+z+cy<340282366920938463463374607431768211456)(_hz:z<18446744073709551616)(_hc:cy<18446744073709551616) :
  ((P % 18446744073709551616+z) % 18446744073709551616+cy) % 18446744073709551616+(P / 18446744073709551616+(P % 18446744073709551616+z) / 18446744073709551616+((P % 18446744073709551616+z) % 18446744073709551616+cy) / 18446744073709551616)*18446744073709551616=P+z+cy ∧
  P / 18446744073709551616+(P % 18446744073709551616+z) / 18446744073709551616<18446744073709551616 ∧
  P / 18446744073709551616+(P % 18446744073709551616+z) / 18446744073709551616+((P % 18446744073709551616+z) % 18446744073709551616+cy) / 18446744073709551616<18446744073709551616 ∧
  ((P % 18446744073709551616+z) % 18446744073709551616+cy) % 18446744073709551616<18446744073709551616:=by
 omega

theorem lq (bz zo cap:Nat)(Z:List Nat)(v1:Value)(X:List Nat)(m:Nat)(w:World)(hB:Blk w bz Z)(hLZ:Limbs Z)(hA:Arg w v1 X)(ho:Off v1 bz zo (zo+X.length))
  (hzo:zo+X.length≤Z.length) (hc1:X.length≤cap) (hc2:cap≤9223372036854775807) (hm:m<18446744073709551616) :
  Calls Tryz.prog 157 #[.slice (some ⟨bz,zo,none⟩) X.length cap,v1,.int .u64 m] w fun e w'=>∃(cy:Nat) (Z':List Nat),e=.returned (.int .u64 (cy:Int))∧cy<18446744073709551616 ∧
   Out Z Z' zo (zo+X.length)∧Limbs Z'∧Blk w' bz Z'∧Fr bz w w'∧sv Z' zo X.length+cy*18446744073709551616 ^ X.length=sv Z zo X.length+val X*m:=by
 obtain⟨a1,c1,rfl,hcc1,hcm1,hl1⟩:=hA.form
 have M1:=hA.limbs
 have hX:=hA.few
 have hao:∀b off,a1=some ⟨b,off,none⟩→b≠bz∨off+X.length≤zo∨zo+X.length≤off:=fun b off e=>by subst e;exact ho b off _ _ rfl
 clear ho hA
 go_enter Tryz.func157,Tryz.ntmps157
 go_wp2
 go_loopw [7,16] (fun c i wr=>∃(k cy:Nat) (Z':List Nat),k≤X.length∧i=.int .i64 k∧c=.int .u64 cy∧cy<18446744073709551616∧Out Z Z' zo (zo+k)∧Limbs Z'∧Blk wr bz Z'∧Fr bz w wr ∧
   sv Z' zo k+cy*18446744073709551616 ^ k=sv Z zo k+val (X.take k)*m) (fun _ i _=>X.length - (intOf i).toNat)
 case atStart=>exact⟨0,0,Z,Nat.zero_le _,rfl,rfl,by omega,Out.refl _ _ _,hLZ,hB,Fr.refl _ _,by simp [bV,val]⟩
 case round=>
  obtain⟨k,cy,Z',hk,rfl,rfl,hcy,hout,hlz,hblk,hfr0,hval⟩:=hrel
  have HV:=ab hval
  have HB:=ab hblk
  have HF:=ab hfr0
  have HO:=ab hout
  have hl:=hout.len
  clear hval
  by_cases hkl:k<X.length
  ·rcases hl1.fr hao hfr0 hB hblk (hout.wider (Nat.le_refl _) (by omega)) with h0|⟨b,off,rfl,hcell⟩
   ·rw [h0] at hkl;simp at hkl
   ·have hck:=hcell k hkl
    have hfr:=hblk.free (zo+k)
    have hco:=hblk.cell (zo+k) (by omega)
    have z1:=limb_lt M1 k
    have z2:=limb_lt hlz (zo+k)
    have hsame:=hout.same (zo+k) (by omega)
    have hft:=sy (X.getD k 0) m (Z'.getD (zo+k) 0) cy z1 hm z2 hcy
    have hlm:=sn (X.getD k 0*m) (Z'.getD (zo+k) 0) cy hft z2 hcy
    have HS:=ab (fun hi lo hs=>nS Z Z' X zo k m cy hi lo (by omega) hsame hl HV.out hs)
    rw [←hsame] at HS
    have ha1:=ep (X.getD k 0*m % 18446744073709551616) (Z'.getD (zo+k) 0)
    have ha2:=ep ((X.getD k 0*m % 18446744073709551616+Z'.getD (zo+k) 0) % 18446744073709551616) cy
    have hM:=Tryz.bits_Mul64 (X.getD k 0) m z1 hm wr
    generalize Z'.getD (zo+k) 0=z at *
    generalize X.getD k 0=x at *
    generalize hP:x*m=P at *
    clear hP hft hsame
    obtain⟨q1,q2,q3,q4⟩:=hlm
    have HS2:=ab (HS.out _ _ q1)
    clear HS q1
    generalize ((P % 18446744073709551616+z) % 18446744073709551616+cy) % 18446744073709551616=s at *
    generalize ((P % 18446744073709551616+z) % 18446744073709551616+cy) / 18446744073709551616=o2 at *
    generalize (P % 18446744073709551616+z) % 18446744073709551616=s1 at *
    generalize (P % 18446744073709551616+z) / 18446744073709551616=o1 at *
    generalize P / 18446744073709551616=h1 at *
    generalize P % 18446744073709551616=l1 at *
    have e1:(h1:Int)+(o1:Int)=((h1+o1:Nat):Int):=by omega
    generalize h1+o1=h2 at *
    have e2:(h2:Int)+(o2:Int)=((h2+o2:Nat):Int):=by omega
    generalize h2+o2=h3 at *
    clear hcell hblk hfr0 hout HV M1 hl1 hB hLZ
    go_wp2_with fail
    refine hM.mono ?_
    rintro e w2 ⟨rfl,rfl⟩
    clear hM
    go_wp2
    go_roundw
    case rel=>exact⟨k+1,h3,Z'.set (zo+k) s,by omega,by go_num,rfl,q3,(HO.out.wider (Nat.le_refl _) (by omega)).set _ _ (by omega) (by omega),limbs_set hlz _ _ q4,HB.out.set _ s,HF.out.setCell _ _,HS2.out⟩
    case measure=>simp [intOf];omega
  ·have ek:k=X.length:=by omega
   subst ek
   rw [List.take_length] at HV
   clear hblk hfr0 hout hl1 hB
   go_wp2
   go_ret
   exact⟨cy,Z',rfl,hcy,HO.out,hlz,HB.out,HF.out,HV.out⟩

def lay (Z:List Nat)(o:Nat):List Nat→List Nat
 | []=>Z
 | p :: r=>lay (Z.set o p) (o+1) r

theorem eB (P:List Nat):∀(Z:List Nat) (o:Nat),(lay Z o P).length=Z.length:=by
 induction P with
 | nil=>intro Z o;rfl
 | cons p r ih=>intro Z o;rw [lay,ih];simp

theorem cA (P:List Nat):∀(Z:List Nat) (o:Nat),Out Z (lay Z o P) o (o+P.length):=by
 induction P with
 | nil=>intro Z o;exact Out.refl _ _ _
 | cons p r ih=>
  intro Z o
  have h1:Out Z (Z.set o p) o (o+(p :: r).length):=(Out.refl _ _ _).set _ _ (Nat.le_refl _) (by simp)
  exact h1.trans ((ih (Z.set o p) (o+1)).wider (by omega) (by simp;omega))

theorem cW (P:List Nat):∀(Z:List Nat) (o:Nat),o+P.length≤Z.length→sv (lay Z o P) o P.length=val P:=by
 induction P with
 | nil=>intro Z o _;exact bV _ _
 | cons p r ih=>
  intro Z o h
  have hl:o+r.length+1≤Z.length:=by simpa [Nat.add_assoc] using h
  rw [show (p :: r).length=1+r.length by simp;omega,bq _ _ _ _ (by rw [eB];omega),iG _ _ (by rw [eB];omega),lay,ih _ _ (by simp;omega)]
  have h2:=(cA r (Z.set o p) (o+1)).same o (by omega)
  rw [h2,gj,if_pos ⟨rfl,by omega⟩,val,Nat.pow_one]

theorem cO (P:List Nat)(hP:Limbs P):∀(Z:List Nat) (o:Nat),Limbs Z→Limbs (lay Z o P):=by
 induction P with
 | nil=>intro Z o h;exact h
 | cons p r ih=>intro Z o h;exact ih (fun z hz=>hP z (List.mem_cons_of_mem _ hz)) _ _ (limbs_set h _ _ (hP p (List.mem_cons_self ..)))

theorem Blk.setCells {b:Nat}(P:List Nat):∀ {w:World} {Z:List Nat} (o:Nat),Blk w b Z→Blk (w.setCells b o (P.map lv)) b (lay Z o P):=by
 induction P with
 | nil=>intro w Z o h;exact h
 | cons p r ih=>intro w Z o h;exact ih (o+1) (h.set o p)

theorem Fr.setCells {b:Nat}(P:List Value):∀ {a w:World} (o:Nat),Fr b a w→Fr b a (w.setCells b o P):=by
 induction P with
 | nil=>intro a w o h;exact h
 | cons p r ih=>intro a w o h;exact ih (o+1) (h.setCell o p)

theorem tZ (w:World):(zeroValue 108).run Tryz.prog w=.ok (.int .u64 0) w:=by kernel_rfl

theorem f6 (bz zo n cap:Nat)(Z:List Nat)(w:World)(ty:TypeId)(hB:Blk w bz Z)(hz:zo+n≤Z.length)(hn:0<n) :
  (Builtin.clear_ #[27] ty #[.slice (some ⟨bz,zo,none⟩) n cap]).run Tryz.prog w=.ok (.tuple #[]) (w.setCells bz zo ((List.replicate n 0).map lv)):=by
 rw [Lib.run_clear_slice w 27 108 ty (.int .u64 0) Tryz.underlying27 tZ rfl rfl bz zo n cap hn (fun j hj=>by rw [hB.cell (zo+j) (by omega)];rfl) (fun j hj=>hB.free (zo+j)),List.map_replicate]
 rfl

theorem oW (Z Z2 X Y:List Nat)(o k m cy:Nat)(hl:Z2.length=Z.length)(hk:k<Y.length)(hZ:o+(X.length+Y.length)≤Z.length)(hm:m=Y.getD k 0)
  (h:sv Z o (k+X.length)=val X*val (Y.take k)) (ho:Out Z Z2 (o+k) (o+k+X.length))
  (h2:sv Z2 (o+k) X.length+cy*18446744073709551616 ^ X.length=sv Z (o+k) X.length+val X*m) :
  sv (Z2.set (o+(k+X.length)) cy) o (k+1+X.length)=val X*val (Y.take (k+1)):=by
 rw [show k+1+X.length=k+X.length+1 by omega,dR _ _ _ _ (by omega),bq _ _ _ _ (by omega),ho.sv o k (by omega),val_take_next Y k,←hm,Nat.pow_add]
 rw [bq _ _ _ _ (by omega)] at h
 generalize sv Z o k=A at *
 generalize sv Z2 (o+k) X.length=B2 at *
 generalize sv Z (o+k) X.length=B at *
 generalize val (Y.take k)=V at *
 generalize val X=U at *
 generalize (18446744073709551616:Nat) ^ k=K at *
 generalize (18446744073709551616:Nat) ^ X.length=L at *
 grind

theorem lZ (bz zo cap:Nat)(Z:List Nat)(va vb:Value)(X Y:List Nat)(w:World)(hB:Blk w bz Z)(hLZ:Limbs Z)(hA:Arg w va X)(hA2:Arg w vb Y)
  (ho:Off va bz zo (zo+(X.length+Y.length))) (ho2:Off vb bz zo (zo+(X.length+Y.length))) (hzo:zo+(X.length+Y.length)≤Z.length) (hc1:X.length+Y.length≤cap) (hc2:cap≤9223372036854775807) :
  Calls Tryz.prog 153 #[.slice (some ⟨bz,zo,none⟩) (X.length+Y.length) cap,va,vb] w fun e w'=>e=.returned (.tuple #[])∧∃Z':List Nat,
   Out Z Z' zo (zo+(X.length+Y.length))∧Limbs Z'∧Blk w' bz Z'∧Fr bz w w'∧sv Z' zo (X.length+Y.length)=val X*val Y:=by
 obtain⟨a1,c1,rfl,hcc1,hcm1,hl1⟩:=hA.form
 obtain⟨a2,c2,rfl,hcc2,hcm2,hl2⟩:=hA2.form
 have hao2:∀b off,a2=some ⟨b,off,none⟩→b≠bz∨off+Y.length≤zo∨zo+(X.length+Y.length)≤off:=fun b off e=>by subst e;exact ho2 b off _ _ rfl
 have fX:=hA.few
 have fY:=hA2.few
 have mY:=hA2.limbs
 obtain⟨w1,Z1,hrun,hout1,hlz1,hb1,hf1,hs1⟩:∃(w1:World) (Z1:List Nat),(∀ty,(Builtin.clear_ #[27] ty #[.slice (some ⟨bz,zo,none⟩) (X.length+Y.length) cap]).run Tryz.prog w=.ok (.tuple #[]) w1)∧Out Z Z1 zo (zo+(X.length+Y.length))∧Limbs Z1∧Blk w1 bz Z1∧Fr bz w w1∧sv Z1 zo (X.length+Y.length)=0:=by
  rcases Nat.eq_zero_or_pos (X.length+Y.length) with h0|h0
  ·refine⟨w,Z,fun ty=>?_,Out.refl _ _ _,hLZ,hB,Fr.refl _ _,by rw [h0];exact bV _ _⟩
   rw [h0]
   simp [Builtin.clear_,run_underlying Tryz.underlying27]
  ·have hlr:(List.replicate (X.length+Y.length) 0).length=X.length+Y.length:=by simp
   have e1:=cA (List.replicate (X.length+Y.length) 0) Z zo
   have e2:=cW (List.replicate (X.length+Y.length) 0) Z zo (by rw [hlr];exact hzo)
   rw [hlr] at e1 e2
   exact⟨_,lay Z zo (List.replicate (X.length+Y.length) 0),fun ty=>f6 bz zo _ cap Z w ty hB hzo h0,e1,cO _ (limbs_replicate _) _ _ hLZ,Blk.setCells _ _ hB,(Fr.refl _ _).setCells _ _,by rw [e2,val_replicate]⟩
 have hs0:sv Z1 zo X.length=0:=by
  rw [bq _ _ _ _ (by have:=hout1.len;omega)] at hs1;omega
 have HO1:=ab hout1
 have HF1:=ab hf1
 have HL1:=ab hb1
 clear hs1
 go_enter Tryz.func153,Tryz.ntmps153
 go_wp2
 go_loopw [11] (fun i wr=>∃(k:Nat) (Z':List Nat),k≤Y.length∧i=.int .i64 k∧Out Z Z' zo (zo+(X.length+Y.length))∧Limbs Z'∧Blk wr bz Z'∧Fr bz w wr ∧
   sv Z' zo (k+X.length)=val X*val (Y.take k)) (fun i _=>Y.length - (intOf i).toNat)
 case atStart=>exact⟨0,Z1,Nat.zero_le _,rfl,HO1.out,hlz1,HL1.out,HF1.out,by rw [Nat.zero_add,hs0];simp [val]⟩
 case round=>
  obtain⟨k,Z',hk,rfl,hout,hlz,hblk,hfr0,hval⟩:=hrel
  clear hrun hout1 hlz1 hb1 hf1 hs0 HO1 HF1 HL1
  by_cases hkl:k<Y.length
  ·rcases hl2.fr hao2 hfr0 hB hblk hout with h0|⟨b,off,rfl,hcell⟩
   ·rw [h0] at hkl;simp at hkl
   ·have hck:=hcell k hkl
    have z2:=limb_lt mY k
    have hlen:=hout.len
    have hA':Arg wr (.slice a1 X.length c1) X:=hA.fr ho hfr0 hB hblk hout
    have HM:=lq bz (zo+k) (cap - k) Z' _ X (Y.getD k 0) wr hblk hlz hA' (fun b off n c e=>by rcases ho b off n c e with h|h|h <;> omega) (by omega) (by omega) (by omega) z2
    have HS:=ab (fun Z2 cy hl2 hO2 h2=>oW Z' Z2 X Y zo k (Y.getD k 0) cy hl2 hkl (by omega) rfl hval hO2 h2)
    have HO:=ab hout
    have HF:=ab hfr0
    generalize Y.getD k 0=m at *
    obtain⟨t,ht1,ht2,e1,e2⟩:∃t:Nat,t≤k+X.length∧k+X.length≤t∧(k:Int)+(X.length:Int)=(t:Int)∧t - k=X.length:=⟨k+X.length,by omega,by omega,by omega,by omega⟩
    have hb1:(0:Int)≤(k:Int):=by omega
    have hkn:k≤k+X.length:=by omega
    have hkc:k+X.length≤cap:=by omega
    clear hcell hblk hfr0 hout hval hA hA2 ho ho2 hl1 hl2 hB hLZ mY hao2 hA'
    go_wp2_with fail
    refine HM.mono ?_
    rintro e w2 ⟨cy,Z2,rfl,hcy,hO2,hlz2,hb2,hf2,hv2⟩
    have HS2:=ab (HS.out Z2 cy hO2.len hO2 hv2)
    have hl2:=hO2.len
    have hfr:=hb2.free (zo+t)
    have hco:=hb2.cell (zo+t) (by omega)
    generalize Z2.getD (zo+t) 0=o at *
    have HB2:=ab hb2
    have HF2:=ab (HF.out.trans hf2)
    have HO2:=ab (HO.out.trans (hO2.wider (by omega) (by omega)))
    have ht3:t<X.length+Y.length:=by omega
    clear HM HS hO2 hb2 hf2 hv2 HF HO
    go_wp2
    go_roundw
    case rel=>
     refine⟨k+1,Z2.set (zo+t) cy,by omega,by go_num,HO2.out.set _ _ (by omega) (by omega),limbs_set hlz2 _ _ hcy,HB2.out.set _ cy,HF2.out.setCell _ _,?_⟩
     rw [show t=k+X.length by omega];exact HS2.out
    case measure=>simp [intOf];omega
  ·have ek:k=Y.length:=by omega
   subst ek
   rw [List.take_length,Nat.add_comm] at hval
   have HV:=ab hval
   have HB:=ab hblk
   have HF:=ab hfr0
   have HO:=ab hout
   clear hval hblk hfr0 hout hl1 hl2 hB hA hA2 ho ho2 hLZ
   go_wp2
   go_end0
   exact⟨rfl,Z',HO.out,hlz,HB.out,HF.out,HV.out⟩
end Go.Proofs.YteflkojglmleaaaGreatDoor

