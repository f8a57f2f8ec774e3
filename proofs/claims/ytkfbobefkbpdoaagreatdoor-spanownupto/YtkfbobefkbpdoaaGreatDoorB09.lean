/- Package span: answered, Make, Point, with what they refuse. -/
import Derived.Test.YtkfbobefkbpdoaaGreatDoorB08
import Derived.Test.YtkfbobefkbpdoaaGreatDoorB02
import Derived.Test.YtkfbobefkbpdoaaGreatDoorB05
import Derived.Deep.RegionHeld3
import Derived.Test.YtkfbobefkbpdoaaGreatDoorB06
set_option maxRecDepth 20000
set_option maxHeartbeats 4000000
namespace Go.Proofs.YtkfbobefkbpdoaaGreatDoor
open Go.RowKit
open Lm
attribute [local go_sem ↓] Go.wp_at_zero Go.wp_at_succ

def ch (w:World)(b1:Bool)(a1:Option Addr)(n1 k1:Nat)(ex1:Int)(b2:Bool)(a2:Option Addr)(n2 k2:Nat)(ex2 o c:Int):Prop:=
 ∀W,Below w.heap.size w W→Calls Tryz.prog 73 #[.agg #[.bool b1,.slice a1 n1 k1,.int .i64 ex1],.agg #[.bool b2,.slice a2 n2 k2,.int .i64 ex2]] W fun e w'=>e=.returned (.tuple #[.int .i64 o,.int .i64 c])∧Below W.heap.size W w'

theorem ch.below {w w':World}{b1:Bool}{a1:Option Addr}{n1 k1:Nat}{ex1:Int}{b2:Bool}{a2:Option Addr}{n2 k2:Nat}{ex2 o c:Int}(h:ch w b1 a1 n1 k1 ex1 b2 a2 n2 k2 ex2 o c)(hb:Below w.heap.size w w'):ch w' b1 a1 n1 k1 ex1 b2 a2 n2 k2 ex2 o c:=
 fun W hg=>h W (ae hb hg)

theorem qp (b1:Bool)(a1:Option Addr)(n1 k1:Nat)(ex1:Int)(b2:Bool)(a2:Option Addr)(n2 k2:Nat)(ex2 o c:Int)(w:World)(hc:ch w b1 a1 n1 k1 ex1 b2 a2 n2 k2 ex2 o c)(hf:aQ o c≠0) :
  Calls Tryz.prog 25 #[.agg #[.bool b1,.slice a1 n1 k1,.int .i64 ex1,.bool b2,.slice a2 n2 k2,.int .i64 ex2]] w fun e w'=>cq w (aQ o c) e w':=by
 obtain⟨w0,hw0,hb0,q0,q9⟩:=al w (.cells #[.bool b1,.slice a1 n1 k1,.int .i64 ex1,.bool b2,.slice a2 n2 k2,.int .i64 ex2] 45) (.cells #[.bool false,.slice none 0 0,.int .i64 0,.bool false,.slice none 0 0,.int .i64 0] 45)
 obtain⟨w1,hw1,hb1,q2⟩:=ag w0 (.cells #[.bool b1,.slice a1 n1 k1,.int .i64 ex1,.bool b2,.slice a2 n2 k2,.int .i64 ex2] 45)
 obtain⟨y0,y1,y2,y3,y4,y5⟩:=hexa q0
 have gb:=ae hb0 hb1
 have C:=jx w0.heap.size b1 a1 n1 k1 ex1 b2 a2 n2 k2 ex2 o c w1 q2 (hc.below gb)
 generalize aQ o c=R at *
 have i9:(R != 0)=true:=by simpa using hf
 have HU0:=ab gb
 have HR0:=ab (ac hb1 q9)
 clear q0 q2 q9 hb0 hb1 gb hc hf
 go_enter Tryz.func25,Tryz.ntmps25
 go_wp2_with fail
 refine C.mono ?_
 rintro e t1 ⟨rfl,g1⟩
 have HC1:=ab (ac g1 HR0.out)
 have HG:=ab (ae HU0.out g1)
 have hf1:=av HC1.out
 obtain⟨m0,m1,m2,m3,m4,m5⟩:=hexa HC1.out
 clear g1 C
 go_wp2
 have T3:=aJ HC1.out (.bool false) (.slice none 0 0) (.int .i64 0) (.bool false) (.slice none 0 0) (.int .i64 0)
 have T4:=aF HG.out (show w.heap.size≤w.heap.size+1 by omega) (.bool false) (.slice none 0 0) (.int .i64 0) (.bool false) (.slice none 0 0) (.int .i64 0)
 obtain⟨p0,p1,p2,p3,p4,p5⟩:=hexa T3
 have HE:=ab T4
 clear T3 T4
 generalize (((((t1.setCell ⟨w.heap.size+1,0,none⟩ (.bool false)).setCell ⟨w.heap.size+1,1,none⟩ (.slice none 0 0)).setCell ⟨w.heap.size+1,2,none⟩ (.int .i64 0)).setCell ⟨w.heap.size+1,3,none⟩ (.bool false)).setCell ⟨w.heap.size+1,4,none⟩ (.slice none 0 0)).setCell ⟨w.heap.size+1,5,none⟩ (.int .i64 0)=w5 at *
 refine bodyPost_ret (v:=.tuple #[.agg #[.bool false,.slice none 0 0,.int .i64 0,.bool false,.slice none 0 0,.int .i64 0],.int .i64 R]) (by simp [results,Tryz.results25,go_sem,p0,p1,p2,p3,p4,p5]) rfl ?_
 exact⟨rfl,HE.out⟩

theorem si (b1:Bool)(a1:Option Addr)(k1:Nat)(X:List Nat)(ex1:Int)(b2:Bool)(a2:Option Addr)(k2:Nat)(Y:List Nat)(ex2 o:Int)(w:World)(hc:ch w b1 a1 X.length k1 ex1 b2 a2 Y.length k2 ex2 o 0)(ho:o≤0)(hT:Tab w)(hA:Arg w (.slice a1 X.length k1) X)(hB:Arg w (.slice a2 Y.length k2) Y)(f1:X.length≤17592186044416)(f2:Y.length≤17592186044416)(hE1:ah ex1=true)(hE2:ah ex2=true) :
  Calls Tryz.prog 25 #[.agg #[.bool b1,.slice a1 X.length k1,.int .i64 ex1,.bool b2,.slice a2 Y.length k2,.int .i64 ex2]] w fun e w'=>cA w e w' (omz (zz b1 (val X))) (oe (zz b1 (val X)) ex1) (omz (zz b2 (val Y))) (oe (zz b2 (val Y)) ex2):=by
 obtain⟨w0,hw0,hb0,q0,q9⟩:=al w (.cells #[.bool b1,.slice a1 X.length k1,.int .i64 ex1,.bool b2,.slice a2 Y.length k2,.int .i64 ex2] 45) (.cells #[.bool false,.slice none 0 0,.int .i64 0,.bool false,.slice none 0 0,.int .i64 0] 45)
 obtain⟨w1,hw1,hb1,q2⟩:=ag w0 (.cells #[.bool b1,.slice a1 X.length k1,.int .i64 ex1,.bool b2,.slice a2 Y.length k2,.int .i64 ex2] 45)
 obtain⟨y0,y1,y2,y3,y4,y5⟩:=hexa q0
 have gb:=ae hb0 hb1
 have CF:=jx w0.heap.size b1 a1 X.length k1 ex1 b2 a2 Y.length k2 ex2 o 0 w1 q2 (hc.below gb)
 rw [show aQ o 0=0 by unfold aQ;rw [if_pos rfl,if_neg (by omega)]] at CF
 have CB:=ab (fun (W:World) (hg:Below w.heap.size w W)=>byM b1 a1 k1 X ex1 b2 a2 k2 Y ex2 W (hT.below hg) (hA.below hg) (hB.below hg) f1 f2 hE1 hE2)
 have HU1:=ab gb
 have HQ0:=ab (ac hb1 q0)
 have HR1:=ab (ac hb1 q9)
 generalize omz (zz b1 (val X))=M1 at *
 generalize oe (zz b1 (val X)) ex1=E1 at *
 generalize omz (zz b2 (val Y))=M2 at *
 generalize oe (zz b2 (val Y)) ex2=E2 at *
 clear q0 q2 q9 hb0 hb1 gb hc ho hT hA hB
 go_enter Tryz.func25,Tryz.ntmps25
 go_wp2_with fail
 refine CF.mono ?_
 rintro e t2 ⟨rfl,g2⟩
 have HU0:=ab (ae HU1.out g2)
 have HR0:=ab (ac g2 HR1.out)
 have C:=CB.out t2 HU0.out
 clear y0 y1 y2 y3 y4 y5 CF hw0 hw1
 obtain⟨y0,y1,y2,y3,y4,y5⟩:=hexa (ac g2 HQ0.out)
 clear g2
 go_wp2_with fail
 refine C.mono ?_
 rintro e t1 ⟨⟨b6,a6,n6,c6,e6,b7,a7,n7,c7,e7,d7,rfl,hg1⟩,g1⟩
 have HC1:=ab (ac g1 HR0.out)
 have HG:=ab (ae HU0.out g1)
 have HSR:=ab (hg1.base HU0.out.size)
 have hf1:=av HC1.out
 obtain⟨m0,m1,m2,m3,m4,m5⟩:=hexa HC1.out
 clear g1 hg1 C
 go_wp2
 have T3:=aJ HC1.out (.bool b6) (.slice a6 n6 c6) (.int .i64 e6) (.bool b7) (.slice a7 n7 c7) (.int .i64 e7)
 have T4:=aF HG.out (show w.heap.size≤w.heap.size+1 by omega) (.bool b6) (.slice a6 n6 c6) (.int .i64 e6) (.bool b7) (.slice a7 n7 c7) (.int .i64 e7)
 have T5:=HSR.out.hexa HC1.out (by decide) (.bool b6) (.slice a6 n6 c6) (.int .i64 e6) (.bool b7) (.slice a7 n7 c7) (.int .i64 e7)
 obtain⟨p0,p1,p2,p3,p4,p5⟩:=hexa T3
 have HE:=ab (And.intro T5 T4)
 clear T3 T4 T5
 generalize (((((t1.setCell ⟨w.heap.size+1,0,none⟩ (.bool b6)).setCell ⟨w.heap.size+1,1,none⟩ (.slice a6 n6 c6)).setCell ⟨w.heap.size+1,2,none⟩ (.int .i64 e6)).setCell ⟨w.heap.size+1,3,none⟩ (.bool b7)).setCell ⟨w.heap.size+1,4,none⟩ (.slice a7 n7 c7)).setCell ⟨w.heap.size+1,5,none⟩ (.int .i64 e7)=w5 at *
 refine bodyPost_ret (v:=.tuple #[.agg #[.bool b6,.slice a6 n6 c6,.int .i64 e6,.bool b7,.slice a7 n7 c7,.int .i64 e7],.int .i64 d7]) (by simp [results,Tryz.results25,go_sem,p0,p1,p2,p3,p4,p5]) rfl ?_
 exact⟨⟨_,_,_,_,_,_,_,_,_,_,_,rfl,HE.out.1⟩,HE.out.2⟩

theorem mv (b1:Bool)(a1:Option Addr)(n1 k1:Nat)(ex1:Int)(b2:Bool)(a2:Option Addr)(n2 k2:Nat)(ex2 o c:Int)(w:World)(hc:ch w b1 a1 n1 k1 ex1 b2 a2 n2 k2 ex2 o c)(hf:aQ o c≠0) :
  Calls Tryz.prog 10 #[.agg #[.bool b1,.slice a1 n1 k1,.int .i64 ex1],.agg #[.bool b2,.slice a2 n2 k2,.int .i64 ex2]] w fun e w'=>cq w (aQ o c) e w':=by
 obtain⟨w0,hw0,hb0,q0,q1,q9⟩:=aM w (.cells #[.bool b1,.slice a1 n1 k1,.int .i64 ex1] 43) (.cells #[.bool b2,.slice a2 n2 k2,.int .i64 ex2] 43) (.cells #[.bool false,.slice none 0 0,.int .i64 0,.bool false,.slice none 0 0,.int .i64 0] 45)
 obtain⟨y0,y1,y2⟩:=tri8 q0
 obtain⟨z0,z1,z2⟩:=tri8 q1
 have C:=qp b1 a1 n1 k1 ex1 b2 a2 n2 k2 ex2 o c w0 (hc.below hb0) hf
 generalize aQ o c=R at *
 have HU0:=ab hb0
 have HR0:Hid (w0.heap[w.heap.size+1+1]?=some (.cells #[.bool false,.slice none 0 0,.int .i64 0,.bool false,.slice none 0 0,.int .i64 0] 45)):=ab q9
 clear q0 q1 q9 hb0 hc hf
 go_enter Tryz.func10,Tryz.ntmps10
 go_wp2_with fail
 refine C.mono ?_
 rintro e t1 ⟨rfl,g1⟩
 have HC1:=ab (ac g1 HR0.out)
 have HG:=ab (ae HU0.out g1)
 have hf1:=av HC1.out
 obtain⟨m0,m1,m2,m3,m4,m5⟩:=hexa HC1.out
 clear g1 C
 go_wp2
 have T3:=aJ HC1.out (.bool false) (.slice none 0 0) (.int .i64 0) (.bool false) (.slice none 0 0) (.int .i64 0)
 have T4:=aF HG.out (show w.heap.size≤w.heap.size+1+1 by omega) (.bool false) (.slice none 0 0) (.int .i64 0) (.bool false) (.slice none 0 0) (.int .i64 0)
 obtain⟨p0,p1,p2,p3,p4,p5⟩:=hexa T3
 have HE:=ab T4
 clear T3 T4
 generalize (((((t1.setCell ⟨w.heap.size+1+1,0,none⟩ (.bool false)).setCell ⟨w.heap.size+1+1,1,none⟩ (.slice none 0 0)).setCell ⟨w.heap.size+1+1,2,none⟩ (.int .i64 0)).setCell ⟨w.heap.size+1+1,3,none⟩ (.bool false)).setCell ⟨w.heap.size+1+1,4,none⟩ (.slice none 0 0)).setCell ⟨w.heap.size+1+1,5,none⟩ (.int .i64 0)=w5 at *
 refine bodyPost_ret (v:=.tuple #[.agg #[.bool false,.slice none 0 0,.int .i64 0,.bool false,.slice none 0 0,.int .i64 0],.int .i64 R]) (by simp [results,Tryz.results10,go_sem,p0,p1,p2,p3,p4,p5]) rfl ?_
 exact⟨rfl,HE.out⟩

theorem ou (b1:Bool)(a1:Option Addr)(k1:Nat)(X:List Nat)(ex1:Int)(b2:Bool)(a2:Option Addr)(k2:Nat)(Y:List Nat)(ex2 o:Int)(w:World)(hc:ch w b1 a1 X.length k1 ex1 b2 a2 Y.length k2 ex2 o 0)(ho:o≤0)(hT:Tab w)(hA:Arg w (.slice a1 X.length k1) X)(hB:Arg w (.slice a2 Y.length k2) Y)(f1:X.length≤17592186044416)(f2:Y.length≤17592186044416)(hE1:ah ex1=true)(hE2:ah ex2=true) :
  Calls Tryz.prog 10 #[.agg #[.bool b1,.slice a1 X.length k1,.int .i64 ex1],.agg #[.bool b2,.slice a2 Y.length k2,.int .i64 ex2]] w fun e w'=>cA w e w' (omz (zz b1 (val X))) (oe (zz b1 (val X)) ex1) (omz (zz b2 (val Y))) (oe (zz b2 (val Y)) ex2):=by
 obtain⟨w0,hw0,hb0,q0,q1,q9⟩:=aM w (.cells #[.bool b1,.slice a1 X.length k1,.int .i64 ex1] 43) (.cells #[.bool b2,.slice a2 Y.length k2,.int .i64 ex2] 43) (.cells #[.bool false,.slice none 0 0,.int .i64 0,.bool false,.slice none 0 0,.int .i64 0] 45)
 obtain⟨y0,y1,y2⟩:=tri8 q0
 obtain⟨z0,z1,z2⟩:=tri8 q1
 have C:=si b1 a1 k1 X ex1 b2 a2 k2 Y ex2 o w0 (hc.below hb0) ho (hT.below hb0) (hA.below hb0) (hB.below hb0) f1 f2 hE1 hE2
 have HU0:=ab hb0
 have HR0:Hid (w0.heap[w.heap.size+1+1]?=some (.cells #[.bool false,.slice none 0 0,.int .i64 0,.bool false,.slice none 0 0,.int .i64 0] 45)):=ab q9
 generalize omz (zz b1 (val X))=M1 at *
 generalize oe (zz b1 (val X)) ex1=E1 at *
 generalize omz (zz b2 (val Y))=M2 at *
 generalize oe (zz b2 (val Y)) ex2=E2 at *
 clear q0 q1 q9 hb0 hc ho hT hA hB
 go_enter Tryz.func10,Tryz.ntmps10
 go_wp2_with fail
 refine C.mono ?_
 rintro e t1 ⟨⟨b6,a6,n6,c6,e6,b7,a7,n7,c7,e7,d7,rfl,hg1⟩,g1⟩
 have HC1:=ab (ac g1 HR0.out)
 have HG:=ab (ae HU0.out g1)
 have HSR:=ab (hg1.base HU0.out.size)
 have hf1:=av HC1.out
 obtain⟨m0,m1,m2,m3,m4,m5⟩:=hexa HC1.out
 clear g1 hg1 C
 go_wp2
 have T3:=aJ HC1.out (.bool b6) (.slice a6 n6 c6) (.int .i64 e6) (.bool b7) (.slice a7 n7 c7) (.int .i64 e7)
 have T4:=aF HG.out (show w.heap.size≤w.heap.size+1+1 by omega) (.bool b6) (.slice a6 n6 c6) (.int .i64 e6) (.bool b7) (.slice a7 n7 c7) (.int .i64 e7)
 have T5:=HSR.out.hexa HC1.out (by decide) (.bool b6) (.slice a6 n6 c6) (.int .i64 e6) (.bool b7) (.slice a7 n7 c7) (.int .i64 e7)
 obtain⟨p0,p1,p2,p3,p4,p5⟩:=hexa T3
 have HE:=ab (And.intro T5 T4)
 clear T3 T4 T5
 generalize (((((t1.setCell ⟨w.heap.size+1+1,0,none⟩ (.bool b6)).setCell ⟨w.heap.size+1+1,1,none⟩ (.slice a6 n6 c6)).setCell ⟨w.heap.size+1+1,2,none⟩ (.int .i64 e6)).setCell ⟨w.heap.size+1+1,3,none⟩ (.bool b7)).setCell ⟨w.heap.size+1+1,4,none⟩ (.slice a7 n7 c7)).setCell ⟨w.heap.size+1+1,5,none⟩ (.int .i64 e7)=w5 at *
 refine bodyPost_ret (v:=.tuple #[.agg #[.bool b6,.slice a6 n6 c6,.int .i64 e6,.bool b7,.slice a7 n7 c7,.int .i64 e7],.int .i64 d7]) (by simp [results,Tryz.results10,go_sem,p0,p1,p2,p3,p4,p5]) rfl ?_
 exact⟨⟨_,_,_,_,_,_,_,_,_,_,_,rfl,HE.out.1⟩,HE.out.2⟩

structure BK (base:Nat)(w w':World):Prop where
 below:Below base w w'
 box:∀(g:Nat) (cs:Array Value) (t:TypeId),t≠51→t≠22→w.heap[g]?=some (.cells cs t)→w'.heap[g]?=some (.cells cs t)

theorem BK.refl (base:Nat)(w:World):BK base w w:=⟨Below.refl _ _,fun _ _ _ _ _ h=>h⟩

theorem BK.store {base:Nat}{w wr:World}{g n cap:Nat}{zs:List Nat}(h:BK base w wr)(ha:Ans wr base (.slice (some ⟨g,0,none⟩) n cap) zs)(j:Nat)(u:Value):BK base w (wr.setCell ⟨g,j,none⟩ u):=by
 obtain⟨_,h2⟩:=ha.own
 rcases h2 with ⟨e,_⟩|⟨g',cap',cur,e,hge,hh,_⟩
 ·cases e
 ·simp only [Value.slice.injEq,Option.some.injEq,Addr.mk.injEq] at e
  obtain⟨⟨rfl,_⟩,_⟩:=e
  refine⟨h.below.setCell (p:=⟨g,j,none⟩) hge u,fun g2 cs t ht ht2 hc=>?_⟩
  have h1:=h.box g2 cs t ht ht2 hc
  rw [Below.heap_setCell _ _ _ _ ?_]
  ·exact h1
  ·rintro rfl
   rw [hh] at h1
   simp only [Option.some.injEq,Obj.cells.injEq] at h1
   exact ht h1.2.1.symm

theorem BK.grew {base:Nat}{w wr w2:World}{v:Value}{zs:List Nat}{L:Nat}{vs:Array Value}{o:Obj}(h:BK base w wr)(hrow:Ans wr base v zs)(hL:wr.heap[L]?=some (.cells vs 22 (0,0)))(hb:base≤L)(hg:(wr.alloc o).grownBy w2 v.ownBlock)(k:Nat)(u:Value) :
  BK base w (w2.setCell ⟨L,k,none⟩ u):=by
 have hLs:=lt_of_block hL
 refine⟨((h.below.alloc (by omega) _).grown hg (by simp;omega) (fun g hg=>(hrow.own.lt g hg).1)).setCell hb _,fun g2 cs t ht ht2 hc=>?_⟩
 have h1:=h.box g2 cs t ht ht2 hc
 have h1s:=lt_of_block h1
 have hsz:(wr.alloc o).heap.size=wr.heap.size+1:=by simp
 rw [Below.heap_setCell _ _ _ _ ?_]
 ·have e1:(wr.alloc o).heap[g2]?=wr.heap[g2]?:=Below.heap_alloc wr o g2 h1s
  rw [hg.block g2 (by omega) ?_,e1]
  ·exact h1
  ·intro e
   obtain⟨_,h2⟩:=hrow.own
   rcases h2 with ⟨rfl,_⟩|⟨g',cap',cur,rfl,hge,hh,_⟩
   ·simp [Value.ownBlock] at e
   ·simp [Value.ownBlock] at e
    subst e
    rw [hh] at h1
    simp only [Option.some.injEq,Obj.cells.injEq] at h1
    exact ht h1.2.1.symm
 ·rintro rfl
  rw [hL] at h1
  simp only [Option.some.injEq,Obj.cells.injEq] at h1
  exact ht2 h1.2.1.symm

structure bk (w:World)(base:Nat)(vs:List Value)(rss:List (List Nat)):Prop where
 len:vs.length=rss.length
 row:∀i,i<vs.length→Ans w base (vs.getD i aK) (rss.getD i [])
 apart:∀i j,i<vs.length→j<vs.length→i≠j→(vs.getD i aK).ownBlock=none∨(vs.getD i aK).ownBlock≠(vs.getD j aK).ownBlock

theorem bk.below {w w':World}{base:Nat}{vs:List Value}{rss:List (List Nat)}(h:bk w base vs rss)(hb:Below w.heap.size w w'):bk w' base vs rss:=⟨h.len,fun i hi=>(h.row i hi).below hb,h.apart⟩

theorem bZ (n:Int)(w:World):Calls Tryz.prog 5 #[.int .i64 n] w fun e w'=>e=.returned (.bool (ah n))∧w'=w:=by
 by_cases h1:-1099511627776≤n
 ·have h1':decide (-1099511627776≤n)=true:=decide_eq_true h1
  by_cases h2:n≤1099511627776
  ·have h2':decide (n≤1099511627776)=true:=decide_eq_true h2
   rw [(aH n).2 ⟨h1,h2⟩]
   go_enter Tryz.func5,Tryz.ntmps5
   go_wp2
   go_ret
   exact⟨rfl,rfl⟩
  ·have h2':decide (n≤1099511627776)=false:=decide_eq_false h2
   have e:ah n=false:=by rw [←Bool.not_eq_true,aH];omega
   rw [e]
   go_enter Tryz.func5,Tryz.ntmps5
   go_wp2
   go_ret
   exact⟨rfl,rfl⟩
 ·have h1':decide (-1099511627776≤n)=false:=decide_eq_false h1
  have e:ah n=false:=by rw [←Bool.not_eq_true,aH];omega
  rw [e]
  go_enter Tryz.func5,Tryz.ntmps5
  go_wp2
  go_ret
  exact⟨rfl,rfl⟩

def gl (w':World)(b:Bool)(v:Value)(M E:Int)(b':Bool)(v':Value)(E' f:Int):Prop:=
 (f=0∧b'=b∧v'=v∧E'=E∧blen M.natAbs≤67108864∧ah E=true∧Dn w' b v M)∨(f=3∧67108864<blen M.natAbs)∨(f=80∧blen M.natAbs≤67108864∧ah E=false)

theorem gv (b:Bool)(a:Option Addr)(n c:Nat)(M E:Int)(w:World)(h:Dn w b (.slice a n c) M) :
  Calls Tryz.prog 52 #[.agg #[.bool b,.slice a n c,.int .i64 E]] w fun e w'=>(∃b' a' n' c' E' f,e=.returned (.tuple #[.agg #[.bool b',.slice a' n' c',.int .i64 E'],.int .i64 f])∧gl w' b (.slice a n c) M E b' (.slice a' n' c') E' f)∧Below w.heap.size w w':=by
 obtain⟨w0,hw0,hb0,h0,h1⟩:=al w (.cells #[.bool b,.slice a n c,.int .i64 E] 31) (.cells #[.bool false,.slice none 0 0,.int .i64 0] 31)
 obtain⟨k0,k1,k2⟩:=tri8 h0
 have hf:=ak h1
 obtain⟨m0,m1,m2⟩:=tri8 h1
 have HL:=fN _ M.natAbs w0 (h.2.below hb0)
 have HFI:=bZ E w0
 have HC1:=ab h1
 have HG:=ab hb0
 have HDN:=ab (h.below hb0)
 clear h0 h1 hb0 h
 by_cases hb:blen M.natAbs≤67108864
 ·have i1:¬(67108864:Int)<((blen M.natAbs:Nat):Int):=by omega
  have HBL:=ab hb
  by_cases hfit:ah E=true
  ·have HFE:=ab hfit
   rw [hfit] at HFI
   clear hfit hb
   generalize hbl:blen M.natAbs=l at *
   go_enter Tryz.func52,Tryz.ntmps52
   go_wp2_with fail
   refine HL.mono ?_
   rintro e wn ⟨rfl,hw⟩;rw [hw];clear hw wn HL
   go_wp2_with fail
   refine HFI.mono ?_
   rintro e wn ⟨rfl,hw⟩;rw [hw];clear hw wn HFI
   go_wp2
   have T3:=ay HC1.out (.bool b) (.slice a n c) (.int .i64 E)
   have T4:=an HG.out (show w.heap.size≤w.heap.size+1 by omega) (.bool b) (.slice a n c) (.int .i64 E)
   have T5:=HDN.out.tri8 HC1.out b a n c (.int .i64 E)
   obtain⟨p0,p1,p2⟩:=tri8 T3
   have HE:=ab (And.intro T5 T4)
   clear T3 T4 T5
   generalize ((w0.setCell ⟨w.heap.size+1,0,none⟩ (.bool b)).setCell ⟨w.heap.size+1,1,none⟩ (.slice a n c)).setCell ⟨w.heap.size+1,2,none⟩ (.int .i64 E)=w5 at *
   refine bodyPost_ret (v:=.tuple #[.agg #[.bool b,.slice a n c,.int .i64 E],.int .i64 0]) (by simp [results,Tryz.results52,go_sem,p0,p1,p2]) rfl ?_
   exact⟨⟨_,_,_,_,_,_,rfl,.inl ⟨rfl,rfl,rfl,rfl,by rw [hbl];exact HBL.out,HFE.out,HE.out.1⟩⟩,HE.out.2⟩
  ·have hfit2:ah E=false:=by simpa using hfit
   have HFE:=ab hfit2
   rw [hfit2] at HFI
   clear hfit hfit2 hb
   generalize hbl:blen M.natAbs=l at *
   go_enter Tryz.func52,Tryz.ntmps52
   go_wp2_with fail
   refine HL.mono ?_
   rintro e wn ⟨rfl,hw⟩;rw [hw];clear hw wn HL
   go_wp2_with fail
   refine HFI.mono ?_
   rintro e wn ⟨rfl,hw⟩;rw [hw];clear hw wn HFI
   go_wp2
   have T3:=ay HC1.out (.bool false) (.slice none 0 0) (.int .i64 0)
   have T4:=an HG.out (show w.heap.size≤w.heap.size+1 by omega) (.bool false) (.slice none 0 0) (.int .i64 0)
   have T5:=HDN.out.tri8 HC1.out false none 0 0 (.int .i64 0)
   obtain⟨p0,p1,p2⟩:=tri8 T3
   have HE:=ab (And.intro T5 T4)
   clear T3 T4 T5
   generalize ((w0.setCell ⟨w.heap.size+1,0,none⟩ (.bool false)).setCell ⟨w.heap.size+1,1,none⟩ (.slice none 0 0)).setCell ⟨w.heap.size+1,2,none⟩ (.int .i64 0)=w5 at *
   refine bodyPost_ret (v:=.tuple #[.agg #[.bool false,.slice none 0 0,.int .i64 0],.int .i64 80]) (by simp [results,Tryz.results52,go_sem,p0,p1,p2]) rfl ?_
   exact⟨⟨_,_,_,_,_,_,rfl,.inr (.inr ⟨rfl,by rw [hbl];exact HBL.out,HFE.out⟩)⟩,HE.out.2⟩
 ·have i1:(67108864:Int)<((blen M.natAbs:Nat):Int):=by omega
  have HBL:=ab (Nat.lt_of_not_le hb)
  clear hb HFI
  generalize hbl:blen M.natAbs=l at *
  go_enter Tryz.func52,Tryz.ntmps52
  go_wp2_with fail
  refine HL.mono ?_
  rintro e wn ⟨rfl,hw⟩;rw [hw];clear hw wn HL
  go_wp2
  have T3:=ay HC1.out (.bool false) (.slice none 0 0) (.int .i64 0)
  have T4:=an HG.out (show w.heap.size≤w.heap.size+1 by omega) (.bool false) (.slice none 0 0) (.int .i64 0)
  have T5:=HDN.out.tri8 HC1.out false none 0 0 (.int .i64 0)
  obtain⟨p0,p1,p2⟩:=tri8 T3
  have HE:=ab (And.intro T5 T4)
  clear T3 T4 T5
  generalize ((w0.setCell ⟨w.heap.size+1,0,none⟩ (.bool false)).setCell ⟨w.heap.size+1,1,none⟩ (.slice none 0 0)).setCell ⟨w.heap.size+1,2,none⟩ (.int .i64 0)=w5 at *
  refine bodyPost_ret (v:=.tuple #[.agg #[.bool false,.slice none 0 0,.int .i64 0],.int .i64 3]) (by simp [results,Tryz.results52,go_sem,p0,p1,p2]) rfl ?_
  exact⟨⟨_,_,_,_,_,_,rfl,.inr (.inl ⟨rfl,by rw [hbl];exact HBL.out⟩)⟩,HE.out.2⟩

def bB (c:Int):Prop:=c=0∨c=3∨c=80

theorem kA (M E:Int):bB (aS M E):=by
 unfold aS bB
 split
 ·exact .inr (.inl rfl)
 ·split
  ·exact .inl rfl
  ·exact .inr (.inr rfl)

theorem dL (c1 c2:Int)(w:World)(h1:bB c1)(h2:bB c2) :
  Calls Tryz.prog 53 #[.int .i64 c1,.int .i64 c2] w fun e w'=>e=.returned (.int .i64 (aE c1 c2))∧w'=w:=by
 rcases h1 with rfl|rfl|rfl <;> rcases h2 with rfl|rfl|rfl <;>
  (go_enter Tryz.func53,Tryz.ntmps53
   go_wp2
   go_ret
   exact⟨rfl,rfl⟩)

theorem pE (b:Bool)(a:Option Addr)(c:Nat)(X:List Nat)(ex:Int)(w:World)(hA:Arg w (.slice a X.length c) X)(hf:X.length≤17592186043904)(hE:ah ex=true) :
  Calls Tryz.prog 15 #[.agg #[.bool b,.slice a X.length c,.int .i64 ex]] w fun e w'=>(∃b' a' n' c',e=.returned (.agg #[.bool b',.slice a' n' c',.int .i64 (oe (zz b (val X)) ex)])∧Dn w' b' (.slice a' n' c') (omz (zz b (val X))))∧Below w.heap.size w w':=by
 obtain⟨w0,hw0,hb0,h0,h1⟩:=al w (.cells #[.bool b,.slice a X.length c,.int .i64 ex] 24) (.cells #[.bool false,.slice none 0 0,.int .i64 0] 31)
 obtain⟨k0,k1,k2⟩:=tri8 h0
 have hEr:=(aH ex).1 hE
 have gd:Below w.heap.size w w0.drew:=hb0.drew
 have g0:Below w0.drew.heap.size w0.drew w0.drew:=Below.refl _ _
 have HO:=rL b _ X w0.drew (hA.below gd) (by omega)
 have hbl:blen (zz b (val X)).natAbs≤1125899906840000:=by
  rw [aV];have:=su hA.limbs;omega
 have HD:=ab (fun (W:World) (b1:Bool) (a1:Option Addr) (n1 c1:Nat) (hz:Zn W (.agg #[.bool b1,.slice a1 n1 c1]) (zz b (val X)))=>dF b1 a1 n1 c1 (zz b (val X)) ex W hz hbl (by omega) (by omega))
 have KS:=ab (fun (W:World) (hg:Below w0.drew.heap.size w0.drew W)=>show W.cell? ⟨w.heap.size,0,none⟩=some (.bool b)∧W.cell? ⟨w.heap.size,1,none⟩=some (.slice a X.length c)∧W.cell? ⟨w.heap.size,2,none⟩=some (.int .i64 ex) from tri8 (ac hg (show w0.drew.heap[w.heap.size]?=some (.cells #[.bool b,.slice a X.length c,.int .i64 ex] 24) from h0)))
 have so:∀(W:World) (k:Nat) (u:Value) (k':Nat),(W.setCell ⟨w.heap.size+1,k,none⟩ u).cell? ⟨w.heap.size,k',none⟩=W.cell? ⟨w.heap.size,k',none⟩:=fun W k u k'=>aZ (by omega)
 have H1:=ab (show w0.drew.heap[w.heap.size+1]?=some (.cells #[.bool false,.slice none 0 0,.int .i64 0] 31) from h1)
 have HB:=ab gd
 clear h0 h1 hb0 gd hE hA hbl
 generalize omz (zz b (val X))=M at *
 generalize oe (zz b (val X)) ex=E at *
 generalize zz b (val X)=z at *
 go_enter Tryz.func15,Tryz.ntmps15
 go_wp2
 go_region_held3 (fun w'=>w'.cell? ⟨w.heap.size,0,none⟩=some (.bool b)∧w'.cell? ⟨w.heap.size,1,none⟩=some (.slice a X.length c)∧w'.cell? ⟨w.heap.size,2,none⟩=some (.int .i64 ex)) (first|with_reducible exact KS.out _ g2|with_reducible exact KS.out _ g1|with_reducible exact KS.out _ g0 | (refine⟨?_,?_,?_⟩ <;> (rw [so,so,so];first|exact (KS.out _ g2).1|exact (KS.out _ g2).2.1|exact (KS.out _ g2).2.2))) (first
  | (go_at_call 35;refine HO.mono ?_;rintro e' t1 ⟨⟨b1,a1,n1,c1,rfl,z1⟩,g1⟩)
  | (go_at_call 34;refine (HD.out t1 b1 a1 n1 c1 z1).mono ?_;rintro e' t2 ⟨⟨b2,a2,n2,c2,rfl,d2⟩,hb2⟩;have g2:=ae g1 hb2;have hz:=ac g2 H1.out;have hf:=ak hz;obtain⟨m0,m1,m2⟩:=tri8 hz))
 have T3:=ay hz (.bool b2) (.slice a2 n2 c2) (.int .i64 E)
 have T4:=an (ae HB.out g2) (show w.heap.size≤w.heap.size+1 by omega) (.bool b2) (.slice a2 n2 c2) (.int .i64 E)
 have T5:=d2.tri8 hz b2 a2 n2 c2 (.int .i64 E)
 obtain⟨p0,p1,p2⟩:=tri8 T3
 have HE:=ab (And.intro T5 T4)
 clear T3 T4 T5 so m0 m1 m2 hf KS g0 g1 g2 hb2 HO hz d2 z1 HD k0 k1 k2
 generalize ((t2.setCell ⟨w.heap.size+1,0,none⟩ (.bool b2)).setCell ⟨w.heap.size+1,1,none⟩ (.slice a2 n2 c2)).setCell ⟨w.heap.size+1,2,none⟩ (.int .i64 E)=w5 at *
 go_wp2
 refine bodyPost_ret (v:=.agg #[.bool b2,.slice a2 n2 c2,.int .i64 E]) (by simp [results,Tryz.results15,go_sem,p0,p1,p2]) rfl ?_
 exact⟨⟨_,_,_,_,rfl,HE.out.1⟩,HE.out.2⟩



theorem gl.code {w:World}{b:Bool}{v:Value}{M E:Int}{b':Bool}{v':Value}{E' f:Int}(h:gl w b v M E b' v' E' f):f=aS M E:=by
 unfold aS
 rcases h with ⟨rfl,_,_,_,h1,h2,_⟩|⟨rfl,h1⟩|⟨rfl,h1,h2⟩
 ·rw [if_neg (by omega),if_pos h2]
 ·rw [if_pos h1]
 ·rw [if_neg (by omega),if_neg (by rw [h2];decide)]

def lU (w:World)(e:Ending)(w':World)(b1:Bool)(a1:Option Addr)(n1 k1:Nat)(E1:Int)(b2:Bool)(a2:Option Addr)(n2 k2:Nat)(E2 R:Int):Prop:=
 (∃p a n k x p' a' n' k' x',e=.returned (.tuple #[.agg #[.bool p,.slice a n k,.int .i64 x,.bool p',.slice a' n' k',.int .i64 x'],.int .i64 R])∧(R=0→p=b1∧a=a1∧n=n1∧k=k1∧x=E1∧p'=b2∧a'=a2∧n'=n2∧k'=k2∧x'=E2))∧Below w.heap.size w w'

theorem ji (b1:Bool)(a1:Option Addr)(n1 k1:Nat)(M1 E1:Int)(b2:Bool)(a2:Option Addr)(n2 k2:Nat)(M2 E2:Int)(w:World)(h1:Dn w b1 (.slice a1 n1 k1) M1)(h2:Dn w b2 (.slice a2 n2 k2) M2) :
  Calls Tryz.prog 30 #[.agg #[.bool b1,.slice a1 n1 k1,.int .i64 E1,.bool b2,.slice a2 n2 k2,.int .i64 E2]] w fun e w'=>lU w e w' b1 a1 n1 k1 E1 b2 a2 n2 k2 E2 (aE (aS M1 E1) (aS M2 E2)):=by
 obtain⟨w0,hw0,hb0,q0,q9⟩:=al w (.cells #[.bool b1,.slice a1 n1 k1,.int .i64 E1,.bool b2,.slice a2 n2 k2,.int .i64 E2] 33) (.cells #[.bool false,.slice none 0 0,.int .i64 0,.bool false,.slice none 0 0,.int .i64 0] 33)
 obtain⟨y0,y1,y2,y3,y4,y5⟩:=hexa q0
 have HU0:=ab hb0
 have HQ0:=ab q0
 have HR0:=ab q9
 have C1:=ab (fun (W:World) (hg:Below w.heap.size w W)=>gv b1 a1 n1 k1 M1 E1 W (h1.below hg))
 have C2:=ab (fun (W:World) (hg:Below w.heap.size w W)=>gv b2 a2 n2 k2 M2 E2 W (h2.below hg))
 have WO:=ab (fun (W:World)=>dL (aS M1 E1) (aS M2 E2) W (kA _ _) (kA _ _))
 obtain⟨R,hRR⟩:∃R,aE (aS M1 E1) (aS M2 E2)=R:=⟨_,rfl⟩
 rw [hRR] at WO ⊢
 clear q0 q9 hb0 h1 h2 hRR
 go_enter Tryz.func30,Tryz.ntmps30
 go_wp2_with fail
 refine (C1.out w0 HU0.out).mono ?_
 rintro e t1 ⟨⟨b6,a6,n6,c6,e6,d6,rfl,hg⟩,g1⟩
 have hc:=hg.code
 subst hc
 obtain⟨w2,hw2,hb2,q2⟩:=ag t1 (.cells #[.bool b6,.slice a6 n6 c6,.int .i64 e6] 31)
 have s2:=ae g1 hb2
 have HU2:=ab (ae HU0.out s2)
 have HQ1:=ab (ac s2 HQ0.out)
 have HR1:=ab (ac s2 HR0.out)
 clear g1 hg hb2 q2 s2 y0 y1 y2 y3 y4 y5 hw0
 obtain⟨z0,z1,z2,z3,z4,z5⟩:=hexa HQ1.out
 go_wp2_with fail
 refine (C2.out w2 HU2.out).mono ?_
 rintro e t3 ⟨⟨b7,a7,n7,c7,e7,d7,rfl,hg⟩,g1⟩
 have hc:=hg.code
 subst hc
 obtain⟨w4,hw4,hb4,q4⟩:=ag t3 (.cells #[.bool b7,.slice a7 n7 c7,.int .i64 e7] 31)
 have s4:=ae g1 hb4
 have HG:=ab (ae HU2.out s4)
 have HC1:=ab (ac s4 HR1.out)
 clear z0 z1 z2 z3 z4 z5
 obtain⟨z0,z1,z2,z3,z4,z5⟩:=hexa (ac s4 HQ1.out)
 clear g1 hg hb4 q4 s4 hw2
 have W1:=WO.out w4
 have W2:=WO.out w4
 generalize aS M1 E1=D1 at *
 generalize aS M2 E2=D2 at *
 have hf1:=av HC1.out
 obtain⟨m0,m1,m2,m3,m4,m5⟩:=hexa HC1.out
 clear WO
 by_cases hR:R=0
 ·subst hR
  go_wp2_with fail
  refine W1.mono ?_
  rintro e wn ⟨rfl,hw⟩;rw [hw];clear hw wn W1 W2
  go_wp2
  have T3:=aJ HC1.out (.bool b1) (.slice a1 n1 k1) (.int .i64 E1) (.bool b2) (.slice a2 n2 k2) (.int .i64 E2)
  have T4:=aF HG.out (show w.heap.size≤w.heap.size+1 by omega) (.bool b1) (.slice a1 n1 k1) (.int .i64 E1) (.bool b2) (.slice a2 n2 k2) (.int .i64 E2)
  obtain⟨p0,p1,p2,p3,p4,p5⟩:=hexa T3
  have HE:=ab T4
  clear T3 T4
  generalize (((((w4.setCell ⟨w.heap.size+1,0,none⟩ (.bool b1)).setCell ⟨w.heap.size+1,1,none⟩ (.slice a1 n1 k1)).setCell ⟨w.heap.size+1,2,none⟩ (.int .i64 E1)).setCell ⟨w.heap.size+1,3,none⟩ (.bool b2)).setCell ⟨w.heap.size+1,4,none⟩ (.slice a2 n2 k2)).setCell ⟨w.heap.size+1,5,none⟩ (.int .i64 E2)=w5 at *
  refine bodyPost_ret (v:=.tuple #[.agg #[.bool b1,.slice a1 n1 k1,.int .i64 E1,.bool b2,.slice a2 n2 k2,.int .i64 E2],.int .i64 0]) (by simp [results,Tryz.results30,go_sem,p0,p1,p2,p3,p4,p5]) rfl ?_
  exact⟨⟨_,_,_,_,_,_,_,_,_,_,rfl,fun _=>⟨rfl,rfl,rfl,rfl,rfl,rfl,rfl,rfl,rfl,rfl⟩⟩,HE.out⟩
 ·have i9:(R != 0)=true:=by simpa using hR
  go_wp2_with fail
  refine W1.mono ?_
  rintro e wn ⟨rfl,hw⟩;rw [hw];clear hw wn W1
  go_wp2_with fail
  refine W2.mono ?_
  rintro e wn ⟨rfl,hw⟩;rw [hw];clear hw wn W2
  go_wp2
  have T3:=aJ HC1.out (.bool false) (.slice none 0 0) (.int .i64 0) (.bool false) (.slice none 0 0) (.int .i64 0)
  have T4:=aF HG.out (show w.heap.size≤w.heap.size+1 by omega) (.bool false) (.slice none 0 0) (.int .i64 0) (.bool false) (.slice none 0 0) (.int .i64 0)
  obtain⟨p0,p1,p2,p3,p4,p5⟩:=hexa T3
  have HE:=ab T4
  clear T3 T4
  generalize (((((w4.setCell ⟨w.heap.size+1,0,none⟩ (.bool false)).setCell ⟨w.heap.size+1,1,none⟩ (.slice none 0 0)).setCell ⟨w.heap.size+1,2,none⟩ (.int .i64 0)).setCell ⟨w.heap.size+1,3,none⟩ (.bool false)).setCell ⟨w.heap.size+1,4,none⟩ (.slice none 0 0)).setCell ⟨w.heap.size+1,5,none⟩ (.int .i64 0)=w5 at *
  refine bodyPost_ret (v:=.tuple #[.agg #[.bool false,.slice none 0 0,.int .i64 0,.bool false,.slice none 0 0,.int .i64 0],.int .i64 R]) (by simp [results,Tryz.results30,go_sem,p0,p1,p2,p3,p4,p5]) rfl ?_
  exact⟨⟨_,_,_,_,_,_,_,_,_,_,rfl,fun h=>absurd h hR⟩,HE.out⟩

theorem iS (f:Int)(b1:Bool)(a1:Option Addr)(n1 k1:Nat)(E1:Int)(b2:Bool)(a2:Option Addr)(n2 k2:Nat)(E2:Int)(w:World)(hf:f≠0) :
  Calls Tryz.prog 12 #[.agg #[.bool false,.slice none 0 0,.int .i64 0,.bool false,.slice none 0 0,.int .i64 0],.int .i64 f,.agg #[.bool b1,.slice a1 n1 k1,.int .i64 E1,.bool b2,.slice a2 n2 k2,.int .i64 E2],.int .i64 f] w fun e w'=>e=.returned (.bool true)∧Below w.heap.size w w':=by
 obtain⟨w0,hw0,hb0,q0,q1⟩:=al w (.cells #[.bool false,.slice none 0 0,.int .i64 0,.bool false,.slice none 0 0,.int .i64 0] 45) (.cells #[.bool b1,.slice a1 n1 k1,.int .i64 E1,.bool b2,.slice a2 n2 k2,.int .i64 E2] 33)
 obtain⟨y0,y1,y2,y3,y4,y5⟩:=hexa q0
 have HN:=fd f w0
 have f1:((f:Int) == 0)=false:=by rw [beq_eq_false_iff_ne];exact hf
 have f2:((f:Int) != 0)=true:=by rw [bne,f1];rfl
 have f3:((f:Int) == f)=true:=by simp
 have HB:=ab hb0
 clear q0 q1 hb0 hf
 go_enter Tryz.func12,Tryz.ntmps12
 go_wp2_with fail
 refine HN.mono ?_
 rintro e wn ⟨rfl,hw⟩;rw [hw];clear hw wn HN
 go_wp2
 go_ret
 exact⟨rfl,HB.out⟩

theorem dt {w:World}{g h:Nat}(hn:h≠g)(u0 u1 u2 u3 u4 u5:Value):((((((w.setCell ⟨g,0,none⟩ u0).setCell ⟨g,1,none⟩ u1).setCell ⟨g,2,none⟩ u2).setCell ⟨g,3,none⟩ u3).setCell ⟨g,4,none⟩ u4).setCell ⟨g,5,none⟩ u5).heap[h]?=w.heap[h]?:=by
 rw [Below.heap_setCell _ _ _ _ hn,Below.heap_setCell _ _ _ _ hn,Below.heap_setCell _ _ _ _ hn,Below.heap_setCell _ _ _ _ hn,Below.heap_setCell _ _ _ _ hn,Below.heap_setCell _ _ _ _ hn]

theorem DR.is {w:World}{base:Nat}{b:Bool}{a:Option Addr}{n c:Nat}{ex M E:Int}(h:DR w base b (.slice a n c) ex 0 M E):ex=E∧∀(W:World) (b':Bool) (a':Option Addr) (n' c':Nat),Below w.heap.size w W→Dn W b' (.slice a' n' c') M→Calls Tryz.prog 21 #[.agg #[.bool b',.slice a' n' c',.int .i64 E],.bool b,.slice a n c,.int .i64 ex] W fun e w'=>e=.returned (.bool true)∧Below W.heap.size W w':=by
 obtain⟨rs,A1,H2⟩:=h
 rcases H2 with ⟨_,q2,q3,q4,q5,q6,q7⟩|⟨q1,_⟩|⟨q1,_⟩
 ·subst q5
  refine⟨rfl,fun W b' a' n' c' hg hd=>?_⟩
  have eb:b'=b:=by rw [hd.1,q2]
  subst eb
  have hl:rs.length≤1048576:=bu q4 q3 (by omega)
  exact jS b' a' n' c' M ex (.slice a n c) rs W hd ((A1.below hg).arg (by omega)) q4 q3 (by omega)
 ·omega
 ·omega

theorem sd (b:Bool)(a:Option Addr)(n k:Nat)(ex:Int)(b':Bool)(a':Option Addr)(n' k':Nat)(ex' r:Int)(b1:Bool)(a1:Option Addr)(n1 k1:Nat)(M1 E1:Int)(b2:Bool)(a2:Option Addr)(n2 k2:Nat)(M2 E2:Int)(base:Nat)(w:World)(hS:SR w base b (.slice a n k) ex b' (.slice a' n' k') ex' r M1 E1 M2 E2)(h1:Dn w b1 (.slice a1 n1 k1) M1)(h2:Dn w b2 (.slice a2 n2 k2) M2) :
  Calls Tryz.prog 12 #[.agg #[.bool b,.slice a n k,.int .i64 ex,.bool b',.slice a' n' k',.int .i64 ex'],.int .i64 r,.agg #[.bool b1,.slice a1 n1 k1,.int .i64 E1,.bool b2,.slice a2 n2 k2,.int .i64 E2],.int .i64 0] w fun e w'=>e=.returned (.bool true)∧Below w.heap.size w w':=by
 obtain⟨w0,hw0,hb0,q0,q1⟩:=al w (.cells #[.bool b,.slice a n k,.int .i64 ex,.bool b',.slice a' n' k',.int .i64 ex'] 45) (.cells #[.bool b1,.slice a1 n1 k1,.int .i64 E1,.bool b2,.slice a2 n2 k2,.int .i64 E2] 33)
 obtain⟨m0,m1,m2,m3,m4,m5⟩:=hexa q1
 have HTD:=ji b1 a1 n1 k1 M1 E1 b2 a2 n2 k2 M2 E2 w0 (h1.below hb0) (h2.below hb0)
 have hr:=hS.1
 rw [←hr] at HTD
 have H0:=ab q0
 have H1:=ab q1
 have HB:=ab hb0
 have HS:=ab hS
 have HD:=ab (And.intro h1 h2)
 clear q0 q1 hb0 h1 h2 hS hr
 by_cases hR:r=0
 ·subst hR
  obtain⟨s1,s2,_⟩:=HS.out.2.1 rfl
  obtain⟨x1,I1⟩:=s1.is
  obtain⟨x2,I2⟩:=s2.is
  subst x1 x2
  have J1:=ab I1
  have J2:=ab I2
  clear s1 s2 I1 I2 HS
  go_enter Tryz.func12,Tryz.ntmps12
  go_wp2_with fail
  refine HTD.mono ?_
  rintro e t1 ⟨⟨b6,a6,n6,c6,e6,b7,a7,n7,c7,e7,rfl,hz⟩,g1⟩
  obtain⟨rfl,rfl,rfl,rfl,rfl,rfl,rfl,rfl,rfl,rfl⟩:=hz rfl
  have G1:=ae HB.out g1
  have c1:=ac g1 H1.out
  have d0:=(dt (show w.heap.size≠w.heap.size+1 by omega) (.bool b6) (.slice a6 n6 c6) (.int .i64 e6) (.bool b7) (.slice a7 n7 c7) (.int .i64 e7)).trans (ac g1 H0.out)
  have d1:=aJ c1 (.bool b6) (.slice a6 n6 c6) (.int .i64 e6) (.bool b7) (.slice a7 n7 c7) (.int .i64 e7)
  have G2:=aF G1 (show w.heap.size≤w.heap.size+1 by omega) (.bool b6) (.slice a6 n6 c6) (.int .i64 e6) (.bool b7) (.slice a7 n7 c7) (.int .i64 e7)
  have hf1:=av c1
  obtain⟨m0,m1,m2,m3,m4,m5⟩:=hexa c1
  have HN:=fd 0 ((((((t1.setCell ⟨w.heap.size+1,0,none⟩ (.bool b6)).setCell ⟨w.heap.size+1,1,none⟩ (.slice a6 n6 c6)).setCell ⟨w.heap.size+1,2,none⟩ (.int .i64 e6)).setCell ⟨w.heap.size+1,3,none⟩ (.bool b7)).setCell ⟨w.heap.size+1,4,none⟩ (.slice a7 n7 c7)).setCell ⟨w.heap.size+1,5,none⟩ (.int .i64 e7))
  obtain⟨y0,y1,y2,y3,y4,y5⟩:=hexa d0
  obtain⟨z0,z1,z2,z3,z4,z5⟩:=hexa d1
  have K1:=J1.out _ b6 a6 n6 c6 G2 (HD.out.1.below G2)
  have HG:=ab G2
  have HD0:=ab d0
  have HD1:=ab d1
  clear G1 G2 c1 d0 d1 g1 HTD J1
  go_wp2_with fail
  refine HN.mono ?_
  rintro e wn ⟨rfl,hw⟩;rw [hw];clear hw wn HN
  go_wp2_with fail
  refine K1.mono ?_
  rintro e t2 ⟨rfl,g2⟩
  have GG:=ae HG.out g2
  have K2:=J2.out t2 b7 a7 n7 c7 GG (HD.out.2.below GG)
  have HGG:=ab GG
  clear y0 y1 y2 y3 y4 y5 z0 z1 z2 z3 z4 z5 K1 J2
  obtain⟨y0,y1,y2,y3,y4,y5⟩:=hexa (ac g2 HD0.out)
  obtain⟨z0,z1,z2,z3,z4,z5⟩:=hexa (ac g2 HD1.out)
  clear g2 GG HD0 HD1 m0 m1 m2 m3 m4 m5 hf1
  go_wp2_with fail
  refine K2.mono ?_
  rintro e t3 ⟨rfl,g3⟩
  have HE:=ab (ae HGG.out g3)
  clear g3 K2
  go_wp2
  go_ret
  exact⟨rfl,HE.out⟩
 ·obtain⟨x1,x2,x3,x4,x5,x6⟩:=HS.out.2.2 hR
  subst x1 x3 x4 x6
  cases x2
  cases x5
  have f1:((r:Int) == 0)=false:=by rw [beq_eq_false_iff_ne];exact hR
  have f2:((r:Int) != 0)=true:=by rw [bne,f1];rfl
  have f3:((r:Int) == r)=true:=by simp
  clear HS
  go_enter Tryz.func12,Tryz.ntmps12
  go_wp2_with fail
  refine HTD.mono ?_
  rintro e t1 ⟨⟨b6,a6,n6,c6,e6,b7,a7,n7,c7,e7,rfl,hz⟩,g1⟩
  have G1:=ae HB.out g1
  have c1:=ac g1 H1.out
  have d0:=(dt (show w.heap.size≠w.heap.size+1 by omega) (.bool b6) (.slice a6 n6 c6) (.int .i64 e6) (.bool b7) (.slice a7 n7 c7) (.int .i64 e7)).trans (ac g1 H0.out)
  have G2:=aF G1 (show w.heap.size≤w.heap.size+1 by omega) (.bool b6) (.slice a6 n6 c6) (.int .i64 e6) (.bool b7) (.slice a7 n7 c7) (.int .i64 e7)
  have hf1:=av c1
  obtain⟨m0,m1,m2,m3,m4,m5⟩:=hexa c1
  have HN:=fd r ((((((t1.setCell ⟨w.heap.size+1,0,none⟩ (.bool b6)).setCell ⟨w.heap.size+1,1,none⟩ (.slice a6 n6 c6)).setCell ⟨w.heap.size+1,2,none⟩ (.int .i64 e6)).setCell ⟨w.heap.size+1,3,none⟩ (.bool b7)).setCell ⟨w.heap.size+1,4,none⟩ (.slice a7 n7 c7)).setCell ⟨w.heap.size+1,5,none⟩ (.int .i64 e7))
  obtain⟨y0,y1,y2,y3,y4,y5⟩:=hexa d0
  have HG:=ab G2
  clear G1 G2 c1 d0 g1 HTD hz
  go_wp2_with fail
  refine HN.mono ?_
  rintro e wn ⟨rfl,hw⟩;rw [hw];clear hw wn HN
  go_wp2
  go_ret
  exact⟨rfl,HG.out⟩
end Go.Proofs.YtkfbobefkbpdoaaGreatDoor
namespace Go.Proofs.YtkfbobefkbpdoaaGreatDoor
open Go.RowKit
open Lm

theorem Dn.zn {w:World}{b:Bool}{v:Value}{M:Int}(h:Dn w b v M):Zn w (.agg #[.bool b,v]) M:=⟨v,by rw [h.1],h.2⟩
end Go.Proofs.YtkfbobefkbpdoaaGreatDoor
namespace Go.Proofs.YtkfbobefkbpdoaaGreatDoor
open Go.RowKit
open Lm
attribute [local go_sem ↓] Go.wp_at_zero Go.wp_at_succ





theorem cg (b:Bool)(a:Option Addr)(n c:Nat)(M E:Int)(w:World)(h:Dn w b (.slice a n c) M)(hbl:blen M.natAbs≤2251799813685248)(h1:-2305843009213693952≤E)(h2:E≤2305843009213693952) :
  Calls Tryz.prog 36 #[.agg #[.bool b,.slice a n c,.int .i64 E]] w fun e w'=>e=.returned (.int .i64 (((blen M.natAbs:Nat):Int) - 1+E))∧Below w.heap.size w w':=by
 obtain⟨w0,hw0,hb0,h0⟩:=ag w (.cells #[.bool b,.slice a n c,.int .i64 E] 31)
 have gd:Below w.heap.size w w0.drew:=hb0.drew
 have g0:Below w0.drew.heap.size w0.drew w0.drew:=Below.refl _ _
 have KS:=ab (fun (W:World) (hg:Below w0.drew.heap.size w0.drew W)=>show W.cell? ⟨w.heap.size,0,none⟩=some (.bool b)∧W.cell? ⟨w.heap.size,1,none⟩=some (.slice a n c)∧W.cell? ⟨w.heap.size,2,none⟩=some (.int .i64 E) from tri8 (ac hg (show w0.drew.heap[w.heap.size]?=some (.cells #[.bool b,.slice a n c,.int .i64 E] 31) from h0)))
 have HL:=fN _ M.natAbs w0.drew (h.2.below gd)
 have w1:IntKind.i64.wrap (((blen M.natAbs:Nat):Int) - 1)=((blen M.natAbs:Nat):Int) - 1:=by rw [IntKind.wrap_i64];omega
 have w2:IntKind.i64.wrap (((blen M.natAbs:Nat):Int) - 1+E)=((blen M.natAbs:Nat):Int) - 1+E:=by rw [IntKind.wrap_i64];omega
 generalize blen M.natAbs=l at *
 have HB:=ab gd
 obtain⟨x0,x1,x2⟩:=KS.out _ g0
 clear h0 hb0 gd h
 generalize hs1:(l:Int) - 1=s1 at *
 have hs2:(l:Int) - 1=s1:=hs1
 clear hs1
 go_enter Tryz.func36,Tryz.ntmps36
 go_wp2
 go_region_held3 (fun w'=>w'.cell? ⟨w.heap.size,0,none⟩=some (.bool b)∧w'.cell? ⟨w.heap.size,1,none⟩=some (.slice a n c)∧w'.cell? ⟨w.heap.size,2,none⟩=some (.int .i64 E)) (first|with_reducible exact KS.out _ g0) (first
  | (go_at_call 59;refine HL.mono ?_;rintro e' wn ⟨rfl,hw⟩;rw [hw];clear hw wn))
 have HE:=ab HB.out
 clear g0 KS HL
 go_wp2
 go_ret
 exact⟨rfl,HE.out⟩

theorem lZ (b:Bool)(x n:Nat):zz b (x*2 ^ n)=zz b x*2 ^ n:=by cases b <;> simp [zz,Int.neg_mul]

theorem iQ (b:Bool)(a:Option Addr)(m c:Nat)(z:Int)(n:Nat)(w:World)(hZ:Zn w (.agg #[.bool b,.slice a m c]) z)(hf:blen z.natAbs+n≤1125899906840000) :
  Calls Tryz.prog 38 #[.agg #[.bool b,.slice a m c],.int .i64 n] w (cv w (z*2 ^ n)):=by
 obtain⟨u,e1,hnum⟩:=hZ
 have e2:b=decide (z<0)∧.slice a m c=u:=by
  have:=congrArg Value.cells e1
  simp [Value.cells] at this
  exact this
 obtain⟨hbz,rfl⟩:=e2
 obtain⟨w0,hw0,hb0,h0,h1⟩:=al w (.cells #[.bool b,.slice a m c] 29) (.cells #[.bool false,.slice none 0 0] 29)
 have gd:Below w.heap.size w w0.drew:=hb0.drew
 have g0:Below w0.drew.heap.size w0.drew w0.drew:=Below.refl _ _
 have HR:=cY (.slice a m c) z.natAbs n w0.drew (hnum.below gd) hf
 have hzz:zz b (z.natAbs*2 ^ n)=z*2 ^ n:=by rw [lZ,hbz,cL]
 have HMK:=ab (fun (W:World) (v:Value) (h:Num W v (z.natAbs*2 ^ n))=>show Calls Tryz.prog 57 #[.bool b,v] W (cv W (z*2 ^ n)) by have:=bK b v _ W h;rw [hzz] at this;exact this)
 have KS:=ab (fun (W:World) (hg:Below w0.drew.heap.size w0.drew W)=>show W.cell? ⟨w.heap.size,0,none⟩=some (.bool b)∧W.cell? ⟨w.heap.size,1,none⟩=some (.slice a m c) from duo (ac hg (show w0.drew.heap[w.heap.size]?=some (.cells #[.bool b,.slice a m c] 29) from h0)))
 have so:∀(W:World) (k:Nat) (u:Value) (k':Nat),(W.setCell ⟨w.heap.size+1,k,none⟩ u).cell? ⟨w.heap.size,k',none⟩=W.cell? ⟨w.heap.size,k',none⟩:=fun W k u k'=>aZ (by omega)
 have HC1:=ab h1
 have HD:=ab gd
 have hn0:(0:Int)≤(n:Int):=by omega
 clear gd h0 h1 hb0 hnum e1 hzz hbz
 generalize z*2 ^ n=zs at *
 generalize z.natAbs*2 ^ n=xs at *
 go_enter Tryz.func38,Tryz.ntmps38
 go_wp2
 go_region_held3 (fun w'=>w'.cell? ⟨w.heap.size,0,none⟩=some (.bool b)∧w'.cell? ⟨w.heap.size,1,none⟩=some (.slice a m c)) (first|with_reducible exact KS.out _ g2|with_reducible exact KS.out _ g1|with_reducible exact KS.out _ g0 | (refine⟨?_,?_⟩ <;> (rw [so,so];first|exact (KS.out _ g2).1|exact (KS.out _ g2).2))) (first
  | (go_at_call 61;refine HR.mono ?_;rintro e' t1 ⟨⟨v1,rfl,N1⟩,g1⟩;obtain⟨a1,n1,c1,rfl⟩:=N1.sl)
  | (go_at_call 57;refine (HMK.out t1 _ N1).mono ?_;rintro e' t2 ⟨⟨b2,a2,n2,c2,rfl,Z2⟩,hb2⟩;have g2:=ae g1 hb2;have hz:=ac g2 (show w0.drew.heap[w.heap.size+1]?=some (.cells #[.bool false,.slice none 0 0] 29) from HC1.out);have hf2:=aB hz;obtain⟨m0,m1⟩:=duo hz))
 have T3:=aP hz (a':=.bool b2) (b':=.slice a2 n2 c2)
 have T4:=aO (ae HD.out g2) (g:=w.heap.size+1) (u0:=.bool b2) (u1:=.slice a2 n2 c2) (by omega)
 have T5:=Z2.duo (p1:=b2) (r1:=.slice a2 n2 c2) hz
 obtain⟨p0,p1⟩:=duo T3
 have HE:=ab (And.intro T5 T4)
 clear T3 T4 T5 so m0 m1 hf2 KS g0 g1 g2 hb2 HR hz N1 Z2 HMK
 generalize (t2.setCell ⟨w.heap.size+1,0,none⟩ (.bool b2)).setCell ⟨w.heap.size+1,1,none⟩ (.slice a2 n2 c2)=w5 at *
 go_wp2
 refine bodyPost_ret (v:=.agg #[.bool b2,.slice a2 n2 c2]) (by simp [results,Tryz.results38,go_sem,p0,p1]) rfl ?_
 exact⟨⟨_,_,_,_,rfl,HE.out.1⟩,HE.out.2⟩

theorem iF {x y p q:Nat}(h:blen x+p<blen y+q)(hy:y≠0):x*2 ^ p<y*2 ^ q:=by
 have h1:x<2 ^ blen x:=(blen_le_iff x _).1 (Nat.le_refl _)
 have hb:0<blen y:=by
  rcases Nat.eq_zero_or_pos (blen y) with h0|h0
  ·exact absurd ((eu y).1 h0) hy
  ·exact h0
 have h2:2 ^ (blen y - 1)≤y:=by
  rcases Nat.lt_or_ge y (2 ^ (blen y - 1)) with h3|h3
  ·have:=(blen_le_iff y (blen y - 1)).2 h3
   omega
  ·exact h3
 have h3:x*2 ^ p<2 ^ blen x*2 ^ p:=Nat.mul_lt_mul_of_pos_right h1 (Nat.two_pow_pos p)
 have h4:2 ^ (blen y - 1)*2 ^ q≤y*2 ^ q:=Nat.mul_le_mul_right _ h2
 have h5:2 ^ blen x*2 ^ p≤2 ^ (blen y - 1)*2 ^ q:=by
  rw [←Nat.pow_add,←Nat.pow_add]
  exact Nat.pow_le_pow_right (by omega) (by omega)
 omega

theorem gt (p:Nat):(0:Int)<2 ^ p:=Int.pow_pos (by decide)

theorem kQ {a b T:Int}(hT:0<T):am (a*T) (b*T)=am a b:=by
 unfold am
 have h1:a*T<b*T ↔ a<b:=⟨fun h=>Int.lt_of_mul_lt_mul_right h (by omega),fun h=>Int.mul_lt_mul_of_pos_right h hT⟩
 have h2:b*T<a*T ↔ b<a:=⟨fun h=>Int.lt_of_mul_lt_mul_right h (by omega),fun h=>Int.mul_lt_mul_of_pos_right h hT⟩
 simp only [h1,h2]

theorem eh (M:Int)(p:Nat):(M*2 ^ p).sign=M.sign:=by
 rw [Int.sign_mul,Int.sign_eq_one_of_pos (gt p),Int.mul_one]

theorem dd (z:Int):(z.sign=-1∧z<0)∨(z.sign=0∧z=0)∨(z.sign=1∧0<z):=by
 rcases Int.lt_trichotomy z 0 with h|h|h
 ·exact .inl ⟨Int.sign_eq_neg_one_of_neg h,h⟩
 ·exact .inr (.inl ⟨by rw [h];rfl,h⟩)
 ·exact .inr (.inr ⟨Int.sign_eq_one_of_pos h,h⟩)

theorem o5 {V1 V2:Int}(h:V1.sign≠V2.sign):am V1 V2=if V1.sign<V2.sign then -1 else 1:=by
 have h1:=dd V1
 have h2:=dd V2
 unfold am
 by_cases h3:V1<V2
 ·rw [if_pos h3,if_pos (by omega)]
 ·rw [if_neg h3,if_pos (show V2<V1 by omega),if_neg (by omega)]

theorem lL (M:Int)(p:Nat):(M*2 ^ p).natAbs=M.natAbs*2 ^ p:=by
 rw [Int.natAbs_mul,Int.natAbs_pow];rfl

theorem rA {M1 M2:Int}{p q:Nat}(hs:M1.sign=M2.sign)(h0:M1.sign≠0)(ht:blen M1.natAbs+p≠blen M2.natAbs+q):am (M1*2 ^ p) (M2*2 ^ q)=if blen M1.natAbs+p<blen M2.natAbs+q then -M1.sign else M1.sign:=by
 have h1:=dd (M1*2 ^ p)
 have h2:=dd (M2*2 ^ q)
 rw [eh] at h1 h2
 have n1:M1.natAbs≠0:=by rintro h;exact h0 (by rw [Int.natAbs_eq_zero.1 h];rfl)
 have n2:M2.natAbs≠0:=by rintro h;exact h0 (by rw [hs,Int.natAbs_eq_zero.1 h];rfl)
 have a1:=lL M1 p
 have a2:=lL M2 q
 unfold am
 by_cases hlt:blen M1.natAbs+p<blen M2.natAbs+q
 ·have h9:=iF hlt n2
  rw [if_pos hlt]
  rcases h1 with h1|h1|h1
  ·rw [if_neg (by omega),if_pos (by omega)];omega
  ·omega
  ·rw [if_pos (by omega)];omega
 ·have h9:=iF (show blen M2.natAbs+q<blen M1.natAbs+p by omega) n1
  rw [if_neg hlt]
  rcases h1 with h1|h1|h1
  ·rw [if_pos (by omega)];omega
  ·omega
  ·rw [if_neg (by omega),if_pos (by omega)];omega

theorem nB (b1:Bool)(a1:Option Addr)(n1 c1:Nat)(M1 E1:Int)(b2:Bool)(a2:Option Addr)(n2 c2:Nat)(M2 E2:Int)(w:World)(hD1:Dn w b1 (.slice a1 n1 c1) M1)(hD2:Dn w b2 (.slice a2 n2 c2) M2)(f1:blen M1.natAbs≤1125899906840000)(f2:blen M2.natAbs≤1125899906840000)(he1:-1152921504606846976≤E1)(he2:E1≤1152921504606846976)(he3:-1152921504606846976≤E2)(he4:E2≤1152921504606846976)(hs:M1.sign≠M2.sign) :
  Calls Tryz.prog 16 #[.agg #[.bool b1,.slice a1 n1 c1,.int .i64 E1],.agg #[.bool b2,.slice a2 n2 c2,.int .i64 E2]] w fun e w'=>e=.returned (.int .i64 (if M1.sign<M2.sign then -1 else 1))∧Below w.heap.size w w':=by
 obtain⟨w0,hw0,hb0,k0,k1⟩:=al w (.cells #[.bool b1,.slice a1 n1 c1,.int .i64 E1] 31) (.cells #[.bool b2,.slice a2 n2 c2,.int .i64 E2] 31)
 have gd:Below w.heap.size w w0.drew:=hb0.drew
 have SG1:=ab (fun (W:World) (hg:Below w0.drew.heap.size w0.drew W)=>bn (.agg #[.bool b1,.slice a1 n1 c1]) M1 W ((hD1.below gd).below hg).zn)
 have SG2:=ab (fun (W:World) (hg:Below w0.drew.heap.size w0.drew W)=>bn (.agg #[.bool b2,.slice a2 n2 c2]) M2 W ((hD2.below gd).below hg).zn)
 have TP1:=ab (fun (W:World) (hg:Below w0.drew.heap.size w0.drew W)=>cg b1 a1 n1 c1 M1 E1 W ((hD1.below gd).below hg) (by omega) (by omega) (by omega))
 have TP2:=ab (fun (W:World) (hg:Below w0.drew.heap.size w0.drew W)=>cg b2 a2 n2 c2 M2 E2 W ((hD2.below gd).below hg) (by omega) (by omega) (by omega))
 have HD1:=ab (hD1.below gd)
 have HD2:=ab (hD2.below gd)
 have KB:=ab (fun (W:World) (hg:Below w0.drew.heap.size w0.drew W)=>And.intro (ac hg (show w0.drew.heap[w.heap.size]?=some (.cells #[.bool b1,.slice a1 n1 c1,.int .i64 E1] 31) from k0)) (ac hg (show w0.drew.heap[w.heap.size+1]?=some (.cells #[.bool b2,.slice a2 n2 c2,.int .i64 E2] 31) from k1)))
 have KS:=ab (fun (W:World) (hg:Below w0.drew.heap.size w0.drew W)=>show W.cell? ⟨w.heap.size,0,none⟩=some (.bool b1)∧W.cell? ⟨w.heap.size,1,none⟩=some (.slice a1 n1 c1)∧W.cell? ⟨w.heap.size,2,none⟩=some (.int .i64 E1)∧W.cell? ⟨w.heap.size+1,0,none⟩=some (.bool b2)∧W.cell? ⟨w.heap.size+1,1,none⟩=some (.slice a2 n2 c2)∧W.cell? ⟨w.heap.size+1,2,none⟩=some (.int .i64 E2) from ⟨(tri8 (KB.out W hg).1).1,(tri8 (KB.out W hg).1).2.1,(tri8 (KB.out W hg).1).2.2,(tri8 (KB.out W hg).2).1,(tri8 (KB.out W hg).2).2.1,(tri8 (KB.out W hg).2).2.2⟩)
 have g0:Below w0.drew.heap.size w0.drew w0.drew:=Below.refl _ _
 have HGD:=ab gd
 clear k0 k1 hb0 gd hD1 hD2
 have hne:(M1.sign != M2.sign)=true:=bne_iff_ne.2 hs
 generalize M1.sign=x at *
 generalize M2.sign=y at *
 by_cases hlt:x<y
 ·have hd:decide (x<y)=true:=decide_eq_true hlt
  rw [if_pos hlt]
  go_enter Tryz.func16,Tryz.ntmps16
  go_wp2_with fail
  go_region_held3 (fun w'=>w'.cell? ⟨w.heap.size,0,none⟩=some (.bool b1)∧w'.cell? ⟨w.heap.size,1,none⟩=some (.slice a1 n1 c1)∧w'.cell? ⟨w.heap.size,2,none⟩=some (.int .i64 E1)∧w'.cell? ⟨w.heap.size+1,0,none⟩=some (.bool b2)∧w'.cell? ⟨w.heap.size+1,1,none⟩=some (.slice a2 n2 c2)∧w'.cell? ⟨w.heap.size+1,2,none⟩=some (.int .i64 E2)) (first|with_reducible exact KS.out _ g2|with_reducible exact KS.out _ g1|with_reducible exact KS.out _ g0) (first
   | (go_at_call_of 13 a1;refine (SG1.out _ g0).mono ?_;rintro e' t1 ⟨rfl,hb1⟩;have g1:=ae g0 hb1)
   | (go_at_call_of 13 a2;refine (SG2.out _ g1).mono ?_;rintro e' t2 ⟨rfl,hb2⟩;have g2:=ae g1 hb2))
  clear hb1 hb2
  have HE:=ab (ae HGD.out g2)
  clear g0 g1 g2
  go_wp2
  go_ret
  exact⟨rfl,HE.out⟩
 ·have hd:decide (x<y)=false:=decide_eq_false hlt
  rw [if_neg hlt]
  go_enter Tryz.func16,Tryz.ntmps16
  go_wp2_with fail
  go_region_held3 (fun w'=>w'.cell? ⟨w.heap.size,0,none⟩=some (.bool b1)∧w'.cell? ⟨w.heap.size,1,none⟩=some (.slice a1 n1 c1)∧w'.cell? ⟨w.heap.size,2,none⟩=some (.int .i64 E1)∧w'.cell? ⟨w.heap.size+1,0,none⟩=some (.bool b2)∧w'.cell? ⟨w.heap.size+1,1,none⟩=some (.slice a2 n2 c2)∧w'.cell? ⟨w.heap.size+1,2,none⟩=some (.int .i64 E2)) (first|with_reducible exact KS.out _ g2|with_reducible exact KS.out _ g1|with_reducible exact KS.out _ g0) (first
   | (go_at_call_of 13 a1;refine (SG1.out _ g0).mono ?_;rintro e' t1 ⟨rfl,hb1⟩;have g1:=ae g0 hb1)
   | (go_at_call_of 13 a2;refine (SG2.out _ g1).mono ?_;rintro e' t2 ⟨rfl,hb2⟩;have g2:=ae g1 hb2))
  clear hb1 hb2
  have HE:=ab (ae HGD.out g2)
  clear g0 g1 g2
  go_wp2
  go_ret
  exact⟨rfl,HE.out⟩

theorem sG (b1:Bool)(a1:Option Addr)(n1 c1:Nat)(M1 E1:Int)(b2:Bool)(a2:Option Addr)(n2 c2:Nat)(M2 E2:Int)(w:World)(hD1:Dn w b1 (.slice a1 n1 c1) M1)(hD2:Dn w b2 (.slice a2 n2 c2) M2)(f1:blen M1.natAbs≤1125899906840000)(f2:blen M2.natAbs≤1125899906840000)(he1:-1152921504606846976≤E1)(he2:E1≤1152921504606846976)(he3:-1152921504606846976≤E2)(he4:E2≤1152921504606846976)(hs:M1.sign=M2.sign)(h0:M1.sign=0) :
  Calls Tryz.prog 16 #[.agg #[.bool b1,.slice a1 n1 c1,.int .i64 E1],.agg #[.bool b2,.slice a2 n2 c2,.int .i64 E2]] w fun e w'=>e=.returned (.int .i64 0)∧Below w.heap.size w w':=by
 obtain⟨w0,hw0,hb0,k0,k1⟩:=al w (.cells #[.bool b1,.slice a1 n1 c1,.int .i64 E1] 31) (.cells #[.bool b2,.slice a2 n2 c2,.int .i64 E2] 31)
 have gd:Below w.heap.size w w0.drew:=hb0.drew
 have SG1:=ab (fun (W:World) (hg:Below w0.drew.heap.size w0.drew W)=>bn (.agg #[.bool b1,.slice a1 n1 c1]) M1 W ((hD1.below gd).below hg).zn)
 have SG2:=ab (fun (W:World) (hg:Below w0.drew.heap.size w0.drew W)=>bn (.agg #[.bool b2,.slice a2 n2 c2]) M2 W ((hD2.below gd).below hg).zn)
 have TP1:=ab (fun (W:World) (hg:Below w0.drew.heap.size w0.drew W)=>cg b1 a1 n1 c1 M1 E1 W ((hD1.below gd).below hg) (by omega) (by omega) (by omega))
 have TP2:=ab (fun (W:World) (hg:Below w0.drew.heap.size w0.drew W)=>cg b2 a2 n2 c2 M2 E2 W ((hD2.below gd).below hg) (by omega) (by omega) (by omega))
 have HD1:=ab (hD1.below gd)
 have HD2:=ab (hD2.below gd)
 have KB:=ab (fun (W:World) (hg:Below w0.drew.heap.size w0.drew W)=>And.intro (ac hg (show w0.drew.heap[w.heap.size]?=some (.cells #[.bool b1,.slice a1 n1 c1,.int .i64 E1] 31) from k0)) (ac hg (show w0.drew.heap[w.heap.size+1]?=some (.cells #[.bool b2,.slice a2 n2 c2,.int .i64 E2] 31) from k1)))
 have KS:=ab (fun (W:World) (hg:Below w0.drew.heap.size w0.drew W)=>show W.cell? ⟨w.heap.size,0,none⟩=some (.bool b1)∧W.cell? ⟨w.heap.size,1,none⟩=some (.slice a1 n1 c1)∧W.cell? ⟨w.heap.size,2,none⟩=some (.int .i64 E1)∧W.cell? ⟨w.heap.size+1,0,none⟩=some (.bool b2)∧W.cell? ⟨w.heap.size+1,1,none⟩=some (.slice a2 n2 c2)∧W.cell? ⟨w.heap.size+1,2,none⟩=some (.int .i64 E2) from ⟨(tri8 (KB.out W hg).1).1,(tri8 (KB.out W hg).1).2.1,(tri8 (KB.out W hg).1).2.2,(tri8 (KB.out W hg).2).1,(tri8 (KB.out W hg).2).2.1,(tri8 (KB.out W hg).2).2.2⟩)
 have g0:Below w0.drew.heap.size w0.drew w0.drew:=Below.refl _ _
 have HGD:=ab gd
 clear k0 k1 hb0 gd hD1 hD2
 rw [←hs,h0] at SG2
 rw [h0] at SG1
 clear hs h0
 go_enter Tryz.func16,Tryz.ntmps16
 go_wp2_with fail
 go_region_held3 (fun w'=>w'.cell? ⟨w.heap.size,0,none⟩=some (.bool b1)∧w'.cell? ⟨w.heap.size,1,none⟩=some (.slice a1 n1 c1)∧w'.cell? ⟨w.heap.size,2,none⟩=some (.int .i64 E1)∧w'.cell? ⟨w.heap.size+1,0,none⟩=some (.bool b2)∧w'.cell? ⟨w.heap.size+1,1,none⟩=some (.slice a2 n2 c2)∧w'.cell? ⟨w.heap.size+1,2,none⟩=some (.int .i64 E2)) (first|with_reducible exact KS.out _ g2|with_reducible exact KS.out _ g1|with_reducible exact KS.out _ g0) (first
  | (go_at_call_of 13 a1;refine (SG1.out _ g0).mono ?_;rintro e' t1 ⟨rfl,hb1⟩;have g1:=ae g0 hb1)
  | (go_at_call_of 13 a2;refine (SG2.out _ g1).mono ?_;rintro e' t2 ⟨rfl,hb2⟩;have g2:=ae g1 hb2))
 clear hb1 hb2
 have HE:=ab (ae HGD.out g2)
 clear g0 g1 g2
 go_wp2
 go_ret
 exact⟨rfl,HE.out⟩

theorem rP (b1:Bool)(a1:Option Addr)(n1 c1:Nat)(M1 E1:Int)(b2:Bool)(a2:Option Addr)(n2 c2:Nat)(M2 E2:Int)(w:World)(hD1:Dn w b1 (.slice a1 n1 c1) M1)(hD2:Dn w b2 (.slice a2 n2 c2) M2)(f1:blen M1.natAbs≤1125899906840000)(f2:blen M2.natAbs≤1125899906840000)(he1:-1152921504606846976≤E1)(he2:E1≤1152921504606846976)(he3:-1152921504606846976≤E2)(he4:E2≤1152921504606846976)(hs:M1.sign=M2.sign)(h0:M1.sign≠0)(ht:((blen M1.natAbs:Nat):Int) - 1+E1≠((blen M2.natAbs:Nat):Int) - 1+E2) :
  Calls Tryz.prog 16 #[.agg #[.bool b1,.slice a1 n1 c1,.int .i64 E1],.agg #[.bool b2,.slice a2 n2 c2,.int .i64 E2]] w fun e w'=>e=.returned (.int .i64 (if ((blen M1.natAbs:Nat):Int) - 1+E1<((blen M2.natAbs:Nat):Int) - 1+E2 then -M1.sign else M1.sign))∧Below w.heap.size w w':=by
 obtain⟨w0,hw0,hb0,k0,k1⟩:=al w (.cells #[.bool b1,.slice a1 n1 c1,.int .i64 E1] 31) (.cells #[.bool b2,.slice a2 n2 c2,.int .i64 E2] 31)
 have gd:Below w.heap.size w w0.drew:=hb0.drew
 have SG1:=ab (fun (W:World) (hg:Below w0.drew.heap.size w0.drew W)=>bn (.agg #[.bool b1,.slice a1 n1 c1]) M1 W ((hD1.below gd).below hg).zn)
 have SG2:=ab (fun (W:World) (hg:Below w0.drew.heap.size w0.drew W)=>bn (.agg #[.bool b2,.slice a2 n2 c2]) M2 W ((hD2.below gd).below hg).zn)
 have TP1:=ab (fun (W:World) (hg:Below w0.drew.heap.size w0.drew W)=>cg b1 a1 n1 c1 M1 E1 W ((hD1.below gd).below hg) (by omega) (by omega) (by omega))
 have TP2:=ab (fun (W:World) (hg:Below w0.drew.heap.size w0.drew W)=>cg b2 a2 n2 c2 M2 E2 W ((hD2.below gd).below hg) (by omega) (by omega) (by omega))
 have HD1:=ab (hD1.below gd)
 have HD2:=ab (hD2.below gd)
 have KB:=ab (fun (W:World) (hg:Below w0.drew.heap.size w0.drew W)=>And.intro (ac hg (show w0.drew.heap[w.heap.size]?=some (.cells #[.bool b1,.slice a1 n1 c1,.int .i64 E1] 31) from k0)) (ac hg (show w0.drew.heap[w.heap.size+1]?=some (.cells #[.bool b2,.slice a2 n2 c2,.int .i64 E2] 31) from k1)))
 have KS:=ab (fun (W:World) (hg:Below w0.drew.heap.size w0.drew W)=>show W.cell? ⟨w.heap.size,0,none⟩=some (.bool b1)∧W.cell? ⟨w.heap.size,1,none⟩=some (.slice a1 n1 c1)∧W.cell? ⟨w.heap.size,2,none⟩=some (.int .i64 E1)∧W.cell? ⟨w.heap.size+1,0,none⟩=some (.bool b2)∧W.cell? ⟨w.heap.size+1,1,none⟩=some (.slice a2 n2 c2)∧W.cell? ⟨w.heap.size+1,2,none⟩=some (.int .i64 E2) from ⟨(tri8 (KB.out W hg).1).1,(tri8 (KB.out W hg).1).2.1,(tri8 (KB.out W hg).1).2.2,(tri8 (KB.out W hg).2).1,(tri8 (KB.out W hg).2).2.1,(tri8 (KB.out W hg).2).2.2⟩)
 have g0:Below w0.drew.heap.size w0.drew w0.drew:=Below.refl _ _
 have HGD:=ab gd
 clear k0 k1 hb0 gd hD1 hD2
 have hsv:=dd M1
 rw [←hs] at SG2
 generalize ((blen M1.natAbs:Nat):Int) - 1+E1=T1 at *
 generalize ((blen M2.natAbs:Nat):Int) - 1+E2=T2 at *
 have hx:M1.sign=-1∨M1.sign=1:=by omega
 generalize M1.sign=x at *
 clear hs hsv
 have htb:(T1 != T2)=true:=bne_iff_ne.2 ht
 have h0b:(x == 0)=false:=beq_eq_false_iff_ne.2 h0
 have hxx:(x != x)=false:=by simp
 have hwr:IntKind.i64.wrap (-x)=-x:=by rw [IntKind.wrap_i64];omega
 clear hx
 by_cases hlt:T1<T2
 ·have hd:decide (T1<T2)=true:=decide_eq_true hlt
  rw [if_pos hlt]
  obtain⟨mx,hmx⟩:∃mx,-x=mx:=⟨_,rfl⟩
  rw [hmx] at hwr
  have hmx2:-x=mx:=hmx
  rw [hmx]
  clear hmx
  go_enter Tryz.func16,Tryz.ntmps16
  go_wp2_with fail
  go_region_held3 (fun w'=>w'.cell? ⟨w.heap.size,0,none⟩=some (.bool b1)∧w'.cell? ⟨w.heap.size,1,none⟩=some (.slice a1 n1 c1)∧w'.cell? ⟨w.heap.size,2,none⟩=some (.int .i64 E1)∧w'.cell? ⟨w.heap.size+1,0,none⟩=some (.bool b2)∧w'.cell? ⟨w.heap.size+1,1,none⟩=some (.slice a2 n2 c2)∧w'.cell? ⟨w.heap.size+1,2,none⟩=some (.int .i64 E2)) (first|with_reducible exact KS.out _ g2|with_reducible exact KS.out _ g1|with_reducible exact KS.out _ g0) (first
   | (go_at_call_of 13 a1;refine (SG1.out _ g0).mono ?_;rintro e' t1 ⟨rfl,hb1⟩;have g1:=ae g0 hb1)
   | (go_at_call_of 13 a2;refine (SG2.out _ g1).mono ?_;rintro e' t2 ⟨rfl,hb2⟩;have g2:=ae g1 hb2))
  clear hb1 hb2
  have h0a:Below t2.heap.size t2 t2.drew:=(Below.refl _ _).drew
  have g3:=ae g2 h0a
  obtain⟨ca0,cb0,cc0⟩:=tri8 (KB.out _ g3).1
  obtain⟨ca1,cb1,cc1⟩:=tri8 (KB.out _ g3).2
  clear h0a
  go_wp2_with fail
  go_region_held3 (fun w'=>w'.cell? ⟨w.heap.size,0,none⟩=some (.bool b1)∧w'.cell? ⟨w.heap.size,1,none⟩=some (.slice a1 n1 c1)∧w'.cell? ⟨w.heap.size,2,none⟩=some (.int .i64 E1)∧w'.cell? ⟨w.heap.size+1,0,none⟩=some (.bool b2)∧w'.cell? ⟨w.heap.size+1,1,none⟩=some (.slice a2 n2 c2)∧w'.cell? ⟨w.heap.size+1,2,none⟩=some (.int .i64 E2)) (first|with_reducible exact KS.out _ g5|with_reducible exact KS.out _ g4|with_reducible exact KS.out _ g3) (first
   | (go_at_call_of 36 a1;refine (TP1.out _ g3).mono ?_;rintro e' t4 ⟨rfl,hb4⟩;have g4:=ae g3 hb4)
   | (go_at_call_of 36 a2;refine (TP2.out _ g4).mono ?_;rintro e' t5 ⟨rfl,hb5⟩;have g5:=ae g4 hb5))
  clear hb4 hb5 ca0 cb0 cc0 ca1 cb1 cc1
  have g2x:=g2
  have t2b:=t2
  clear g0 g1 g2 t2b g2x
  have HG5:=ab g5
  clear g3 g4 g5
  have h0a:Below t5.heap.size t5 t5.drew:=(Below.refl _ _).drew
  have g3:=ae HG5.out h0a
  obtain⟨ca0,cb0,cc0⟩:=tri8 (KB.out _ g3).1
  obtain⟨ca1,cb1,cc1⟩:=tri8 (KB.out _ g3).2
  clear h0a
  go_wp2_with fail
  go_region_held3 (fun w'=>w'.cell? ⟨w.heap.size,0,none⟩=some (.bool b1)∧w'.cell? ⟨w.heap.size,1,none⟩=some (.slice a1 n1 c1)∧w'.cell? ⟨w.heap.size,2,none⟩=some (.int .i64 E1)∧w'.cell? ⟨w.heap.size+1,0,none⟩=some (.bool b2)∧w'.cell? ⟨w.heap.size+1,1,none⟩=some (.slice a2 n2 c2)∧w'.cell? ⟨w.heap.size+1,2,none⟩=some (.int .i64 E2)) (first|with_reducible exact KS.out _ g7|with_reducible exact KS.out _ g6|with_reducible exact KS.out _ g3) (first
   | (go_at_call_of 36 a1;refine (TP1.out _ g3).mono ?_;rintro e' t6 ⟨rfl,hb6⟩;have g6:=ae g3 hb6)
   | (go_at_call_of 36 a2;refine (TP2.out _ g6).mono ?_;rintro e' t7 ⟨rfl,hb7⟩;have g7:=ae g6 hb7))
  have HE:=ab (ae HGD.out g7)
  clear g3 g6 g7 hb6 hb7 ca0 cb0 cc0 ca1 cb1 cc1
  go_wp2
  go_ret
  exact⟨rfl,HE.out⟩
 ·have hd:decide (T1<T2)=false:=decide_eq_false hlt
  rw [if_neg hlt]
  go_enter Tryz.func16,Tryz.ntmps16
  go_wp2_with fail
  go_region_held3 (fun w'=>w'.cell? ⟨w.heap.size,0,none⟩=some (.bool b1)∧w'.cell? ⟨w.heap.size,1,none⟩=some (.slice a1 n1 c1)∧w'.cell? ⟨w.heap.size,2,none⟩=some (.int .i64 E1)∧w'.cell? ⟨w.heap.size+1,0,none⟩=some (.bool b2)∧w'.cell? ⟨w.heap.size+1,1,none⟩=some (.slice a2 n2 c2)∧w'.cell? ⟨w.heap.size+1,2,none⟩=some (.int .i64 E2)) (first|with_reducible exact KS.out _ g2|with_reducible exact KS.out _ g1|with_reducible exact KS.out _ g0) (first
   | (go_at_call_of 13 a1;refine (SG1.out _ g0).mono ?_;rintro e' t1 ⟨rfl,hb1⟩;have g1:=ae g0 hb1)
   | (go_at_call_of 13 a2;refine (SG2.out _ g1).mono ?_;rintro e' t2 ⟨rfl,hb2⟩;have g2:=ae g1 hb2))
  clear hb1 hb2
  have h0a:Below t2.heap.size t2 t2.drew:=(Below.refl _ _).drew
  have g3:=ae g2 h0a
  obtain⟨ca0,cb0,cc0⟩:=tri8 (KB.out _ g3).1
  obtain⟨ca1,cb1,cc1⟩:=tri8 (KB.out _ g3).2
  clear h0a
  go_wp2_with fail
  go_region_held3 (fun w'=>w'.cell? ⟨w.heap.size,0,none⟩=some (.bool b1)∧w'.cell? ⟨w.heap.size,1,none⟩=some (.slice a1 n1 c1)∧w'.cell? ⟨w.heap.size,2,none⟩=some (.int .i64 E1)∧w'.cell? ⟨w.heap.size+1,0,none⟩=some (.bool b2)∧w'.cell? ⟨w.heap.size+1,1,none⟩=some (.slice a2 n2 c2)∧w'.cell? ⟨w.heap.size+1,2,none⟩=some (.int .i64 E2)) (first|with_reducible exact KS.out _ g5|with_reducible exact KS.out _ g4|with_reducible exact KS.out _ g3) (first
   | (go_at_call_of 36 a1;refine (TP1.out _ g3).mono ?_;rintro e' t4 ⟨rfl,hb4⟩;have g4:=ae g3 hb4)
   | (go_at_call_of 36 a2;refine (TP2.out _ g4).mono ?_;rintro e' t5 ⟨rfl,hb5⟩;have g5:=ae g4 hb5))
  clear hb4 hb5 ca0 cb0 cc0 ca1 cb1 cc1
  clear g0 g1 g2
  have HG5:=ab g5
  clear g3 g4 g5
  have h0a:Below t5.heap.size t5 t5.drew:=(Below.refl _ _).drew
  have g3:=ae HG5.out h0a
  obtain⟨ca0,cb0,cc0⟩:=tri8 (KB.out _ g3).1
  obtain⟨ca1,cb1,cc1⟩:=tri8 (KB.out _ g3).2
  clear h0a
  go_wp2_with fail
  go_region_held3 (fun w'=>w'.cell? ⟨w.heap.size,0,none⟩=some (.bool b1)∧w'.cell? ⟨w.heap.size,1,none⟩=some (.slice a1 n1 c1)∧w'.cell? ⟨w.heap.size,2,none⟩=some (.int .i64 E1)∧w'.cell? ⟨w.heap.size+1,0,none⟩=some (.bool b2)∧w'.cell? ⟨w.heap.size+1,1,none⟩=some (.slice a2 n2 c2)∧w'.cell? ⟨w.heap.size+1,2,none⟩=some (.int .i64 E2)) (first|with_reducible exact KS.out _ g7|with_reducible exact KS.out _ g6|with_reducible exact KS.out _ g3) (first
   | (go_at_call_of 36 a1;refine (TP1.out _ g3).mono ?_;rintro e' t6 ⟨rfl,hb6⟩;have g6:=ae g3 hb6)
   | (go_at_call_of 36 a2;refine (TP2.out _ g6).mono ?_;rintro e' t7 ⟨rfl,hb7⟩;have g7:=ae g6 hb7))
  have HE:=ab (ae HGD.out g7)
  clear g3 g6 g7 hb6 hb7 ca0 cb0 cc0 ca1 cb1 cc1
  go_wp2
  go_ret
  exact⟨rfl,HE.out⟩

theorem mf (b1:Bool)(a1:Option Addr)(n1 c1:Nat)(M1 E1:Int)(b2:Bool)(a2:Option Addr)(n2 c2:Nat)(M2 E2:Int)(g:Nat)(w:World)(hD1:Dn w b1 (.slice a1 n1 c1) M1)(hD2:Dn w b2 (.slice a2 n2 c2) M2)(f1:blen M1.natAbs≤1125899906840000)(f2:blen M2.natAbs≤1125899906840000)(he1:-1152921504606846976≤E1)(he2:E1≤1152921504606846976)(he3:-1152921504606846976≤E2)(he4:E2≤1152921504606846976)(hs:M1.sign=M2.sign)(h0:M1.sign≠0)(ht:((blen M1.natAbs:Nat):Int) - 1+E1=((blen M2.natAbs:Nat):Int) - 1+E2)(hg9:E2 - E1=(g:Int)) :
  Calls Tryz.prog 16 #[.agg #[.bool b1,.slice a1 n1 c1,.int .i64 E1],.agg #[.bool b2,.slice a2 n2 c2,.int .i64 E2]] w fun e w'=>e=.returned (.int .i64 (am M1 (M2*2 ^ g)))∧Below w.heap.size w w':=by
 obtain⟨w0,hw0,hb0,k0,k1⟩:=al w (.cells #[.bool b1,.slice a1 n1 c1,.int .i64 E1] 31) (.cells #[.bool b2,.slice a2 n2 c2,.int .i64 E2] 31)
 have gd:Below w.heap.size w w0.drew:=hb0.drew
 have SG1:=ab (fun (W:World) (hg:Below w0.drew.heap.size w0.drew W)=>bn (.agg #[.bool b1,.slice a1 n1 c1]) M1 W ((hD1.below gd).below hg).zn)
 have SG2:=ab (fun (W:World) (hg:Below w0.drew.heap.size w0.drew W)=>bn (.agg #[.bool b2,.slice a2 n2 c2]) M2 W ((hD2.below gd).below hg).zn)
 have TP1:=ab (fun (W:World) (hg:Below w0.drew.heap.size w0.drew W)=>cg b1 a1 n1 c1 M1 E1 W ((hD1.below gd).below hg) (by omega) (by omega) (by omega))
 have TP2:=ab (fun (W:World) (hg:Below w0.drew.heap.size w0.drew W)=>cg b2 a2 n2 c2 M2 E2 W ((hD2.below gd).below hg) (by omega) (by omega) (by omega))
 have HD1:=ab (hD1.below gd)
 have HD2:=ab (hD2.below gd)
 have KB:=ab (fun (W:World) (hg:Below w0.drew.heap.size w0.drew W)=>And.intro (ac hg (show w0.drew.heap[w.heap.size]?=some (.cells #[.bool b1,.slice a1 n1 c1,.int .i64 E1] 31) from k0)) (ac hg (show w0.drew.heap[w.heap.size+1]?=some (.cells #[.bool b2,.slice a2 n2 c2,.int .i64 E2] 31) from k1)))
 have KS:=ab (fun (W:World) (hg:Below w0.drew.heap.size w0.drew W)=>show W.cell? ⟨w.heap.size,0,none⟩=some (.bool b1)∧W.cell? ⟨w.heap.size,1,none⟩=some (.slice a1 n1 c1)∧W.cell? ⟨w.heap.size,2,none⟩=some (.int .i64 E1)∧W.cell? ⟨w.heap.size+1,0,none⟩=some (.bool b2)∧W.cell? ⟨w.heap.size+1,1,none⟩=some (.slice a2 n2 c2)∧W.cell? ⟨w.heap.size+1,2,none⟩=some (.int .i64 E2) from ⟨(tri8 (KB.out W hg).1).1,(tri8 (KB.out W hg).1).2.1,(tri8 (KB.out W hg).1).2.2,(tri8 (KB.out W hg).2).1,(tri8 (KB.out W hg).2).2.1,(tri8 (KB.out W hg).2).2.2⟩)
 have g0:Below w0.drew.heap.size w0.drew w0.drew:=Below.refl _ _
 have HGD:=ab gd
 clear k0 k1 hb0 gd hD1 hD2
 have SHF:=ab (fun (W:World) (hg:Below w0.drew.heap.size w0.drew W)=>iQ b2 a2 n2 c2 M2 g W (HD2.out.below hg).zn (by omega))
 rw [←hs] at SG2
 rw [←ht] at TP2
 have htt:(((blen M1.natAbs:Nat):Int) - 1+E1 != ((blen M1.natAbs:Nat):Int) - 1+E1)=false:=by simp
 have htd:E1≤E2:=by omega
 have htd2:decide (E1≤E2)=true:=decide_eq_true htd
 have hwr:IntKind.i64.wrap (E2 - E1)=(g:Int):=by rw [hg9,IntKind.wrap_i64];omega
 generalize ((blen M1.natAbs:Nat):Int) - 1+E1=T1 at *
 have h0b:(M1.sign == 0)=false:=beq_eq_false_iff_ne.2 h0
 have hxx:(M1.sign != M1.sign)=false:=by simp
 generalize M1.sign=x at *
 have HG9:=ab hg9
 clear hs ht h0 hg9
 go_enter Tryz.func16,Tryz.ntmps16
 go_wp2_with fail
 go_region_held3 (fun w'=>w'.cell? ⟨w.heap.size,0,none⟩=some (.bool b1)∧w'.cell? ⟨w.heap.size,1,none⟩=some (.slice a1 n1 c1)∧w'.cell? ⟨w.heap.size,2,none⟩=some (.int .i64 E1)∧w'.cell? ⟨w.heap.size+1,0,none⟩=some (.bool b2)∧w'.cell? ⟨w.heap.size+1,1,none⟩=some (.slice a2 n2 c2)∧w'.cell? ⟨w.heap.size+1,2,none⟩=some (.int .i64 E2)) (first|with_reducible exact KS.out _ g2|with_reducible exact KS.out _ g1|with_reducible exact KS.out _ g0) (first
  | (go_at_call_of 13 a1;refine (SG1.out _ g0).mono ?_;rintro e' t1 ⟨rfl,hb1⟩;have g1:=ae g0 hb1)
  | (go_at_call_of 13 a2;refine (SG2.out _ g1).mono ?_;rintro e' t2 ⟨rfl,hb2⟩;have g2:=ae g1 hb2))
 clear hb1 hb2
 have h0a:Below t2.heap.size t2 t2.drew:=(Below.refl _ _).drew
 have g3:=ae g2 h0a
 obtain⟨ca0,cb0,cc0⟩:=tri8 (KB.out _ g3).1
 obtain⟨ca1,cb1,cc1⟩:=tri8 (KB.out _ g3).2
 clear h0a
 go_wp2_with fail
 go_region_held3 (fun w'=>w'.cell? ⟨w.heap.size,0,none⟩=some (.bool b1)∧w'.cell? ⟨w.heap.size,1,none⟩=some (.slice a1 n1 c1)∧w'.cell? ⟨w.heap.size,2,none⟩=some (.int .i64 E1)∧w'.cell? ⟨w.heap.size+1,0,none⟩=some (.bool b2)∧w'.cell? ⟨w.heap.size+1,1,none⟩=some (.slice a2 n2 c2)∧w'.cell? ⟨w.heap.size+1,2,none⟩=some (.int .i64 E2)) (first|with_reducible exact KS.out _ g5|with_reducible exact KS.out _ g4|with_reducible exact KS.out _ g3) (first
  | (go_at_call_of 36 a1;refine (TP1.out _ g3).mono ?_;rintro e' t4 ⟨rfl,hb4⟩;have g4:=ae g3 hb4)
  | (go_at_call_of 36 a2;refine (TP2.out _ g4).mono ?_;rintro e' t5 ⟨rfl,hb5⟩;have g5:=ae g4 hb5))
 clear hb4 hb5 ca0 cb0 cc0 ca1 cb1 cc1
 clear g0 g1 g2
 have HG5:=ab g5
 clear g3 g4 g5
 obtain⟨da0,db0,dc0⟩:=tri8 (KB.out _ HG5.out).1
 obtain⟨da1,db1,dc1⟩:=tri8 (KB.out _ HG5.out).2
 go_wp2_with fail
 have h0a:Below t5.heap.size t5 t5.drew:=(Below.refl _ _).drew
 have g7:=ae HG5.out h0a
 obtain⟨ca0,cb0,cc0⟩:=tri8 (KB.out _ g7).1
 obtain⟨ca1,cb1,cc1⟩:=tri8 (KB.out _ g7).2
 clear h0a da0 db0 dc0 da1 db1 dc1
 go_region_held3 (fun w'=>w'.cell? ⟨w.heap.size,0,none⟩=some (.bool b1)∧w'.cell? ⟨w.heap.size,1,none⟩=some (.slice a1 n1 c1)∧w'.cell? ⟨w.heap.size,2,none⟩=some (.int .i64 E1)∧w'.cell? ⟨w.heap.size+1,0,none⟩=some (.bool b2)∧w'.cell? ⟨w.heap.size+1,1,none⟩=some (.slice a2 n2 c2)∧w'.cell? ⟨w.heap.size+1,2,none⟩=some (.int .i64 E2)) (first|with_reducible exact KS.out _ g9|with_reducible exact KS.out _ g8|with_reducible exact KS.out _ g7) (first
  | (go_at_call 37;refine (lw (.agg #[.bool b1,.slice a1 n1 c1]) (.agg #[.bool b8,.slice a8 n8 k8]) M1 (M2*2 ^ g) _ (HD1.out.below g8).zn y8).mono ?_;rintro e' t9 ⟨rfl,hb9⟩;have g9:=ae g8 hb9)
  | (go_at_call 38;refine (SHF.out _ g7).mono ?_;rintro e' t8 ⟨⟨b8,a8,n8,k8,rfl,y8⟩,hb8⟩;have g8:=ae g7 hb8))
 have HE:=ab (ae HGD.out g9)
 clear g7 g8 g9 hb8 hb9 ca0 cb0 cc0 ca1 cb1 cc1
 go_wp2
 go_ret
 exact⟨rfl,HE.out⟩

theorem qt (b1:Bool)(a1:Option Addr)(n1 c1:Nat)(M1 E1:Int)(b2:Bool)(a2:Option Addr)(n2 c2:Nat)(M2 E2:Int)(g:Nat)(w:World)(hD1:Dn w b1 (.slice a1 n1 c1) M1)(hD2:Dn w b2 (.slice a2 n2 c2) M2)(f1:blen M1.natAbs≤1125899906840000)(f2:blen M2.natAbs≤1125899906840000)(he1:-1152921504606846976≤E1)(he2:E1≤1152921504606846976)(he3:-1152921504606846976≤E2)(he4:E2≤1152921504606846976)(hs:M1.sign=M2.sign)(h0:M1.sign≠0)(ht:((blen M1.natAbs:Nat):Int) - 1+E1=((blen M2.natAbs:Nat):Int) - 1+E2)(hg9:E1 - E2=(g:Int))(hg0:0<g) :
  Calls Tryz.prog 16 #[.agg #[.bool b1,.slice a1 n1 c1,.int .i64 E1],.agg #[.bool b2,.slice a2 n2 c2,.int .i64 E2]] w fun e w'=>e=.returned (.int .i64 (am (M1*2 ^ g) M2))∧Below w.heap.size w w':=by
 obtain⟨w0,hw0,hb0,k0,k1⟩:=al w (.cells #[.bool b1,.slice a1 n1 c1,.int .i64 E1] 31) (.cells #[.bool b2,.slice a2 n2 c2,.int .i64 E2] 31)
 have gd:Below w.heap.size w w0.drew:=hb0.drew
 have SG1:=ab (fun (W:World) (hg:Below w0.drew.heap.size w0.drew W)=>bn (.agg #[.bool b1,.slice a1 n1 c1]) M1 W ((hD1.below gd).below hg).zn)
 have SG2:=ab (fun (W:World) (hg:Below w0.drew.heap.size w0.drew W)=>bn (.agg #[.bool b2,.slice a2 n2 c2]) M2 W ((hD2.below gd).below hg).zn)
 have TP1:=ab (fun (W:World) (hg:Below w0.drew.heap.size w0.drew W)=>cg b1 a1 n1 c1 M1 E1 W ((hD1.below gd).below hg) (by omega) (by omega) (by omega))
 have TP2:=ab (fun (W:World) (hg:Below w0.drew.heap.size w0.drew W)=>cg b2 a2 n2 c2 M2 E2 W ((hD2.below gd).below hg) (by omega) (by omega) (by omega))
 have HD1:=ab (hD1.below gd)
 have HD2:=ab (hD2.below gd)
 have KB:=ab (fun (W:World) (hg:Below w0.drew.heap.size w0.drew W)=>And.intro (ac hg (show w0.drew.heap[w.heap.size]?=some (.cells #[.bool b1,.slice a1 n1 c1,.int .i64 E1] 31) from k0)) (ac hg (show w0.drew.heap[w.heap.size+1]?=some (.cells #[.bool b2,.slice a2 n2 c2,.int .i64 E2] 31) from k1)))
 have KS:=ab (fun (W:World) (hg:Below w0.drew.heap.size w0.drew W)=>show W.cell? ⟨w.heap.size,0,none⟩=some (.bool b1)∧W.cell? ⟨w.heap.size,1,none⟩=some (.slice a1 n1 c1)∧W.cell? ⟨w.heap.size,2,none⟩=some (.int .i64 E1)∧W.cell? ⟨w.heap.size+1,0,none⟩=some (.bool b2)∧W.cell? ⟨w.heap.size+1,1,none⟩=some (.slice a2 n2 c2)∧W.cell? ⟨w.heap.size+1,2,none⟩=some (.int .i64 E2) from ⟨(tri8 (KB.out W hg).1).1,(tri8 (KB.out W hg).1).2.1,(tri8 (KB.out W hg).1).2.2,(tri8 (KB.out W hg).2).1,(tri8 (KB.out W hg).2).2.1,(tri8 (KB.out W hg).2).2.2⟩)
 have g0:Below w0.drew.heap.size w0.drew w0.drew:=Below.refl _ _
 have HGD:=ab gd
 clear k0 k1 hb0 gd hD1 hD2
 have SHF:=ab (fun (W:World) (hg:Below w0.drew.heap.size w0.drew W)=>iQ b1 a1 n1 c1 M1 g W (HD1.out.below hg).zn (by omega))
 rw [←hs] at SG2
 rw [←ht] at TP2
 have htt:(((blen M1.natAbs:Nat):Int) - 1+E1 != ((blen M1.natAbs:Nat):Int) - 1+E1)=false:=by simp
 have htd:¬E1≤E2:=by omega
 have htd2:decide (E1≤E2)=false:=decide_eq_false htd
 have hwr:IntKind.i64.wrap (E1 - E2)=(g:Int):=by rw [hg9,IntKind.wrap_i64];omega
 generalize ((blen M1.natAbs:Nat):Int) - 1+E1=T1 at *
 have h0b:(M1.sign == 0)=false:=beq_eq_false_iff_ne.2 h0
 have hxx:(M1.sign != M1.sign)=false:=by simp
 generalize M1.sign=x at *
 have HG9:=ab hg9
 clear hs ht h0 hg9
 go_enter Tryz.func16,Tryz.ntmps16
 go_wp2_with fail
 go_region_held3 (fun w'=>w'.cell? ⟨w.heap.size,0,none⟩=some (.bool b1)∧w'.cell? ⟨w.heap.size,1,none⟩=some (.slice a1 n1 c1)∧w'.cell? ⟨w.heap.size,2,none⟩=some (.int .i64 E1)∧w'.cell? ⟨w.heap.size+1,0,none⟩=some (.bool b2)∧w'.cell? ⟨w.heap.size+1,1,none⟩=some (.slice a2 n2 c2)∧w'.cell? ⟨w.heap.size+1,2,none⟩=some (.int .i64 E2)) (first|with_reducible exact KS.out _ g2|with_reducible exact KS.out _ g1|with_reducible exact KS.out _ g0) (first
  | (go_at_call_of 13 a1;refine (SG1.out _ g0).mono ?_;rintro e' t1 ⟨rfl,hb1⟩;have g1:=ae g0 hb1)
  | (go_at_call_of 13 a2;refine (SG2.out _ g1).mono ?_;rintro e' t2 ⟨rfl,hb2⟩;have g2:=ae g1 hb2))
 clear hb1 hb2
 have h0a:Below t2.heap.size t2 t2.drew:=(Below.refl _ _).drew
 have g3:=ae g2 h0a
 obtain⟨ca0,cb0,cc0⟩:=tri8 (KB.out _ g3).1
 obtain⟨ca1,cb1,cc1⟩:=tri8 (KB.out _ g3).2
 clear h0a
 go_wp2_with fail
 go_region_held3 (fun w'=>w'.cell? ⟨w.heap.size,0,none⟩=some (.bool b1)∧w'.cell? ⟨w.heap.size,1,none⟩=some (.slice a1 n1 c1)∧w'.cell? ⟨w.heap.size,2,none⟩=some (.int .i64 E1)∧w'.cell? ⟨w.heap.size+1,0,none⟩=some (.bool b2)∧w'.cell? ⟨w.heap.size+1,1,none⟩=some (.slice a2 n2 c2)∧w'.cell? ⟨w.heap.size+1,2,none⟩=some (.int .i64 E2)) (first|with_reducible exact KS.out _ g5|with_reducible exact KS.out _ g4|with_reducible exact KS.out _ g3) (first
  | (go_at_call_of 36 a1;refine (TP1.out _ g3).mono ?_;rintro e' t4 ⟨rfl,hb4⟩;have g4:=ae g3 hb4)
  | (go_at_call_of 36 a2;refine (TP2.out _ g4).mono ?_;rintro e' t5 ⟨rfl,hb5⟩;have g5:=ae g4 hb5))
 clear hb4 hb5 ca0 cb0 cc0 ca1 cb1 cc1
 clear g0 g1 g2
 have HG5:=ab g5
 clear g3 g4 g5
 obtain⟨da0,db0,dc0⟩:=tri8 (KB.out _ HG5.out).1
 obtain⟨da1,db1,dc1⟩:=tri8 (KB.out _ HG5.out).2
 go_wp2_with fail
 have h0a:Below t5.heap.size t5 t5.drew:=(Below.refl _ _).drew
 have g7:=ae HG5.out h0a
 obtain⟨ca0,cb0,cc0⟩:=tri8 (KB.out _ g7).1
 obtain⟨ca1,cb1,cc1⟩:=tri8 (KB.out _ g7).2
 clear h0a da0 db0 dc0 da1 db1 dc1
 go_region_held3 (fun w'=>w'.cell? ⟨w.heap.size,0,none⟩=some (.bool b1)∧w'.cell? ⟨w.heap.size,1,none⟩=some (.slice a1 n1 c1)∧w'.cell? ⟨w.heap.size,2,none⟩=some (.int .i64 E1)∧w'.cell? ⟨w.heap.size+1,0,none⟩=some (.bool b2)∧w'.cell? ⟨w.heap.size+1,1,none⟩=some (.slice a2 n2 c2)∧w'.cell? ⟨w.heap.size+1,2,none⟩=some (.int .i64 E2)) (first|with_reducible exact KS.out _ g9|with_reducible exact KS.out _ g8|with_reducible exact KS.out _ g7) (first
  | (go_at_call 37;refine (lw (.agg #[.bool b8,.slice a8 n8 k8]) (.agg #[.bool b2,.slice a2 n2 c2]) (M1*2 ^ g) M2 _ y8 (HD2.out.below g8).zn).mono ?_;rintro e' t9 ⟨rfl,hb9⟩;have g9:=ae g8 hb9)
  | (go_at_call 38;refine (SHF.out _ g7).mono ?_;rintro e' t8 ⟨⟨b8,a8,n8,k8,rfl,y8⟩,hb8⟩;have g8:=ae g7 hb8))
 have HE:=ab (ae HGD.out g9)
 clear g7 g8 g9 hb8 hb9 ca0 cb0 cc0 ca1 cb1 cc1
 go_wp2
 go_ret
 exact⟨rfl,HE.out⟩

theorem nH (b1:Bool)(a1:Option Addr)(n1 c1:Nat)(M1 E1:Int)(b2:Bool)(a2:Option Addr)(n2 c2:Nat)(M2 E2:Int)(L p q:Nat)(w:World)(hD1:Dn w b1 (.slice a1 n1 c1) M1)(hD2:Dn w b2 (.slice a2 n2 c2) M2)(f1:blen M1.natAbs≤1125899906840000)(f2:blen M2.natAbs≤1125899906840000)(he1:-1152921504606846976≤E1)(he2:E1≤1152921504606846976)(he3:-1152921504606846976≤E2)(he4:E2≤1152921504606846976)(hp:(p:Int)=E1+L)(hq:(q:Int)=E2+L) :
  Calls Tryz.prog 16 #[.agg #[.bool b1,.slice a1 n1 c1,.int .i64 E1],.agg #[.bool b2,.slice a2 n2 c2,.int .i64 E2]] w fun e w'=>e=.returned (.int .i64 (am (M1*2 ^ p) (M2*2 ^ q)))∧Below w.heap.size w w':=by
 by_cases hs:M1.sign=M2.sign
 ·by_cases h0:M1.sign=0
  ·have z1:M1=0:=by have:=dd M1;omega
   have z2:M2=0:=by have:=dd M2;omega
   have e:am (M1*2 ^ p) (M2*2 ^ q)=0:=by rw [z1,z2,Int.zero_mul,Int.zero_mul];rfl
   rw [e]
   exact sG b1 a1 n1 c1 M1 E1 b2 a2 n2 c2 M2 E2 w hD1 hD2 f1 f2 he1 he2 he3 he4 hs h0
  ·by_cases ht:((blen M1.natAbs:Nat):Int) - 1+E1=((blen M2.natAbs:Nat):Int) - 1+E2
   ·by_cases hle:E1≤E2
    ·obtain⟨g,hg⟩:∃g:Nat,E2 - E1=(g:Int):=⟨(E2 - E1).toNat,by omega⟩
     have e:am (M1*2 ^ p) (M2*2 ^ q)=am M1 (M2*2 ^ g):=by
      rw [show q=g+p by omega,Int.pow_add,←Int.mul_assoc,kQ (gt p)]
     rw [e]
     exact mf b1 a1 n1 c1 M1 E1 b2 a2 n2 c2 M2 E2 g w hD1 hD2 f1 f2 he1 he2 he3 he4 hs h0 ht hg
    ·obtain⟨g,hg⟩:∃g:Nat,E1 - E2=(g:Int):=⟨(E1 - E2).toNat,by omega⟩
     have e:am (M1*2 ^ p) (M2*2 ^ q)=am (M1*2 ^ g) M2:=by
      rw [show p=g+q by omega,Int.pow_add,←Int.mul_assoc,kQ (gt q)]
     rw [e]
     exact qt b1 a1 n1 c1 M1 E1 b2 a2 n2 c2 M2 E2 g w hD1 hD2 f1 f2 he1 he2 he3 he4 hs h0 ht hg (by omega)
   ·rw [rA hs h0 (by omega)]
    have e:(blen M1.natAbs+p<blen M2.natAbs+q) ↔ ((blen M1.natAbs:Nat):Int) - 1+E1<((blen M2.natAbs:Nat):Int) - 1+E2:=by omega
    simp only [e]
    exact rP b1 a1 n1 c1 M1 E1 b2 a2 n2 c2 M2 E2 w hD1 hD2 f1 f2 he1 he2 he3 he4 hs h0 ht
 ·have hs2:(M1*2 ^ p).sign≠(M2*2 ^ q).sign:=by rw [eh,eh];exact hs
  rw [o5 hs2,eh,eh]
  exact nB b1 a1 n1 c1 M1 E1 b2 a2 n2 c2 M2 E2 w hD1 hD2 f1 f2 he1 he2 he3 he4 hs
end Go.Proofs.YtkfbobefkbpdoaaGreatDoor

