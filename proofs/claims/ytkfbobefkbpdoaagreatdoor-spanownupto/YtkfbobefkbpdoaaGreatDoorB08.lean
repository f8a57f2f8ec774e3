/- Package span: boxes of six cells; the laws' small; sums of dyadics at one scale. -/
import Derived.Test.YtkfbobefkbpdoaaGreatDoorB04
import Derived.Test.YtkfbobefkbpdoaaGreatDoorB07
import Derived.Test.YtkfbobefkbpdoaaGreatDoorB05
import Derived.Deep.RegionHeld3
import Derived.Test.YtkfbobefkbpdoaaGreatDoorB03
set_option maxRecDepth 20000
set_option maxHeartbeats 4000000
namespace Go.Proofs.YtkfbobefkbpdoaaGreatDoor
open Go.RowKit
open Lm
attribute [local go_sem ↓] Go.wp_at_zero Go.wp_at_succ

theorem hexa {w:World}{g:Nat}{a b c d e f:Value}{t:TypeId}(h:w.heap[g]?=some (.cells #[a,b,c,d,e,f] t)):w.cell? ⟨g,0,none⟩=some a∧w.cell? ⟨g,1,none⟩=some b∧w.cell? ⟨g,2,none⟩=some c∧w.cell? ⟨g,3,none⟩=some d∧w.cell? ⟨g,4,none⟩=some e∧w.cell? ⟨g,5,none⟩=some f:=by
 refine⟨?_,?_,?_,?_,?_,?_⟩ <;> simp [World.cell?,h]

theorem av {w:World}{g:Nat}{a b c d e f:Value}{t:TypeId}(h:w.heap[g]?=some (.cells #[a,b,c,d,e,f] t)):∀k,w.frozen? ⟨g,k,none⟩=false:=fun k=>by simp [World.frozen?,h]

theorem aJ {w:World}{g:Nat}{a b c d e f:Value}{t:TypeId}(h:w.heap[g]?=some (.cells #[a,b,c,d,e,f] t))(u0 u1 u2 u3 u4 u5:Value):((((((w.setCell ⟨g,0,none⟩ u0).setCell ⟨g,1,none⟩ u1).setCell ⟨g,2,none⟩ u2).setCell ⟨g,3,none⟩ u3).setCell ⟨g,4,none⟩ u4).setCell ⟨g,5,none⟩ u5).heap[g]?=some (.cells #[u0,u1,u2,u3,u4,u5] t):=
 az (az (az (az (az (az h u0) u1) u2) u3) u4) u5

theorem aF {B:Nat}{w0 w:World}{g:Nat}(h:Below B w0 w)(hg:B≤g)(u0 u1 u2 u3 u4 u5:Value):Below B w0 ((((((w.setCell ⟨g,0,none⟩ u0).setCell ⟨g,1,none⟩ u1).setCell ⟨g,2,none⟩ u2).setCell ⟨g,3,none⟩ u3).setCell ⟨g,4,none⟩ u4).setCell ⟨g,5,none⟩ u5):=
 (((((h.setCell (p:=⟨g,0,none⟩) hg u0).setCell (p:=⟨g,1,none⟩) hg u1).setCell (p:=⟨g,2,none⟩) hg u2).setCell (p:=⟨g,3,none⟩) hg u3).setCell (p:=⟨g,4,none⟩) hg u4).setCell (p:=⟨g,5,none⟩) hg u5

theorem aC.boxH {w:World}{ao:Option Addr}{zs:List Nat}{g o:Nat}{p:Bool}{a:Option Addr}{n c:Nat}{e:Int}{p':Bool}{a':Option Addr}{n' c':Nat}{e':Int}{t:TypeId}{u:Value}(h:aC w ao zs)(hl:w.heap[g]?=some (.cells #[.bool p,.slice a n c,.int .i64 e,.bool p',.slice a' n' c',.int .i64 e'] t)):aC (w.setCell ⟨g,o,none⟩ u) ao zs:=by
 rcases h with h|⟨b,off,rfl,hc⟩
 ·exact .inl h
 ·rcases Nat.eq_zero_or_pos zs.length with h0|h0
  ·exact .inl (List.eq_nil_of_length_eq_zero h0)
  ·refine .inr ⟨b,off,rfl,fun k hk=>?_⟩
   rw [aZ]
   ·exact hc k hk
   ·rintro rfl
    have h1:=hc 0 h0
    rw [Nat.add_zero] at h1
    simp only [World.cell?,hl] at h1
    match off,h1 with
    | 0,h1=>simp at h1
    | 1,h1=>simp at h1
    | 2,h1=>simp at h1
    | 3,h1=>simp at h1
    | 4,h1=>simp at h1
    | 5,h1=>simp at h1
    | k+6,h1=>simp at h1

theorem Arg.boxH {w:World}{v:Value}{zs:List Nat}{g o:Nat}{p:Bool}{a:Option Addr}{n c:Nat}{e:Int}{p':Bool}{a':Option Addr}{n' c':Nat}{e':Int}{t:TypeId}{u:Value}(h:Arg w v zs)(hl:w.heap[g]?=some (.cells #[.bool p,.slice a n c,.int .i64 e,.bool p',.slice a' n' c',.int .i64 e'] t)):Arg (w.setCell ⟨g,o,none⟩ u) v zs:=by
 obtain⟨ao,cap,h1,h2,h3,h4⟩:=h.form
 exact⟨⟨ao,cap,h1,h2,h3,h4.boxH hl⟩,h.limbs,h.few,h.nz⟩

theorem Arg.hexa {w:World}{v:Value}{zs:List Nat}{g:Nat}{p:Bool}{a:Option Addr}{n c:Nat}{e:Int}{p':Bool}{a':Option Addr}{n' c':Nat}{e':Int}{t:TypeId}(h:Arg w v zs)(hl:w.heap[g]?=some (.cells #[.bool p,.slice a n c,.int .i64 e,.bool p',.slice a' n' c',.int .i64 e'] t))(b1:Bool)(a1:Option Addr)(n1 c1:Nat)(e1:Int)(b2:Bool)(a2:Option Addr)(n2 c2:Nat)(e2:Int) :
  Arg ((((((w.setCell ⟨g,0,none⟩ (.bool b1)).setCell ⟨g,1,none⟩ (.slice a1 n1 c1)).setCell ⟨g,2,none⟩ (.int .i64 e1)).setCell ⟨g,3,none⟩ (.bool b2)).setCell ⟨g,4,none⟩ (.slice a2 n2 c2)).setCell ⟨g,5,none⟩ (.int .i64 e2)) v zs:=by
 have h1:=h.boxH (o:=0) (u:=.bool b1) hl
 have l1:=az (k:=0) hl (.bool b1)
 have h2:=h1.boxH (o:=1) (u:=.slice a1 n1 c1) l1
 have l2:=az (k:=1) l1 (.slice a1 n1 c1)
 have h3:=h2.boxH (o:=2) (u:=.int .i64 e1) l2
 have l3:=az (k:=2) l2 (.int .i64 e1)
 have h4:=h3.boxH (o:=3) (u:=.bool b2) l3
 have l4:=az (k:=3) l3 (.bool b2)
 have h5:=h4.boxH (o:=4) (u:=.slice a2 n2 c2) l4
 have l5:=az (k:=4) l4 (.slice a2 n2 c2)
 exact h5.boxH (o:=5) (u:=.int .i64 e2) l5

theorem G8.hexa {w:World}{b:Bool}{a0:Option Addr}{n0 k0:Nat}{ex:Int}{L:Nat}{V:Int}{g:Nat}{p:Bool}{a:Option Addr}{n c:Nat}{e:Int}{p':Bool}{a':Option Addr}{n' c':Nat}{e':Int}{t:TypeId}(h:G8 w b a0 n0 k0 ex L V)(hl:w.heap[g]?=some (.cells #[.bool p,.slice a n c,.int .i64 e,.bool p',.slice a' n' c',.int .i64 e'] t))(b1:Bool)(a1:Option Addr)(n1 c1:Nat)(e1:Int)(b2:Bool)(a2:Option Addr)(n2 c2:Nat)(e2:Int) :
  G8 ((((((w.setCell ⟨g,0,none⟩ (.bool b1)).setCell ⟨g,1,none⟩ (.slice a1 n1 c1)).setCell ⟨g,2,none⟩ (.int .i64 e1)).setCell ⟨g,3,none⟩ (.bool b2)).setCell ⟨g,4,none⟩ (.slice a2 n2 c2)).setCell ⟨g,5,none⟩ (.int .i64 e2)) b a0 n0 k0 ex L V:=by
 obtain⟨rs,h1,h2,h3⟩:=h
 exact⟨rs,h1,h2.hexa hl b1 a1 n1 c1 e1 b2 a2 n2 c2 e2,h3⟩

theorem G8.tri9 {w:World}{b:Bool}{a0:Option Addr}{n0 k0:Nat}{ex:Int}{L:Nat}{V:Int}{g:Nat}{p:Bool}{a:Option Addr}{n c:Nat}{e:Int}{t:TypeId}(h:G8 w b a0 n0 k0 ex L V)(hl:w.heap[g]?=some (.cells #[.bool p,.slice a n c,.int .i64 e] t))(b1:Bool)(a1:Option Addr)(n1 c1:Nat)(e1:Int) :
  G8 (((w.setCell ⟨g,0,none⟩ (.bool b1)).setCell ⟨g,1,none⟩ (.slice a1 n1 c1)).setCell ⟨g,2,none⟩ (.int .i64 e1)) b a0 n0 k0 ex L V:=by
 obtain⟨rs,h1,h2,h3⟩:=h
 exact⟨rs,h1,h2.tri8 hl b1 a1 n1 c1 _,h3⟩

theorem pq (b1:Bool)(a1:Option Addr)(n1 k1:Nat)(ex1:Int)(b2:Bool)(a2:Option Addr)(n2 k2:Nat)(ex2:Int)(L:Nat)(V1 V2:Int)(w:World)(hT:Tab w)(h1:I8 w b1 a1 n1 k1 ex1 L V1)(h2:I8 w b2 a2 n2 k2 ex2 L V2)(hE1:ah ex1=true)(hE2:ah ex2=true)(ho:Ok8 L (V1+V2)) :
  Calls Tryz.prog 66 #[.agg #[.bool b1,.slice a1 n1 k1,.int .i64 ex1],.agg #[.bool b2,.slice a2 n2 k2,.int .i64 ex2]] w fun e w'=>S8 w e w' L (V1+V2):=by
 obtain⟨X,rfl,hA,hf,hX⟩:=h1
 obtain⟨Y,rfl,hB,hg,hY⟩:=h2
 have F1:=cr (b:=b1) (ex:=ex1) hA hf hE1
 have F2:=cr (b:=b2) (ex:=ex2) hB hg hE2
 refine (mz b1 a1 _ k1 ex1 b2 a2 _ k2 ex2 _ _ w (fun W hg'=>pl b1 a1 k1 X ex1 b2 a2 k2 Y ex2 _ _ W (hT.below hg') (hA.below hg') (hB.below hg') hf hg hE1 hE2 (fun W2 b3 a3 c3 X3 b4 a4 c4 X4 t3 m3 m4 l3 l4=>rC b3 a3 c3 X3 _ _ b4 a4 c4 X4 _ _ W2 m3 m4 F1.2.2.2 F2.2.2.2 l3 l4 F1.2.1 F2.2.2.1 F2.2.1 F1.2.2.1))).mono fun e w' h=>aT.s8 h.1 (Rp.add hX.norm hY.norm).norm (ba _ _) ho h.2

theorem fI (k:Nat)(L:Nat)(w:World)(h0:k<9223372036854775808) :
  Calls Tryz.prog 18 #[.int .i64 (k:Int)] w fun e w'=>(∃a n c,e=.returned (.agg #[.bool false,.slice a n c,.int .i64 0])∧I8 w' false a n c 0 L ((k:Int)*2 ^ L))∧Below w.heap.size w w':=by
 obtain⟨w0,hw0,hb0,h0'⟩:=ag w (.cells #[.bool false,.slice none 0 0,.int .i64 0] 43)
 obtain⟨w1,hw1,hb1,h1⟩:=ag w0 (.cells #[.int .u64 (k:Int)] 51)
 have hA:=Arg.lits w0 [k] #[.int .u64 (k:Int)] 1 rfl rfl (by intro z hz;simp at hz;omega) (by simp)
 rw [hw1] at hA
 have HC:=ab (ac hb1 h0')
 have HG:=ab (ae hb0 hb1)
 have HA:=ab hA
 have wk:IntKind.u64.wrap (k:Int)=(k:Int):=by rw [IntKind.wrap_u64];omega
 have hf1:=ak HC.out
 obtain⟨m0,m1,m2⟩:=tri8 HC.out
 clear hA hb0 hb1 h0' h1
 go_enter Tryz.func18,Tryz.ntmps18
 go_wp2
 have T3:=ay HC.out (.bool false) (.slice (some ⟨w0.heap.size,0,none⟩) 1 1) (.int .i64 0)
 have T4:=an HG.out (Nat.le_refl _) (.bool false) (.slice (some ⟨w0.heap.size,0,none⟩) 1 1) (.int .i64 0)
 have T5:=HA.out.tri8 HC.out false (some ⟨w0.heap.size,0,none⟩) 1 1 (.int .i64 0)
 obtain⟨p0,p1,p2⟩:=tri8 T3
 have HE:=ab (And.intro T5 T4)
 clear T3 T4 T5
 generalize ((w1.setCell ⟨w.heap.size,0,none⟩ (.bool false)).setCell ⟨w.heap.size,1,none⟩ (.slice (some ⟨w0.heap.size,0,none⟩) 1 1)).setCell ⟨w.heap.size,2,none⟩ (.int .i64 0)=w5 at *
 refine bodyPost_ret (v:=.agg #[.bool false,.slice (some ⟨w0.heap.size,0,none⟩) 1 1,.int .i64 0]) (by simp [results,Tryz.results18,go_sem,p0,p1,p2]) rfl ?_
 refine⟨⟨_,_,_,rfl,[k],rfl,HE.out.1,by simp,⟨by omega,?_⟩⟩,HE.out.2⟩
 rw [show ((0:Int)+(L:Int)).toNat=L by omega,show zz false (val [k])=(k:Int) by simp [zz,val]]



theorem jm (g:Nat)(w:World)(hL:w.heap[g]?=some (.cells #[.int .i64 0,.int .i64 0] 47)) :
  Calls Tryz.prog 45 #[.slice (some ⟨g,0,none⟩) 2 2] w fun e w'=>e=.returned (.int .i64 0)∧w'=w:=by
 have HL:=ab hL
 obtain⟨c0,c1⟩:=duo hL
 clear hL
 go_enter Tryz.func45,Tryz.ntmps45
 go_wp2
 go_loop [3,8] (fun t i=>∃k:Nat,k≤2∧t=.int .i64 0∧i=.int .i64 k) (fun _ i=>2 - (intOf i).toNat)
 case atStart=>exact⟨0,by omega,rfl,rfl⟩
 case round=>
  obtain⟨k,hk,rfl,rfl⟩:=hrel
  by_cases hkl:k<2
  ·have hck:w.cell? ⟨g,k,none⟩=some (.int .i64 0):=by
    rcases (show k=0∨k=1 by omega) with rfl|rfl
    ·exact c0
    ·exact c1
   clear c0 c1
   go_wp2
   go_round
   case rel=>exact⟨k+1,by omega,rfl,by go_num⟩
   case measure=>simp [intOf];omega
  ·go_wp2
   go_ret
   exact⟨rfl,rfl⟩

theorem pY (n:Int)(w:World)(h:ah n=true):Calls Tryz.prog 68 #[.int .i64 n] w fun e w'=>e=.returned (.bool true)∧w'=w:=by
 have hr:=(aH n).1 h
 have h1:decide (-1099511627776≤n)=true:=decide_eq_true hr.1
 have h2:decide (n≤1099511627776)=true:=decide_eq_true hr.2
 go_enter Tryz.func68,Tryz.ntmps68
 go_wp2
 go_ret
 exact⟨rfl,rfl⟩

theorem lq (b1:Bool)(a1:Option Addr)(n1 k1:Nat)(ex1:Int)(b2:Bool)(a2:Option Addr)(n2 k2:Nat)(ex2:Int)(md:Int)(L:Nat)(V1 V2:Int)(w:World)(hT:Tab w)(h1:I8 w b1 a1 n1 k1 ex1 L V1)(h2:I8 w b2 a2 n2 k2 ex2 L V2)(hE1:ah ex1=true)(hE2:ah ex2=true)(ho:Ok8 L (V1+V2)) :
  Calls Tryz.prog 65 #[.agg #[.bool b1,.slice a1 n1 k1,.int .i64 ex1,.bool b2,.slice a2 n2 k2,.int .i64 ex2],.int .i64 md] w fun e w'=>S8 w e w' L (V1+V2):=by
 obtain⟨w0,hw0,hb0,q0,q1⟩:=al w (.cells #[.bool b1,.slice a1 n1 k1,.int .i64 ex1,.bool b2,.slice a2 n2 k2,.int .i64 ex2] 86) (.cells #[.bool false,.slice none 0 0,.int .i64 0] 43)
 obtain⟨k0,k1',k2',k3',k4',k5'⟩:=hexa q0
 have C:=pq b1 a1 n1 k1 ex1 b2 a2 n2 k2 ex2 L V1 V2 w0 (hT.below hb0) (h1.below hb0) (h2.below hb0) hE1 hE2 ho
 have HC:=ab q1
 have HB:=ab hb0
 generalize V1+V2=V at *
 clear q0 q1 hb0 hT h1 h2 ho
 go_enter Tryz.func65,Tryz.ntmps65
 go_wp2_with fail
 refine C.mono ?_
 rintro e t1 ⟨⟨b6,a6,n6,c6,e6,rfl,hg⟩,g1⟩
 have HC1:=ab (ac g1 HC.out)
 have HG:=ab (ae HB.out g1)
 have HDR:=ab hg
 have hf1:=ak HC1.out
 obtain⟨m0,m1,m2⟩:=tri8 HC1.out
 clear g1 hg C
 go_wp2
 have T3:=ay HC1.out (.bool b6) (.slice a6 n6 c6) (.int .i64 e6)
 have T4:=an HG.out (show w.heap.size≤w.heap.size+1 by omega) (.bool b6) (.slice a6 n6 c6) (.int .i64 e6)
 have T5:=HDR.out.tri9 HC1.out b6 a6 n6 c6 e6
 obtain⟨p0,p1,p2⟩:=tri8 T3
 have HE:=ab (And.intro T5 T4)
 clear T3 T4 T5
 generalize ((t1.setCell ⟨w.heap.size+1,0,none⟩ (.bool b6)).setCell ⟨w.heap.size+1,1,none⟩ (.slice a6 n6 c6)).setCell ⟨w.heap.size+1,2,none⟩ (.int .i64 e6)=w5 at *
 refine bodyPost_ret (v:=.tuple #[.agg #[.bool b6,.slice a6 n6 c6,.int .i64 e6],.int .i64 0]) (by simp [results,Tryz.results65,go_sem,p0,p1,p2]) rfl ?_
 exact⟨⟨_,_,_,_,_,rfl,HE.out.1⟩,HE.out.2⟩

theorem kj (gp:Nat)(pos:Int)(b1:Bool)(a1:Option Addr)(n1 k1:Nat)(ex1:Int)(md:Int)(L:Nat)(V1:Int)(w:World)(hp:w.heap[gp]?=some (.cells #[.int .i64 pos] 3))(hT:Tab w)(h1:G8 w b1 a1 n1 k1 ex1 L V1)(hL:4611686018427387904≤L)(hK:ah pos=true)(hM:isM md=true)(ho:Ok8 L (rv md V1 (2 ^ (pos+L).toNat))) :
  Calls Tryz.prog 87 #[.agg #[.bool b1,.slice a1 n1 k1,.int .i64 ex1],.int .i64 md,.pointer (some ⟨gp,0,none⟩)] w fun e w'=>S8 w e w' L (rv md V1 (2 ^ (pos+L).toNat)):=by
 obtain⟨w0,hw0,hb0,q0,q1⟩:=al w (.cells #[.bool b1,.slice a1 n1 k1,.int .i64 ex1] 43) (.cells #[.bool false,.slice none 0 0,.int .i64 0] 43)
 obtain⟨k0,k1',k2'⟩:=tri8 q0
 have kp:w0.cell? ⟨gp,0,none⟩=some (.int .i64 pos):=by have:=ac hb0 hp;simp [World.cell?,this]
 have C:=rF b1 a1 n1 k1 ex1 L V1 pos md w0 (hT.below hb0) (h1.below hb0) hL hK hM ho
 have HC:=ab q1
 have HB:=ab hb0
 generalize rv md V1 (2 ^ (pos+L).toNat)=V at *
 clear q0 q1 hb0 hT h1 ho hp
 go_enter Tryz.func87,Tryz.ntmps87
 go_wp2_with fail
 refine C.mono ?_
 rintro e t1 ⟨⟨b6,a6,n6,c6,e6,rfl,hg⟩,g1⟩
 have HC1:=ab (ac g1 HC.out)
 have HG:=ab (ae HB.out g1)
 have HDR:=ab hg
 have hf1:=ak HC1.out
 obtain⟨m0,m1,m2⟩:=tri8 HC1.out
 clear g1 hg C
 go_wp2
 have T3:=ay HC1.out (.bool b6) (.slice a6 n6 c6) (.int .i64 e6)
 have T4:=an HG.out (show w.heap.size≤w.heap.size+1 by omega) (.bool b6) (.slice a6 n6 c6) (.int .i64 e6)
 have T5:=HDR.out.tri9 HC1.out b6 a6 n6 c6 e6
 obtain⟨p0,p1,p2⟩:=tri8 T3
 have HE:=ab (And.intro T5 T4)
 clear T3 T4 T5
 generalize ((t1.setCell ⟨w.heap.size+1,0,none⟩ (.bool b6)).setCell ⟨w.heap.size+1,1,none⟩ (.slice a6 n6 c6)).setCell ⟨w.heap.size+1,2,none⟩ (.int .i64 e6)=w5 at *
 refine bodyPost_ret (v:=.tuple #[.agg #[.bool b6,.slice a6 n6 c6,.int .i64 e6],.int .i64 0]) (by simp [results,Tryz.results87,go_sem,p0,p1,p2]) rfl ?_
 exact⟨⟨_,_,_,_,_,rfl,HE.out.1⟩,HE.out.2⟩

def SS8 (w:World)(e:Ending)(w':World)(L:Nat)(V1 V2:Int):Prop:=
 (∃b1 a1 n1 k1 e1 b2 a2 n2 k2 e2,e=.returned (.tuple #[.agg #[.bool b1,.slice a1 n1 k1,.int .i64 e1,.bool b2,.slice a2 n2 k2,.int .i64 e2],.int .i64 0])∧G8 w' b1 a1 n1 k1 e1 L V1∧G8 w' b2 a2 n2 k2 e2 L V2)∧Below w.heap.size w w'

theorem byP (b1:Bool)(a1:Option Addr)(n1 k1:Nat)(ex1:Int)(b2:Bool)(a2:Option Addr)(n2 k2:Nat)(ex2:Int)(b3:Bool)(a3:Option Addr)(n3 k3:Nat)(ex3:Int)(b4:Bool)(a4:Option Addr)(n4 k4:Nat)(ex4:Int)(L:Nat)(V1 V2 V3 V4:Int)(w:World)(hT:Tab w)(h1:I8 w b1 a1 n1 k1 ex1 L V1)(h2:I8 w b2 a2 n2 k2 ex2 L V2)(h3:I8 w b3 a3 n3 k3 ex3 L V3)(h4:I8 w b4 a4 n4 k4 ex4 L V4)(hE1:ah ex1=true)(hE2:ah ex2=true)(hE3:ah ex3=true)(hE4:ah ex4=true)(ho:Ok8 L (V1+V2))(ho2:Ok8 L (V3+V4)) :
  Calls Tryz.prog 64 #[.agg #[.bool b1,.slice a1 n1 k1,.int .i64 ex1,.bool b2,.slice a2 n2 k2,.int .i64 ex2],.agg #[.bool b3,.slice a3 n3 k3,.int .i64 ex3,.bool b4,.slice a4 n4 k4,.int .i64 ex4],.func (.func 65) #[] #[]] w fun e w'=>SS8 w e w' L (V1+V2) (V3+V4):=by
 obtain⟨w0,hw0,hb0,q0,q1,q9⟩:=aM w (.cells #[.bool b1,.slice a1 n1 k1,.int .i64 ex1,.bool b2,.slice a2 n2 k2,.int .i64 ex2] 86) (.cells #[.bool b3,.slice a3 n3 k3,.int .i64 ex3,.bool b4,.slice a4 n4 k4,.int .i64 ex4] 86) (.cells #[.bool false,.slice none 0 0,.int .i64 0,.bool false,.slice none 0 0,.int .i64 0] 45)
 obtain⟨y0,y1,y2,y3,y4,y5⟩:=hexa q0
 have HU0:=ab hb0
 have HQ0:=ab q1
 have HR0:Hid (w0.heap[w.heap.size+1+1]?=some (.cells #[.bool false,.slice none 0 0,.int .i64 0,.bool false,.slice none 0 0,.int .i64 0] 45)):=ab q9
 have C1:=ab (fun (W:World) (hg:Below w.heap.size w W)=>lq b1 a1 n1 k1 ex1 b2 a2 n2 k2 ex2 0 L V1 V2 W (hT.below hg) (h1.below hg) (h2.below hg) hE1 hE2 ho)
 have C2:=ab (fun (W:World) (hg:Below w.heap.size w W)=>lq b3 a3 n3 k3 ex3 b4 a4 n4 k4 ex4 1 L V3 V4 W (hT.below hg) (h3.below hg) (h4.below hg) hE3 hE4 ho2)
 generalize V1+V2=VA at *
 generalize V3+V4=VB at *
 clear q0 q1 q9 hb0 hT h1 h2 h3 h4 ho ho2
 go_enter Tryz.func64,Tryz.ntmps64
 go_wp2_with fail
 refine (C1.out w0 HU0.out).mono ?_
 rintro e t1 ⟨⟨b6,a6,n6,c6,e6,rfl,hg⟩,g1⟩
 obtain⟨w2,hw2,hb2,q2⟩:=ag t1 (.cells #[.bool b6,.slice a6 n6 c6,.int .i64 e6] 43)
 have s2:=ae g1 hb2
 have HU2:=ab (ae HU0.out s2)
 have HX2:=ab q2
 have HD1:=ab (hg.below hb2)
 have HQ1:=ab (ac s2 HQ0.out)
 have HR1:=ab (ac s2 HR0.out)
 clear g1 hg hb2 q2 s2 y0 y1 y2 y3 y4 y5 hw0
 obtain⟨z0,z1,z2,z3,z4,z5⟩:=hexa HQ1.out
 go_wp2_with fail
 refine (C2.out w2 HU2.out).mono ?_
 rintro e t3 ⟨⟨b7,a7,n7,c7,e7,rfl,hg⟩,g1⟩
 obtain⟨w4,hw4,hb4,q4⟩:=ag t3 (.cells #[.bool b7,.slice a7 n7 c7,.int .i64 e7] 43)
 obtain⟨w6,hw6,hb6,q6⟩:=ag w4 (.cells #[.int .i64 0,.int .i64 0] 47)
 have s4:=ae (ae g1 hb4) hb6
 have HG:=ab (ae HU2.out s4)
 have HX4:=ab (ac s4 HX2.out)
 have HX5:=ab (ac hb6 q4)
 have HD3:=ab (HD1.out.below s4)
 have HD2:=ab ((hg.below hb4).below hb6)
 have HC1:=ab (ac s4 HR1.out)
 have RF:=jm w4.heap.size w6 q6
 clear g1 hg hb4 q4 s4 z0 z1 z2 z3 z4 z5 hw2 HD1 hb6 q6
 have HD1:=HD3
 go_wp2_with fail
 refine RF.mono ?_
 rintro e wn ⟨rfl,hw⟩;rw [hw];clear hw wn RF
 obtain⟨x0,x1,x2⟩:=tri8 HX4.out
 obtain⟨x3,x4,x5⟩:=tri8 HX5.out
 have hf1:=av HC1.out
 obtain⟨m0,m1,m2,m3,m4,m5⟩:=hexa HC1.out
 go_wp2
 have T3:=aJ HC1.out (.bool b6) (.slice a6 n6 c6) (.int .i64 e6) (.bool b7) (.slice a7 n7 c7) (.int .i64 e7)
 have T4:=aF HG.out (show w.heap.size≤w.heap.size+1+1 by omega) (.bool b6) (.slice a6 n6 c6) (.int .i64 e6) (.bool b7) (.slice a7 n7 c7) (.int .i64 e7)
 have T5:=HD1.out.hexa HC1.out b6 a6 n6 c6 e6 b7 a7 n7 c7 e7
 have T6:=HD2.out.hexa HC1.out b6 a6 n6 c6 e6 b7 a7 n7 c7 e7
 obtain⟨p0,p1,p2,p3,p4,p5⟩:=hexa T3
 have HE:=ab (And.intro T5 (And.intro T6 T4))
 clear T3 T4 T5 T6
 generalize (((((w6.setCell ⟨w.heap.size+1+1,0,none⟩ (.bool b6)).setCell ⟨w.heap.size+1+1,1,none⟩ (.slice a6 n6 c6)).setCell ⟨w.heap.size+1+1,2,none⟩ (.int .i64 e6)).setCell ⟨w.heap.size+1+1,3,none⟩ (.bool b7)).setCell ⟨w.heap.size+1+1,4,none⟩ (.slice a7 n7 c7)).setCell ⟨w.heap.size+1+1,5,none⟩ (.int .i64 e7)=w5 at *
 refine bodyPost_ret (v:=.tuple #[.agg #[.bool b6,.slice a6 n6 c6,.int .i64 e6,.bool b7,.slice a7 n7 c7,.int .i64 e7],.int .i64 0]) (by simp [results,Tryz.results64,go_sem,p0,p1,p2,p3,p4,p5]) rfl ?_
 exact⟨⟨_,_,_,_,_,_,_,_,_,_,rfl,HE.out.1,HE.out.2.1⟩,HE.out.2.2⟩

theorem byD (gp:Nat)(pos:Int)(b1:Bool)(a1:Option Addr)(n1 k1:Nat)(ex1:Int)(b3:Bool)(a3:Option Addr)(n3 k3:Nat)(ex3:Int)(L:Nat)(V1 V3:Int)(w:World)(hp:w.heap[gp]?=some (.cells #[.int .i64 pos] 3))(hT:Tab w)(h1:G8 w b1 a1 n1 k1 ex1 L V1)(h3:G8 w b3 a3 n3 k3 ex3 L V3)(hL:4611686018427387904≤L)(hK:ah pos=true)(ho:Ok8 L (rv 0 V1 (2 ^ (pos+L).toNat)))(ho2:Ok8 L (rv 1 V3 (2 ^ (pos+L).toNat))) :
  Calls Tryz.prog 48 #[.agg #[.bool b1,.slice a1 n1 k1,.int .i64 ex1],.agg #[.bool b3,.slice a3 n3 k3,.int .i64 ex3],.func (.func 87) #[] #[.pointer (some ⟨gp,0,none⟩)]] w fun e w'=>SS8 w e w' L (rv 0 V1 (2 ^ (pos+L).toNat)) (rv 1 V3 (2 ^ (pos+L).toNat)):=by
 obtain⟨w0,hw0,hb0,q0,q1,q9⟩:=aM w (.cells #[.bool b1,.slice a1 n1 k1,.int .i64 ex1] 43) (.cells #[.bool b3,.slice a3 n3 k3,.int .i64 ex3] 43) (.cells #[.bool false,.slice none 0 0,.int .i64 0,.bool false,.slice none 0 0,.int .i64 0] 45)
 obtain⟨y0,y1,y2⟩:=tri8 q0
 have HU0:=ab hb0
 have HQ0:=ab q1
 have HR0:Hid (w0.heap[w.heap.size+1+1]?=some (.cells #[.bool false,.slice none 0 0,.int .i64 0,.bool false,.slice none 0 0,.int .i64 0] 45)):=ab q9
 have C1:=ab (fun (W:World) (hg:Below w.heap.size w W)=>kj gp pos b1 a1 n1 k1 ex1 0 L V1 W (ac hg hp) (hT.below hg) (h1.below hg) hL hK (by decide) ho)
 have C2:=ab (fun (W:World) (hg:Below w.heap.size w W)=>kj gp pos b3 a3 n3 k3 ex3 1 L V3 W (ac hg hp) (hT.below hg) (h3.below hg) hL hK (by decide) ho2)
 generalize rv 0 V1 (2 ^ (pos+L).toNat)=VA at *
 generalize rv 1 V3 (2 ^ (pos+L).toNat)=VB at *
 clear q0 q1 q9 hb0 hT h1 h3 ho ho2 hp
 go_enter Tryz.func48,Tryz.ntmps48
 go_wp2_with fail
 refine (C1.out w0 HU0.out).mono ?_
 rintro e t1 ⟨⟨b6,a6,n6,c6,e6,rfl,hg⟩,g1⟩
 obtain⟨w2,hw2,hb2,q2⟩:=ag t1 (.cells #[.bool b6,.slice a6 n6 c6,.int .i64 e6] 43)
 have s2:=ae g1 hb2
 have HU2:=ab (ae HU0.out s2)
 have HX2:=ab q2
 have HD1:=ab (hg.below hb2)
 have HQ1:=ab (ac s2 HQ0.out)
 have HR1:=ab (ac s2 HR0.out)
 clear g1 hg hb2 q2 s2 y0 y1 y2 hw0
 obtain⟨z0,z1,z2⟩:=tri8 HQ1.out
 go_wp2_with fail
 refine (C2.out w2 HU2.out).mono ?_
 rintro e t3 ⟨⟨b7,a7,n7,c7,e7,rfl,hg⟩,g1⟩
 obtain⟨w4,hw4,hb4,q4⟩:=ag t3 (.cells #[.bool b7,.slice a7 n7 c7,.int .i64 e7] 43)
 obtain⟨w6,hw6,hb6,q6⟩:=ag w4 (.cells #[.int .i64 0,.int .i64 0] 47)
 have s4:=ae (ae g1 hb4) hb6
 have HG:=ab (ae HU2.out s4)
 have HX4:=ab (ac s4 HX2.out)
 have HX5:=ab (ac hb6 q4)
 have HD3:=ab (HD1.out.below s4)
 have HD2:=ab ((hg.below hb4).below hb6)
 have HC1:=ab (ac s4 HR1.out)
 have RF:=jm w4.heap.size w6 q6
 clear g1 hg hb4 q4 s4 z0 z1 z2 hw2 HD1 hb6 q6
 have HD1:=HD3
 go_wp2_with fail
 refine RF.mono ?_
 rintro e wn ⟨rfl,hw⟩;rw [hw];clear hw wn RF
 obtain⟨x0,x1,x2⟩:=tri8 HX4.out
 obtain⟨x3,x4,x5⟩:=tri8 HX5.out
 have hf1:=av HC1.out
 obtain⟨m0,m1,m2,m3,m4,m5⟩:=hexa HC1.out
 go_wp2
 have T3:=aJ HC1.out (.bool b6) (.slice a6 n6 c6) (.int .i64 e6) (.bool b7) (.slice a7 n7 c7) (.int .i64 e7)
 have T4:=aF HG.out (show w.heap.size≤w.heap.size+1+1 by omega) (.bool b6) (.slice a6 n6 c6) (.int .i64 e6) (.bool b7) (.slice a7 n7 c7) (.int .i64 e7)
 have T5:=HD1.out.hexa HC1.out b6 a6 n6 c6 e6 b7 a7 n7 c7 e7
 have T6:=HD2.out.hexa HC1.out b6 a6 n6 c6 e6 b7 a7 n7 c7 e7
 obtain⟨p0,p1,p2,p3,p4,p5⟩:=hexa T3
 have HE:=ab (And.intro T5 (And.intro T6 T4))
 clear T3 T4 T5 T6
 generalize (((((w6.setCell ⟨w.heap.size+1+1,0,none⟩ (.bool b6)).setCell ⟨w.heap.size+1+1,1,none⟩ (.slice a6 n6 c6)).setCell ⟨w.heap.size+1+1,2,none⟩ (.int .i64 e6)).setCell ⟨w.heap.size+1+1,3,none⟩ (.bool b7)).setCell ⟨w.heap.size+1+1,4,none⟩ (.slice a7 n7 c7)).setCell ⟨w.heap.size+1+1,5,none⟩ (.int .i64 e7)=w5 at *
 refine bodyPost_ret (v:=.tuple #[.agg #[.bool b6,.slice a6 n6 c6,.int .i64 e6,.bool b7,.slice a7 n7 c7,.int .i64 e7],.int .i64 0]) (by simp [results,Tryz.results48,go_sem,p0,p1,p2,p3,p4,p5]) rfl ?_
 exact⟨⟨_,_,_,_,_,_,_,_,_,_,rfl,HE.out.1,HE.out.2.1⟩,HE.out.2.2⟩

theorem rt (b1:Bool)(a1:Option Addr)(n1 k1:Nat)(ex1:Int)(b3:Bool)(a3:Option Addr)(n3 k3:Nat)(ex3:Int)(pos:Int)(L:Nat)(V1 V3:Int)(w:World)(hT:Tab w)(h1:G8 w b1 a1 n1 k1 ex1 L V1)(h3:G8 w b3 a3 n3 k3 ex3 L V3)(hL:4611686018427387904≤L)(hK:ah pos=true)(ho:Ok8 L (rv 0 V1 (2 ^ (pos+L).toNat)))(ho2:Ok8 L (rv 1 V3 (2 ^ (pos+L).toNat))) :
  Calls Tryz.prog 69 #[.agg #[.bool b1,.slice a1 n1 k1,.int .i64 ex1,.bool b3,.slice a3 n3 k3,.int .i64 ex3],.int .i64 pos] w fun e w'=>SS8 w e w' L (rv 0 V1 (2 ^ (pos+L).toNat)) (rv 1 V3 (2 ^ (pos+L).toNat)):=by
 obtain⟨w0,hw0,hb0,q0,q1,q9⟩:=aM w (.cells #[.bool b1,.slice a1 n1 k1,.int .i64 ex1,.bool b3,.slice a3 n3 k3,.int .i64 ex3] 45) (.cells #[.int .i64 pos] 3) (.cells #[.bool false,.slice none 0 0,.int .i64 0,.bool false,.slice none 0 0,.int .i64 0] 45)
 obtain⟨y0,y1,y2,y3,y4,y5⟩:=hexa q0
 have C:=byD (w.heap.size+1) pos b1 a1 n1 k1 ex1 b3 a3 n3 k3 ex3 L V1 V3 w0 q1 (hT.below hb0) (h1.below hb0) (h3.below hb0) hL hK ho ho2
 have HU0:=ab hb0
 have HR0:Hid (w0.heap[w.heap.size+1+1]?=some (.cells #[.bool false,.slice none 0 0,.int .i64 0,.bool false,.slice none 0 0,.int .i64 0] 45)):=ab q9
 generalize rv 0 V1 (2 ^ (pos+L).toNat)=VA at *
 generalize rv 1 V3 (2 ^ (pos+L).toNat)=VB at *
 clear q0 q1 q9 hb0 hT h1 h3 ho ho2
 go_enter Tryz.func69,Tryz.ntmps69
 go_wp2_with fail
 refine C.mono ?_
 rintro e t1 ⟨⟨b6,a6,n6,c6,e6,b7,a7,n7,c7,e7,rfl,hg1,hg2⟩,g1⟩
 have HC1:=ab (ac g1 HR0.out)
 have HG:=ab (ae HU0.out g1)
 have HD1:=ab hg1
 have HD2:=ab hg2
 have hf1:=av HC1.out
 obtain⟨m0,m1,m2,m3,m4,m5⟩:=hexa HC1.out
 clear g1 hg1 hg2 C
 go_wp2
 have T3:=aJ HC1.out (.bool b6) (.slice a6 n6 c6) (.int .i64 e6) (.bool b7) (.slice a7 n7 c7) (.int .i64 e7)
 have T4:=aF HG.out (show w.heap.size≤w.heap.size+1+1 by omega) (.bool b6) (.slice a6 n6 c6) (.int .i64 e6) (.bool b7) (.slice a7 n7 c7) (.int .i64 e7)
 have T5:=HD1.out.hexa HC1.out b6 a6 n6 c6 e6 b7 a7 n7 c7 e7
 have T6:=HD2.out.hexa HC1.out b6 a6 n6 c6 e6 b7 a7 n7 c7 e7
 obtain⟨p0,p1,p2,p3,p4,p5⟩:=hexa T3
 have HE:=ab (And.intro T5 (And.intro T6 T4))
 clear T3 T4 T5 T6
 generalize (((((t1.setCell ⟨w.heap.size+1+1,0,none⟩ (.bool b6)).setCell ⟨w.heap.size+1+1,1,none⟩ (.slice a6 n6 c6)).setCell ⟨w.heap.size+1+1,2,none⟩ (.int .i64 e6)).setCell ⟨w.heap.size+1+1,3,none⟩ (.bool b7)).setCell ⟨w.heap.size+1+1,4,none⟩ (.slice a7 n7 c7)).setCell ⟨w.heap.size+1+1,5,none⟩ (.int .i64 e7)=w5 at *
 refine bodyPost_ret (v:=.tuple #[.agg #[.bool b6,.slice a6 n6 c6,.int .i64 e6,.bool b7,.slice a7 n7 c7,.int .i64 e7],.int .i64 0]) (by simp [results,Tryz.results69,go_sem,p0,p1,p2,p3,p4,p5]) rfl ?_
 exact⟨⟨_,_,_,_,_,_,_,_,_,_,rfl,HE.out.1,HE.out.2.1⟩,HE.out.2.2⟩

theorem nE (b1:Bool)(a1:Option Addr)(n1 k1:Nat)(ex1:Int)(b3:Bool)(a3:Option Addr)(n3 k3:Nat)(ex3:Int)(pos:Int)(L:Nat)(V1 V3:Int)(w:World)(hT:Tab w)(h1:G8 w b1 a1 n1 k1 ex1 L V1)(h3:G8 w b3 a3 n3 k3 ex3 L V3)(hL:4611686018427387904≤L)(hK:ah pos=true)(ho:Ok8 L (rv 0 V1 (2 ^ (pos+L).toNat)))(ho2:Ok8 L (rv 1 V3 (2 ^ (pos+L).toNat))) :
  Calls Tryz.prog 43 #[.agg #[.bool b1,.slice a1 n1 k1,.int .i64 ex1,.bool b3,.slice a3 n3 k3,.int .i64 ex3],.int .i64 0,.int .i64 pos] w fun e w'=>SS8 w e w' L (rv 0 V1 (2 ^ (pos+L).toNat)) (rv 1 V3 (2 ^ (pos+L).toNat)):=by
 obtain⟨w0,hw0,hb0,q0,q9⟩:=al w (.cells #[.bool b1,.slice a1 n1 k1,.int .i64 ex1,.bool b3,.slice a3 n3 k3,.int .i64 ex3] 45) (.cells #[.bool false,.slice none 0 0,.int .i64 0,.bool false,.slice none 0 0,.int .i64 0] 45)
 obtain⟨y0,y1,y2,y3,y4,y5⟩:=hexa q0
 have C:=rt b1 a1 n1 k1 ex1 b3 a3 n3 k3 ex3 pos L V1 V3 w0 (hT.below hb0) (h1.below hb0) (h3.below hb0) hL hK ho ho2
 have HU0:=ab hb0
 have HR0:=ab q9
 generalize rv 0 V1 (2 ^ (pos+L).toNat)=VA at *
 generalize rv 1 V3 (2 ^ (pos+L).toNat)=VB at *
 clear q0 q9 hb0 hT h1 h3 ho ho2
 go_enter Tryz.func43,Tryz.ntmps43
 go_wp2_with fail
 refine C.mono ?_
 rintro e t1 ⟨⟨b6,a6,n6,c6,e6,b7,a7,n7,c7,e7,rfl,hg1,hg2⟩,g1⟩
 have HC1:=ab (ac g1 HR0.out)
 have HG:=ab (ae HU0.out g1)
 have HD1:=ab hg1
 have HD2:=ab hg2
 have hf1:=av HC1.out
 obtain⟨m0,m1,m2,m3,m4,m5⟩:=hexa HC1.out
 clear g1 hg1 hg2 C
 go_wp2
 have T3:=aJ HC1.out (.bool b6) (.slice a6 n6 c6) (.int .i64 e6) (.bool b7) (.slice a7 n7 c7) (.int .i64 e7)
 have T4:=aF HG.out (show w.heap.size≤w.heap.size+1 by omega) (.bool b6) (.slice a6 n6 c6) (.int .i64 e6) (.bool b7) (.slice a7 n7 c7) (.int .i64 e7)
 have T5:=HD1.out.hexa HC1.out b6 a6 n6 c6 e6 b7 a7 n7 c7 e7
 have T6:=HD2.out.hexa HC1.out b6 a6 n6 c6 e6 b7 a7 n7 c7 e7
 obtain⟨p0,p1,p2,p3,p4,p5⟩:=hexa T3
 have HE:=ab (And.intro T5 (And.intro T6 T4))
 clear T3 T4 T5 T6
 generalize (((((t1.setCell ⟨w.heap.size+1,0,none⟩ (.bool b6)).setCell ⟨w.heap.size+1,1,none⟩ (.slice a6 n6 c6)).setCell ⟨w.heap.size+1,2,none⟩ (.int .i64 e6)).setCell ⟨w.heap.size+1,3,none⟩ (.bool b7)).setCell ⟨w.heap.size+1,4,none⟩ (.slice a7 n7 c7)).setCell ⟨w.heap.size+1,5,none⟩ (.int .i64 e7)=w5 at *
 refine bodyPost_ret (v:=.tuple #[.agg #[.bool b6,.slice a6 n6 c6,.int .i64 e6,.bool b7,.slice a7 n7 c7,.int .i64 e7],.int .i64 0]) (by simp [results,Tryz.results43,go_sem,p0,p1,p2,p3,p4,p5]) rfl ?_
 exact⟨⟨_,_,_,_,_,_,_,_,_,_,rfl,HE.out.1,HE.out.2.1⟩,HE.out.2.2⟩

theorem nZ (b1:Bool)(a1:Option Addr)(n1 k1:Nat)(ex1:Int)(b2:Bool)(a2:Option Addr)(n2 k2:Nat)(ex2:Int)(b3:Bool)(a3:Option Addr)(n3 k3:Nat)(ex3:Int)(b4:Bool)(a4:Option Addr)(n4 k4:Nat)(ex4:Int)(L:Nat)(V1 V2 V3 V4:Int)(w:World)(hT:Tab w)(h1:I8 w b1 a1 n1 k1 ex1 L V1)(h2:I8 w b2 a2 n2 k2 ex2 L V2)(h3:I8 w b3 a3 n3 k3 ex3 L V3)(h4:I8 w b4 a4 n4 k4 ex4 L V4)(hE1:ah ex1=true)(hE2:ah ex2=true)(hE3:ah ex3=true)(hE4:ah ex4=true)(ho:Ok8 L (V1+V3))(ho2:Ok8 L (V2+V4)) :
  Calls Tryz.prog 39 #[.agg #[.bool b1,.slice a1 n1 k1,.int .i64 ex1,.bool b2,.slice a2 n2 k2,.int .i64 ex2],.agg #[.bool b3,.slice a3 n3 k3,.int .i64 ex3,.bool b4,.slice a4 n4 k4,.int .i64 ex4]] w fun e w'=>SS8 w e w' L (V1+V3) (V2+V4):=by
 obtain⟨w0,hw0,hb0,q0,q1,q9⟩:=aM w (.cells #[.bool b1,.slice a1 n1 k1,.int .i64 ex1,.bool b2,.slice a2 n2 k2,.int .i64 ex2] 45) (.cells #[.bool b3,.slice a3 n3 k3,.int .i64 ex3,.bool b4,.slice a4 n4 k4,.int .i64 ex4] 45) (.cells #[.bool false,.slice none 0 0,.int .i64 0,.bool false,.slice none 0 0,.int .i64 0] 45)
 obtain⟨y0,y1,y2,y3,y4,y5⟩:=hexa q0
 obtain⟨z0,z1,z2,z3,z4,z5⟩:=hexa q1
 have C:=byP b1 a1 n1 k1 ex1 b3 a3 n3 k3 ex3 b2 a2 n2 k2 ex2 b4 a4 n4 k4 ex4 L V1 V3 V2 V4 w0 (hT.below hb0) (h1.below hb0) (h3.below hb0) (h2.below hb0) (h4.below hb0) hE1 hE3 hE2 hE4 ho ho2
 have HU0:=ab hb0
 have HR0:Hid (w0.heap[w.heap.size+1+1]?=some (.cells #[.bool false,.slice none 0 0,.int .i64 0,.bool false,.slice none 0 0,.int .i64 0] 45)):=ab q9
 generalize V1+V3=VA at *
 generalize V2+V4=VB at *
 clear q0 q1 q9 hb0 hT h1 h2 h3 h4 ho ho2
 go_enter Tryz.func39,Tryz.ntmps39
 go_wp2_with fail
 refine C.mono ?_
 rintro e t1 ⟨⟨b6,a6,n6,c6,e6,b7,a7,n7,c7,e7,rfl,hg1,hg2⟩,g1⟩
 have HC1:=ab (ac g1 HR0.out)
 have HG:=ab (ae HU0.out g1)
 have HD1:=ab hg1
 have HD2:=ab hg2
 have hf1:=av HC1.out
 obtain⟨m0,m1,m2,m3,m4,m5⟩:=hexa HC1.out
 clear g1 hg1 hg2 C
 go_wp2
 have T3:=aJ HC1.out (.bool b6) (.slice a6 n6 c6) (.int .i64 e6) (.bool b7) (.slice a7 n7 c7) (.int .i64 e7)
 have T4:=aF HG.out (show w.heap.size≤w.heap.size+1+1 by omega) (.bool b6) (.slice a6 n6 c6) (.int .i64 e6) (.bool b7) (.slice a7 n7 c7) (.int .i64 e7)
 have T5:=HD1.out.hexa HC1.out b6 a6 n6 c6 e6 b7 a7 n7 c7 e7
 have T6:=HD2.out.hexa HC1.out b6 a6 n6 c6 e6 b7 a7 n7 c7 e7
 obtain⟨p0,p1,p2,p3,p4,p5⟩:=hexa T3
 have HE:=ab (And.intro T5 (And.intro T6 T4))
 clear T3 T4 T5 T6
 generalize (((((t1.setCell ⟨w.heap.size+1+1,0,none⟩ (.bool b6)).setCell ⟨w.heap.size+1+1,1,none⟩ (.slice a6 n6 c6)).setCell ⟨w.heap.size+1+1,2,none⟩ (.int .i64 e6)).setCell ⟨w.heap.size+1+1,3,none⟩ (.bool b7)).setCell ⟨w.heap.size+1+1,4,none⟩ (.slice a7 n7 c7)).setCell ⟨w.heap.size+1+1,5,none⟩ (.int .i64 e7)=w5 at *
 refine bodyPost_ret (v:=.tuple #[.agg #[.bool b6,.slice a6 n6 c6,.int .i64 e6,.bool b7,.slice a7 n7 c7,.int .i64 e7],.int .i64 0]) (by simp [results,Tryz.results39,go_sem,p0,p1,p2,p3,p4,p5]) rfl ?_
 exact⟨⟨_,_,_,_,_,_,_,_,_,_,rfl,HE.out.1,HE.out.2.1⟩,HE.out.2.2⟩

theorem iV (b1:Bool)(a1:Option Addr)(n1 k1:Nat)(ex1:Int)(b2:Bool)(a2:Option Addr)(n2 k2:Nat)(ex2:Int)(L:Nat)(V1 V2:Int)(w:World)(hL:4611686018427387904≤L)(h1:I8 w b1 a1 n1 k1 ex1 L V1)(h2:I8 w b2 a2 n2 k2 ex2 L V2)(hE1:ah ex1=true)(hE2:ah ex2=true) :
  Calls Tryz.prog 73 #[.agg #[.bool b1,.slice a1 n1 k1,.int .i64 ex1],.agg #[.bool b2,.slice a2 n2 k2,.int .i64 ex2]] w fun e w'=>e=.returned (.tuple #[.int .i64 (am V1 V2),.int .i64 0])∧Below w.heap.size w w':=by
 obtain⟨X,rfl,hA,hf,hX⟩:=h1
 obtain⟨Y,rfl,hB,hg,hY⟩:=h2
 have hx:=hX.1
 have hy:=hY.1
 refine (im b1 a1 k1 X ex1 b2 a2 k2 Y ex2 L (ex1+L).toNat (ex2+L).toNat w hA hB (by omega) (by omega) hE1 hE2 hL (by omega) (by omega)).mono fun e w' h=>⟨?_,h.2⟩
 rw [h.1,hX.2,hY.2]

theorem cm {w:World}{g:Nat}{a b c d e f a' b' c' d' e' f':Value}{t:TypeId}(h:w.heap[g]?=some (.cells #[a,b,c,d,e,f,a',b',c',d',e',f'] t)):(w.cell? ⟨g,0,none⟩=some a∧w.cell? ⟨g,1,none⟩=some b∧w.cell? ⟨g,2,none⟩=some c∧w.cell? ⟨g,3,none⟩=some d∧w.cell? ⟨g,4,none⟩=some e∧w.cell? ⟨g,5,none⟩=some f)∧(w.cell? ⟨g,6,none⟩=some a'∧w.cell? ⟨g,7,none⟩=some b'∧w.cell? ⟨g,8,none⟩=some c'∧w.cell? ⟨g,9,none⟩=some d'∧w.cell? ⟨g,10,none⟩=some e'∧w.cell? ⟨g,11,none⟩=some f'):=by
 refine⟨⟨?_,?_,?_,?_,?_,?_⟩,⟨?_,?_,?_,?_,?_,?_⟩⟩ <;> simp [World.cell?,h]

theorem ld {y z:Int}(h:y≤z):¬0<am y z:=by
 unfold am
 split
 ·omega
 ·rw [if_neg (by omega)];omega

theorem qF (gs:Nat)(b1:Bool)(a1:Option Addr)(n1 k1:Nat)(ex1:Int)(b2:Bool)(a2:Option Addr)(n2 k2:Nat)(ex2:Int)(b3:Bool)(a3:Option Addr)(n3 k3:Nat)(ex3:Int)(b4:Bool)(a4:Option Addr)(n4 k4:Nat)(ex4:Int)(L:Nat)(V1 V2 V3 V4:Int)(w:World)(hg:w.heap[gs]?=some (.cells #[.bool b1,.slice a1 n1 k1,.int .i64 ex1,.bool b2,.slice a2 n2 k2,.int .i64 ex2,.bool b3,.slice a3 n3 k3,.int .i64 ex3,.bool b4,.slice a4 n4 k4,.int .i64 ex4] 45))(hL:4611686018427387904≤L)(h1:I8 w b1 a1 n1 k1 ex1 L V1)(h2:I8 w b2 a2 n2 k2 ex2 L V2)(h3:I8 w b3 a3 n3 k3 ex3 L V3)(h4:I8 w b4 a4 n4 k4 ex4 L V4)(hE1:ah ex1=true)(hE2:ah ex2=true)(hE3:ah ex3=true)(hE4:ah ex4=true)(ho:V1≤V2)(ho2:V3≤V4) :
  Calls Tryz.prog 47 #[.slice (some ⟨gs,0,none⟩) 2 2] w fun e w'=>e=.returned (.int .i64 0)∧Below w.heap.size w w':=by
 have HS:=ab hg
 have i1:=ld ho
 have i2:=ld ho2
 have C1:=ab (fun (W:World) (hb:Below w.heap.size w W)=>iV b1 a1 n1 k1 ex1 b2 a2 n2 k2 ex2 L V1 V2 W hL (h1.below hb) (h2.below hb) hE1 hE2)
 have C2:=ab (fun (W:World) (hb:Below w.heap.size w W)=>iV b3 a3 n3 k3 ex3 b4 a4 n4 k4 ex4 L V3 V4 W hL (h3.below hb) (h4.below hb) hE3 hE4)
 generalize am V1 V2=o1 at *
 generalize am V3 V4=o2 at *
 clear hg h1 h2 h3 h4 ho ho2
 go_enter Tryz.func47,Tryz.ntmps47
 go_wp2
 go_loopw [9] (fun i wr=>∃k:Nat,k≤2∧i=.int .i64 k∧Below w.heap.size w wr) (fun i _=>2 - (intOf i).toNat)
 case atStart=>exact⟨0,by omega,rfl,Below.refl _ _⟩
 case round=>
  obtain⟨k,hk,rfl,hb⟩:=hrel
  have HB:=ab hb
  obtain⟨⟨c0,c1,c2,c3,c4,c5⟩,⟨c6,c7,c8,c9,c10,c11⟩⟩:=cm (ac hb HS.out)
  clear hb
  rcases (show k=0∨k=1∨k=2 by omega) with rfl|rfl|rfl
  ·have CMP:=C1
   obtain⟨w2,hw2,hb2,q2⟩:=ag wr (.cells #[.bool b1,.slice a1 n1 k1,.int .i64 ex1,.bool b2,.slice a2 n2 k2,.int .i64 ex2] 45)
   have HB2:=ab (ae HB.out hb2)
   have C:=CMP.out w2 HB2.out
   obtain⟨x0,x1,x2,x3,x4,x5⟩:=hexa q2
   clear hb2 q2
   go_wp2_with fail
   refine C.mono ?_
   rintro e t3 ⟨rfl,g3⟩
   have HB3:=ab (ae HB2.out g3)
   clear g3 C x0 x1 x2 x3 x4 x5
   go_wp2
   go_roundw
   case rel=>exact⟨1,by omega,by go_num,HB3.out⟩
   case measure=>simp [intOf]
  ·have CMP:=C2
   obtain⟨w2,hw2,hb2,q2⟩:=ag wr (.cells #[.bool b3,.slice a3 n3 k3,.int .i64 ex3,.bool b4,.slice a4 n4 k4,.int .i64 ex4] 45)
   have HB2:=ab (ae HB.out hb2)
   have C:=CMP.out w2 HB2.out
   obtain⟨x0,x1,x2,x3,x4,x5⟩:=hexa q2
   clear hb2 q2
   go_wp2_with fail
   refine C.mono ?_
   rintro e t3 ⟨rfl,g3⟩
   have HB3:=ab (ae HB2.out g3)
   clear g3 C x0 x1 x2 x3 x4 x5
   go_wp2
   go_roundw
   case rel=>exact⟨2,by omega,by go_num,HB3.out⟩
   case measure=>simp [intOf]
  ·go_wp2
   go_ret
   exact⟨rfl,HB.out⟩

theorem rl (v:Value)(pos:Int)(w:World)(hK:ah pos=true)(hf:Calls Tryz.prog 47 #[v] w fun e w'=>e=.returned (.int .i64 0)∧Below w.heap.size w w') :
  Calls Tryz.prog 42 #[.int .i64 pos,v] w fun e w'=>e=.returned (.int .i64 0)∧Below w.heap.size w w':=by
 go_enter Tryz.func42,Tryz.ntmps42
 go_wp2_with fail
 refine hf.mono ?_
 rintro e t1 ⟨rfl,g1⟩
 have C:=pY pos t1 hK
 have HB:=ab g1
 clear g1
 go_wp2_with fail
 refine C.mono ?_
 rintro e wn ⟨rfl,hw⟩;rw [hw];clear hw wn C
 go_wp2
 go_ret
 exact⟨rfl,HB.out⟩

theorem mW (b1:Bool)(a1:Option Addr)(n1 k1:Nat)(ex1:Int)(b2:Bool)(a2:Option Addr)(n2 k2:Nat)(ex2:Int)(b3:Bool)(a3:Option Addr)(n3 k3:Nat)(ex3:Int)(b4:Bool)(a4:Option Addr)(n4 k4:Nat)(ex4:Int)(pos:Int)(L:Nat)(V1 V2 V3 V4:Int)(w:World)(hT:Tab w)(hL:4611686018427387904≤L)(hK:ah pos=true)(h1:I8 w b1 a1 n1 k1 ex1 L V1)(h2:I8 w b2 a2 n2 k2 ex2 L V2)(h3:I8 w b3 a3 n3 k3 ex3 L V3)(h4:I8 w b4 a4 n4 k4 ex4 L V4)(hE1:ah ex1=true)(hE2:ah ex2=true)(hE3:ah ex3=true)(hE4:ah ex4=true)(hv1:V1≤V2)(hv2:V3≤V4)(ho:Ok8 L (V1+V3))(ho2:Ok8 L (V2+V4))(ho3:Ok8 L (rv 0 (V1+V3) (2 ^ (pos+L).toNat)))(ho4:Ok8 L (rv 1 (V2+V4) (2 ^ (pos+L).toNat))) :
  Calls Tryz.prog 23 #[.agg #[.bool b1,.slice a1 n1 k1,.int .i64 ex1,.bool b2,.slice a2 n2 k2,.int .i64 ex2],.agg #[.bool b3,.slice a3 n3 k3,.int .i64 ex3,.bool b4,.slice a4 n4 k4,.int .i64 ex4],.int .i64 pos,.func (.func 39) #[] #[]] w fun e w'=>SS8 w e w' L (rv 0 (V1+V3) (2 ^ (pos+L).toNat)) (rv 1 (V2+V4) (2 ^ (pos+L).toNat)):=by
 obtain⟨w0,hw0,hb0,q0,q1,q9⟩:=aM w (.cells #[.bool b1,.slice a1 n1 k1,.int .i64 ex1,.bool b2,.slice a2 n2 k2,.int .i64 ex2] 45) (.cells #[.bool b3,.slice a3 n3 k3,.int .i64 ex3,.bool b4,.slice a4 n4 k4,.int .i64 ex4] 45) (.cells #[.bool false,.slice none 0 0,.int .i64 0,.bool false,.slice none 0 0,.int .i64 0] 45)
 obtain⟨w1,hw1,hb1,q2⟩:=ag w0 (.cells #[.bool b1,.slice a1 n1 k1,.int .i64 ex1,.bool b2,.slice a2 n2 k2,.int .i64 ex2,.bool b3,.slice a3 n3 k3,.int .i64 ex3,.bool b4,.slice a4 n4 k4,.int .i64 ex4] 45)
 obtain⟨y0,y1,y2,y3,y4,y5⟩:=hexa q0
 obtain⟨z0,z1,z2,z3,z4,z5⟩:=hexa q1
 have gb:=ae hb0 hb1
 have CF:=rl (.slice (some ⟨w0.heap.size,0,none⟩) 2 2) pos w1 hK (qF w0.heap.size b1 a1 n1 k1 ex1 b2 a2 n2 k2 ex2 b3 a3 n3 k3 ex3 b4 a4 n4 k4 ex4 L V1 V2 V3 V4 w1 q2 hL (h1.below gb) (h2.below gb) (h3.below gb) (h4.below gb) hE1 hE2 hE3 hE4 hv1 hv2)
 have CS:=ab (fun (W:World) (hg:Below w.heap.size w W)=>nZ b1 a1 n1 k1 ex1 b2 a2 n2 k2 ex2 b3 a3 n3 k3 ex3 b4 a4 n4 k4 ex4 L V1 V2 V3 V4 W (hT.below hg) (h1.below hg) (h2.below hg) (h3.below hg) (h4.below hg) hE1 hE2 hE3 hE4 ho ho2)
 have CO:=ab (fun (W:World) (hg:Below w.heap.size w W) (b1:Bool) (a1:Option Addr) (n1 k1:Nat) (ex1:Int) (b3:Bool) (a3:Option Addr) (n3 k3:Nat) (ex3:Int) (h1:G8 W b1 a1 n1 k1 ex1 L (V1+V3)) (h3:G8 W b3 a3 n3 k3 ex3 L (V2+V4))=>nE b1 a1 n1 k1 ex1 b3 a3 n3 k3 ex3 pos L (V1+V3) (V2+V4) W (hT.below hg) h1 h3 hL hK ho3 ho4)
 have HU1:=ab gb
 have HQ0:=ab (ac hb1 q0)
 have HQ1:=ab (ac hb1 q1)
 have HR1:Hid (w1.heap[w.heap.size+1+1]?=some (.cells #[.bool false,.slice none 0 0,.int .i64 0,.bool false,.slice none 0 0,.int .i64 0] 45)):=ab (ac hb1 q9)
 generalize rv 0 (V1+V3) (2 ^ (pos+L).toNat)=VC at *
 generalize rv 1 (V2+V4) (2 ^ (pos+L).toNat)=VD at *
 generalize V1+V3=VA at *
 generalize V2+V4=VB at *
 clear q0 q1 q2 q9 hb0 hb1 gb hT h1 h2 h3 h4 ho ho2 ho3 ho4 hv1 hv2
 go_enter Tryz.func23,Tryz.ntmps23
 go_wp2_with fail
 refine CF.mono ?_
 rintro e t2 ⟨rfl,g2⟩
 have HU2:=ab (ae HU1.out g2)
 have HR2:=ab (ac g2 HR1.out)
 have C:=CS.out t2 HU2.out
 clear y0 y1 y2 y3 y4 y5 z0 z1 z2 z3 z4 z5 CF hw0 hw1
 obtain⟨y0,y1,y2,y3,y4,y5⟩:=hexa (ac g2 HQ0.out)
 obtain⟨z0,z1,z2,z3,z4,z5⟩:=hexa (ac g2 HQ1.out)
 clear g2
 go_wp2_with fail
 refine C.mono ?_
 rintro e t3 ⟨⟨b8,a8,n8,c8,e8,b9,a9,n9,c9,e9,rfl,hg1,hg2⟩,g3⟩
 obtain⟨w4,hw4,hb4,q4⟩:=ag t3 (.cells #[.bool b8,.slice a8 n8 c8,.int .i64 e8,.bool b9,.slice a9 n9 c9,.int .i64 e9] 45)
 have s4:=ae g3 hb4
 have HU0:=ab (ae HU2.out s4)
 have HR0:=ab (ac s4 HR2.out)
 have C4:=CO.out w4 HU0.out b8 a8 n8 c8 e8 b9 a9 n9 c9 e9 (hg1.below hb4) (hg2.below hb4)
 clear y0 y1 y2 y3 y4 y5 z0 z1 z2 z3 z4 z5 C g3 hg1 hg2 hb4 s4
 obtain⟨x0,x1,x2,x3,x4,x5⟩:=hexa q4
 clear q4
 have C:=C4
 clear C4
 go_wp2_with fail
 refine C.mono ?_
 rintro e t1 ⟨⟨b6,a6,n6,c6,e6,b7,a7,n7,c7,e7,rfl,hg1,hg2⟩,g1⟩
 have HC1:=ab (ac g1 HR0.out)
 have HG:=ab (ae HU0.out g1)
 have HD1:=ab hg1
 have HD2:=ab hg2
 have hf1:=av HC1.out
 obtain⟨m0,m1,m2,m3,m4,m5⟩:=hexa HC1.out
 clear g1 hg1 hg2 C
 go_wp2
 have T3:=aJ HC1.out (.bool b6) (.slice a6 n6 c6) (.int .i64 e6) (.bool b7) (.slice a7 n7 c7) (.int .i64 e7)
 have T4:=aF HG.out (show w.heap.size≤w.heap.size+1+1 by omega) (.bool b6) (.slice a6 n6 c6) (.int .i64 e6) (.bool b7) (.slice a7 n7 c7) (.int .i64 e7)
 have T5:=HD1.out.hexa HC1.out b6 a6 n6 c6 e6 b7 a7 n7 c7 e7
 have T6:=HD2.out.hexa HC1.out b6 a6 n6 c6 e6 b7 a7 n7 c7 e7
 obtain⟨p0,p1,p2,p3,p4,p5⟩:=hexa T3
 have HE:=ab (And.intro T5 (And.intro T6 T4))
 clear T3 T4 T5 T6
 generalize (((((t1.setCell ⟨w.heap.size+1+1,0,none⟩ (.bool b6)).setCell ⟨w.heap.size+1+1,1,none⟩ (.slice a6 n6 c6)).setCell ⟨w.heap.size+1+1,2,none⟩ (.int .i64 e6)).setCell ⟨w.heap.size+1+1,3,none⟩ (.bool b7)).setCell ⟨w.heap.size+1+1,4,none⟩ (.slice a7 n7 c7)).setCell ⟨w.heap.size+1+1,5,none⟩ (.int .i64 e7)=w5 at *
 refine bodyPost_ret (v:=.tuple #[.agg #[.bool b6,.slice a6 n6 c6,.int .i64 e6,.bool b7,.slice a7 n7 c7,.int .i64 e7],.int .i64 0]) (by simp [results,Tryz.results23,go_sem,p0,p1,p2,p3,p4,p5]) rfl ?_
 exact⟨⟨_,_,_,_,_,_,_,_,_,_,rfl,HE.out.1,HE.out.2.1⟩,HE.out.2.2⟩

theorem qV (b1:Bool)(a1:Option Addr)(n1 k1:Nat)(ex1:Int)(b2:Bool)(a2:Option Addr)(n2 k2:Nat)(ex2:Int)(b3:Bool)(a3:Option Addr)(n3 k3:Nat)(ex3:Int)(b4:Bool)(a4:Option Addr)(n4 k4:Nat)(ex4:Int)(pos:Int)(L:Nat)(V1 V2 V3 V4:Int)(w:World)(hT:Tab w)(hL:4611686018427387904≤L)(hK:ah pos=true)(h1:I8 w b1 a1 n1 k1 ex1 L V1)(h2:I8 w b2 a2 n2 k2 ex2 L V2)(h3:I8 w b3 a3 n3 k3 ex3 L V3)(h4:I8 w b4 a4 n4 k4 ex4 L V4)(hE1:ah ex1=true)(hE2:ah ex2=true)(hE3:ah ex3=true)(hE4:ah ex4=true)(hv1:V1≤V2)(hv2:V3≤V4)(ho:Ok8 L (V1+V3))(ho2:Ok8 L (V2+V4))(ho3:Ok8 L (rv 0 (V1+V3) (2 ^ (pos+L).toNat)))(ho4:Ok8 L (rv 1 (V2+V4) (2 ^ (pos+L).toNat))) :
  Calls Tryz.prog 17 #[.agg #[.bool b1,.slice a1 n1 k1,.int .i64 ex1,.bool b2,.slice a2 n2 k2,.int .i64 ex2],.agg #[.bool b3,.slice a3 n3 k3,.int .i64 ex3,.bool b4,.slice a4 n4 k4,.int .i64 ex4],.int .i64 pos] w fun e w'=>SS8 w e w' L (rv 0 (V1+V3) (2 ^ (pos+L).toNat)) (rv 1 (V2+V4) (2 ^ (pos+L).toNat)):=by
 obtain⟨w0,hw0,hb0,q0,q1,q9⟩:=aM w (.cells #[.bool b1,.slice a1 n1 k1,.int .i64 ex1,.bool b2,.slice a2 n2 k2,.int .i64 ex2] 45) (.cells #[.bool b3,.slice a3 n3 k3,.int .i64 ex3,.bool b4,.slice a4 n4 k4,.int .i64 ex4] 45) (.cells #[.bool false,.slice none 0 0,.int .i64 0,.bool false,.slice none 0 0,.int .i64 0] 45)
 obtain⟨y0,y1,y2,y3,y4,y5⟩:=hexa q0
 obtain⟨z0,z1,z2,z3,z4,z5⟩:=hexa q1
 have C:=mW b1 a1 n1 k1 ex1 b2 a2 n2 k2 ex2 b3 a3 n3 k3 ex3 b4 a4 n4 k4 ex4 pos L V1 V2 V3 V4 w0 (hT.below hb0) hL hK (h1.below hb0) (h2.below hb0) (h3.below hb0) (h4.below hb0) hE1 hE2 hE3 hE4 hv1 hv2 ho ho2 ho3 ho4
 have HU0:=ab hb0
 have HR0:Hid (w0.heap[w.heap.size+1+1]?=some (.cells #[.bool false,.slice none 0 0,.int .i64 0,.bool false,.slice none 0 0,.int .i64 0] 45)):=ab q9
 generalize rv 0 (V1+V3) (2 ^ (pos+L).toNat)=VC at *
 generalize rv 1 (V2+V4) (2 ^ (pos+L).toNat)=VD at *
 clear q0 q1 q9 hb0 hT h1 h2 h3 h4 ho ho2 ho3 ho4 hv1 hv2
 go_enter Tryz.func17,Tryz.ntmps17
 go_wp2_with fail
 refine C.mono ?_
 rintro e t1 ⟨⟨b6,a6,n6,c6,e6,b7,a7,n7,c7,e7,rfl,hg1,hg2⟩,g1⟩
 have HC1:=ab (ac g1 HR0.out)
 have HG:=ab (ae HU0.out g1)
 have HD1:=ab hg1
 have HD2:=ab hg2
 have hf1:=av HC1.out
 obtain⟨m0,m1,m2,m3,m4,m5⟩:=hexa HC1.out
 clear g1 hg1 hg2 C
 go_wp2
 have T3:=aJ HC1.out (.bool b6) (.slice a6 n6 c6) (.int .i64 e6) (.bool b7) (.slice a7 n7 c7) (.int .i64 e7)
 have T4:=aF HG.out (show w.heap.size≤w.heap.size+1+1 by omega) (.bool b6) (.slice a6 n6 c6) (.int .i64 e6) (.bool b7) (.slice a7 n7 c7) (.int .i64 e7)
 have T5:=HD1.out.hexa HC1.out b6 a6 n6 c6 e6 b7 a7 n7 c7 e7
 have T6:=HD2.out.hexa HC1.out b6 a6 n6 c6 e6 b7 a7 n7 c7 e7
 obtain⟨p0,p1,p2,p3,p4,p5⟩:=hexa T3
 have HE:=ab (And.intro T5 (And.intro T6 T4))
 clear T3 T4 T5 T6
 generalize (((((t1.setCell ⟨w.heap.size+1+1,0,none⟩ (.bool b6)).setCell ⟨w.heap.size+1+1,1,none⟩ (.slice a6 n6 c6)).setCell ⟨w.heap.size+1+1,2,none⟩ (.int .i64 e6)).setCell ⟨w.heap.size+1+1,3,none⟩ (.bool b7)).setCell ⟨w.heap.size+1+1,4,none⟩ (.slice a7 n7 c7)).setCell ⟨w.heap.size+1+1,5,none⟩ (.int .i64 e7)=w5 at *
 refine bodyPost_ret (v:=.tuple #[.agg #[.bool b6,.slice a6 n6 c6,.int .i64 e6,.bool b7,.slice a7 n7 c7,.int .i64 e7],.int .i64 0]) (by simp [results,Tryz.results17,go_sem,p0,p1,p2,p3,p4,p5]) rfl ?_
 exact⟨⟨_,_,_,_,_,_,_,_,_,_,rfl,HE.out.1,HE.out.2.1⟩,HE.out.2.2⟩

theorem fC (k L:Nat)(h:k<9223372036854775808):Ok8 L ((k:Int)*2 ^ L):=by
 have hr:Rp L (k:Int) 0 ((k:Int)*2 ^ L):=⟨by omega,by rw [show ((0:Int)+(L:Int)).toNat=L by omega]⟩
 have hb:blen (k:Int).natAbs≤64:=(blen_le_iff _ _).2 (by rw [Int.natAbs_natCast];omega)
 have ht:=eB (k:Int).natAbs
 refine⟨omz k,oe k 0,hr.norm,ba _ _,?_,?_⟩
 ·have:=blen_mono (cJ (k:Int).natAbs)
  rw [ct];omega
 ·rw [aH];unfold oe;split <;> omega

theorem eV (m:Int)(k L:Nat):rv m ((k:Int)*2 ^ L) (2 ^ ((0:Int)+(L:Int)).toNat)=(k:Int)*2 ^ L:=by
 rw [show ((0:Int)+(L:Int)).toNat=L by omega]
 refine iC (Nat.two_pow_pos _) ?_
 rw [Int.natCast_pow]
 exact Int.mul_emod_left _ _

theorem fd (c:Int)(w:World):Calls Tryz.prog 19 #[.int .i64 c] w fun e w'=>e=.returned (.int .i64 c)∧w'=w:=by
 go_enter Tryz.func19,Tryz.ntmps19
 go_wp2
 go_ret
 exact⟨rfl,rfl⟩

theorem G8.is10 {w0:World}{b6:Bool}{a6:Option Addr}{n6 c6:Nat}{e6:Int}{L k:Nat}(hk:k<9223372036854775808)(h:G8 w0 b6 a6 n6 c6 e6 L ((k:Int)*2 ^ L)) :
  e6=oe k 0∧∀(W:World) (b:Bool) (a:Option Addr) (n c:Nat),Below w0.heap.size w0 W→Dn W b (.slice a n c) (omz k)→Calls Tryz.prog 21 #[.agg #[.bool b,.slice a n c,.int .i64 (oe k 0)],.bool b6,.slice a6 n6 c6,.int .i64 (oe k 0)] W fun e w'=>e=.returned (.bool true)∧Below W.heap.size W w':=by
 obtain⟨rs,rfl,hA,hl,hr,ht,hb,hn,hf⟩:=h
 have hr2:Rp L (k:Int) 0 ((k:Int)*2 ^ L):=⟨by omega,by rw [show ((0:Int)+(L:Int)).toNat=L by omega]⟩
 obtain⟨e1,e2⟩:=Rp.one hr hr2.norm hn (ba _ _)
 refine⟨e2,fun W b a n c hg hd=>?_⟩
 have hbb:b=b6:=by rw [hd.1,hb,e1]
 subst hbb
 refine jS b a n c (omz k) (oe k 0) (.slice a6 rs.length c6) rs W hd (hA.below hg) ht (by rw [←e1,aV]) ?_
 have h5:=blen_mono (cJ (k:Int).natAbs)
 have h6:blen (k:Int).natAbs≤64:=(blen_le_iff _ _).2 (by rw [Int.natAbs_natCast];omega)
 rw [ct];omega

theorem dU (w:World)(hT:Tab w):Calls Tryz.prog 6 #[] w fun e w'=>e=.returned (.bool true)∧Below w.heap.size w w':=by
 obtain⟨L,hL⟩:∃L:Nat,4611686018427387904≤L:=⟨_,Nat.le_refl _⟩
 have HL:=ab hL
 have HT:=ab hT
 have e1:((1:Nat):Int)*2 ^ L+((3:Nat):Int)*2 ^ L=((4:Nat):Int)*2 ^ L:=by rw [←Int.add_mul];rfl
 have e2:((2:Nat):Int)*2 ^ L+((5:Nat):Int)*2 ^ L=((7:Nat):Int)*2 ^ L:=by rw [←Int.add_mul];rfl
 have hp:(0:Int)<2 ^ L:=Int.pow_pos (by decide)
 have l1:((1:Nat):Int)*2 ^ L≤((2:Nat):Int)*2 ^ L:=Int.mul_le_mul_of_nonneg_right (by omega) (by omega)
 have l2:((3:Nat):Int)*2 ^ L≤((5:Nat):Int)*2 ^ L:=Int.mul_le_mul_of_nonneg_right (by omega) (by omega)
 have ADD:=ab (fun (W:World) (hg:Below w.heap.size w W) (a1:Option Addr) (n1 k1:Nat) (a2:Option Addr) (n2 k2:Nat) (a3:Option Addr) (n3 k3:Nat) (a4:Option Addr) (n4 k4:Nat) (h1:I8 W false a1 n1 k1 0 L (((1:Nat):Int)*2 ^ L)) (h2:I8 W false a2 n2 k2 0 L (((2:Nat):Int)*2 ^ L)) (h3:I8 W false a3 n3 k3 0 L (((3:Nat):Int)*2 ^ L)) (h4:I8 W false a4 n4 k4 0 L (((5:Nat):Int)*2 ^ L))=>(by
  have h:=qV false a1 n1 k1 0 false a2 n2 k2 0 false a3 n3 k3 0 false a4 n4 k4 0 0 L _ _ _ _ W (hT.below hg) hL (by decide) h1 h2 h3 h4 (by decide) (by decide) (by decide) (by decide) l1 l2 (by rw [e1];exact fC 4 L (by decide)) (by rw [e2];exact fC 7 L (by decide)) (by rw [e1,eV];exact fC 4 L (by decide)) (by rw [e2,eV];exact fC 7 L (by decide))
  rw [e1,e2,eV,eV] at h
  exact h:Calls Tryz.prog 17 #[.agg #[.bool false,.slice a1 n1 k1,.int .i64 0,.bool false,.slice a2 n2 k2,.int .i64 0],.agg #[.bool false,.slice a3 n3 k3,.int .i64 0,.bool false,.slice a4 n4 k4,.int .i64 0],.int .i64 0] W fun e w'=>SS8 W e w' L (((4:Nat):Int)*2 ^ L) (((7:Nat):Int)*2 ^ L)))
 have S1:=ab (fun (W:World)=>show Calls Tryz.prog 18 #[.int .i64 1] W _ from fI 1 L W (by decide))
 have S2:=ab (fun (W:World)=>show Calls Tryz.prog 18 #[.int .i64 2] W _ from fI 2 L W (by decide))
 have S3:=ab (fun (W:World)=>show Calls Tryz.prog 18 #[.int .i64 3] W _ from fI 3 L W (by decide))
 have S5:=ab (fun (W:World)=>show Calls Tryz.prog 18 #[.int .i64 5] W _ from fI 5 L W (by decide))
 clear hL hT e1 e2 hp l1 l2
 go_enter Tryz.func6,Tryz.ntmps6
 go_wp2_with fail
 refine (S1.out w).mono ?_
 rintro e t1 ⟨⟨a1,n1,k1,rfl,i1⟩,g1⟩
 have HI1:=ab i1
 have HG1:=ab g1
 clear i1 g1
 go_wp2_with fail
 refine (S2.out t1).mono ?_
 rintro e t2 ⟨⟨a2,n2,k2,rfl,i2⟩,g2⟩
 have HI2:=ab i2
 have HG2:=ab g2
 clear i2 g2
 go_wp2_with fail
 refine (S3.out t2).mono ?_
 rintro e t3 ⟨⟨a3,n3,k3,rfl,i3⟩,g3⟩
 have HI3:=ab i3
 have HG3:=ab g3
 clear i3 g3
 go_wp2_with fail
 refine (S5.out t3).mono ?_
 rintro e t4 ⟨⟨a4,n4,k4,rfl,i4⟩,g4⟩
 have G:=ae (ae (ae HG1.out HG2.out) HG3.out) g4
 have C:=ADD.out t4 G a1 n1 k1 a2 n2 k2 a3 n3 k3 a4 n4 k4 (((HI1.out.below HG2.out).below HG3.out).below g4) ((HI2.out.below HG3.out).below g4) (HI3.out.below g4) i4
 have HG4:=ab G
 clear i4 g4 G S1 S2 S3 S5 ADD HI1 HI2 HI3 HG1 HG2 HG3
 go_wp2_with fail
 refine C.mono ?_
 rintro e t5 ⟨⟨b6,a6,n6,c6,e6,b7,a7,n7,c7,e7,rfl,hg1,hg2⟩,g5⟩
 obtain⟨w6,hw6,hb6,q6⟩:=ag t5 (.cells #[.bool b6,.slice a6 n6 c6,.int .i64 e6,.bool b7,.slice a7 n7 c7,.int .i64 e7] 45)
 have gd:Below t5.heap.size t5 w6.drew:=hb6.drew
 obtain⟨he6,IS6⟩:=G8.is10 (k:=4) (by decide) (hg1.below gd)
 obtain⟨he7,IS7⟩:=G8.is10 (k:=7) (by decide) (hg2.below gd)
 rw [←he6] at IS6
 rw [←he7] at IS7
 have HIS6:=ab IS6
 have HIS7:=ab IS7
 have HG5:=ab (ae HG4.out g5)
 have HGD:=ab (ae HG5.out gd)
 have g0:Below w6.drew.heap.size w6.drew w6.drew:=Below.refl _ _
 have I4:=eF 4 0 w6.drew (by omega) (by omega) (by omega) (by omega)
 have I7:=ab (fun (W:World)=>eF 7 0 W (by omega) (by omega) (by omega) (by omega))
 have HN:=fd 0 w6.drew
 obtain⟨M4,hM4⟩:∃x,omz ((4:Nat):Int)=x:=⟨_,rfl⟩
 obtain⟨M7,hM7⟩:∃x,omz ((7:Nat):Int)=x:=⟨_,rfl⟩
 rw [show omz 4=M4 from hM4,show oe 4 0=e6 from he6.symm] at I4
 rw [show omz 7=M7 from hM7,show oe 7 0=e7 from he7.symm] at I7
 rw [hM4] at HIS6
 rw [hM7] at HIS7
 have KS:=ab (fun (W:World) (hg:Below w6.drew.heap.size w6.drew W)=>show W.cell? ⟨t5.heap.size,0,none⟩=some (.bool b6)∧W.cell? ⟨t5.heap.size,1,none⟩=some (.slice a6 n6 c6)∧W.cell? ⟨t5.heap.size,2,none⟩=some (.int .i64 e6)∧W.cell? ⟨t5.heap.size,3,none⟩=some (.bool b7)∧W.cell? ⟨t5.heap.size,4,none⟩=some (.slice a7 n7 c7)∧W.cell? ⟨t5.heap.size,5,none⟩=some (.int .i64 e7) from hexa (ac hg (show w6.drew.heap[t5.heap.size]?=some (.cells #[.bool b6,.slice a6 n6 c6,.int .i64 e6,.bool b7,.slice a7 n7 c7,.int .i64 e7] 45) from q6)))
 clear hg1 hg2 g5 hb6 q6 gd IS6 IS7 C hM4 hM7 he6 he7
 go_wp2_with fail
 go_region_held3 (fun w'=>w'.cell? ⟨t5.heap.size,0,none⟩=some (.bool b6)∧w'.cell? ⟨t5.heap.size,1,none⟩=some (.slice a6 n6 c6)∧w'.cell? ⟨t5.heap.size,2,none⟩=some (.int .i64 e6)∧w'.cell? ⟨t5.heap.size,3,none⟩=some (.bool b7)∧w'.cell? ⟨t5.heap.size,4,none⟩=some (.slice a7 n7 c7)∧w'.cell? ⟨t5.heap.size,5,none⟩=some (.int .i64 e7)) (first|with_reducible exact KS.out _ h4|with_reducible exact KS.out _ h3|with_reducible exact KS.out _ h2|with_reducible exact KS.out _ h1|with_reducible exact KS.out _ g0) (first
  | (go_at_call 19;refine HN.mono ?_;rintro e' wn ⟨rfl,hw⟩;rw [hw];clear hw wn)
  | (go_at_call_of 21 a7;refine (HIS7.out u3 b9 a9 n9 c9 h3 d9).mono ?_;rintro e' u4 ⟨rfl,hb4⟩;have h4:=ae h3 hb4)
  | (go_at_call_of 21 a6;refine (HIS6.out u1 b8 a8 n8 c8 h1 d8).mono ?_;rintro e' u2 ⟨rfl,hb2⟩;have h2:=ae h1 hb2)
  | (go_at_call_of 20 (Value.int .i64 4);refine I4.mono ?_;rintro e' u1 ⟨⟨b8,a8,n8,c8,rfl,d8⟩,h1⟩)
  | (go_at_call 20;refine (I7.out u2).mono ?_;rintro e' u3 ⟨⟨b9,a9,n9,c9,rfl,d9⟩,hb3⟩;have h3:=ae h2 hb3))
 have HFIN:=ab (ae HGD.out h4)
 clear g0 h1 h2 h3 h4 hb2 hb3 hb4 KS I4 I7 HN d8 d9
 go_wp2
 go_ret
 exact⟨rfl,HFIN.out⟩

def aE (c1 c2:Int):Int:=if c1=3 then 3 else if c2=3 then 3 else if c2=0 then c1 else c2

theorem du {c1 c2:Int}:aE c1 c2=0 ↔ c1=0∧c2=0:=by
 unfold aE
 split
 ·omega
 ·split
  ·omega
  ·split <;> omega

theorem ka (g:Nat)(c1 c2:Int)(w:World)(hL:w.heap[g]?=some (.cells #[.int .i64 c1,.int .i64 c2] 47)) :
  Calls Tryz.prog 45 #[.slice (some ⟨g,0,none⟩) 2 2] w fun e w'=>e=.returned (.int .i64 (aE c1 c2))∧w'=w:=by
 obtain⟨d0,d1⟩:=duo hL
 clear hL
 by_cases h1:c1=3
 ·have i1:(c1 == 3)=true:=by rw [h1];rfl
  rw [show aE c1 c2=c1 by unfold aE;rw [if_pos h1,h1]]
  clear h1
  go_enter Tryz.func45,Tryz.ntmps45
  go_wp2
  go_loop [3,8] (fun t i=>t=.int .i64 0∧i=.int .i64 0) (fun _ i=>2 - (intOf i).toNat)
  case atStart=>exact⟨rfl,rfl⟩
  case round=>
   obtain⟨rfl,rfl⟩:=hrel
   go_wp2
   go_ret
   exact⟨rfl,rfl⟩
 ·have i1:(c1 == 3)=false:=by rw [beq_eq_false_iff_ne];exact h1
  have HT1:Hid (∀t:Int,(if c1=0 then t else c1)=(if c1=0 then t else c1)):=ab (fun _=>rfl)
  obtain⟨n1,hn1⟩:∃n1:Bool,(c1 != 0)=n1:=⟨_,rfl⟩
  have hz1:n1=false→c1=0:=by
   intro h;rw [h] at hn1;simpa using hn1
  by_cases h2:c2=3
  ·have i2:(c2 == 3)=true:=by rw [h2];rfl
   rw [show aE c1 c2=c2 by unfold aE;rw [if_neg h1,if_pos h2,h2]]
   clear h1 h2 HT1 hz1
   go_enter Tryz.func45,Tryz.ntmps45
   go_wp2
   go_loop [3,8] (fun t i=>∃(k:Nat) (x:Int),k≤1∧t=.int .i64 x∧i=.int .i64 k) (fun _ i=>2 - (intOf i).toNat)
   case atStart=>exact⟨0,0,by omega,rfl,rfl⟩
   case round=>
    obtain⟨k,x,hk,rfl,rfl⟩:=hrel
    rcases (show k=0∨k=1 by omega) with rfl|rfl
    ·cases n1
     ·go_wp2
      go_round
      case rel=>exact⟨1,_,by omega,rfl,by go_num⟩
      case measure=>simp [intOf]
     ·go_wp2
      go_round
      case rel=>exact⟨1,_,by omega,rfl,by go_num⟩
      case measure=>simp [intOf]
    ·go_wp2
     go_ret
     exact⟨rfl,rfl⟩
  ·have i2:(c2 == 3)=false:=by rw [beq_eq_false_iff_ne];exact h2
   obtain⟨n2,hn2⟩:∃n2:Bool,(c2 != 0)=n2:=⟨_,rfl⟩
   have hz2:(n2=false→c2=0)∧(n2=true→c2≠0):=by
    refine⟨fun h=>?_,fun h=>?_⟩
    ·rw [h] at hn2;simpa using hn2
    ·rw [h] at hn2;simpa using hn2
   obtain⟨R,hR⟩:∃R,aE c1 c2=R:=⟨_,rfl⟩
   have HR1:Hid (n2=false→R=c1):=ab (fun h=>by rw [←hR];unfold aE;rw [if_neg h1,if_neg h2,if_pos (hz2.1 h)])
   have HR2:Hid (n2=true→R=c2):=ab (fun h=>by rw [←hR];unfold aE;rw [if_neg h1,if_neg h2,if_neg (hz2.2 h)])
   have HZ1:=ab hz1
   rw [hR]
   clear h1 h2 HT1 hz1 hz2 hR
   go_enter Tryz.func45,Tryz.ntmps45
   go_wp2
   go_loop [3,8] (fun t i=>∃k:Nat,(k=0∧t=.int .i64 0∨k=1∧t=.int .i64 c1∨k=2∧t=.int .i64 R)∧i=.int .i64 k) (fun _ i=>2 - (intOf i).toNat)
   case atStart=>exact⟨0,.inl ⟨rfl,rfl⟩,rfl⟩
   case round=>
    obtain⟨k,hkk,rfl⟩:=hrel
    rcases hkk with ⟨rfl,rfl⟩|⟨rfl,rfl⟩|⟨rfl,rfl⟩
    ·cases n1
     ·have hc:=HZ1.out rfl
      subst hc
      go_wp2
      go_round
      case rel=>exact⟨1,.inr (.inl ⟨rfl,rfl⟩),by go_num⟩
      case measure=>simp [intOf]
     ·go_wp2
      go_round
      case rel=>exact⟨1,.inr (.inl ⟨rfl,rfl⟩),by go_num⟩
      case measure=>simp [intOf]
    ·cases n2
     ·have hc:=HR1.out rfl
      subst hc
      go_wp2
      go_round
      case rel=>exact⟨2,.inr (.inr ⟨rfl,rfl⟩),by go_num⟩
      case measure=>simp [intOf]
     ·have hc:=HR2.out rfl
      subst hc
      go_wp2
      go_round
      case rel=>exact⟨2,.inr (.inr ⟨rfl,rfl⟩),by go_num⟩
      case measure=>simp [intOf]
    ·go_wp2
     go_ret
     exact⟨rfl,rfl⟩

def aQ (o c:Int):Int:=if c=0 then (if 0<o then 100 else 0) else c

theorem jx (gs:Nat)(b1:Bool)(a1:Option Addr)(n1 k1:Nat)(ex1:Int)(b2:Bool)(a2:Option Addr)(n2 k2:Nat)(ex2:Int)(o c:Int)(w:World)(hg:w.heap[gs]?=some (.cells #[.bool b1,.slice a1 n1 k1,.int .i64 ex1,.bool b2,.slice a2 n2 k2,.int .i64 ex2] 45))(hc:∀W,Below w.heap.size w W→Calls Tryz.prog 73 #[.agg #[.bool b1,.slice a1 n1 k1,.int .i64 ex1],.agg #[.bool b2,.slice a2 n2 k2,.int .i64 ex2]] W fun e w'=>e=.returned (.tuple #[.int .i64 o,.int .i64 c])∧Below W.heap.size W w') :
  Calls Tryz.prog 47 #[.slice (some ⟨gs,0,none⟩) 1 1] w fun e w'=>e=.returned (.int .i64 (aQ o c))∧Below w.heap.size w w':=by
 have HS:=ab hg
 have C1:=ab hc
 clear hg hc
 by_cases hz:c=0
 ·subst hz
  by_cases ho:0<o
  ·rw [show aQ o 0=100 by unfold aQ;rw [if_pos rfl,if_pos ho]]
   have i1:decide (0<o)=true:=decide_eq_true ho
   clear ho
   go_enter Tryz.func47,Tryz.ntmps47
   go_wp2
   go_loopw [9] (fun i wr=>i=.int .i64 0∧Below w.heap.size w wr) (fun i _=>1 - (intOf i).toNat)
   case atStart=>exact⟨rfl,Below.refl _ _⟩
   case round=>
    obtain⟨rfl,hb⟩:=hrel
    have HB:=ab hb
    obtain⟨c0,c1,c2,c3,c4,c5⟩:=hexa (ac hb HS.out)
    clear hb
    obtain⟨w2,hw2,hb2,q2⟩:=ag wr (.cells #[.bool b1,.slice a1 n1 k1,.int .i64 ex1,.bool b2,.slice a2 n2 k2,.int .i64 ex2] 45)
    have HB2:=ab (ae HB.out hb2)
    have C:=C1.out w2 HB2.out
    obtain⟨x0,x1,x2,x3,x4,x5⟩:=hexa q2
    clear hb2 q2
    go_wp2_with fail
    refine C.mono ?_
    rintro e t3 ⟨rfl,g3⟩
    have HB3:=ab (ae HB2.out g3)
    clear g3 C x0 x1 x2 x3 x4 x5
    go_wp2
    go_ret
    exact⟨rfl,HB3.out⟩
  ·rw [show aQ o 0=0 by unfold aQ;rw [if_pos rfl,if_neg ho]]
   have i1:decide (0<o)=false:=decide_eq_false ho
   clear ho
   go_enter Tryz.func47,Tryz.ntmps47
   go_wp2
   go_loopw [9] (fun i wr=>∃k:Nat,k≤1∧i=.int .i64 k∧Below w.heap.size w wr) (fun i _=>1 - (intOf i).toNat)
   case atStart=>exact⟨0,by omega,rfl,Below.refl _ _⟩
   case round=>
    obtain⟨k,hk,rfl,hb⟩:=hrel
    have HB:=ab hb
    obtain⟨c0,c1,c2,c3,c4,c5⟩:=hexa (ac hb HS.out)
    clear hb
    rcases (show k=0∨k=1 by omega) with rfl|rfl
    ·skip
     obtain⟨w2,hw2,hb2,q2⟩:=ag wr (.cells #[.bool b1,.slice a1 n1 k1,.int .i64 ex1,.bool b2,.slice a2 n2 k2,.int .i64 ex2] 45)
     have HB2:=ab (ae HB.out hb2)
     have C:=C1.out w2 HB2.out
     obtain⟨x0,x1,x2,x3,x4,x5⟩:=hexa q2
     clear hb2 q2
     go_wp2_with fail
     refine C.mono ?_
     rintro e t3 ⟨rfl,g3⟩
     have HB3:=ab (ae HB2.out g3)
     clear g3 C x0 x1 x2 x3 x4 x5
     go_wp2
     go_roundw
     case rel=>exact⟨1,by omega,by go_num,HB3.out⟩
     case measure=>simp [intOf]
    ·go_wp2
     go_ret
     exact⟨rfl,HB.out⟩
 ·rw [show aQ o c=c by unfold aQ;rw [if_neg hz]]
  have i1:(c != 0)=true:=by simpa using hz
  clear hz
  go_enter Tryz.func47,Tryz.ntmps47
  go_wp2
  go_loopw [9] (fun i wr=>i=.int .i64 0∧Below w.heap.size w wr) (fun i _=>1 - (intOf i).toNat)
  case atStart=>exact⟨rfl,Below.refl _ _⟩
  case round=>
   obtain⟨rfl,hb⟩:=hrel
   have HB:=ab hb
   obtain⟨c0,c1,c2,c3,c4,c5⟩:=hexa (ac hb HS.out)
   clear hb
   obtain⟨w2,hw2,hb2,q2⟩:=ag wr (.cells #[.bool b1,.slice a1 n1 k1,.int .i64 ex1,.bool b2,.slice a2 n2 k2,.int .i64 ex2] 45)
   have HB2:=ab (ae HB.out hb2)
   have C:=C1.out w2 HB2.out
   obtain⟨x0,x1,x2,x3,x4,x5⟩:=hexa q2
   clear hb2 q2
   go_wp2_with fail
   refine C.mono ?_
   rintro e t3 ⟨rfl,g3⟩
   have HB3:=ab (ae HB2.out g3)
   clear g3 C x0 x1 x2 x3 x4 x5
   go_wp2
   go_ret
   exact⟨rfl,HB3.out⟩

def aS (M E:Int):Int:=if 67108864<blen M.natAbs then 3 else if ah E=true then 0 else 80

theorem DR.code {w:World}{base:Nat}{b:Bool}{va:Value}{ex c M E:Int}(h:DR w base b va ex c M E):c=aS M E:=by
 obtain⟨rs,h1,h2⟩:=h
 unfold aS
 rcases h2 with ⟨rfl,_,_,_,_,h3,h4⟩|⟨rfl,_,_,_,_,h3⟩|⟨rfl,_,_,_,_,h3,h4⟩
 ·rw [if_neg (by omega),if_pos h4]
 ·rw [if_pos h3]
 ·rw [if_neg (by omega),if_neg (by rw [h4];decide)]

theorem Ans.hexa {w:World}{base g:Nat}{v a0 a1 a2 a3 a4 a5:Value}{zs:List Nat}{t:TypeId}(h:Ans w base v zs)(hl:w.heap[g]?=some (.cells #[a0,a1,a2,a3,a4,a5] t))(ht:t≠51)(u0 u1 u2 u3 u4 u5:Value) :
  Ans ((((((w.setCell ⟨g,0,none⟩ u0).setCell ⟨g,1,none⟩ u1).setCell ⟨g,2,none⟩ u2).setCell ⟨g,3,none⟩ u3).setCell ⟨g,4,none⟩ u4).setCell ⟨g,5,none⟩ u5) base v zs:=by
 have l1:=az (k:=0) hl u0
 have l2:=az (k:=1) l1 u1
 have l3:=az (k:=2) l2 u2
 have l4:=az (k:=3) l3 u3
 have l5:=az (k:=4) l4 u4
 exact (((((h.off8 hl ht).off8 l1 ht).off8 l2 ht).off8 l3 ht).off8 l4 ht).off8 l5 ht

theorem DR.hexa {w:World}{base g:Nat}{b:Bool}{va a0 a1 a2 a3 a4 a5:Value}{ex c M E:Int}{t:TypeId}(h:DR w base b va ex c M E)(hl:w.heap[g]?=some (.cells #[a0,a1,a2,a3,a4,a5] t))(ht:t≠51)(u0 u1 u2 u3 u4 u5:Value) :
  DR ((((((w.setCell ⟨g,0,none⟩ u0).setCell ⟨g,1,none⟩ u1).setCell ⟨g,2,none⟩ u2).setCell ⟨g,3,none⟩ u3).setCell ⟨g,4,none⟩ u4).setCell ⟨g,5,none⟩ u5) base b va ex c M E:=by
 obtain⟨rs,h1,h2⟩:=h
 exact⟨rs,h1.hexa hl ht u0 u1 u2 u3 u4 u5,h2⟩

theorem kE {w:World}{v1 v2:Value}{m:Nat}{r2:List Nat}(h:∀g,v1.ownBlock=some g→g<m)(h2:Ans w m v2 r2):v1.ownBlock=none∨v1.ownBlock≠v2.ownBlock:=by
 cases e:v1.ownBlock with
 | none=>exact .inl rfl
 | some g=>
  refine .inr fun e2=>?_
  have a:=h g e
  have b:=(h2.own.lt g e2.symm).1
  omega

def SR (w:World)(base:Nat)(b1:Bool)(v1:Value)(e1:Int)(b2:Bool)(v2:Value)(e2 c M1 E1 M2 E2:Int):Prop:=
 c=aE (aS M1 E1) (aS M2 E2)∧(c=0→DR w base b1 v1 e1 0 M1 E1∧DR w base b2 v2 e2 0 M2 E2∧(v1.ownBlock=none∨v1.ownBlock≠v2.ownBlock)) ∧
  (c≠0→b1=false∧v1=.slice none 0 0∧e1=0∧b2=false∧v2=.slice none 0 0∧e2=0)

def cA (w:World)(e:Ending)(w':World)(M1 E1 M2 E2:Int):Prop:=
 (∃b1 a1 n1 k1 e1 b2 a2 n2 k2 e2 c,e=.returned (.tuple #[.agg #[.bool b1,.slice a1 n1 k1,.int .i64 e1,.bool b2,.slice a2 n2 k2,.int .i64 e2],.int .i64 c])∧SR w' w.heap.size b1 (.slice a1 n1 k1) e1 b2 (.slice a2 n2 k2) e2 c M1 E1 M2 E2)∧Below w.heap.size w w'

def cq (w:World)(c:Int)(e:Ending)(w':World):Prop:=e=.returned (.tuple #[.agg #[.bool false,.slice none 0 0,.int .i64 0,.bool false,.slice none 0 0,.int .i64 0],.int .i64 c])∧Below w.heap.size w w'

theorem SR.below {w w':World}{base:Nat}{b1:Bool}{v1:Value}{e1:Int}{b2:Bool}{v2:Value}{e2 c M1 E1 M2 E2:Int}(h:SR w base b1 v1 e1 b2 v2 e2 c M1 E1 M2 E2)(hb:Below w.heap.size w w'):SR w' base b1 v1 e1 b2 v2 e2 c M1 E1 M2 E2:=
 ⟨h.1,fun hc=>⟨(h.2.1 hc).1.below hb,(h.2.1 hc).2.1.below hb,(h.2.1 hc).2.2⟩,h.2.2⟩

theorem SR.base {w:World}{base base':Nat}{b1:Bool}{v1:Value}{e1:Int}{b2:Bool}{v2:Value}{e2 c M1 E1 M2 E2:Int}(h:SR w base b1 v1 e1 b2 v2 e2 c M1 E1 M2 E2)(hb:base'≤base):SR w base' b1 v1 e1 b2 v2 e2 c M1 E1 M2 E2:=
 ⟨h.1,fun hc=>⟨(h.2.1 hc).1.base hb,(h.2.1 hc).2.1.base hb,(h.2.1 hc).2.2⟩,h.2.2⟩

theorem SR.hexa {w:World}{base g:Nat}{b1:Bool}{v1:Value}{e1:Int}{b2:Bool}{v2:Value}{e2 c M1 E1 M2 E2:Int}{a0 a1 a2 a3 a4 a5:Value}{t:TypeId}(h:SR w base b1 v1 e1 b2 v2 e2 c M1 E1 M2 E2)(hl:w.heap[g]?=some (.cells #[a0,a1,a2,a3,a4,a5] t))(ht:t≠51)(u0 u1 u2 u3 u4 u5:Value) :
  SR ((((((w.setCell ⟨g,0,none⟩ u0).setCell ⟨g,1,none⟩ u1).setCell ⟨g,2,none⟩ u2).setCell ⟨g,3,none⟩ u3).setCell ⟨g,4,none⟩ u4).setCell ⟨g,5,none⟩ u5) base b1 v1 e1 b2 v2 e2 c M1 E1 M2 E2:=
 ⟨h.1,fun hc=>⟨(h.2.1 hc).1.hexa hl ht u0 u1 u2 u3 u4 u5,(h.2.1 hc).2.1.hexa hl ht u0 u1 u2 u3 u4 u5,(h.2.1 hc).2.2⟩,h.2.2⟩

theorem jY (b:Bool)(a:Option Addr)(c:Nat)(X:List Nat)(ex md:Int)(w:World)(hA:Arg w (.slice a X.length c) X)(hT:Tab w)(hf:X.length≤17592186044416)(hE:ah ex=true) :
  Calls Tryz.prog 49 #[.agg #[.bool b,.slice a X.length c,.int .i64 ex],.int .i64 md] w fun e w'=>aT w' w.heap.size e (omz (zz b (val X))) (oe (zz b (val X)) ex)∧Below w.heap.size w w':=by
 obtain⟨w0,hw0,hb0,q0,q1⟩:=al w (.cells #[.bool b,.slice a X.length c,.int .i64 ex] 43) (.cells #[.bool false,.slice none 0 0,.int .i64 0] 43)
 obtain⟨k0,k1',k2'⟩:=tri8 q0
 have C:=pX b a c X ex w0 (hA.below hb0) (hT.below hb0) hf hE
 have HC:=ab q1
 have HB:=ab hb0
 generalize omz (zz b (val X))=M at *
 generalize oe (zz b (val X)) ex=E at *
 clear q0 q1 hb0 hT hA
 go_enter Tryz.func49,Tryz.ntmps49
 go_wp2_with fail
 refine C.mono ?_
 rintro e t1 ⟨⟨b6,a6,n6,c6,e6,d6,rfl,hg⟩,g1⟩
 have HC1:=ab (ac g1 HC.out)
 have HG:=ab (ae HB.out g1)
 have HDR:=ab (hg.base HB.out.size)
 have hf1:=ak HC1.out
 obtain⟨m0,m1,m2⟩:=tri8 HC1.out
 clear g1 hg C
 go_wp2
 have T3:=ay HC1.out (.bool b6) (.slice a6 n6 c6) (.int .i64 e6)
 have T4:=an HG.out (show w.heap.size≤w.heap.size+1 by omega) (.bool b6) (.slice a6 n6 c6) (.int .i64 e6)
 have T5:=HDR.out.tri8 HC1.out (by decide) (.bool b6) (.slice a6 n6 c6) (.int .i64 e6)
 obtain⟨p0,p1,p2⟩:=tri8 T3
 have HE:=ab (And.intro T5 T4)
 clear T3 T4 T5
 generalize ((t1.setCell ⟨w.heap.size+1,0,none⟩ (.bool b6)).setCell ⟨w.heap.size+1,1,none⟩ (.slice a6 n6 c6)).setCell ⟨w.heap.size+1,2,none⟩ (.int .i64 e6)=w5 at *
 refine bodyPost_ret (v:=.tuple #[.agg #[.bool b6,.slice a6 n6 c6,.int .i64 e6],.int .i64 d6]) (by simp [results,Tryz.results49,go_sem,p0,p1,p2]) rfl ?_
 exact⟨⟨_,_,_,_,_,_,rfl,HE.out.1⟩,HE.out.2⟩

theorem byM (b1:Bool)(a1:Option Addr)(k1:Nat)(X:List Nat)(ex1:Int)(b3:Bool)(a3:Option Addr)(k3:Nat)(Y:List Nat)(ex3:Int)(w:World)(hT:Tab w)(hA:Arg w (.slice a1 X.length k1) X)(hB:Arg w (.slice a3 Y.length k3) Y)(f1:X.length≤17592186044416)(f2:Y.length≤17592186044416)(hE1:ah ex1=true)(hE3:ah ex3=true) :
  Calls Tryz.prog 48 #[.agg #[.bool b1,.slice a1 X.length k1,.int .i64 ex1],.agg #[.bool b3,.slice a3 Y.length k3,.int .i64 ex3],.func (.func 49) #[] #[]] w fun e w'=>cA w e w' (omz (zz b1 (val X))) (oe (zz b1 (val X)) ex1) (omz (zz b3 (val Y))) (oe (zz b3 (val Y)) ex3):=by
 obtain⟨w0,hw0,hb0,q0,q1,q9⟩:=aM w (.cells #[.bool b1,.slice a1 X.length k1,.int .i64 ex1] 43) (.cells #[.bool b3,.slice a3 Y.length k3,.int .i64 ex3] 43) (.cells #[.bool false,.slice none 0 0,.int .i64 0,.bool false,.slice none 0 0,.int .i64 0] 45)
 obtain⟨y0,y1,y2⟩:=tri8 q0
 have HU0:=ab hb0
 have HQ0:=ab q1
 have HR0:Hid (w0.heap[w.heap.size+1+1]?=some (.cells #[.bool false,.slice none 0 0,.int .i64 0,.bool false,.slice none 0 0,.int .i64 0] 45)):=ab q9
 have C1:=ab (fun (W:World) (hg:Below w.heap.size w W)=>jY b1 a1 k1 X ex1 0 W (hA.below hg) (hT.below hg) f1 hE1)
 have C2:=ab (fun (W:World) (hg:Below w.heap.size w W)=>jY b3 a3 k3 Y ex3 1 W (hB.below hg) (hT.below hg) f2 hE3)
 generalize omz (zz b1 (val X))=M1 at *
 generalize oe (zz b1 (val X)) ex1=E1 at *
 generalize omz (zz b3 (val Y))=M2 at *
 generalize oe (zz b3 (val Y)) ex3=E2 at *
 clear q0 q1 q9 hb0 hT hA hB
 go_enter Tryz.func48,Tryz.ntmps48
 go_wp2_with fail
 refine (C1.out w0 HU0.out).mono ?_
 rintro e t1 ⟨⟨b6,a6,n6,c6,e6,d6,rfl,hg⟩,g1⟩
 obtain⟨w2,hw2,hb2,q2⟩:=ag t1 (.cells #[.bool b6,.slice a6 n6 c6,.int .i64 e6] 43)
 have s2:=ae g1 hb2
 have HU2:=ab (ae HU0.out s2)
 have HX2:=ab q2
 have HD1:=ab ((hg.below hb2).base HU0.out.size)
 have HQ1:=ab (ac s2 HQ0.out)
 have HR1:=ab (ac s2 HR0.out)
 clear g1 hg hb2 q2 s2 y0 y1 y2 hw0
 obtain⟨z0,z1,z2⟩:=tri8 HQ1.out
 go_wp2_with fail
 refine (C2.out w2 HU2.out).mono ?_
 rintro e t3 ⟨⟨b7,a7,n7,c7,e7,d7,rfl,hg⟩,g1⟩
 obtain⟨w4,hw4,hb4,q4⟩:=ag t3 (.cells #[.bool b7,.slice a7 n7 c7,.int .i64 e7] 43)
 obtain⟨w6,hw6,hb6,q6⟩:=ag w4 (.cells #[.int .i64 d6,.int .i64 d7] 47)
 have s4:=ae (ae g1 hb4) hb6
 have hap:(Value.slice a6 n6 c6).ownBlock=none∨(Value.slice a6 n6 c6).ownBlock≠(Value.slice a7 n7 c7).ownBlock:=by
  obtain⟨r1,i1,_⟩:=HD1.out
  obtain⟨r2,i2,_⟩:=hg
  exact kE (m:=w2.heap.size) (fun g hg'=>(i1.own.lt g hg').2) i2
 have HG:=ab (ae HU2.out s4)
 have HX4:=ab (ac s4 HX2.out)
 have HX5:=ab (ac hb6 q4)
 have hd1:=HD1.out.below s4
 have hd2:=(((hg.below hb4).below hb6).base HU2.out.size)
 have hc1:=hd1.code
 have hc2:=hd2.code
 have HSR:Hid ((aE d6 d7=0→SR w6 w.heap.size b6 (.slice a6 n6 c6) e6 b7 (.slice a7 n7 c7) e7 0 M1 E1 M2 E2)∧(aE d6 d7≠0→∀W,SR W w.heap.size false (.slice none 0 0) 0 false (.slice none 0 0) 0 (aE d6 d7) M1 E1 M2 E2)):=by
  refine ab ⟨fun h0=>?_,fun h0 W=>?_⟩
  ·obtain⟨x1,x2⟩:=du.1 h0
   rw [x1] at hd1
   rw [x2] at hd2
   exact⟨by rw [←hc1,←hc2,h0],fun _=>⟨hd1,hd2,hap⟩,fun h=>absurd rfl h⟩
  ·exact⟨by rw [←hc1,←hc2],fun h=>absurd h h0,fun _=>⟨rfl,rfl,rfl,rfl,rfl,rfl⟩⟩
 have HC1:=ab (ac s4 HR1.out)
 have RF:=ka w4.heap.size d6 d7 w6 q6
 clear g1 hg hb4 q4 s4 z0 z1 z2 hw2 HD1 hb6 q6 hd1 hd2 hc1 hc2 hap
 generalize aE d6 d7=R at *
 obtain⟨x0,x1,x2⟩:=tri8 HX4.out
 obtain⟨x3,x4,x5⟩:=tri8 HX5.out
 have hf1:=av HC1.out
 obtain⟨m0,m1,m2,m3,m4,m5⟩:=hexa HC1.out
 by_cases hR:R=0
 ·subst hR
  have HS2:=ab (HSR.out.1 rfl)
  clear HSR
  have HSR:=HS2
  clear HS2
  go_wp2_with fail
  refine RF.mono ?_
  rintro e wn ⟨rfl,hw⟩;rw [hw];clear hw wn RF
  go_wp2
  have T3:=aJ HC1.out (.bool b6) (.slice a6 n6 c6) (.int .i64 e6) (.bool b7) (.slice a7 n7 c7) (.int .i64 e7)
  have T4:=aF HG.out (show w.heap.size≤w.heap.size+1+1 by omega) (.bool b6) (.slice a6 n6 c6) (.int .i64 e6) (.bool b7) (.slice a7 n7 c7) (.int .i64 e7)
  have T5:=HSR.out.hexa HC1.out (by decide) (.bool b6) (.slice a6 n6 c6) (.int .i64 e6) (.bool b7) (.slice a7 n7 c7) (.int .i64 e7)
  obtain⟨p0,p1,p2,p3,p4,p5⟩:=hexa T3
  have HE:=ab (And.intro T5 T4)
  clear T3 T4 T5
  generalize (((((w6.setCell ⟨w.heap.size+1+1,0,none⟩ (.bool b6)).setCell ⟨w.heap.size+1+1,1,none⟩ (.slice a6 n6 c6)).setCell ⟨w.heap.size+1+1,2,none⟩ (.int .i64 e6)).setCell ⟨w.heap.size+1+1,3,none⟩ (.bool b7)).setCell ⟨w.heap.size+1+1,4,none⟩ (.slice a7 n7 c7)).setCell ⟨w.heap.size+1+1,5,none⟩ (.int .i64 e7)=w5 at *
  refine bodyPost_ret (v:=.tuple #[.agg #[.bool b6,.slice a6 n6 c6,.int .i64 e6,.bool b7,.slice a7 n7 c7,.int .i64 e7],.int .i64 0]) (by simp [results,Tryz.results48,go_sem,p0,p1,p2,p3,p4,p5]) rfl ?_
  exact⟨⟨_,_,_,_,_,_,_,_,_,_,_,rfl,HE.out.1⟩,HE.out.2⟩
 ·have i9:(R != 0)=true:=by simpa using hR
  have HS2:=ab (HSR.out.2 hR)
  clear HSR hR
  go_wp2_with fail
  refine RF.mono ?_
  rintro e wn ⟨rfl,hw⟩;rw [hw];clear hw wn RF
  go_wp2
  have T3:=aJ HC1.out (.bool false) (.slice none 0 0) (.int .i64 0) (.bool false) (.slice none 0 0) (.int .i64 0)
  have T4:=aF HG.out (show w.heap.size≤w.heap.size+1+1 by omega) (.bool false) (.slice none 0 0) (.int .i64 0) (.bool false) (.slice none 0 0) (.int .i64 0)
  obtain⟨p0,p1,p2,p3,p4,p5⟩:=hexa T3
  have HE:=ab T4
  clear T3 T4
  generalize (((((w6.setCell ⟨w.heap.size+1+1,0,none⟩ (.bool false)).setCell ⟨w.heap.size+1+1,1,none⟩ (.slice none 0 0)).setCell ⟨w.heap.size+1+1,2,none⟩ (.int .i64 0)).setCell ⟨w.heap.size+1+1,3,none⟩ (.bool false)).setCell ⟨w.heap.size+1+1,4,none⟩ (.slice none 0 0)).setCell ⟨w.heap.size+1+1,5,none⟩ (.int .i64 0)=w5 at *
  refine bodyPost_ret (v:=.tuple #[.agg #[.bool false,.slice none 0 0,.int .i64 0,.bool false,.slice none 0 0,.int .i64 0],.int .i64 R]) (by simp [results,Tryz.results48,go_sem,p0,p1,p2,p3,p4,p5]) rfl ?_
  exact⟨⟨_,_,_,_,_,_,_,_,_,_,_,rfl,HS2.out _⟩,HE.out⟩
end Go.Proofs.YtkfbobefkbpdoaaGreatDoor

