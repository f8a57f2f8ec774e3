/- Package span: boxes of six cells; the laws' small; sums of dyadics at one scale. -/
import Derived.Test.YteflkojglmleaaaGreatDoorB04
import Derived.Test.YteflkojglmleaaaGreatDoorB07
import Derived.Test.YteflkojglmleaaaGreatDoorB05
import Derived.Test.YteflkojglmleaaaGreatDoorB06
import Derived.Test.YteflkojglmleaaaGreatDoorB03
import Derived.Test.YteflkojglmleaaaGreatDoorB02
import Derived.Deep.RegionHeld3
set_option maxRecDepth 20000
set_option maxHeartbeats 4000000
namespace Go.Proofs.YteflkojglmleaaaGreatDoor
open Go.RowKit
open Lm
attribute [local go_sem ↓] Go.wp_at_zero Go.wp_at_succ

theorem hexa {w:World}{g:Nat}{a b c d e f:Value}{t:TypeId}(h:w.heap[g]?=some (.cells #[a,b,c,d,e,f] t)):w.cell? ⟨g,0,none⟩=some a∧w.cell? ⟨g,1,none⟩=some b∧w.cell? ⟨g,2,none⟩=some c∧w.cell? ⟨g,3,none⟩=some d∧w.cell? ⟨g,4,none⟩=some e∧w.cell? ⟨g,5,none⟩=some f:=by
 refine⟨?_,?_,?_,?_,?_,?_⟩ <;> simp [World.cell?,h]

theorem aD {w:World}{g:Nat}{a b c d e f:Value}{t:TypeId}(h:w.heap[g]?=some (.cells #[a,b,c,d,e,f] t)):∀k,w.frozen? ⟨g,k,none⟩=false:=fun k=>by simp [World.frozen?,h]

theorem aK {w:World}{g:Nat}{a b c d e f:Value}{t:TypeId}(h:w.heap[g]?=some (.cells #[a,b,c,d,e,f] t))(u0 u1 u2 u3 u4 u5:Value):((((((w.setCell ⟨g,0,none⟩ u0).setCell ⟨g,1,none⟩ u1).setCell ⟨g,2,none⟩ u2).setCell ⟨g,3,none⟩ u3).setCell ⟨g,4,none⟩ u4).setCell ⟨g,5,none⟩ u5).heap[g]?=some (.cells #[u0,u1,u2,u3,u4,u5] t):=
 aC (aC (aC (aC (aC (aC h u0) u1) u2) u3) u4) u5

theorem aG {B:Nat}{w0 w:World}{g:Nat}(h:Below B w0 w)(hg:B≤g)(u0 u1 u2 u3 u4 u5:Value):Below B w0 ((((((w.setCell ⟨g,0,none⟩ u0).setCell ⟨g,1,none⟩ u1).setCell ⟨g,2,none⟩ u2).setCell ⟨g,3,none⟩ u3).setCell ⟨g,4,none⟩ u4).setCell ⟨g,5,none⟩ u5):=
 (((((h.setCell (p:=⟨g,0,none⟩) hg u0).setCell (p:=⟨g,1,none⟩) hg u1).setCell (p:=⟨g,2,none⟩) hg u2).setCell (p:=⟨g,3,none⟩) hg u3).setCell (p:=⟨g,4,none⟩) hg u4).setCell (p:=⟨g,5,none⟩) hg u5

theorem aF.boxH {w:World}{ao:Option Addr}{zs:List Nat}{g o:Nat}{p:Bool}{a:Option Addr}{n c:Nat}{e:Int}{p':Bool}{a':Option Addr}{n' c':Nat}{e':Int}{t:TypeId}{u:Value}(h:aF w ao zs)(hl:w.heap[g]?=some (.cells #[.bool p,.slice a n c,.int .i64 e,.bool p',.slice a' n' c',.int .i64 e'] t)):aF (w.setCell ⟨g,o,none⟩ u) ao zs:=by
 rcases h with h|⟨b,off,rfl,hc⟩
 ·exact .inl h
 ·rcases Nat.eq_zero_or_pos zs.length with h0|h0
  ·exact .inl (List.eq_nil_of_length_eq_zero h0)
  ·refine .inr ⟨b,off,rfl,fun k hk=>?_⟩
   rw [bf]
   ·exact hc k hk
   ·rintro rfl
    have h1:=hc 0 h0
    rw [Nat.add_zero] at h1
    simp only [World.cell?,hl] at h1
    match off,h1 with
    | 0,h1=>simp at h1
    | 1,h1=>simp at h1
    | 2,h1=>simp at h1
    | 3,h1=>simp at h1
    | 4,h1=>simp at h1
    | 5,h1=>simp at h1
    | k+6,h1=>simp at h1

theorem Arg.boxH {w:World}{v:Value}{zs:List Nat}{g o:Nat}{p:Bool}{a:Option Addr}{n c:Nat}{e:Int}{p':Bool}{a':Option Addr}{n' c':Nat}{e':Int}{t:TypeId}{u:Value}(h:Arg w v zs)(hl:w.heap[g]?=some (.cells #[.bool p,.slice a n c,.int .i64 e,.bool p',.slice a' n' c',.int .i64 e'] t)):Arg (w.setCell ⟨g,o,none⟩ u) v zs:=by
 obtain⟨ao,cap,h1,h2,h3,h4⟩:=h.form
 exact⟨⟨ao,cap,h1,h2,h3,h4.boxH hl⟩,h.limbs,h.few,h.nz⟩

theorem Arg.hexa {w:World}{v:Value}{zs:List Nat}{g:Nat}{p:Bool}{a:Option Addr}{n c:Nat}{e:Int}{p':Bool}{a':Option Addr}{n' c':Nat}{e':Int}{t:TypeId}(h:Arg w v zs)(hl:w.heap[g]?=some (.cells #[.bool p,.slice a n c,.int .i64 e,.bool p',.slice a' n' c',.int .i64 e'] t))(b1:Bool)(a1:Option Addr)(n1 c1:Nat)(e1:Int)(b2:Bool)(a2:Option Addr)(n2 c2:Nat)(e2:Int) :
  Arg ((((((w.setCell ⟨g,0,none⟩ (.bool b1)).setCell ⟨g,1,none⟩ (.slice a1 n1 c1)).setCell ⟨g,2,none⟩ (.int .i64 e1)).setCell ⟨g,3,none⟩ (.bool b2)).setCell ⟨g,4,none⟩ (.slice a2 n2 c2)).setCell ⟨g,5,none⟩ (.int .i64 e2)) v zs:=by
 have h1:=h.boxH (o:=0) (u:=.bool b1) hl
 have l1:=aC (k:=0) hl (.bool b1)
 have h2:=h1.boxH (o:=1) (u:=.slice a1 n1 c1) l1
 have l2:=aC (k:=1) l1 (.slice a1 n1 c1)
 have h3:=h2.boxH (o:=2) (u:=.int .i64 e1) l2
 have l3:=aC (k:=2) l2 (.int .i64 e1)
 have h4:=h3.boxH (o:=3) (u:=.bool b2) l3
 have l4:=aC (k:=3) l3 (.bool b2)
 have h5:=h4.boxH (o:=4) (u:=.slice a2 n2 c2) l4
 have l5:=aC (k:=4) l4 (.slice a2 n2 c2)
 exact h5.boxH (o:=5) (u:=.int .i64 e2) l5

theorem G8.hexa {w:World}{b:Bool}{a0:Option Addr}{n0 k0:Nat}{ex:Int}{L:Nat}{V:Int}{g:Nat}{p:Bool}{a:Option Addr}{n c:Nat}{e:Int}{p':Bool}{a':Option Addr}{n' c':Nat}{e':Int}{t:TypeId}(h:G8 w b a0 n0 k0 ex L V)(hl:w.heap[g]?=some (.cells #[.bool p,.slice a n c,.int .i64 e,.bool p',.slice a' n' c',.int .i64 e'] t))(b1:Bool)(a1:Option Addr)(n1 c1:Nat)(e1:Int)(b2:Bool)(a2:Option Addr)(n2 c2:Nat)(e2:Int) :
  G8 ((((((w.setCell ⟨g,0,none⟩ (.bool b1)).setCell ⟨g,1,none⟩ (.slice a1 n1 c1)).setCell ⟨g,2,none⟩ (.int .i64 e1)).setCell ⟨g,3,none⟩ (.bool b2)).setCell ⟨g,4,none⟩ (.slice a2 n2 c2)).setCell ⟨g,5,none⟩ (.int .i64 e2)) b a0 n0 k0 ex L V:=by
 obtain⟨rs,h1,h2,h3⟩:=h
 exact⟨rs,h1,h2.hexa hl b1 a1 n1 c1 e1 b2 a2 n2 c2 e2,h3⟩

theorem G8.tri9 {w:World}{b:Bool}{a0:Option Addr}{n0 k0:Nat}{ex:Int}{L:Nat}{V:Int}{g:Nat}{p:Bool}{a:Option Addr}{n c:Nat}{e:Int}{t:TypeId}(h:G8 w b a0 n0 k0 ex L V)(hl:w.heap[g]?=some (.cells #[.bool p,.slice a n c,.int .i64 e] t))(b1:Bool)(a1:Option Addr)(n1 c1:Nat)(e1:Int) :
  G8 (((w.setCell ⟨g,0,none⟩ (.bool b1)).setCell ⟨g,1,none⟩ (.slice a1 n1 c1)).setCell ⟨g,2,none⟩ (.int .i64 e1)) b a0 n0 k0 ex L V:=by
 obtain⟨rs,h1,h2,h3⟩:=h
 exact⟨rs,h1,h2.tri8 hl b1 a1 n1 c1 _,h3⟩

theorem qR (b1:Bool)(a1:Option Addr)(n1 k1:Nat)(ex1:Int)(b2:Bool)(a2:Option Addr)(n2 k2:Nat)(ex2:Int)(L:Nat)(V1 V2:Int)(w:World)(hT:Tab w)(h1:I8 w b1 a1 n1 k1 ex1 L V1)(h2:I8 w b2 a2 n2 k2 ex2 L V2)(hE1:aj ex1=true)(hE2:aj ex2=true)(ho:Ok8 L (V1+V2)) :
  Calls Tryz.prog 50 #[.agg #[.bool b1,.slice a1 n1 k1,.int .i64 ex1],.agg #[.bool b2,.slice a2 n2 k2,.int .i64 ex2]] w fun e w'=>S8 w e w' L (V1+V2):=by
 obtain⟨X,rfl,hA,hf,hX⟩:=h1
 obtain⟨Y,rfl,hB,hg,hY⟩:=h2
 have F1:=bJ (b:=b1) (ex:=ex1) hA hf hE1
 have F2:=bJ (b:=b2) (ex:=ex2) hB hg hE2
 refine (jp b1 a1 _ k1 ex1 b2 a2 _ k2 ex2 _ _ w (fun W hg'=>mb b1 a1 k1 X ex1 b2 a2 k2 Y ex2 _ _ W (hT.below hg') (hA.below hg') (hB.below hg') hf hg hE1 hE2 (fun W2 b3 a3 c3 X3 b4 a4 c4 X4 t3 m3 m4 l3 l4=>ia b3 a3 c3 X3 _ _ b4 a4 c4 X4 _ _ W2 m3 m4 F1.2.2.2 F2.2.2.2 l3 l4 F1.2.1 F2.2.2.1 F2.2.1 F1.2.2.1))).mono fun e w' h=>aO.s8 h.1 (Rp.add hX.norm hY.norm).norm (bj _ _) ho h.2

theorem small_any (k:Nat)(L:Nat)(w:World)(h0:k<9223372036854775808) :
  Calls Tryz.prog 28 #[.int .i64 (k:Int)] w fun e w'=>(∃a n c,e=.returned (.agg #[.bool false,.slice a n c,.int .i64 0])∧I8 w' false a n c 0 L ((k:Int)*2 ^ L))∧Below w.heap.size w w':=by
 obtain⟨w0,hw0,hb0,h0'⟩:=af w (.cells #[.bool false,.slice none 0 0,.int .i64 0] 31)
 obtain⟨w1,hw1,hb1,h1⟩:=af w0 (.cells #[.int .u64 (k:Int)] 108)
 have hA:=Arg.lits w0 [k] #[.int .u64 (k:Int)] 1 rfl rfl (by intro z hz;simp at hz;omega) (by simp)
 rw [hw1] at hA
 have HC:=ab (ac hb1 h0')
 have HG:=ab (ae hb0 hb1)
 have HA:=ab hA
 have wk:IntKind.u64.wrap (k:Int)=(k:Int):=by rw [IntKind.wrap_u64];omega
 have hf1:=am HC.out
 obtain⟨m0,m1,m2⟩:=tri8 HC.out
 clear hA hb0 hb1 h0' h1
 go_enter Tryz.func28,Tryz.ntmps28
 go_wp2
 have T3:=ay HC.out (.bool false) (.slice (some ⟨w0.heap.size,0,none⟩) 1 1) (.int .i64 0)
 have T4:=an HG.out (Nat.le_refl _) (.bool false) (.slice (some ⟨w0.heap.size,0,none⟩) 1 1) (.int .i64 0)
 have T5:=HA.out.tri8 HC.out false (some ⟨w0.heap.size,0,none⟩) 1 1 (.int .i64 0)
 obtain⟨p0,p1,p2⟩:=tri8 T3
 have HE:=ab (And.intro T5 T4)
 clear T3 T4 T5
 generalize ((w1.setCell ⟨w.heap.size,0,none⟩ (.bool false)).setCell ⟨w.heap.size,1,none⟩ (.slice (some ⟨w0.heap.size,0,none⟩) 1 1)).setCell ⟨w.heap.size,2,none⟩ (.int .i64 0)=w5 at *
 refine bodyPost_ret (v:=.agg #[.bool false,.slice (some ⟨w0.heap.size,0,none⟩) 1 1,.int .i64 0]) (by simp [results,Tryz.results28,go_sem,p0,p1,p2]) rfl ?_
 refine⟨⟨_,_,_,rfl,[k],rfl,HE.out.1,by simp,⟨by omega,?_⟩⟩,HE.out.2⟩
 rw [show ((0:Int)+(L:Int)).toNat=L by omega,show zz false (val [k])=(k:Int) by simp [zz,val]]



theorem i8 (g:Nat)(w:World)(hL:w.heap[g]?=some (.cells #[.int .i64 0,.int .i64 0] 47)) :
  Calls Tryz.prog 54 #[.slice (some ⟨g,0,none⟩) 2 2] w fun e w'=>e=.returned (.int .i64 0)∧w'=w:=by
 have HL:=ab hL
 obtain⟨c0,c1⟩:=duo hL
 clear hL
 go_enter Tryz.func54,Tryz.ntmps54
 go_wp2
 go_loop [3,8] (fun t i=>∃k:Nat,k≤2∧t=.int .i64 0∧i=.int .i64 k) (fun _ i=>2 - (intOf i).toNat)
 case atStart=>exact⟨0,by omega,rfl,rfl⟩
 case round=>
  obtain⟨k,hk,rfl,rfl⟩:=hrel
  by_cases hkl:k<2
  ·have hck:w.cell? ⟨g,k,none⟩=some (.int .i64 0):=by
    rcases (show k=0∨k=1 by omega) with rfl|rfl
    ·exact c0
    ·exact c1
   clear c0 c1
   go_wp2
   go_round
   case rel=>exact⟨k+1,by omega,rfl,by go_num⟩
   case measure=>simp [intOf];omega
  ·go_wp2
   go_ret
   exact⟨rfl,rfl⟩

theorem qD (n:Int)(w:World)(h:aj n=true):Calls Tryz.prog 75 #[.int .i64 n] w fun e w'=>e=.returned (.bool true)∧w'=w:=by
 have hr:=(aM n).1 h
 have h1:decide (-1099511627776≤n)=true:=decide_eq_true hr.1
 have h2:decide (n≤1099511627776)=true:=decide_eq_true hr.2
 go_enter Tryz.func75,Tryz.ntmps75
 go_wp2
 go_ret
 exact⟨rfl,rfl⟩

theorem sumsF (b1:Bool)(a1:Option Addr)(n1 k1:Nat)(ex1:Int)(b2:Bool)(a2:Option Addr)(n2 k2:Nat)(ex2:Int)(md:Int)(L:Nat)(V1 V2:Int)(w:World)(hT:Tab w)(h1:I8 w b1 a1 n1 k1 ex1 L V1)(h2:I8 w b2 a2 n2 k2 ex2 L V2)(hE1:aj ex1=true)(hE2:aj ex2=true)(ho:Ok8 L (V1+V2)) :
  Calls Tryz.prog 49 #[.agg #[.bool b1,.slice a1 n1 k1,.int .i64 ex1,.bool b2,.slice a2 n2 k2,.int .i64 ex2],.int .i64 md] w fun e w'=>S8 w e w' L (V1+V2):=by
 obtain⟨w0,hw0,hb0,q0,q1⟩:=aA w (.cells #[.bool b1,.slice a1 n1 k1,.int .i64 ex1,.bool b2,.slice a2 n2 k2,.int .i64 ex2] 92) (.cells #[.bool false,.slice none 0 0,.int .i64 0] 31)
 obtain⟨k0,k1',k2',k3',k4',k5'⟩:=hexa q0
 have C:=qR b1 a1 n1 k1 ex1 b2 a2 n2 k2 ex2 L V1 V2 w0 (hT.below hb0) (h1.below hb0) (h2.below hb0) hE1 hE2 ho
 have HC:=ab q1
 have HB:=ab hb0
 generalize V1+V2=V at *
 clear q0 q1 hb0 hT h1 h2 ho
 go_enter Tryz.func49,Tryz.ntmps49
 go_wp2_with fail
 refine C.mono ?_
 rintro e t1 ⟨⟨b6,a6,n6,c6,e6,rfl,hg⟩,g1⟩
 have HC1:=ab (ac g1 HC.out)
 have HG:=ab (ae HB.out g1)
 have HDR:=ab hg
 have hf1:=am HC1.out
 obtain⟨m0,m1,m2⟩:=tri8 HC1.out
 clear g1 hg C
 go_wp2
 have T3:=ay HC1.out (.bool b6) (.slice a6 n6 c6) (.int .i64 e6)
 have T4:=an HG.out (show w.heap.size≤w.heap.size+1 by omega) (.bool b6) (.slice a6 n6 c6) (.int .i64 e6)
 have T5:=HDR.out.tri9 HC1.out b6 a6 n6 c6 e6
 obtain⟨p0,p1,p2⟩:=tri8 T3
 have HE:=ab (And.intro T5 T4)
 clear T3 T4 T5
 generalize ((t1.setCell ⟨w.heap.size+1,0,none⟩ (.bool b6)).setCell ⟨w.heap.size+1,1,none⟩ (.slice a6 n6 c6)).setCell ⟨w.heap.size+1,2,none⟩ (.int .i64 e6)=w5 at *
 refine bodyPost_ret (v:=.tuple #[.agg #[.bool b6,.slice a6 n6 c6,.int .i64 e6],.int .i64 0]) (by simp [results,Tryz.results49,go_sem,p0,p1,p2]) rfl ?_
 exact⟨⟨_,_,_,_,_,rfl,HE.out.1⟩,HE.out.2⟩

theorem outF (gp:Nat)(pos:Int)(b1:Bool)(a1:Option Addr)(n1 k1:Nat)(ex1:Int)(md:Int)(L:Nat)(V1:Int)(w:World)(hp:w.heap[gp]?=some (.cells #[.int .i64 pos] 3))(hT:Tab w)(h1:G8 w b1 a1 n1 k1 ex1 L V1)(hL:4611686018427387904≤L)(hK:aj pos=true)(hM:isM md=true)(ho:Ok8 L (rv md V1 (2 ^ (pos+L).toNat))) :
  Calls Tryz.prog 95 #[.agg #[.bool b1,.slice a1 n1 k1,.int .i64 ex1],.int .i64 md,.pointer (some ⟨gp,0,none⟩)] w fun e w'=>S8 w e w' L (rv md V1 (2 ^ (pos+L).toNat)):=by
 obtain⟨w0,hw0,hb0,q0,q1⟩:=aA w (.cells #[.bool b1,.slice a1 n1 k1,.int .i64 ex1] 31) (.cells #[.bool false,.slice none 0 0,.int .i64 0] 31)
 obtain⟨k0,k1',k2'⟩:=tri8 q0
 have kp:w0.cell? ⟨gp,0,none⟩=some (.int .i64 pos):=by have:=ac hb0 hp;simp [World.cell?,this]
 have C:=rF b1 a1 n1 k1 ex1 L V1 pos md w0 (hT.below hb0) (h1.below hb0) hL hK hM ho
 have HC:=ab q1
 have HB:=ab hb0
 generalize rv md V1 (2 ^ (pos+L).toNat)=V at *
 clear q0 q1 hb0 hT h1 ho hp
 go_enter Tryz.func95,Tryz.ntmps95
 go_wp2_with fail
 refine C.mono ?_
 rintro e t1 ⟨⟨b6,a6,n6,c6,e6,rfl,hg⟩,g1⟩
 have HC1:=ab (ac g1 HC.out)
 have HG:=ab (ae HB.out g1)
 have HDR:=ab hg
 have hf1:=am HC1.out
 obtain⟨m0,m1,m2⟩:=tri8 HC1.out
 clear g1 hg C
 go_wp2
 have T3:=ay HC1.out (.bool b6) (.slice a6 n6 c6) (.int .i64 e6)
 have T4:=an HG.out (show w.heap.size≤w.heap.size+1 by omega) (.bool b6) (.slice a6 n6 c6) (.int .i64 e6)
 have T5:=HDR.out.tri9 HC1.out b6 a6 n6 c6 e6
 obtain⟨p0,p1,p2⟩:=tri8 T3
 have HE:=ab (And.intro T5 T4)
 clear T3 T4 T5
 generalize ((t1.setCell ⟨w.heap.size+1,0,none⟩ (.bool b6)).setCell ⟨w.heap.size+1,1,none⟩ (.slice a6 n6 c6)).setCell ⟨w.heap.size+1,2,none⟩ (.int .i64 e6)=w5 at *
 refine bodyPost_ret (v:=.tuple #[.agg #[.bool b6,.slice a6 n6 c6,.int .i64 e6],.int .i64 0]) (by simp [results,Tryz.results95,go_sem,p0,p1,p2]) rfl ?_
 exact⟨⟨_,_,_,_,_,rfl,HE.out.1⟩,HE.out.2⟩

def SS8 (w:World)(e:Ending)(w':World)(L:Nat)(V1 V2:Int):Prop:=
 (∃b1 a1 n1 k1 e1 b2 a2 n2 k2 e2,e=.returned (.tuple #[.agg #[.bool b1,.slice a1 n1 k1,.int .i64 e1,.bool b2,.slice a2 n2 k2,.int .i64 e2],.int .i64 0])∧G8 w' b1 a1 n1 k1 e1 L V1∧G8 w' b2 a2 n2 k2 e2 L V2)∧Below w.heap.size w w'

theorem byP (b1:Bool)(a1:Option Addr)(n1 k1:Nat)(ex1:Int)(b2:Bool)(a2:Option Addr)(n2 k2:Nat)(ex2:Int)(b3:Bool)(a3:Option Addr)(n3 k3:Nat)(ex3:Int)(b4:Bool)(a4:Option Addr)(n4 k4:Nat)(ex4:Int)(L:Nat)(V1 V2 V3 V4:Int)(w:World)(hT:Tab w)(h1:I8 w b1 a1 n1 k1 ex1 L V1)(h2:I8 w b2 a2 n2 k2 ex2 L V2)(h3:I8 w b3 a3 n3 k3 ex3 L V3)(h4:I8 w b4 a4 n4 k4 ex4 L V4)(hE1:aj ex1=true)(hE2:aj ex2=true)(hE3:aj ex3=true)(hE4:aj ex4=true)(ho:Ok8 L (V1+V2))(ho2:Ok8 L (V3+V4)) :
  Calls Tryz.prog 48 #[.agg #[.bool b1,.slice a1 n1 k1,.int .i64 ex1,.bool b2,.slice a2 n2 k2,.int .i64 ex2],.agg #[.bool b3,.slice a3 n3 k3,.int .i64 ex3,.bool b4,.slice a4 n4 k4,.int .i64 ex4],.func (.func 49) #[] #[]] w fun e w'=>SS8 w e w' L (V1+V2) (V3+V4):=by
 obtain⟨w0,hw0,hb0,q0,q1,q9⟩:=aE w (.cells #[.bool b1,.slice a1 n1 k1,.int .i64 ex1,.bool b2,.slice a2 n2 k2,.int .i64 ex2] 92) (.cells #[.bool b3,.slice a3 n3 k3,.int .i64 ex3,.bool b4,.slice a4 n4 k4,.int .i64 ex4] 92) (.cells #[.bool false,.slice none 0 0,.int .i64 0,.bool false,.slice none 0 0,.int .i64 0] 33)
 obtain⟨y0,y1,y2,y3,y4,y5⟩:=hexa q0
 have HU0:=ab hb0
 have HQ0:=ab q1
 have HR0:Hid (w0.heap[w.heap.size+1+1]?=some (.cells #[.bool false,.slice none 0 0,.int .i64 0,.bool false,.slice none 0 0,.int .i64 0] 33)):=ab q9
 have C1:=ab (fun (W:World) (hg:Below w.heap.size w W)=>sumsF b1 a1 n1 k1 ex1 b2 a2 n2 k2 ex2 0 L V1 V2 W (hT.below hg) (h1.below hg) (h2.below hg) hE1 hE2 ho)
 have C2:=ab (fun (W:World) (hg:Below w.heap.size w W)=>sumsF b3 a3 n3 k3 ex3 b4 a4 n4 k4 ex4 1 L V3 V4 W (hT.below hg) (h3.below hg) (h4.below hg) hE3 hE4 ho2)
 generalize V1+V2=VA at *
 generalize V3+V4=VB at *
 clear q0 q1 q9 hb0 hT h1 h2 h3 h4 ho ho2
 go_enter Tryz.func48,Tryz.ntmps48
 go_wp2_with fail
 refine (C1.out w0 HU0.out).mono ?_
 rintro e t1 ⟨⟨b6,a6,n6,c6,e6,rfl,hg⟩,g1⟩
 obtain⟨w2,hw2,hb2,q2⟩:=af t1 (.cells #[.bool b6,.slice a6 n6 c6,.int .i64 e6] 31)
 have s2:=ae g1 hb2
 have HU2:=ab (ae HU0.out s2)
 have HX2:=ab q2
 have HD1:=ab (hg.below hb2)
 have HQ1:=ab (ac s2 HQ0.out)
 have HR1:=ab (ac s2 HR0.out)
 clear g1 hg hb2 q2 s2 y0 y1 y2 y3 y4 y5 hw0
 obtain⟨z0,z1,z2,z3,z4,z5⟩:=hexa HQ1.out
 go_wp2_with fail
 refine (C2.out w2 HU2.out).mono ?_
 rintro e t3 ⟨⟨b7,a7,n7,c7,e7,rfl,hg⟩,g1⟩
 obtain⟨w4,hw4,hb4,q4⟩:=af t3 (.cells #[.bool b7,.slice a7 n7 c7,.int .i64 e7] 31)
 obtain⟨w6,hw6,hb6,q6⟩:=af w4 (.cells #[.int .i64 0,.int .i64 0] 47)
 have s4:=ae (ae g1 hb4) hb6
 have HG:=ab (ae HU2.out s4)
 have HX4:=ab (ac s4 HX2.out)
 have HX5:=ab (ac hb6 q4)
 have HD3:=ab (HD1.out.below s4)
 have HD2:=ab ((hg.below hb4).below hb6)
 have HC1:=ab (ac s4 HR1.out)
 have RF:=i8 w4.heap.size w6 q6
 clear g1 hg hb4 q4 s4 z0 z1 z2 z3 z4 z5 hw2 HD1 hb6 q6
 have HD1:=HD3
 go_wp2_with fail
 refine RF.mono ?_
 rintro e wn ⟨rfl,hw⟩;rw [hw];clear hw wn RF
 obtain⟨x0,x1,x2⟩:=tri8 HX4.out
 obtain⟨x3,x4,x5⟩:=tri8 HX5.out
 have hf1:=aD HC1.out
 obtain⟨m0,m1,m2,m3,m4,m5⟩:=hexa HC1.out
 go_wp2
 have T3:=aK HC1.out (.bool b6) (.slice a6 n6 c6) (.int .i64 e6) (.bool b7) (.slice a7 n7 c7) (.int .i64 e7)
 have T4:=aG HG.out (show w.heap.size≤w.heap.size+1+1 by omega) (.bool b6) (.slice a6 n6 c6) (.int .i64 e6) (.bool b7) (.slice a7 n7 c7) (.int .i64 e7)
 have T5:=HD1.out.hexa HC1.out b6 a6 n6 c6 e6 b7 a7 n7 c7 e7
 have T6:=HD2.out.hexa HC1.out b6 a6 n6 c6 e6 b7 a7 n7 c7 e7
 obtain⟨p0,p1,p2,p3,p4,p5⟩:=hexa T3
 have HE:=ab (And.intro T5 (And.intro T6 T4))
 clear T3 T4 T5 T6
 generalize (((((w6.setCell ⟨w.heap.size+1+1,0,none⟩ (.bool b6)).setCell ⟨w.heap.size+1+1,1,none⟩ (.slice a6 n6 c6)).setCell ⟨w.heap.size+1+1,2,none⟩ (.int .i64 e6)).setCell ⟨w.heap.size+1+1,3,none⟩ (.bool b7)).setCell ⟨w.heap.size+1+1,4,none⟩ (.slice a7 n7 c7)).setCell ⟨w.heap.size+1+1,5,none⟩ (.int .i64 e7)=w5 at *
 refine bodyPost_ret (v:=.tuple #[.agg #[.bool b6,.slice a6 n6 c6,.int .i64 e6,.bool b7,.slice a7 n7 c7,.int .i64 e7],.int .i64 0]) (by simp [results,Tryz.results48,go_sem,p0,p1,p2,p3,p4,p5]) rfl ?_
 exact⟨⟨_,_,_,_,_,_,_,_,_,_,rfl,HE.out.1,HE.out.2.1⟩,HE.out.2.2⟩

theorem byD (gp:Nat)(pos:Int)(b1:Bool)(a1:Option Addr)(n1 k1:Nat)(ex1:Int)(b3:Bool)(a3:Option Addr)(n3 k3:Nat)(ex3:Int)(L:Nat)(V1 V3:Int)(w:World)(hp:w.heap[gp]?=some (.cells #[.int .i64 pos] 3))(hT:Tab w)(h1:G8 w b1 a1 n1 k1 ex1 L V1)(h3:G8 w b3 a3 n3 k3 ex3 L V3)(hL:4611686018427387904≤L)(hK:aj pos=true)(ho:Ok8 L (rv 0 V1 (2 ^ (pos+L).toNat)))(ho2:Ok8 L (rv 1 V3 (2 ^ (pos+L).toNat))) :
  Calls Tryz.prog 94 #[.agg #[.bool b1,.slice a1 n1 k1,.int .i64 ex1],.agg #[.bool b3,.slice a3 n3 k3,.int .i64 ex3],.func (.func 95) #[] #[.pointer (some ⟨gp,0,none⟩)]] w fun e w'=>SS8 w e w' L (rv 0 V1 (2 ^ (pos+L).toNat)) (rv 1 V3 (2 ^ (pos+L).toNat)):=by
 obtain⟨w0,hw0,hb0,q0,q1,q9⟩:=aE w (.cells #[.bool b1,.slice a1 n1 k1,.int .i64 ex1] 31) (.cells #[.bool b3,.slice a3 n3 k3,.int .i64 ex3] 31) (.cells #[.bool false,.slice none 0 0,.int .i64 0,.bool false,.slice none 0 0,.int .i64 0] 33)
 obtain⟨y0,y1,y2⟩:=tri8 q0
 have HU0:=ab hb0
 have HQ0:=ab q1
 have HR0:Hid (w0.heap[w.heap.size+1+1]?=some (.cells #[.bool false,.slice none 0 0,.int .i64 0,.bool false,.slice none 0 0,.int .i64 0] 33)):=ab q9
 have C1:=ab (fun (W:World) (hg:Below w.heap.size w W)=>outF gp pos b1 a1 n1 k1 ex1 0 L V1 W (ac hg hp) (hT.below hg) (h1.below hg) hL hK (by decide) ho)
 have C2:=ab (fun (W:World) (hg:Below w.heap.size w W)=>outF gp pos b3 a3 n3 k3 ex3 1 L V3 W (ac hg hp) (hT.below hg) (h3.below hg) hL hK (by decide) ho2)
 generalize rv 0 V1 (2 ^ (pos+L).toNat)=VA at *
 generalize rv 1 V3 (2 ^ (pos+L).toNat)=VB at *
 clear q0 q1 q9 hb0 hT h1 h3 ho ho2 hp
 go_enter Tryz.func94,Tryz.ntmps94
 go_wp2_with fail
 refine (C1.out w0 HU0.out).mono ?_
 rintro e t1 ⟨⟨b6,a6,n6,c6,e6,rfl,hg⟩,g1⟩
 obtain⟨w2,hw2,hb2,q2⟩:=af t1 (.cells #[.bool b6,.slice a6 n6 c6,.int .i64 e6] 31)
 have s2:=ae g1 hb2
 have HU2:=ab (ae HU0.out s2)
 have HX2:=ab q2
 have HD1:=ab (hg.below hb2)
 have HQ1:=ab (ac s2 HQ0.out)
 have HR1:=ab (ac s2 HR0.out)
 clear g1 hg hb2 q2 s2 y0 y1 y2 hw0
 obtain⟨z0,z1,z2⟩:=tri8 HQ1.out
 go_wp2_with fail
 refine (C2.out w2 HU2.out).mono ?_
 rintro e t3 ⟨⟨b7,a7,n7,c7,e7,rfl,hg⟩,g1⟩
 obtain⟨w4,hw4,hb4,q4⟩:=af t3 (.cells #[.bool b7,.slice a7 n7 c7,.int .i64 e7] 31)
 obtain⟨w6,hw6,hb6,q6⟩:=af w4 (.cells #[.int .i64 0,.int .i64 0] 47)
 have s4:=ae (ae g1 hb4) hb6
 have HG:=ab (ae HU2.out s4)
 have HX4:=ab (ac s4 HX2.out)
 have HX5:=ab (ac hb6 q4)
 have HD3:=ab (HD1.out.below s4)
 have HD2:=ab ((hg.below hb4).below hb6)
 have HC1:=ab (ac s4 HR1.out)
 have RF:=i8 w4.heap.size w6 q6
 clear g1 hg hb4 q4 s4 z0 z1 z2 hw2 HD1 hb6 q6
 have HD1:=HD3
 go_wp2_with fail
 refine RF.mono ?_
 rintro e wn ⟨rfl,hw⟩;rw [hw];clear hw wn RF
 obtain⟨x0,x1,x2⟩:=tri8 HX4.out
 obtain⟨x3,x4,x5⟩:=tri8 HX5.out
 have hf1:=aD HC1.out
 obtain⟨m0,m1,m2,m3,m4,m5⟩:=hexa HC1.out
 go_wp2
 have T3:=aK HC1.out (.bool b6) (.slice a6 n6 c6) (.int .i64 e6) (.bool b7) (.slice a7 n7 c7) (.int .i64 e7)
 have T4:=aG HG.out (show w.heap.size≤w.heap.size+1+1 by omega) (.bool b6) (.slice a6 n6 c6) (.int .i64 e6) (.bool b7) (.slice a7 n7 c7) (.int .i64 e7)
 have T5:=HD1.out.hexa HC1.out b6 a6 n6 c6 e6 b7 a7 n7 c7 e7
 have T6:=HD2.out.hexa HC1.out b6 a6 n6 c6 e6 b7 a7 n7 c7 e7
 obtain⟨p0,p1,p2,p3,p4,p5⟩:=hexa T3
 have HE:=ab (And.intro T5 (And.intro T6 T4))
 clear T3 T4 T5 T6
 generalize (((((w6.setCell ⟨w.heap.size+1+1,0,none⟩ (.bool b6)).setCell ⟨w.heap.size+1+1,1,none⟩ (.slice a6 n6 c6)).setCell ⟨w.heap.size+1+1,2,none⟩ (.int .i64 e6)).setCell ⟨w.heap.size+1+1,3,none⟩ (.bool b7)).setCell ⟨w.heap.size+1+1,4,none⟩ (.slice a7 n7 c7)).setCell ⟨w.heap.size+1+1,5,none⟩ (.int .i64 e7)=w5 at *
 refine bodyPost_ret (v:=.tuple #[.agg #[.bool b6,.slice a6 n6 c6,.int .i64 e6,.bool b7,.slice a7 n7 c7,.int .i64 e7],.int .i64 0]) (by simp [results,Tryz.results94,go_sem,p0,p1,p2,p3,p4,p5]) rfl ?_
 exact⟨⟨_,_,_,_,_,_,_,_,_,_,rfl,HE.out.1,HE.out.2.1⟩,HE.out.2.2⟩

theorem rU (b1:Bool)(a1:Option Addr)(n1 k1:Nat)(ex1:Int)(b3:Bool)(a3:Option Addr)(n3 k3:Nat)(ex3:Int)(pos:Int)(L:Nat)(V1 V3:Int)(w:World)(hT:Tab w)(h1:G8 w b1 a1 n1 k1 ex1 L V1)(h3:G8 w b3 a3 n3 k3 ex3 L V3)(hL:4611686018427387904≤L)(hK:aj pos=true)(ho:Ok8 L (rv 0 V1 (2 ^ (pos+L).toNat)))(ho2:Ok8 L (rv 1 V3 (2 ^ (pos+L).toNat))) :
  Calls Tryz.prog 76 #[.agg #[.bool b1,.slice a1 n1 k1,.int .i64 ex1,.bool b3,.slice a3 n3 k3,.int .i64 ex3],.int .i64 pos] w fun e w'=>SS8 w e w' L (rv 0 V1 (2 ^ (pos+L).toNat)) (rv 1 V3 (2 ^ (pos+L).toNat)):=by
 obtain⟨w0,hw0,hb0,q0,q1,q9⟩:=aE w (.cells #[.bool b1,.slice a1 n1 k1,.int .i64 ex1,.bool b3,.slice a3 n3 k3,.int .i64 ex3] 33) (.cells #[.int .i64 pos] 3) (.cells #[.bool false,.slice none 0 0,.int .i64 0,.bool false,.slice none 0 0,.int .i64 0] 33)
 obtain⟨y0,y1,y2,y3,y4,y5⟩:=hexa q0
 have C:=byD (w.heap.size+1) pos b1 a1 n1 k1 ex1 b3 a3 n3 k3 ex3 L V1 V3 w0 q1 (hT.below hb0) (h1.below hb0) (h3.below hb0) hL hK ho ho2
 have HU0:=ab hb0
 have HR0:Hid (w0.heap[w.heap.size+1+1]?=some (.cells #[.bool false,.slice none 0 0,.int .i64 0,.bool false,.slice none 0 0,.int .i64 0] 33)):=ab q9
 generalize rv 0 V1 (2 ^ (pos+L).toNat)=VA at *
 generalize rv 1 V3 (2 ^ (pos+L).toNat)=VB at *
 clear q0 q1 q9 hb0 hT h1 h3 ho ho2
 go_enter Tryz.func76,Tryz.ntmps76
 go_wp2_with fail
 refine C.mono ?_
 rintro e t1 ⟨⟨b6,a6,n6,c6,e6,b7,a7,n7,c7,e7,rfl,hg1,hg2⟩,g1⟩
 have HC1:=ab (ac g1 HR0.out)
 have HG:=ab (ae HU0.out g1)
 have HD1:=ab hg1
 have HD2:=ab hg2
 have hf1:=aD HC1.out
 obtain⟨m0,m1,m2,m3,m4,m5⟩:=hexa HC1.out
 clear g1 hg1 hg2 C
 go_wp2
 have T3:=aK HC1.out (.bool b6) (.slice a6 n6 c6) (.int .i64 e6) (.bool b7) (.slice a7 n7 c7) (.int .i64 e7)
 have T4:=aG HG.out (show w.heap.size≤w.heap.size+1+1 by omega) (.bool b6) (.slice a6 n6 c6) (.int .i64 e6) (.bool b7) (.slice a7 n7 c7) (.int .i64 e7)
 have T5:=HD1.out.hexa HC1.out b6 a6 n6 c6 e6 b7 a7 n7 c7 e7
 have T6:=HD2.out.hexa HC1.out b6 a6 n6 c6 e6 b7 a7 n7 c7 e7
 obtain⟨p0,p1,p2,p3,p4,p5⟩:=hexa T3
 have HE:=ab (And.intro T5 (And.intro T6 T4))
 clear T3 T4 T5 T6
 generalize (((((t1.setCell ⟨w.heap.size+1+1,0,none⟩ (.bool b6)).setCell ⟨w.heap.size+1+1,1,none⟩ (.slice a6 n6 c6)).setCell ⟨w.heap.size+1+1,2,none⟩ (.int .i64 e6)).setCell ⟨w.heap.size+1+1,3,none⟩ (.bool b7)).setCell ⟨w.heap.size+1+1,4,none⟩ (.slice a7 n7 c7)).setCell ⟨w.heap.size+1+1,5,none⟩ (.int .i64 e7)=w5 at *
 refine bodyPost_ret (v:=.tuple #[.agg #[.bool b6,.slice a6 n6 c6,.int .i64 e6,.bool b7,.slice a7 n7 c7,.int .i64 e7],.int .i64 0]) (by simp [results,Tryz.results76,go_sem,p0,p1,p2,p3,p4,p5]) rfl ?_
 exact⟨⟨_,_,_,_,_,_,_,_,_,_,rfl,HE.out.1,HE.out.2.1⟩,HE.out.2.2⟩

theorem po (b1:Bool)(a1:Option Addr)(n1 k1:Nat)(ex1:Int)(b3:Bool)(a3:Option Addr)(n3 k3:Nat)(ex3:Int)(pos:Int)(L:Nat)(V1 V3:Int)(w:World)(hT:Tab w)(h1:G8 w b1 a1 n1 k1 ex1 L V1)(h3:G8 w b3 a3 n3 k3 ex3 L V3)(hL:4611686018427387904≤L)(hK:aj pos=true)(ho:Ok8 L (rv 0 V1 (2 ^ (pos+L).toNat)))(ho2:Ok8 L (rv 1 V3 (2 ^ (pos+L).toNat))) :
  Calls Tryz.prog 47 #[.agg #[.bool b1,.slice a1 n1 k1,.int .i64 ex1,.bool b3,.slice a3 n3 k3,.int .i64 ex3],.int .i64 0,.int .i64 pos] w fun e w'=>SS8 w e w' L (rv 0 V1 (2 ^ (pos+L).toNat)) (rv 1 V3 (2 ^ (pos+L).toNat)):=by
 obtain⟨w0,hw0,hb0,q0,q9⟩:=aA w (.cells #[.bool b1,.slice a1 n1 k1,.int .i64 ex1,.bool b3,.slice a3 n3 k3,.int .i64 ex3] 33) (.cells #[.bool false,.slice none 0 0,.int .i64 0,.bool false,.slice none 0 0,.int .i64 0] 33)
 obtain⟨y0,y1,y2,y3,y4,y5⟩:=hexa q0
 have C:=rU b1 a1 n1 k1 ex1 b3 a3 n3 k3 ex3 pos L V1 V3 w0 (hT.below hb0) (h1.below hb0) (h3.below hb0) hL hK ho ho2
 have HU0:=ab hb0
 have HR0:=ab q9
 generalize rv 0 V1 (2 ^ (pos+L).toNat)=VA at *
 generalize rv 1 V3 (2 ^ (pos+L).toNat)=VB at *
 clear q0 q9 hb0 hT h1 h3 ho ho2
 go_enter Tryz.func47,Tryz.ntmps47
 go_wp2_with fail
 refine C.mono ?_
 rintro e t1 ⟨⟨b6,a6,n6,c6,e6,b7,a7,n7,c7,e7,rfl,hg1,hg2⟩,g1⟩
 have HC1:=ab (ac g1 HR0.out)
 have HG:=ab (ae HU0.out g1)
 have HD1:=ab hg1
 have HD2:=ab hg2
 have hf1:=aD HC1.out
 obtain⟨m0,m1,m2,m3,m4,m5⟩:=hexa HC1.out
 clear g1 hg1 hg2 C
 go_wp2
 have T3:=aK HC1.out (.bool b6) (.slice a6 n6 c6) (.int .i64 e6) (.bool b7) (.slice a7 n7 c7) (.int .i64 e7)
 have T4:=aG HG.out (show w.heap.size≤w.heap.size+1 by omega) (.bool b6) (.slice a6 n6 c6) (.int .i64 e6) (.bool b7) (.slice a7 n7 c7) (.int .i64 e7)
 have T5:=HD1.out.hexa HC1.out b6 a6 n6 c6 e6 b7 a7 n7 c7 e7
 have T6:=HD2.out.hexa HC1.out b6 a6 n6 c6 e6 b7 a7 n7 c7 e7
 obtain⟨p0,p1,p2,p3,p4,p5⟩:=hexa T3
 have HE:=ab (And.intro T5 (And.intro T6 T4))
 clear T3 T4 T5 T6
 generalize (((((t1.setCell ⟨w.heap.size+1,0,none⟩ (.bool b6)).setCell ⟨w.heap.size+1,1,none⟩ (.slice a6 n6 c6)).setCell ⟨w.heap.size+1,2,none⟩ (.int .i64 e6)).setCell ⟨w.heap.size+1,3,none⟩ (.bool b7)).setCell ⟨w.heap.size+1,4,none⟩ (.slice a7 n7 c7)).setCell ⟨w.heap.size+1,5,none⟩ (.int .i64 e7)=w5 at *
 refine bodyPost_ret (v:=.tuple #[.agg #[.bool b6,.slice a6 n6 c6,.int .i64 e6,.bool b7,.slice a7 n7 c7,.int .i64 e7],.int .i64 0]) (by simp [results,Tryz.results47,go_sem,p0,p1,p2,p3,p4,p5]) rfl ?_
 exact⟨⟨_,_,_,_,_,_,_,_,_,_,rfl,HE.out.1,HE.out.2.1⟩,HE.out.2.2⟩

theorem rZ (b1:Bool)(a1:Option Addr)(n1 k1:Nat)(ex1:Int)(b2:Bool)(a2:Option Addr)(n2 k2:Nat)(ex2:Int)(b3:Bool)(a3:Option Addr)(n3 k3:Nat)(ex3:Int)(b4:Bool)(a4:Option Addr)(n4 k4:Nat)(ex4:Int)(L:Nat)(V1 V2 V3 V4:Int)(w:World)(hT:Tab w)(h1:I8 w b1 a1 n1 k1 ex1 L V1)(h2:I8 w b2 a2 n2 k2 ex2 L V2)(h3:I8 w b3 a3 n3 k3 ex3 L V3)(h4:I8 w b4 a4 n4 k4 ex4 L V4)(hE1:aj ex1=true)(hE2:aj ex2=true)(hE3:aj ex3=true)(hE4:aj ex4=true)(ho:Ok8 L (V1+V3))(ho2:Ok8 L (V2+V4)) :
  Calls Tryz.prog 22 #[.agg #[.bool b1,.slice a1 n1 k1,.int .i64 ex1,.bool b2,.slice a2 n2 k2,.int .i64 ex2],.agg #[.bool b3,.slice a3 n3 k3,.int .i64 ex3,.bool b4,.slice a4 n4 k4,.int .i64 ex4]] w fun e w'=>SS8 w e w' L (V1+V3) (V2+V4):=by
 obtain⟨w0,hw0,hb0,q0,q1,q9⟩:=aE w (.cells #[.bool b1,.slice a1 n1 k1,.int .i64 ex1,.bool b2,.slice a2 n2 k2,.int .i64 ex2] 33) (.cells #[.bool b3,.slice a3 n3 k3,.int .i64 ex3,.bool b4,.slice a4 n4 k4,.int .i64 ex4] 33) (.cells #[.bool false,.slice none 0 0,.int .i64 0,.bool false,.slice none 0 0,.int .i64 0] 33)
 obtain⟨y0,y1,y2,y3,y4,y5⟩:=hexa q0
 obtain⟨z0,z1,z2,z3,z4,z5⟩:=hexa q1
 have C:=byP b1 a1 n1 k1 ex1 b3 a3 n3 k3 ex3 b2 a2 n2 k2 ex2 b4 a4 n4 k4 ex4 L V1 V3 V2 V4 w0 (hT.below hb0) (h1.below hb0) (h3.below hb0) (h2.below hb0) (h4.below hb0) hE1 hE3 hE2 hE4 ho ho2
 have HU0:=ab hb0
 have HR0:Hid (w0.heap[w.heap.size+1+1]?=some (.cells #[.bool false,.slice none 0 0,.int .i64 0,.bool false,.slice none 0 0,.int .i64 0] 33)):=ab q9
 generalize V1+V3=VA at *
 generalize V2+V4=VB at *
 clear q0 q1 q9 hb0 hT h1 h2 h3 h4 ho ho2
 go_enter Tryz.func22,Tryz.ntmps22
 go_wp2_with fail
 refine C.mono ?_
 rintro e t1 ⟨⟨b6,a6,n6,c6,e6,b7,a7,n7,c7,e7,rfl,hg1,hg2⟩,g1⟩
 have HC1:=ab (ac g1 HR0.out)
 have HG:=ab (ae HU0.out g1)
 have HD1:=ab hg1
 have HD2:=ab hg2
 have hf1:=aD HC1.out
 obtain⟨m0,m1,m2,m3,m4,m5⟩:=hexa HC1.out
 clear g1 hg1 hg2 C
 go_wp2
 have T3:=aK HC1.out (.bool b6) (.slice a6 n6 c6) (.int .i64 e6) (.bool b7) (.slice a7 n7 c7) (.int .i64 e7)
 have T4:=aG HG.out (show w.heap.size≤w.heap.size+1+1 by omega) (.bool b6) (.slice a6 n6 c6) (.int .i64 e6) (.bool b7) (.slice a7 n7 c7) (.int .i64 e7)
 have T5:=HD1.out.hexa HC1.out b6 a6 n6 c6 e6 b7 a7 n7 c7 e7
 have T6:=HD2.out.hexa HC1.out b6 a6 n6 c6 e6 b7 a7 n7 c7 e7
 obtain⟨p0,p1,p2,p3,p4,p5⟩:=hexa T3
 have HE:=ab (And.intro T5 (And.intro T6 T4))
 clear T3 T4 T5 T6
 generalize (((((t1.setCell ⟨w.heap.size+1+1,0,none⟩ (.bool b6)).setCell ⟨w.heap.size+1+1,1,none⟩ (.slice a6 n6 c6)).setCell ⟨w.heap.size+1+1,2,none⟩ (.int .i64 e6)).setCell ⟨w.heap.size+1+1,3,none⟩ (.bool b7)).setCell ⟨w.heap.size+1+1,4,none⟩ (.slice a7 n7 c7)).setCell ⟨w.heap.size+1+1,5,none⟩ (.int .i64 e7)=w5 at *
 refine bodyPost_ret (v:=.tuple #[.agg #[.bool b6,.slice a6 n6 c6,.int .i64 e6,.bool b7,.slice a7 n7 c7,.int .i64 e7],.int .i64 0]) (by simp [results,Tryz.results22,go_sem,p0,p1,p2,p3,p4,p5]) rfl ?_
 exact⟨⟨_,_,_,_,_,_,_,_,_,_,rfl,HE.out.1,HE.out.2.1⟩,HE.out.2.2⟩

theorem jU (b1:Bool)(a1:Option Addr)(n1 k1:Nat)(ex1:Int)(b2:Bool)(a2:Option Addr)(n2 k2:Nat)(ex2:Int)(L:Nat)(V1 V2:Int)(w:World)(hL:4611686018427387904≤L)(h1:I8 w b1 a1 n1 k1 ex1 L V1)(h2:I8 w b2 a2 n2 k2 ex2 L V2)(hE1:aj ex1=true)(hE2:aj ex2=true) :
  Calls Tryz.prog 93 #[.agg #[.bool b1,.slice a1 n1 k1,.int .i64 ex1],.agg #[.bool b2,.slice a2 n2 k2,.int .i64 ex2]] w fun e w'=>e=.returned (.tuple #[.int .i64 (az V1 V2),.int .i64 0])∧Below w.heap.size w w':=by
 obtain⟨X,rfl,hA,hf,hX⟩:=h1
 obtain⟨Y,rfl,hB,hg,hY⟩:=h2
 have hx:=hX.1
 have hy:=hY.1
 refine (gN b1 a1 k1 X ex1 b2 a2 k2 Y ex2 L (ex1+L).toNat (ex2+L).toNat w hA hB (by omega) (by omega) hE1 hE2 hL (by omega) (by omega)).mono fun e w' h=>⟨?_,h.2⟩
 rw [h.1,hX.2,hY.2]

theorem cG {w:World}{g:Nat}{a b c d e f a' b' c' d' e' f':Value}{t:TypeId}(h:w.heap[g]?=some (.cells #[a,b,c,d,e,f,a',b',c',d',e',f'] t)):(w.cell? ⟨g,0,none⟩=some a∧w.cell? ⟨g,1,none⟩=some b∧w.cell? ⟨g,2,none⟩=some c∧w.cell? ⟨g,3,none⟩=some d∧w.cell? ⟨g,4,none⟩=some e∧w.cell? ⟨g,5,none⟩=some f)∧(w.cell? ⟨g,6,none⟩=some a'∧w.cell? ⟨g,7,none⟩=some b'∧w.cell? ⟨g,8,none⟩=some c'∧w.cell? ⟨g,9,none⟩=some d'∧w.cell? ⟨g,10,none⟩=some e'∧w.cell? ⟨g,11,none⟩=some f'):=by
 refine⟨⟨?_,?_,?_,?_,?_,?_⟩,⟨?_,?_,?_,?_,?_,?_⟩⟩ <;> simp [World.cell?,h]

theorem jH {y z:Int}(h:y≤z):¬0<az y z:=by
 unfold az
 split
 ·omega
 ·rw [if_neg (by omega)];omega

theorem ut (gs:Nat)(b1:Bool)(a1:Option Addr)(n1 k1:Nat)(ex1:Int)(b2:Bool)(a2:Option Addr)(n2 k2:Nat)(ex2:Int)(b3:Bool)(a3:Option Addr)(n3 k3:Nat)(ex3:Int)(b4:Bool)(a4:Option Addr)(n4 k4:Nat)(ex4:Int)(L:Nat)(V1 V2 V3 V4:Int)(w:World)(hg:w.heap[gs]?=some (.cells #[.bool b1,.slice a1 n1 k1,.int .i64 ex1,.bool b2,.slice a2 n2 k2,.int .i64 ex2,.bool b3,.slice a3 n3 k3,.int .i64 ex3,.bool b4,.slice a4 n4 k4,.int .i64 ex4] 33))(hL:4611686018427387904≤L)(h1:I8 w b1 a1 n1 k1 ex1 L V1)(h2:I8 w b2 a2 n2 k2 ex2 L V2)(h3:I8 w b3 a3 n3 k3 ex3 L V3)(h4:I8 w b4 a4 n4 k4 ex4 L V4)(hE1:aj ex1=true)(hE2:aj ex2=true)(hE3:aj ex3=true)(hE4:aj ex4=true)(ho:V1≤V2)(ho2:V3≤V4) :
  Calls Tryz.prog 74 #[.slice (some ⟨gs,0,none⟩) 2 2] w fun e w'=>e=.returned (.int .i64 0)∧Below w.heap.size w w':=by
 have HS:=ab hg
 have i1:=jH ho
 have i2:=jH ho2
 have C1:=ab (fun (W:World) (hb:Below w.heap.size w W)=>jU b1 a1 n1 k1 ex1 b2 a2 n2 k2 ex2 L V1 V2 W hL (h1.below hb) (h2.below hb) hE1 hE2)
 have C2:=ab (fun (W:World) (hb:Below w.heap.size w W)=>jU b3 a3 n3 k3 ex3 b4 a4 n4 k4 ex4 L V3 V4 W hL (h3.below hb) (h4.below hb) hE3 hE4)
 generalize az V1 V2=o1 at *
 generalize az V3 V4=o2 at *
 clear hg h1 h2 h3 h4 ho ho2
 go_enter Tryz.func74,Tryz.ntmps74
 go_wp2
 go_loopw [9] (fun i wr=>∃k:Nat,k≤2∧i=.int .i64 k∧Below w.heap.size w wr) (fun i _=>2 - (intOf i).toNat)
 case atStart=>exact⟨0,by omega,rfl,Below.refl _ _⟩
 case round=>
  obtain⟨k,hk,rfl,hb⟩:=hrel
  have HB:=ab hb
  obtain⟨⟨c0,c1,c2,c3,c4,c5⟩,⟨c6,c7,c8,c9,c10,c11⟩⟩:=cG (ac hb HS.out)
  clear hb
  rcases (show k=0∨k=1∨k=2 by omega) with rfl|rfl|rfl
  ·have CMP:=C1
   obtain⟨w2,hw2,hb2,q2⟩:=af wr (.cells #[.bool b1,.slice a1 n1 k1,.int .i64 ex1,.bool b2,.slice a2 n2 k2,.int .i64 ex2] 33)
   have HB2:=ab (ae HB.out hb2)
   have C:=CMP.out w2 HB2.out
   obtain⟨x0,x1,x2,x3,x4,x5⟩:=hexa q2
   clear hb2 q2
   go_wp2_with fail
   refine C.mono ?_
   rintro e t3 ⟨rfl,g3⟩
   have HB3:=ab (ae HB2.out g3)
   clear g3 C x0 x1 x2 x3 x4 x5
   go_wp2
   go_roundw
   case rel=>exact⟨1,by omega,by go_num,HB3.out⟩
   case measure=>simp [intOf]
  ·have CMP:=C2
   obtain⟨w2,hw2,hb2,q2⟩:=af wr (.cells #[.bool b3,.slice a3 n3 k3,.int .i64 ex3,.bool b4,.slice a4 n4 k4,.int .i64 ex4] 33)
   have HB2:=ab (ae HB.out hb2)
   have C:=CMP.out w2 HB2.out
   obtain⟨x0,x1,x2,x3,x4,x5⟩:=hexa q2
   clear hb2 q2
   go_wp2_with fail
   refine C.mono ?_
   rintro e t3 ⟨rfl,g3⟩
   have HB3:=ab (ae HB2.out g3)
   clear g3 C x0 x1 x2 x3 x4 x5
   go_wp2
   go_roundw
   case rel=>exact⟨2,by omega,by go_num,HB3.out⟩
   case measure=>simp [intOf]
  ·go_wp2
   go_ret
   exact⟨rfl,HB.out⟩

def ak (c1 c2:Int):Int:=if c1=3 then 3 else if c2=3 then 3 else if c2=0 then c1 else c2

theorem cK {c1 c2:Int}:ak c1 c2=0 ↔ c1=0∧c2=0:=by
 unfold ak
 split
 ·omega
 ·split
  ·omega
  ·split <;> omega

theorem gP (g:Nat)(c1 c2:Int)(w:World)(hL:w.heap[g]?=some (.cells #[.int .i64 c1,.int .i64 c2] 47)) :
  Calls Tryz.prog 54 #[.slice (some ⟨g,0,none⟩) 2 2] w fun e w'=>e=.returned (.int .i64 (ak c1 c2))∧w'=w:=by
 obtain⟨d0,d1⟩:=duo hL
 clear hL
 by_cases h1:c1=3
 ·have i1:(c1 == 3)=true:=by rw [h1];rfl
  rw [show ak c1 c2=c1 by unfold ak;rw [if_pos h1,h1]]
  clear h1
  go_enter Tryz.func54,Tryz.ntmps54
  go_wp2
  go_loop [3,8] (fun t i=>t=.int .i64 0∧i=.int .i64 0) (fun _ i=>2 - (intOf i).toNat)
  case atStart=>exact⟨rfl,rfl⟩
  case round=>
   obtain⟨rfl,rfl⟩:=hrel
   go_wp2
   go_ret
   exact⟨rfl,rfl⟩
 ·have i1:(c1 == 3)=false:=by rw [beq_eq_false_iff_ne];exact h1
  have HT1:Hid (∀t:Int,(if c1=0 then t else c1)=(if c1=0 then t else c1)):=ab (fun _=>rfl)
  obtain⟨n1,hn1⟩:∃n1:Bool,(c1 != 0)=n1:=⟨_,rfl⟩
  have hz1:n1=false→c1=0:=by
   intro h;rw [h] at hn1;simpa using hn1
  by_cases h2:c2=3
  ·have i2:(c2 == 3)=true:=by rw [h2];rfl
   rw [show ak c1 c2=c2 by unfold ak;rw [if_neg h1,if_pos h2,h2]]
   clear h1 h2 HT1 hz1
   go_enter Tryz.func54,Tryz.ntmps54
   go_wp2
   go_loop [3,8] (fun t i=>∃(k:Nat) (x:Int),k≤1∧t=.int .i64 x∧i=.int .i64 k) (fun _ i=>2 - (intOf i).toNat)
   case atStart=>exact⟨0,0,by omega,rfl,rfl⟩
   case round=>
    obtain⟨k,x,hk,rfl,rfl⟩:=hrel
    rcases (show k=0∨k=1 by omega) with rfl|rfl
    ·cases n1
     ·go_wp2
      go_round
      case rel=>exact⟨1,_,by omega,rfl,by go_num⟩
      case measure=>simp [intOf]
     ·go_wp2
      go_round
      case rel=>exact⟨1,_,by omega,rfl,by go_num⟩
      case measure=>simp [intOf]
    ·go_wp2
     go_ret
     exact⟨rfl,rfl⟩
  ·have i2:(c2 == 3)=false:=by rw [beq_eq_false_iff_ne];exact h2
   obtain⟨n2,hn2⟩:∃n2:Bool,(c2 != 0)=n2:=⟨_,rfl⟩
   have hz2:(n2=false→c2=0)∧(n2=true→c2≠0):=by
    refine⟨fun h=>?_,fun h=>?_⟩
    ·rw [h] at hn2;simpa using hn2
    ·rw [h] at hn2;simpa using hn2
   obtain⟨R,hR⟩:∃R,ak c1 c2=R:=⟨_,rfl⟩
   have HR1:Hid (n2=false→R=c1):=ab (fun h=>by rw [←hR];unfold ak;rw [if_neg h1,if_neg h2,if_pos (hz2.1 h)])
   have HR2:Hid (n2=true→R=c2):=ab (fun h=>by rw [←hR];unfold ak;rw [if_neg h1,if_neg h2,if_neg (hz2.2 h)])
   have HZ1:=ab hz1
   rw [hR]
   clear h1 h2 HT1 hz1 hz2 hR
   go_enter Tryz.func54,Tryz.ntmps54
   go_wp2
   go_loop [3,8] (fun t i=>∃k:Nat,(k=0∧t=.int .i64 0∨k=1∧t=.int .i64 c1∨k=2∧t=.int .i64 R)∧i=.int .i64 k) (fun _ i=>2 - (intOf i).toNat)
   case atStart=>exact⟨0,.inl ⟨rfl,rfl⟩,rfl⟩
   case round=>
    obtain⟨k,hkk,rfl⟩:=hrel
    rcases hkk with ⟨rfl,rfl⟩|⟨rfl,rfl⟩|⟨rfl,rfl⟩
    ·cases n1
     ·have hc:=HZ1.out rfl
      subst hc
      go_wp2
      go_round
      case rel=>exact⟨1,.inr (.inl ⟨rfl,rfl⟩),by go_num⟩
      case measure=>simp [intOf]
     ·go_wp2
      go_round
      case rel=>exact⟨1,.inr (.inl ⟨rfl,rfl⟩),by go_num⟩
      case measure=>simp [intOf]
    ·cases n2
     ·have hc:=HR1.out rfl
      subst hc
      go_wp2
      go_round
      case rel=>exact⟨2,.inr (.inr ⟨rfl,rfl⟩),by go_num⟩
      case measure=>simp [intOf]
     ·have hc:=HR2.out rfl
      subst hc
      go_wp2
      go_round
      case rel=>exact⟨2,.inr (.inr ⟨rfl,rfl⟩),by go_num⟩
      case measure=>simp [intOf]
    ·go_wp2
     go_ret
     exact⟨rfl,rfl⟩

def bh (o c:Int):Int:=if c=0 then (if 0<o then 100 else 0) else c

theorem fault1_any (gs:Nat)(b1:Bool)(a1:Option Addr)(n1 k1:Nat)(ex1:Int)(b2:Bool)(a2:Option Addr)(n2 k2:Nat)(ex2:Int)(o c:Int)(w:World)(hg:w.heap[gs]?=some (.cells #[.bool b1,.slice a1 n1 k1,.int .i64 ex1,.bool b2,.slice a2 n2 k2,.int .i64 ex2] 33))(hc:∀W,Below w.heap.size w W→Calls Tryz.prog 93 #[.agg #[.bool b1,.slice a1 n1 k1,.int .i64 ex1],.agg #[.bool b2,.slice a2 n2 k2,.int .i64 ex2]] W fun e w'=>e=.returned (.tuple #[.int .i64 o,.int .i64 c])∧Below W.heap.size W w') :
  Calls Tryz.prog 74 #[.slice (some ⟨gs,0,none⟩) 1 1] w fun e w'=>e=.returned (.int .i64 (bh o c))∧Below w.heap.size w w':=by
 have HS:=ab hg
 have C1:=ab hc
 clear hg hc
 by_cases hz:c=0
 ·subst hz
  by_cases ho:0<o
  ·rw [show bh o 0=100 by unfold bh;rw [if_pos rfl,if_pos ho]]
   have i1:decide (0<o)=true:=decide_eq_true ho
   clear ho
   go_enter Tryz.func74,Tryz.ntmps74
   go_wp2
   go_loopw [9] (fun i wr=>i=.int .i64 0∧Below w.heap.size w wr) (fun i _=>1 - (intOf i).toNat)
   case atStart=>exact⟨rfl,Below.refl _ _⟩
   case round=>
    obtain⟨rfl,hb⟩:=hrel
    have HB:=ab hb
    obtain⟨c0,c1,c2,c3,c4,c5⟩:=hexa (ac hb HS.out)
    clear hb
    obtain⟨w2,hw2,hb2,q2⟩:=af wr (.cells #[.bool b1,.slice a1 n1 k1,.int .i64 ex1,.bool b2,.slice a2 n2 k2,.int .i64 ex2] 33)
    have HB2:=ab (ae HB.out hb2)
    have C:=C1.out w2 HB2.out
    obtain⟨x0,x1,x2,x3,x4,x5⟩:=hexa q2
    clear hb2 q2
    go_wp2_with fail
    refine C.mono ?_
    rintro e t3 ⟨rfl,g3⟩
    have HB3:=ab (ae HB2.out g3)
    clear g3 C x0 x1 x2 x3 x4 x5
    go_wp2
    go_ret
    exact⟨rfl,HB3.out⟩
  ·rw [show bh o 0=0 by unfold bh;rw [if_pos rfl,if_neg ho]]
   have i1:decide (0<o)=false:=decide_eq_false ho
   clear ho
   go_enter Tryz.func74,Tryz.ntmps74
   go_wp2
   go_loopw [9] (fun i wr=>∃k:Nat,k≤1∧i=.int .i64 k∧Below w.heap.size w wr) (fun i _=>1 - (intOf i).toNat)
   case atStart=>exact⟨0,by omega,rfl,Below.refl _ _⟩
   case round=>
    obtain⟨k,hk,rfl,hb⟩:=hrel
    have HB:=ab hb
    obtain⟨c0,c1,c2,c3,c4,c5⟩:=hexa (ac hb HS.out)
    clear hb
    rcases (show k=0∨k=1 by omega) with rfl|rfl
    ·skip
     obtain⟨w2,hw2,hb2,q2⟩:=af wr (.cells #[.bool b1,.slice a1 n1 k1,.int .i64 ex1,.bool b2,.slice a2 n2 k2,.int .i64 ex2] 33)
     have HB2:=ab (ae HB.out hb2)
     have C:=C1.out w2 HB2.out
     obtain⟨x0,x1,x2,x3,x4,x5⟩:=hexa q2
     clear hb2 q2
     go_wp2_with fail
     refine C.mono ?_
     rintro e t3 ⟨rfl,g3⟩
     have HB3:=ab (ae HB2.out g3)
     clear g3 C x0 x1 x2 x3 x4 x5
     go_wp2
     go_roundw
     case rel=>exact⟨1,by omega,by go_num,HB3.out⟩
     case measure=>simp [intOf]
    ·go_wp2
     go_ret
     exact⟨rfl,HB.out⟩
 ·rw [show bh o c=c by unfold bh;rw [if_neg hz]]
  have i1:(c != 0)=true:=by simpa using hz
  clear hz
  go_enter Tryz.func74,Tryz.ntmps74
  go_wp2
  go_loopw [9] (fun i wr=>i=.int .i64 0∧Below w.heap.size w wr) (fun i _=>1 - (intOf i).toNat)
  case atStart=>exact⟨rfl,Below.refl _ _⟩
  case round=>
   obtain⟨rfl,hb⟩:=hrel
   have HB:=ab hb
   obtain⟨c0,c1,c2,c3,c4,c5⟩:=hexa (ac hb HS.out)
   clear hb
   obtain⟨w2,hw2,hb2,q2⟩:=af wr (.cells #[.bool b1,.slice a1 n1 k1,.int .i64 ex1,.bool b2,.slice a2 n2 k2,.int .i64 ex2] 33)
   have HB2:=ab (ae HB.out hb2)
   have C:=C1.out w2 HB2.out
   obtain⟨x0,x1,x2,x3,x4,x5⟩:=hexa q2
   clear hb2 q2
   go_wp2_with fail
   refine C.mono ?_
   rintro e t3 ⟨rfl,g3⟩
   have HB3:=ab (ae HB2.out g3)
   clear g3 C x0 x1 x2 x3 x4 x5
   go_wp2
   go_ret
   exact⟨rfl,HB3.out⟩

def ba (M E:Int):Int:=if 67108864<blen M.natAbs then 3 else if aj E=true then 0 else 80

theorem DR.code {w:World}{base:Nat}{b:Bool}{va:Value}{ex c M E:Int}(h:DR w base b va ex c M E):c=ba M E:=by
 obtain⟨rs,h1,h2⟩:=h
 unfold ba
 rcases h2 with ⟨rfl,_,_,_,_,h3,h4⟩|⟨rfl,_,_,_,_,h3⟩|⟨rfl,_,_,_,_,h3,h4⟩
 ·rw [if_neg (by omega),if_pos h4]
 ·rw [if_pos h3]
 ·rw [if_neg (by omega),if_neg (by rw [h4];decide)]

theorem Ans.hexa {w:World}{base g:Nat}{v a0 a1 a2 a3 a4 a5:Value}{zs:List Nat}{t:TypeId}(h:Ans w base v zs)(hl:w.heap[g]?=some (.cells #[a0,a1,a2,a3,a4,a5] t))(ht:t≠108)(u0 u1 u2 u3 u4 u5:Value) :
  Ans ((((((w.setCell ⟨g,0,none⟩ u0).setCell ⟨g,1,none⟩ u1).setCell ⟨g,2,none⟩ u2).setCell ⟨g,3,none⟩ u3).setCell ⟨g,4,none⟩ u4).setCell ⟨g,5,none⟩ u5) base v zs:=by
 have l1:=aC (k:=0) hl u0
 have l2:=aC (k:=1) l1 u1
 have l3:=aC (k:=2) l2 u2
 have l4:=aC (k:=3) l3 u3
 have l5:=aC (k:=4) l4 u4
 exact (((((h.off8 hl ht).off8 l1 ht).off8 l2 ht).off8 l3 ht).off8 l4 ht).off8 l5 ht

theorem DR.hexa {w:World}{base g:Nat}{b:Bool}{va a0 a1 a2 a3 a4 a5:Value}{ex c M E:Int}{t:TypeId}(h:DR w base b va ex c M E)(hl:w.heap[g]?=some (.cells #[a0,a1,a2,a3,a4,a5] t))(ht:t≠108)(u0 u1 u2 u3 u4 u5:Value) :
  DR ((((((w.setCell ⟨g,0,none⟩ u0).setCell ⟨g,1,none⟩ u1).setCell ⟨g,2,none⟩ u2).setCell ⟨g,3,none⟩ u3).setCell ⟨g,4,none⟩ u4).setCell ⟨g,5,none⟩ u5) base b va ex c M E:=by
 obtain⟨rs,h1,h2⟩:=h
 exact⟨rs,h1.hexa hl ht u0 u1 u2 u3 u4 u5,h2⟩

theorem iM {w:World}{v1 v2:Value}{m:Nat}{r2:List Nat}(h:∀g,v1.ownBlock=some g→g<m)(h2:Ans w m v2 r2):v1.ownBlock=none∨v1.ownBlock≠v2.ownBlock:=by
 cases e:v1.ownBlock with
 | none=>exact .inl rfl
 | some g=>
  refine .inr fun e2=>?_
  have a:=h g e
  have b:=(h2.own.lt g e2.symm).1
  omega

def SR (w:World)(base:Nat)(b1:Bool)(v1:Value)(e1:Int)(b2:Bool)(v2:Value)(e2 c M1 E1 M2 E2:Int):Prop:=
 c=ak (ba M1 E1) (ba M2 E2)∧(c=0→DR w base b1 v1 e1 0 M1 E1∧DR w base b2 v2 e2 0 M2 E2∧(v1.ownBlock=none∨v1.ownBlock≠v2.ownBlock)) ∧
  (c≠0→b1=false∧v1=.slice none 0 0∧e1=0∧b2=false∧v2=.slice none 0 0∧e2=0)

def bW (w:World)(e:Ending)(w':World)(M1 E1 M2 E2:Int):Prop:=
 (∃b1 a1 n1 k1 e1 b2 a2 n2 k2 e2 c,e=.returned (.tuple #[.agg #[.bool b1,.slice a1 n1 k1,.int .i64 e1,.bool b2,.slice a2 n2 k2,.int .i64 e2],.int .i64 c])∧SR w' w.heap.size b1 (.slice a1 n1 k1) e1 b2 (.slice a2 n2 k2) e2 c M1 E1 M2 E2)∧Below w.heap.size w w'

def bK (w:World)(c:Int)(e:Ending)(w':World):Prop:=e=.returned (.tuple #[.agg #[.bool false,.slice none 0 0,.int .i64 0,.bool false,.slice none 0 0,.int .i64 0],.int .i64 c])∧Below w.heap.size w w'

theorem SR.below {w w':World}{base:Nat}{b1:Bool}{v1:Value}{e1:Int}{b2:Bool}{v2:Value}{e2 c M1 E1 M2 E2:Int}(h:SR w base b1 v1 e1 b2 v2 e2 c M1 E1 M2 E2)(hb:Below w.heap.size w w'):SR w' base b1 v1 e1 b2 v2 e2 c M1 E1 M2 E2:=
 ⟨h.1,fun hc=>⟨(h.2.1 hc).1.below hb,(h.2.1 hc).2.1.below hb,(h.2.1 hc).2.2⟩,h.2.2⟩

theorem SR.base {w:World}{base base':Nat}{b1:Bool}{v1:Value}{e1:Int}{b2:Bool}{v2:Value}{e2 c M1 E1 M2 E2:Int}(h:SR w base b1 v1 e1 b2 v2 e2 c M1 E1 M2 E2)(hb:base'≤base):SR w base' b1 v1 e1 b2 v2 e2 c M1 E1 M2 E2:=
 ⟨h.1,fun hc=>⟨(h.2.1 hc).1.base hb,(h.2.1 hc).2.1.base hb,(h.2.1 hc).2.2⟩,h.2.2⟩

theorem SR.hexa {w:World}{base g:Nat}{b1:Bool}{v1:Value}{e1:Int}{b2:Bool}{v2:Value}{e2 c M1 E1 M2 E2:Int}{a0 a1 a2 a3 a4 a5:Value}{t:TypeId}(h:SR w base b1 v1 e1 b2 v2 e2 c M1 E1 M2 E2)(hl:w.heap[g]?=some (.cells #[a0,a1,a2,a3,a4,a5] t))(ht:t≠108)(u0 u1 u2 u3 u4 u5:Value) :
  SR ((((((w.setCell ⟨g,0,none⟩ u0).setCell ⟨g,1,none⟩ u1).setCell ⟨g,2,none⟩ u2).setCell ⟨g,3,none⟩ u3).setCell ⟨g,4,none⟩ u4).setCell ⟨g,5,none⟩ u5) base b1 v1 e1 b2 v2 e2 c M1 E1 M2 E2:=
 ⟨h.1,fun hc=>⟨(h.2.1 hc).1.hexa hl ht u0 u1 u2 u3 u4 u5,(h.2.1 hc).2.1.hexa hl ht u0 u1 u2 u3 u4 u5,(h.2.1 hc).2.2⟩,h.2.2⟩

def dG (w:World)(b1:Bool)(a1:Option Addr)(n1 k1:Nat)(ex1:Int)(b2:Bool)(a2:Option Addr)(n2 k2:Nat)(ex2 o c:Int):Prop:=
 ∀W,Below w.heap.size w W→Calls Tryz.prog 93 #[.agg #[.bool b1,.slice a1 n1 k1,.int .i64 ex1],.agg #[.bool b2,.slice a2 n2 k2,.int .i64 ex2]] W fun e w'=>e=.returned (.tuple #[.int .i64 o,.int .i64 c])∧Below W.heap.size W w'

theorem dG.below {w w':World}{b1:Bool}{a1:Option Addr}{n1 k1:Nat}{ex1:Int}{b2:Bool}{a2:Option Addr}{n2 k2:Nat}{ex2 o c:Int}(h:dG w b1 a1 n1 k1 ex1 b2 a2 n2 k2 ex2 o c)(hb:Below w.heap.size w w'):dG w' b1 a1 n1 k1 ex1 b2 a2 n2 k2 ex2 o c:=
 fun W hg=>h W (ae hb hg)

structure BK (base:Nat)(w w':World):Prop where
 below:Below base w w'
 box:∀(g:Nat) (cs:Array Value) (t:TypeId),t≠108→t≠22→w.heap[g]?=some (.cells cs t)→w'.heap[g]?=some (.cells cs t)

theorem BK.refl (base:Nat)(w:World):BK base w w:=⟨Below.refl _ _,fun _ _ _ _ _ h=>h⟩

theorem BK.store {base:Nat}{w wr:World}{g n cap:Nat}{zs:List Nat}(h:BK base w wr)(ha:Ans wr base (.slice (some ⟨g,0,none⟩) n cap) zs)(j:Nat)(u:Value):BK base w (wr.setCell ⟨g,j,none⟩ u):=by
 obtain⟨_,h2⟩:=ha.own
 rcases h2 with ⟨e,_⟩|⟨g',cap',cur,e,hge,hh,_⟩
 ·cases e
 ·simp only [Value.slice.injEq,Option.some.injEq,Addr.mk.injEq] at e
  obtain⟨⟨rfl,_⟩,_⟩:=e
  refine⟨h.below.setCell (p:=⟨g,j,none⟩) hge u,fun g2 cs t ht ht2 hc=>?_⟩
  have h1:=h.box g2 cs t ht ht2 hc
  rw [Below.heap_setCell _ _ _ _ ?_]
  ·exact h1
  ·rintro rfl
   rw [hh] at h1
   simp only [Option.some.injEq,Obj.cells.injEq] at h1
   exact ht h1.2.1.symm

theorem BK.grew {base:Nat}{w wr w2:World}{v:Value}{zs:List Nat}{L:Nat}{vs:Array Value}{o:Obj}(h:BK base w wr)(hrow:Ans wr base v zs)(hL:wr.heap[L]?=some (.cells vs 22 (0,0)))(hb:base≤L)(hg:(wr.alloc o).grownBy w2 v.ownBlock)(k:Nat)(u:Value) :
  BK base w (w2.setCell ⟨L,k,none⟩ u):=by
 have hLs:=lt_of_block hL
 refine⟨((h.below.alloc (by omega) _).grown hg (by simp;omega) (fun g hg=>(hrow.own.lt g hg).1)).setCell hb _,fun g2 cs t ht ht2 hc=>?_⟩
 have h1:=h.box g2 cs t ht ht2 hc
 have h1s:=lt_of_block h1
 have hsz:(wr.alloc o).heap.size=wr.heap.size+1:=by simp
 rw [Below.heap_setCell _ _ _ _ ?_]
 ·have e1:(wr.alloc o).heap[g2]?=wr.heap[g2]?:=Below.heap_alloc wr o g2 h1s
  rw [hg.block g2 (by omega) ?_,e1]
  ·exact h1
  ·intro e
   obtain⟨_,h2⟩:=hrow.own
   rcases h2 with ⟨rfl,_⟩|⟨g',cap',cur,rfl,hge,hh,_⟩
   ·simp [Value.ownBlock] at e
   ·simp [Value.ownBlock] at e
    subst e
    rw [hh] at h1
    simp only [Option.some.injEq,Obj.cells.injEq] at h1
    exact ht h1.2.1.symm
 ·rintro rfl
  rw [hL] at h1
  simp only [Option.some.injEq,Obj.cells.injEq] at h1
  exact ht2 h1.2.1.symm

structure cm (w:World)(base:Nat)(vs:List Value)(rss:List (List Nat)):Prop where
 len:vs.length=rss.length
 row:∀i,i<vs.length→Ans w base (vs.getD i aR) (rss.getD i [])
 apart:∀i j,i<vs.length→j<vs.length→i≠j→(vs.getD i aR).ownBlock=none∨(vs.getD i aR).ownBlock≠(vs.getD j aR).ownBlock

theorem cm.below {w w':World}{base:Nat}{vs:List Value}{rss:List (List Nat)}(h:cm w base vs rss)(hb:Below w.heap.size w w'):cm w' base vs rss:=⟨h.len,fun i hi=>(h.row i hi).below hb,h.apart⟩

theorem cH (n:Int)(w:World):Calls Tryz.prog 18 #[.int .i64 n] w fun e w'=>e=.returned (.bool (aj n))∧w'=w:=by
 by_cases h1:-1099511627776≤n
 ·have h1':decide (-1099511627776≤n)=true:=decide_eq_true h1
  by_cases h2:n≤1099511627776
  ·have h2':decide (n≤1099511627776)=true:=decide_eq_true h2
   rw [(aM n).2 ⟨h1,h2⟩]
   go_enter Tryz.func18,Tryz.ntmps18
   go_wp2
   go_ret
   exact⟨rfl,rfl⟩
  ·have h2':decide (n≤1099511627776)=false:=decide_eq_false h2
   have e:aj n=false:=by rw [←Bool.not_eq_true,aM];omega
   rw [e]
   go_enter Tryz.func18,Tryz.ntmps18
   go_wp2
   go_ret
   exact⟨rfl,rfl⟩
 ·have h1':decide (-1099511627776≤n)=false:=decide_eq_false h1
  have e:aj n=false:=by rw [←Bool.not_eq_true,aM];omega
  rw [e]
  go_enter Tryz.func18,Tryz.ntmps18
  go_wp2
  go_ret
  exact⟨rfl,rfl⟩

def gT (w':World)(b:Bool)(v:Value)(M E:Int)(b':Bool)(v':Value)(E' f:Int):Prop:=
 (f=0∧b'=b∧v'=v∧E'=E∧blen M.natAbs≤67108864∧aj E=true∧Dn w' b v M)∨(f=3∧67108864<blen M.natAbs)∨(f=80∧blen M.natAbs≤67108864∧aj E=false)

theorem gX (b:Bool)(a:Option Addr)(n c:Nat)(M E:Int)(w:World)(h:Dn w b (.slice a n c) M) :
  Calls Tryz.prog 56 #[.agg #[.bool b,.slice a n c,.int .i64 E]] w fun e w'=>(∃b' a' n' c' E' f,e=.returned (.tuple #[.agg #[.bool b',.slice a' n' c',.int .i64 E'],.int .i64 f])∧gT w' b (.slice a n c) M E b' (.slice a' n' c') E' f)∧Below w.heap.size w w':=by
 obtain⟨w0,hw0,hb0,h0,h1⟩:=aA w (.cells #[.bool b,.slice a n c,.int .i64 E] 41) (.cells #[.bool false,.slice none 0 0,.int .i64 0] 41)
 obtain⟨k0,k1,k2⟩:=tri8 h0
 have hf:=am h1
 obtain⟨m0,m1,m2⟩:=tri8 h1
 have HL:=dI _ M.natAbs w0 (h.2.below hb0)
 have HFI:=cH E w0
 have HC1:=ab h1
 have HG:=ab hb0
 have HDN:=ab (h.below hb0)
 clear h0 h1 hb0 h
 by_cases hb:blen M.natAbs≤67108864
 ·have i1:¬(67108864:Int)<((blen M.natAbs:Nat):Int):=by omega
  have HBL:=ab hb
  by_cases hfit:aj E=true
  ·have HFE:=ab hfit
   rw [hfit] at HFI
   clear hfit hb
   generalize hbl:blen M.natAbs=l at *
   go_enter Tryz.func56,Tryz.ntmps56
   go_wp2_with fail
   refine HL.mono ?_
   rintro e wn ⟨rfl,hw⟩;rw [hw];clear hw wn HL
   go_wp2_with fail
   refine HFI.mono ?_
   rintro e wn ⟨rfl,hw⟩;rw [hw];clear hw wn HFI
   go_wp2
   have T3:=ay HC1.out (.bool b) (.slice a n c) (.int .i64 E)
   have T4:=an HG.out (show w.heap.size≤w.heap.size+1 by omega) (.bool b) (.slice a n c) (.int .i64 E)
   have T5:=HDN.out.tri8 HC1.out b a n c (.int .i64 E)
   obtain⟨p0,p1,p2⟩:=tri8 T3
   have HE:=ab (And.intro T5 T4)
   clear T3 T4 T5
   generalize ((w0.setCell ⟨w.heap.size+1,0,none⟩ (.bool b)).setCell ⟨w.heap.size+1,1,none⟩ (.slice a n c)).setCell ⟨w.heap.size+1,2,none⟩ (.int .i64 E)=w5 at *
   refine bodyPost_ret (v:=.tuple #[.agg #[.bool b,.slice a n c,.int .i64 E],.int .i64 0]) (by simp [results,Tryz.results56,go_sem,p0,p1,p2]) rfl ?_
   exact⟨⟨_,_,_,_,_,_,rfl,.inl ⟨rfl,rfl,rfl,rfl,by rw [hbl];exact HBL.out,HFE.out,HE.out.1⟩⟩,HE.out.2⟩
  ·have hfit2:aj E=false:=by simpa using hfit
   have HFE:=ab hfit2
   rw [hfit2] at HFI
   clear hfit hfit2 hb
   generalize hbl:blen M.natAbs=l at *
   go_enter Tryz.func56,Tryz.ntmps56
   go_wp2_with fail
   refine HL.mono ?_
   rintro e wn ⟨rfl,hw⟩;rw [hw];clear hw wn HL
   go_wp2_with fail
   refine HFI.mono ?_
   rintro e wn ⟨rfl,hw⟩;rw [hw];clear hw wn HFI
   go_wp2
   have T3:=ay HC1.out (.bool false) (.slice none 0 0) (.int .i64 0)
   have T4:=an HG.out (show w.heap.size≤w.heap.size+1 by omega) (.bool false) (.slice none 0 0) (.int .i64 0)
   have T5:=HDN.out.tri8 HC1.out false none 0 0 (.int .i64 0)
   obtain⟨p0,p1,p2⟩:=tri8 T3
   have HE:=ab (And.intro T5 T4)
   clear T3 T4 T5
   generalize ((w0.setCell ⟨w.heap.size+1,0,none⟩ (.bool false)).setCell ⟨w.heap.size+1,1,none⟩ (.slice none 0 0)).setCell ⟨w.heap.size+1,2,none⟩ (.int .i64 0)=w5 at *
   refine bodyPost_ret (v:=.tuple #[.agg #[.bool false,.slice none 0 0,.int .i64 0],.int .i64 80]) (by simp [results,Tryz.results56,go_sem,p0,p1,p2]) rfl ?_
   exact⟨⟨_,_,_,_,_,_,rfl,.inr (.inr ⟨rfl,by rw [hbl];exact HBL.out,HFE.out⟩)⟩,HE.out.2⟩
 ·have i1:(67108864:Int)<((blen M.natAbs:Nat):Int):=by omega
  have HBL:=ab (Nat.lt_of_not_le hb)
  clear hb HFI
  generalize hbl:blen M.natAbs=l at *
  go_enter Tryz.func56,Tryz.ntmps56
  go_wp2_with fail
  refine HL.mono ?_
  rintro e wn ⟨rfl,hw⟩;rw [hw];clear hw wn HL
  go_wp2
  have T3:=ay HC1.out (.bool false) (.slice none 0 0) (.int .i64 0)
  have T4:=an HG.out (show w.heap.size≤w.heap.size+1 by omega) (.bool false) (.slice none 0 0) (.int .i64 0)
  have T5:=HDN.out.tri8 HC1.out false none 0 0 (.int .i64 0)
  obtain⟨p0,p1,p2⟩:=tri8 T3
  have HE:=ab (And.intro T5 T4)
  clear T3 T4 T5
  generalize ((w0.setCell ⟨w.heap.size+1,0,none⟩ (.bool false)).setCell ⟨w.heap.size+1,1,none⟩ (.slice none 0 0)).setCell ⟨w.heap.size+1,2,none⟩ (.int .i64 0)=w5 at *
  refine bodyPost_ret (v:=.tuple #[.agg #[.bool false,.slice none 0 0,.int .i64 0],.int .i64 3]) (by simp [results,Tryz.results56,go_sem,p0,p1,p2]) rfl ?_
  exact⟨⟨_,_,_,_,_,_,rfl,.inr (.inl ⟨rfl,by rw [hbl];exact HBL.out⟩)⟩,HE.out.2⟩

def aZ (c:Int):Prop:=c=0∨c=3∨c=80

theorem i6 (M E:Int):aZ (ba M E):=by
 unfold ba aZ
 split
 ·exact .inr (.inl rfl)
 ·split
  ·exact .inl rfl
  ·exact .inr (.inr rfl)

theorem bH (c1 c2:Int)(w:World)(h1:aZ c1)(h2:aZ c2) :
  Calls Tryz.prog 57 #[.int .i64 c1,.int .i64 c2] w fun e w'=>e=.returned (.int .i64 (ak c1 c2))∧w'=w:=by
 rcases h1 with rfl|rfl|rfl <;> rcases h2 with rfl|rfl|rfl <;>
  (go_enter Tryz.func57,Tryz.ntmps57
   go_wp2
   go_ret
   exact⟨rfl,rfl⟩)

theorem kS (b:Bool)(a:Option Addr)(c:Nat)(X:List Nat)(ex:Int)(w:World)(hA:Arg w (.slice a X.length c) X)(hf:X.length≤35184372088000) :
  Calls Tryz.prog 17 #[.agg #[.bool b,.slice a X.length c,.int .i64 ex]] w fun e w'=>(∃aw mw nw a' c',e=.returned (.tuple #[.slice aw mw nw,.agg #[.bool b,.slice a' X.length c',.int .i64 ex]])∧bn w' (.slice aw mw nw) X∧Arg w' (.slice a' X.length c') X)∧Below w.heap.size w w':=by
 obtain⟨w0,hw0,hb0,h0,hx0⟩:=aA w (.cells #[.bool b,.slice a X.length c,.int .i64 ex] 24) (.cells #[.bool false,.slice none 0 0,.int .i64 0] 31)
 obtain⟨k0,k1,k2⟩:=tri8 h0
 have HM:=tW _ X w0 (hA.below hb0) hf
 have HB0:=ab hb0
 have HX0:=ab hx0
 have HK0:=ab h0
 clear hA hb0 h0 hx0
 go_enter Tryz.func17,Tryz.ntmps17
 go_wp2_with fail
 refine HM.mono ?_
 rintro e w1 ⟨⟨vw,vp,rfl,hL,hP⟩,hb1⟩
 obtain⟨gw,rfl,hgw⟩:=hL
 obtain⟨a1,n1,rfl,_,_,_⟩:=hP.form
 have hbx:=ac hb1 HX0.out
 have hf1:=am hbx
 obtain⟨l0,l1,l2⟩:=tri8 hbx
 obtain⟨j0,j1,j2⟩:=tri8 (ac hb1 HK0.out)
 have HBX:=ab hbx
 have HBE:=ab (HB0.out.trans (hb1.mono HB0.out.size))
 have HP:=ab hP
 have HG:=ab hgw
 clear hbx hb1 HM hw0 k0 k1 k2 hP hgw
 go_wp2
 go_region
 have R5:=ay HBX.out (.bool b) (.slice a1 X.length n1) (.int .i64 ex)
 have HD:=ab (And.intro (HP.out.tri8 HBX.out b a1 X.length n1 (.int .i64 ex)) (an HBE.out (show w.heap.size≤w.heap.size+1 by omega) (.bool b) (.slice a1 X.length n1) (.int .i64 ex)))
 have hgl:gw≠w.heap.size+1:=by
  rintro rfl
  have h:=HG.out
  unfold Blk at h
  rw [HBX.out] at h
  simp at h
 have HLT:Hid (Blk (((w1.setCell ⟨w.heap.size+1,0,none⟩ (.bool b)).setCell ⟨w.heap.size+1,1,none⟩ (.slice a1 X.length n1)).setCell ⟨w.heap.size+1,2,none⟩ (.int .i64 ex)) gw (bN X)):=ab (by
  have h:=HG.out
  unfold Blk at h ⊢
  rw [Below.heap_setCell _ _ _ _ hgl,Below.heap_setCell _ _ _ _ hgl,Below.heap_setCell _ _ _ _ hgl]
  exact h)
 generalize ((w1.setCell ⟨w.heap.size+1,0,none⟩ (.bool b)).setCell ⟨w.heap.size+1,1,none⟩ (.slice a1 X.length n1)).setCell ⟨w.heap.size+1,2,none⟩ (.int .i64 ex)=w5 at *
 obtain⟨q0,q1,q2⟩:=tri8 (show w5.drew.heap[w.heap.size+1]?=_ from R5)
 go_wp2
 refine bodyPost_ret (v:=.tuple #[.slice (some ⟨gw,0,none⟩) (X.length+4) (X.length+4),.agg #[.bool b,.slice a1 X.length n1,.int .i64 ex]]) (by simp [results,Tryz.results17,go_sem,q0,q1,q2]) rfl ?_
 exact⟨⟨_,_,_,_,_,rfl,⟨gw,rfl,HLT.out⟩,HD.out.1.below (Below.refl _ _).drew⟩,HD.out.2.drew⟩

theorem oZ (b:Bool)(a:Option Addr)(c:Nat)(X:List Nat)(ex:Int)(w:World)(hA:Arg w (.slice a X.length c) X)(hf:X.length≤17592186043904)(hE:aj ex=true) :
  Calls Tryz.prog 19 #[.agg #[.bool b,.slice a X.length c,.int .i64 ex]] w fun e w'=>(∃b' a' n' c',e=.returned (.agg #[.bool b',.slice a' n' c',.int .i64 (oe (zz b (val X)) ex)])∧Dn w' b' (.slice a' n' c') (omz (zz b (val X))))∧Below w.heap.size w w':=by
 obtain⟨w0,hw0,hb0,h0,h1⟩:=aA w (.cells #[.bool b,.slice a X.length c,.int .i64 ex] 24) (.cells #[.bool false,.slice none 0 0,.int .i64 0] 41)
 obtain⟨k0,k1,k2⟩:=tri8 h0
 have hEr:=(aM ex).1 hE
 have gd:Below w.heap.size w w0.drew:=hb0.drew
 have g0:Below w0.drew.heap.size w0.drew w0.drew:=Below.refl _ _
 have HO:=tT b _ X w0.drew (hA.below gd) (by omega)
 have hbl:blen (zz b (val X)).natAbs≤1125899906840000:=by
  rw [bg];have:=rn hA.limbs;omega
 have HD:=ab (fun (W:World) (b1:Bool) (a1:Option Addr) (n1 c1:Nat) (hz:Zn W (.agg #[.bool b1,.slice a1 n1 c1]) (zz b (val X)))=>cP b1 a1 n1 c1 (zz b (val X)) ex W hz hbl (by omega) (by omega))
 have KS:=ab (fun (W:World) (hg:Below w0.drew.heap.size w0.drew W)=>show W.cell? ⟨w.heap.size,0,none⟩=some (.bool b)∧W.cell? ⟨w.heap.size,1,none⟩=some (.slice a X.length c)∧W.cell? ⟨w.heap.size,2,none⟩=some (.int .i64 ex) from tri8 (ac hg (show w0.drew.heap[w.heap.size]?=some (.cells #[.bool b,.slice a X.length c,.int .i64 ex] 24) from h0)))
 have so:∀(W:World) (k:Nat) (u:Value) (k':Nat),(W.setCell ⟨w.heap.size+1,k,none⟩ u).cell? ⟨w.heap.size,k',none⟩=W.cell? ⟨w.heap.size,k',none⟩:=fun W k u k'=>bf (by omega)
 have H1:=ab (show w0.drew.heap[w.heap.size+1]?=some (.cells #[.bool false,.slice none 0 0,.int .i64 0] 41) from h1)
 have HB:=ab gd
 clear h0 h1 hb0 gd hE hA hbl
 generalize omz (zz b (val X))=M at *
 generalize oe (zz b (val X)) ex=E at *
 generalize zz b (val X)=z at *
 go_enter Tryz.func19,Tryz.ntmps19
 go_wp2
 go_region_held3 (fun w'=>w'.cell? ⟨w.heap.size,0,none⟩=some (.bool b)∧w'.cell? ⟨w.heap.size,1,none⟩=some (.slice a X.length c)∧w'.cell? ⟨w.heap.size,2,none⟩=some (.int .i64 ex)) (first|with_reducible exact KS.out _ g2|with_reducible exact KS.out _ g1|with_reducible exact KS.out _ g0 | (refine⟨?_,?_,?_⟩ <;> (rw [so,so,so];first|exact (KS.out _ g2).1|exact (KS.out _ g2).2.1|exact (KS.out _ g2).2.2))) (first
  | (go_at_call 41;refine HO.mono ?_;rintro e' t1 ⟨⟨b1,a1,n1,c1,rfl,z1⟩,g1⟩)
  | (go_at_call 40;refine (HD.out t1 b1 a1 n1 c1 z1).mono ?_;rintro e' t2 ⟨⟨b2,a2,n2,c2,rfl,d2⟩,hb2⟩;have g2:=ae g1 hb2;have hz:=ac g2 H1.out;have hf:=am hz;obtain⟨m0,m1,m2⟩:=tri8 hz))
 have T3:=ay hz (.bool b2) (.slice a2 n2 c2) (.int .i64 E)
 have T4:=an (ae HB.out g2) (show w.heap.size≤w.heap.size+1 by omega) (.bool b2) (.slice a2 n2 c2) (.int .i64 E)
 have T5:=d2.tri8 hz b2 a2 n2 c2 (.int .i64 E)
 obtain⟨p0,p1,p2⟩:=tri8 T3
 have HE:=ab (And.intro T5 T4)
 clear T3 T4 T5 so m0 m1 m2 hf KS g0 g1 g2 hb2 HO hz d2 z1 HD k0 k1 k2
 generalize ((t2.setCell ⟨w.heap.size+1,0,none⟩ (.bool b2)).setCell ⟨w.heap.size+1,1,none⟩ (.slice a2 n2 c2)).setCell ⟨w.heap.size+1,2,none⟩ (.int .i64 E)=w5 at *
 go_wp2
 refine bodyPost_ret (v:=.agg #[.bool b2,.slice a2 n2 c2,.int .i64 E]) (by simp [results,Tryz.results19,go_sem,p0,p1,p2]) rfl ?_
 exact⟨⟨_,_,_,_,rfl,HE.out.1⟩,HE.out.2⟩

theorem octa {w:World}{g:Nat}{a b c d e f x y:Value}{t:TypeId}(h:w.heap[g]?=some (.cells #[a,b,c,d,e,f,x,y] t)):w.cell? ⟨g,0,none⟩=some a∧w.cell? ⟨g,1,none⟩=some b∧w.cell? ⟨g,2,none⟩=some c∧w.cell? ⟨g,3,none⟩=some d∧w.cell? ⟨g,4,none⟩=some e∧w.cell? ⟨g,5,none⟩=some f∧w.cell? ⟨g,6,none⟩=some x∧w.cell? ⟨g,7,none⟩=some y:=by
 simp [World.cell?,h]

theorem eH {w:World}{g:Nat}{a b c d e f x y:Value}{t:TypeId}(h:w.heap[g]?=some (.cells #[a,b,c,d,e,f,x,y] t)):∀k,w.frozen? ⟨g,k,none⟩=false:=fun k=>by simp [World.frozen?,h]

def bD (w:World)(g:Nat)(u0 u1 u2 u3 u4 u5 u6 u7:Value):World:=
 (((((((w.setCell ⟨g,0,none⟩ u0).setCell ⟨g,1,none⟩ u1).setCell ⟨g,2,none⟩ u2).setCell ⟨g,3,none⟩ u3).setCell ⟨g,4,none⟩ u4).setCell ⟨g,5,none⟩ u5).setCell ⟨g,6,none⟩ u6).setCell ⟨g,7,none⟩ u7

theorem ir {w:World}{g:Nat}{a b c d e f x y:Value}{t:TypeId}(h:w.heap[g]?=some (.cells #[a,b,c,d,e,f,x,y] t))(u0 u1 u2 u3 u4 u5 u6 u7:Value):(bD w g u0 u1 u2 u3 u4 u5 u6 u7).heap[g]?=some (.cells #[u0,u1,u2,u3,u4,u5,u6,u7] t):=by
 have l0:(w.setCell ⟨g,0,none⟩ u0).heap[g]?=some (.cells #[u0,b,c,d,e,f,x,y] t):=aC (k:=0) h u0
 have l1:((w.setCell ⟨g,0,none⟩ u0).setCell ⟨g,1,none⟩ u1).heap[g]?=some (.cells #[u0,u1,c,d,e,f,x,y] t):=aC (k:=1) l0 u1
 have l2:(((w.setCell ⟨g,0,none⟩ u0).setCell ⟨g,1,none⟩ u1).setCell ⟨g,2,none⟩ u2).heap[g]?=some (.cells #[u0,u1,u2,d,e,f,x,y] t):=aC (k:=2) l1 u2
 have l3:((((w.setCell ⟨g,0,none⟩ u0).setCell ⟨g,1,none⟩ u1).setCell ⟨g,2,none⟩ u2).setCell ⟨g,3,none⟩ u3).heap[g]?=some (.cells #[u0,u1,u2,u3,e,f,x,y] t):=aC (k:=3) l2 u3
 have l4:(((((w.setCell ⟨g,0,none⟩ u0).setCell ⟨g,1,none⟩ u1).setCell ⟨g,2,none⟩ u2).setCell ⟨g,3,none⟩ u3).setCell ⟨g,4,none⟩ u4).heap[g]?=some (.cells #[u0,u1,u2,u3,u4,f,x,y] t):=aC (k:=4) l3 u4
 have l5:((((((w.setCell ⟨g,0,none⟩ u0).setCell ⟨g,1,none⟩ u1).setCell ⟨g,2,none⟩ u2).setCell ⟨g,3,none⟩ u3).setCell ⟨g,4,none⟩ u4).setCell ⟨g,5,none⟩ u5).heap[g]?=some (.cells #[u0,u1,u2,u3,u4,u5,x,y] t):=aC (k:=5) l4 u5
 have l6:(((((((w.setCell ⟨g,0,none⟩ u0).setCell ⟨g,1,none⟩ u1).setCell ⟨g,2,none⟩ u2).setCell ⟨g,3,none⟩ u3).setCell ⟨g,4,none⟩ u4).setCell ⟨g,5,none⟩ u5).setCell ⟨g,6,none⟩ u6).heap[g]?=some (.cells #[u0,u1,u2,u3,u4,u5,u6,y] t):=aC (k:=6) l5 u6
 have l7:((((((((w.setCell ⟨g,0,none⟩ u0).setCell ⟨g,1,none⟩ u1).setCell ⟨g,2,none⟩ u2).setCell ⟨g,3,none⟩ u3).setCell ⟨g,4,none⟩ u4).setCell ⟨g,5,none⟩ u5).setCell ⟨g,6,none⟩ u6).setCell ⟨g,7,none⟩ u7).heap[g]?=some (.cells #[u0,u1,u2,u3,u4,u5,u6,u7] t):=aC (k:=7) l6 u7
 exact l7

theorem dv {B:Nat}{w0 w:World}{g:Nat}(h:Below B w0 w)(hg:B≤g)(u0 u1 u2 u3 u4 u5 u6 u7:Value):Below B w0 (bD w g u0 u1 u2 u3 u4 u5 u6 u7):=
 (((((((h.setCell (p:=⟨g,0,none⟩) hg u0).setCell (p:=⟨g,1,none⟩) hg u1).setCell (p:=⟨g,2,none⟩) hg u2).setCell (p:=⟨g,3,none⟩) hg u3).setCell (p:=⟨g,4,none⟩) hg u4).setCell (p:=⟨g,5,none⟩) hg u5).setCell (p:=⟨g,6,none⟩) hg u6).setCell (p:=⟨g,7,none⟩) hg u7

theorem dJ {w:World}{g h:Nat}(hn:h≠g)(u0 u1 u2 u3 u4 u5 u6 u7:Value):(bD w g u0 u1 u2 u3 u4 u5 u6 u7).heap[h]?=w.heap[h]?:=by
 unfold bD
 rw [Below.heap_setCell _ _ _ _ hn,Below.heap_setCell _ _ _ _ hn,Below.heap_setCell _ _ _ _ hn,Below.heap_setCell _ _ _ _ hn,Below.heap_setCell _ _ _ _ hn,Below.heap_setCell _ _ _ _ hn,Below.heap_setCell _ _ _ _ hn,Below.heap_setCell _ _ _ _ hn]

theorem aF.octa {w:World}{ao:Option Addr}{zs:List Nat}{g:Nat}{a1 a2 a3 a4:Option Addr}{n1 n2 n3 n4 c1 c2 c3 c4:Nat}{p q:Bool}{e1 e2:Int}{t:TypeId}(h:aF w ao zs)(hl:w.heap[g]?=some (.cells #[.slice a1 n1 c1,.slice a2 n2 c2,.bool p,.slice a3 n3 c3,.int .i64 e1,.bool q,.slice a4 n4 c4,.int .i64 e2] t))(u0 u1 u2 u3 u4 u5 u6 u7:Value):aF (bD w g u0 u1 u2 u3 u4 u5 u6 u7) ao zs:=by
 rcases h with h|⟨b,off,rfl,hc⟩
 ·exact .inl h
 ·rcases Nat.eq_zero_or_pos zs.length with h0|h0
  ·exact .inl (List.eq_nil_of_length_eq_zero h0)
  ·have hn:b≠g:=by
    rintro rfl
    have h1:=hc 0 h0
    rw [Nat.add_zero] at h1
    simp only [World.cell?,hl] at h1
    match off,h1 with
    | 0,h1=>simp at h1
    | 1,h1=>simp at h1
    | 2,h1=>simp at h1
    | 3,h1=>simp at h1
    | 4,h1=>simp at h1
    | 5,h1=>simp at h1
    | 6,h1=>simp at h1
    | 7,h1=>simp at h1
    | k+8,h1=>simp at h1
   refine .inr ⟨b,off,rfl,fun k hk=>?_⟩
   have h2:=hc k hk
   simp only [World.cell?] at h2 ⊢
   rw [dJ hn]
   exact h2

theorem Arg.octa {w:World}{v:Value}{zs:List Nat}{g:Nat}{a1 a2 a3 a4:Option Addr}{n1 n2 n3 n4 c1 c2 c3 c4:Nat}{p q:Bool}{e1 e2:Int}{t:TypeId}(h:Arg w v zs)(hl:w.heap[g]?=some (.cells #[.slice a1 n1 c1,.slice a2 n2 c2,.bool p,.slice a3 n3 c3,.int .i64 e1,.bool q,.slice a4 n4 c4,.int .i64 e2] t))(u0 u1 u2 u3 u4 u5 u6 u7:Value):Arg (bD w g u0 u1 u2 u3 u4 u5 u6 u7) v zs:=by
 obtain⟨ao,cap,h1,h2,h3,h4⟩:=h.form
 exact⟨⟨ao,cap,h1,h2,h3,h4.octa hl u0 u1 u2 u3 u4 u5 u6 u7⟩,h.limbs,h.few,h.nz⟩

theorem bn.octa {w:World}{v:Value}{zs:List Nat}{g:Nat}{b c d e f x y:Value}{a1:Option Addr}{n1 c1:Nat}{t:TypeId}(h:bn w v zs)(hl:w.heap[g]?=some (.cells #[.slice a1 n1 c1,b,c,d,e,f,x,y] t))(u0 u1 u2 u3 u4 u5 u6 u7:Value):bn (bD w g u0 u1 u2 u3 u4 u5 u6 u7) v zs:=by
 obtain⟨k,h1,h2⟩:=h
 refine⟨k,h1,?_⟩
 unfold Blk at h2 ⊢
 rw [dJ]
 ·exact h2
 ·rintro rfl
  rw [hl] at h2
  have h3:=congrArg (fun o:Option Obj=>match o with|some (.cells cs _)=>cs[0]? | _=>none) h2
  simp [bN,lv] at h3

theorem fL (b1:Bool)(a1:Option Addr)(k1:Nat)(X:List Nat)(ex1:Int)(b2:Bool)(a2:Option Addr)(k2:Nat)(Y:List Nat)(ex2:Int)(w:World)(hA:Arg w (.slice a1 X.length k1) X)(hB:Arg w (.slice a2 Y.length k2) Y)(f1:X.length≤35184372088000)(f2:Y.length≤35184372088000) :
  Calls Tryz.prog 4 #[.agg #[.bool b1,.slice a1 X.length k1,.int .i64 ex1,.bool b2,.slice a2 Y.length k2,.int .i64 ex2]] w fun e w'=>(∃au mu nu av mv nv a' c' a'' c'',e=.returned (.agg #[.slice au mu nu,.slice av mv nv,.bool b1,.slice a' X.length c',.int .i64 ex1,.bool b2,.slice a'' Y.length c'',.int .i64 ex2])∧bn w' (.slice au mu nu) X∧bn w' (.slice av mv nv) Y∧Arg w' (.slice a' X.length c') X∧Arg w' (.slice a'' Y.length c'') Y)∧Below w.heap.size w w':=by
 obtain⟨w0,hw0,hb0,q0,q9⟩:=aA w (.cells #[.bool b1,.slice a1 X.length k1,.int .i64 ex1,.bool b2,.slice a2 Y.length k2,.int .i64 ex2] 26) (.cells #[.slice none 0 0,.slice none 0 0,.bool false,.slice none 0 0,.int .i64 0,.bool false,.slice none 0 0,.int .i64 0] 35)
 obtain⟨y0,y1,y2,y3,y4,y5⟩:=hexa q0
 have HU0:=ab hb0
 have HQ0:=ab q0
 have HR0:=ab q9
 have C1:=ab (fun (W:World) (hg:Below w.heap.size w W)=>kS b1 a1 k1 X ex1 W (hA.below hg) f1)
 have C2:=ab (fun (W:World) (hg:Below w.heap.size w W)=>kS b2 a2 k2 Y ex2 W (hB.below hg) f2)
 clear q0 q9 hb0 hA hB
 go_enter Tryz.func4,Tryz.ntmps4
 go_wp2_with fail
 refine (C1.out w0 HU0.out).mono ?_
 rintro e t1 ⟨⟨au,mu,nu,a3,c3,rfl,hl1,hx1⟩,g1⟩
 obtain⟨w2,hw2,hb2,q2⟩:=af t1 (.cells #[.bool b1,.slice a3 X.length c3,.int .i64 ex1] 31)
 have s2:=ae g1 hb2
 have HU2:=ab (ae HU0.out s2)
 have HX2:=ab q2
 have HL1:=ab (And.intro (hl1.below hb2) (hx1.below hb2))
 have HQ1:=ab (ac s2 HQ0.out)
 have HR1:=ab (ac s2 HR0.out)
 clear g1 hl1 hx1 hb2 q2 s2 y0 y1 y2 y3 y4 y5 hw0
 obtain⟨z0,z1,z2,z3,z4,z5⟩:=hexa HQ1.out
 go_wp2_with fail
 refine (C2.out w2 HU2.out).mono ?_
 rintro e t3 ⟨⟨av,mv,nv,a4,c4,rfl,hl2,hx2⟩,g1⟩
 obtain⟨w4,hw4,hb4,q4⟩:=af t3 (.cells #[.bool b2,.slice a4 Y.length c4,.int .i64 ex2] 31)
 have s4:=ae g1 hb4
 have HG:=ab (ae HU2.out s4)
 have HL2:=ab (And.intro (hl2.below hb4) (hx2.below hb4))
 have HL3:=ab (And.intro (HL1.out.1.below s4) (HL1.out.2.below s4))
 have HX4:=ab (ac s4 HX2.out)
 have HX5:=ab q4
 have HC1:=ab (ac s4 HR1.out)
 clear g1 hl2 hx2 hb4 q4 s4 z0 z1 z2 z3 z4 z5 hw2 HL1
 obtain⟨x0,x1,x2⟩:=tri8 HX4.out
 obtain⟨x3,x4,x5⟩:=tri8 HX5.out
 have hf1:=eH HC1.out
 obtain⟨m0,m1,m2,m3,m4,m5,m6,m7⟩:=octa HC1.out
 go_wp2
 have T3:=ir HC1.out (.slice au mu nu) (.slice av mv nv) (.bool b1) (.slice a3 X.length c3) (.int .i64 ex1) (.bool b2) (.slice a4 Y.length c4) (.int .i64 ex2)
 have T4:=dv HG.out (show w.heap.size≤w.heap.size+1 by omega) (.slice au mu nu) (.slice av mv nv) (.bool b1) (.slice a3 X.length c3) (.int .i64 ex1) (.bool b2) (.slice a4 Y.length c4) (.int .i64 ex2)
 have T5:=HL3.out.1.octa HC1.out (.slice au mu nu) (.slice av mv nv) (.bool b1) (.slice a3 X.length c3) (.int .i64 ex1) (.bool b2) (.slice a4 Y.length c4) (.int .i64 ex2)
 have T6:=HL2.out.1.octa HC1.out (.slice au mu nu) (.slice av mv nv) (.bool b1) (.slice a3 X.length c3) (.int .i64 ex1) (.bool b2) (.slice a4 Y.length c4) (.int .i64 ex2)
 have T7:=HL3.out.2.octa HC1.out (.slice au mu nu) (.slice av mv nv) (.bool b1) (.slice a3 X.length c3) (.int .i64 ex1) (.bool b2) (.slice a4 Y.length c4) (.int .i64 ex2)
 have T8:=HL2.out.2.octa HC1.out (.slice au mu nu) (.slice av mv nv) (.bool b1) (.slice a3 X.length c3) (.int .i64 ex1) (.bool b2) (.slice a4 Y.length c4) (.int .i64 ex2)
 unfold bD at T3 T4 T5 T6 T7 T8
 obtain⟨p0,p1,p2,p3,p4,p5,p6,p7⟩:=octa T3
 have HE:=ab (And.intro T5 (And.intro T6 (And.intro T7 (And.intro T8 T4))))
 clear T3 T4 T5 T6 T7 T8
 generalize (((((((w4.setCell ⟨w.heap.size+1,0,none⟩ (.slice au mu nu)).setCell ⟨w.heap.size+1,1,none⟩ (.slice av mv nv)).setCell ⟨w.heap.size+1,2,none⟩ (.bool b1)).setCell ⟨w.heap.size+1,3,none⟩ (.slice a3 X.length c3)).setCell ⟨w.heap.size+1,4,none⟩ (.int .i64 ex1)).setCell ⟨w.heap.size+1,5,none⟩ (.bool b2)).setCell ⟨w.heap.size+1,6,none⟩ (.slice a4 Y.length c4)).setCell ⟨w.heap.size+1,7,none⟩ (.int .i64 ex2)=w5 at *
 refine bodyPost_ret (v:=.agg #[.slice au mu nu,.slice av mv nv,.bool b1,.slice a3 X.length c3,.int .i64 ex1,.bool b2,.slice a4 Y.length c4,.int .i64 ex2]) (by simp [results,Tryz.results4,go_sem,p0,p1,p2,p3,p4,p5,p6,p7]) rfl ?_
 exact⟨⟨_,_,_,_,_,_,_,_,_,_,rfl,HE.out.1,HE.out.2.1,HE.out.2.2.1,HE.out.2.2.2.1⟩,HE.out.2.2.2.2⟩

theorem mL (au:Option Addr)(mu nu:Nat)(av:Option Addr)(mv nv:Nat)(p:Bool)(al:Option Addr)(nl cl:Nat)(el:Int)(q:Bool)(ar:Option Addr)(nr cr:Nat)(er:Int)(b1:Bool)(a1:Option Addr)(k1:Nat)(X:List Nat)(ex1:Int)(b2:Bool)(a2:Option Addr)(k2:Nat)(Y:List Nat)(ex2:Int)(w:World)(h1:bn w (.slice au mu nu) X)(h2:bn w (.slice av mv nv) Y)(hA:Arg w (.slice a1 X.length k1) X)(hB:Arg w (.slice a2 Y.length k2) Y)(f1:X.length≤35184372088000)(f2:Y.length≤35184372088000) :
  Calls Tryz.prog 16 #[.agg #[.slice au mu nu,.slice av mv nv,.bool p,.slice al nl cl,.int .i64 el,.bool q,.slice ar nr cr,.int .i64 er],.agg #[.bool b1,.slice a1 X.length k1,.int .i64 ex1,.bool b2,.slice a2 Y.length k2,.int .i64 ex2]] w fun e w'=>e=.returned (.bool true)∧Below w.heap.size w w':=by
 obtain⟨w0,hw0,hb0,q0,q9⟩:=aA w (.cells #[.slice au mu nu,.slice av mv nv,.bool p,.slice al nl cl,.int .i64 el,.bool q,.slice ar nr cr,.int .i64 er] 35) (.cells #[.bool b1,.slice a1 X.length k1,.int .i64 ex1,.bool b2,.slice a2 Y.length k2,.int .i64 ex2] 26)
 obtain⟨y0,y1,y2,y3,y4,y5⟩:=hexa q9
 obtain⟨m0,m1,m2,m3,m4,m5,m6,m7⟩:=octa q0
 have HU0:=ab hb0
 have C1:=jS _ _ X w0 (h1.below hb0) (hA.below hb0) f1
 have C2:=jS _ _ Y w0 (h2.below hb0) (hB.below hb0) f2
 clear q0 q9 hb0 hA hB h1 h2
 go_enter Tryz.func16,Tryz.ntmps16
 go_wp2_with fail
 refine C1.mono ?_
 rintro e wn ⟨rfl,hw⟩;rw [hw];clear hw wn C1
 go_wp2_with fail
 refine C2.mono ?_
 rintro e wn ⟨rfl,hw⟩;rw [hw];clear hw wn C2
 go_wp2
 go_ret
 exact⟨rfl,HU0.out⟩
end Go.Proofs.YteflkojglmleaaaGreatDoor

