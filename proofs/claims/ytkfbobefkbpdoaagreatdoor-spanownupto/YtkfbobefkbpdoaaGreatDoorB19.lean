/- The document's Mul of spans at one scale. -/
import Derived.Test.YtkfbobefkbpdoaaGreatDoorB18
import Derived.Test.YtkfbobefkbpdoaaGreatDoorB16
import Derived.Deep.RegionHeld3
namespace Go.Proofs.YtkfbobefkbpdoaaGreatDoor
open Go.RowKit
open Lm
attribute [local go_sem ↓] Go.wp_at_zero Go.wp_at_succ

def NoU (cs:Array Value):Prop:=∀(k:Nat) (z:Int),cs[k]?≠some (.int .u64 z)

theorem NoU.set {cs:Array Value}(h:NoU cs){o:Nat}{u:Value}(hu:∀z:Int,u≠.int .u64 z):NoU (cs.setIfInBounds o u):=by
 intro k z e
 rw [Array.getElem?_setIfInBounds] at e
 split at e
 ·split at e
  ·exact hu z (Option.some.inj e)
  ·cases e
 ·exact h k z e

theorem aC.offN {w:World}{ao:Option Addr}{zs:List Nat}{g o:Nat}{cs:Array Value}{t:TypeId}{u:Value}(h:aC w ao zs)(hl:w.heap[g]?=some (.cells cs t))(hn:NoU cs):aC (w.setCell ⟨g,o,none⟩ u) ao zs:=by
 rcases h with h|⟨b,off,rfl,hc⟩
 ·exact .inl h
 ·rcases Nat.eq_zero_or_pos zs.length with h0|h0
  ·exact .inl (List.eq_nil_of_length_eq_zero h0)
  ·refine .inr ⟨b,off,rfl,fun k hk=>?_⟩
   rw [aZ]
   ·exact hc k hk
   ·rintro rfl
    have h1:=hc 0 h0
    rw [Nat.add_zero] at h1
    simp only [World.cell?,hl] at h1
    exact hn off _ h1

theorem V7.offN {w:World}{b:Bool}{a:Option Addr}{n c:Nat}{E:Int}{L:Nat}{V:Int}{g o:Nat}{cs:Array Value}{t:TypeId}{u:Value}(h:V7 w b a n c E L V)(hl:w.heap[g]?=some (.cells cs t))(hn:NoU cs):V7 (w.setCell ⟨g,o,none⟩ u) b a n c E L V:=by
 obtain⟨M,⟨h1,ds,h2,h3⟩,h4⟩:=h
 obtain⟨ao,cap,p1,p2,p3,p4⟩:=h2.form
 exact⟨M,⟨h1,ds,⟨⟨ao,cap,p1,p2,p3,p4.offN hl hn⟩,h2.limbs,h2.few,h2.nz⟩,h3⟩,h4⟩

def setL (g:Nat):Nat→List Value→World→World
 | _,[],w=>w
 | o,u :: us,w=>setL g (o+1) us (w.setCell ⟨g,o,none⟩ u)

def ft:Nat→List Value→Array Value→Array Value
 | _,[],cs=>cs
 | o,u :: us,cs=>ft (o+1) us (cs.setIfInBounds o u)

theorem kO {g:Nat}{t:TypeId}:∀(us:List Value) (o:Nat) (w:World) (cs:Array Value),w.heap[g]?=some (.cells cs t)→(setL g o us w).heap[g]?=some (.cells (ft o us cs) t)
 | [],_,_,_,h=>h
 | u :: us,o,_,_,h=>kO us (o+1) _ _ (az (k:=o) h u)

theorem Below.setL {B g:Nat}{w0:World}:∀(us:List Value) (o:Nat) (w:World),Below B w0 w→B≤g→Below B w0 (setL g o us w)
 | [],_,_,h,_=>h
 | u :: us,o,_,h,hg=>Below.setL us (o+1) _ (h.setCell (p:=⟨g,o,none⟩) hg u) hg

theorem V7.setL {b:Bool}{a:Option Addr}{n c:Nat}{E:Int}{L:Nat}{V:Int}{g:Nat}{t:TypeId}:∀(us:List Value) (o:Nat) (w:World) (cs:Array Value),(∀u ∈ us,∀z:Int,u≠.int .u64 z)→w.heap[g]?=some (.cells cs t)→NoU cs→V7 w b a n c E L V→V7 (setL g o us w) b a n c E L V
 | [],_,_,_,_,_,_,h=>h
 | u :: us,o,_,_,hu,hl,hn,h=>V7.setL us (o+1) _ _ (fun v hv=>hu v (List.mem_cons_of_mem _ hv)) (az (k:=o) hl u) (hn.set (hu u List.mem_cons_self)) (h.offN hl hn)

def il (U:World)(L:Nat)(Q1 Q2 Q3 Q4:Int)(s:Value)(wx:World):Prop:=
 ∃(g:Nat) (x1:Bool) (xa1:Option Addr) (xn1 xk1:Nat) (xe1:Int) (x2:Bool) (xa2:Option Addr) (xn2 xk2:Nat) (xe2:Int) (x3:Bool) (xa3:Option Addr) (xn3 xk3:Nat) (xe3:Int) (x4:Bool) (xa4:Option Addr) (xn4 xk4:Nat) (xe4:Int),s=.pointer (some ⟨g,0,none⟩)∧wx.heap[g]?=some (.cells #[.bool x1,.slice xa1 xn1 xk1,.int .i64 xe1,.bool x2,.slice xa2 xn2 xk2,.int .i64 xe2,.bool x3,.slice xa3 xn3 xk3,.int .i64 xe3,.bool x4,.slice xa4 xn4 xk4,.int .i64 xe4] 68)∧V7 wx x1 xa1 xn1 xk1 xe1 L Q1∧V7 wx x2 xa2 xn2 xk2 xe2 L Q2∧V7 wx x3 xa3 xn3 xk3 xe3 L Q3∧V7 wx x4 xa4 xn4 xk4 xe4 L Q4∧Below U.heap.size U wx

theorem nP:NoU #[.bool false,.slice none 0 0,.int .i64 0,.bool false,.slice none 0 0,.int .i64 0,.bool false,.slice none 0 0,.int .i64 0,.bool false,.slice none 0 0,.int .i64 0]:=by
 intro k z e
 match k,e with
 | 0,e=>simp at e
 | 1,e=>simp at e
 | 2,e=>simp at e
 | 3,e=>simp at e
 | 4,e=>simp at e
 | 5,e=>simp at e
 | 6,e=>simp at e
 | 7,e=>simp at e
 | 8,e=>simp at e
 | 9,e=>simp at e
 | 10,e=>simp at e
 | 11,e=>simp at e
 | k+12,e=>simp at e

theorem eW (w:World)(g:Nat)(u0 u1 u2 u3 u4 u5 u6 u7 u8 u9 u10 u11:Value):setL g 0 [u0,u1,u2,u3,u4,u5,u6,u7,u8,u9,u10,u11] w=((((((((((((w.setCell ⟨g,0,none⟩ u0).setCell ⟨g,1,none⟩ u1).setCell ⟨g,2,none⟩ u2).setCell ⟨g,3,none⟩ u3).setCell ⟨g,4,none⟩ u4).setCell ⟨g,5,none⟩ u5).setCell ⟨g,6,none⟩ u6).setCell ⟨g,7,none⟩ u7).setCell ⟨g,8,none⟩ u8).setCell ⟨g,9,none⟩ u9).setCell ⟨g,10,none⟩ u10).setCell ⟨g,11,none⟩ u11):=by simp only [setL,Nat.zero_add,Nat.reduceAdd]

theorem oF (u0 u1 u2 u3 u4 u5 u6 u7 u8 u9 u10 u11 z0 z1 z2 z3 z4 z5 z6 z7 z8 z9 z10 z11:Value):ft 0 [u0,u1,u2,u3,u4,u5,u6,u7,u8,u9,u10,u11] #[z0,z1,z2,z3,z4,z5,z6,z7,z8,z9,z10,z11]=#[u0,u1,u2,u3,u4,u5,u6,u7,u8,u9,u10,u11]:=by simp [ft]

theorem cj {U t:World}{L:Nat}{Q1 Q2 Q3 Q4:Int}{x1:Bool}{xa1:Option Addr}{xn1 xk1:Nat}{xe1:Int}{x2:Bool}{xa2:Option Addr}{xn2 xk2:Nat}{xe2:Int}{x3:Bool}{xa3:Option Addr}{xn3 xk3:Nat}{xe3:Int}{x4:Bool}{xa4:Option Addr}{xn4 xk4:Nat}{xe4:Int}{g:Nat}(hq:t.heap[g]?=some (.cells #[.bool false,.slice none 0 0,.int .i64 0,.bool false,.slice none 0 0,.int .i64 0,.bool false,.slice none 0 0,.int .i64 0,.bool false,.slice none 0 0,.int .i64 0] 68))(hge:U.heap.size≤g)(v1:V7 t x1 xa1 xn1 xk1 xe1 L Q1)(v2:V7 t x2 xa2 xn2 xk2 xe2 L Q2)(v3:V7 t x3 xa3 xn3 xk3 xe3 L Q3)(v4:V7 t x4 xa4 xn4 xk4 xe4 L Q4)(hb:Below U.heap.size U t):il U L Q1 Q2 Q3 Q4 (.pointer (some ⟨g,0,none⟩)) ((((((((((((t.setCell ⟨g,0,none⟩ (.bool x1)).setCell ⟨g,1,none⟩ (.slice xa1 xn1 xk1)).setCell ⟨g,2,none⟩ (.int .i64 xe1)).setCell ⟨g,3,none⟩ (.bool x2)).setCell ⟨g,4,none⟩ (.slice xa2 xn2 xk2)).setCell ⟨g,5,none⟩ (.int .i64 xe2)).setCell ⟨g,6,none⟩ (.bool x3)).setCell ⟨g,7,none⟩ (.slice xa3 xn3 xk3)).setCell ⟨g,8,none⟩ (.int .i64 xe3)).setCell ⟨g,9,none⟩ (.bool x4)).setCell ⟨g,10,none⟩ (.slice xa4 xn4 xk4)).setCell ⟨g,11,none⟩ (.int .i64 xe4)):=by
 obtain⟨us,hus⟩:∃us:List Value,[(.bool x1),(.slice xa1 xn1 xk1),(.int .i64 xe1),(.bool x2),(.slice xa2 xn2 xk2),(.int .i64 xe2),(.bool x3),(.slice xa3 xn3 xk3),(.int .i64 xe3),(.bool x4),(.slice xa4 xn4 xk4),(.int .i64 xe4)]=us:=⟨_,rfl⟩
 have hu:∀u ∈ us,∀z:Int,u≠.int .u64 z:=by
  intro u hu z e
  subst e
  rw [←hus] at hu
  simp at hu
 have hh:=kO us 0 t _ hq
 rw [←hus,oF,eW] at hh
 have hbb:=Below.setL us 0 t hb hge
 rw [←hus,eW] at hbb
 have up:∀ {b:Bool} {a:Option Addr} {n c:Nat} {E V:Int},V7 t b a n c E L V→V7 ((((((((((((t.setCell ⟨g,0,none⟩ (.bool x1)).setCell ⟨g,1,none⟩ (.slice xa1 xn1 xk1)).setCell ⟨g,2,none⟩ (.int .i64 xe1)).setCell ⟨g,3,none⟩ (.bool x2)).setCell ⟨g,4,none⟩ (.slice xa2 xn2 xk2)).setCell ⟨g,5,none⟩ (.int .i64 xe2)).setCell ⟨g,6,none⟩ (.bool x3)).setCell ⟨g,7,none⟩ (.slice xa3 xn3 xk3)).setCell ⟨g,8,none⟩ (.int .i64 xe3)).setCell ⟨g,9,none⟩ (.bool x4)).setCell ⟨g,10,none⟩ (.slice xa4 xn4 xk4)).setCell ⟨g,11,none⟩ (.int .i64 xe4)) b a n c E L V:=fun h=>by
  have:=V7.setL us 0 t _ hu hq nP h
  rw [←hus,eW] at this
  exact this
 exact⟨g,_,_,_,_,_,_,_,_,_,_,_,_,_,_,_,_,_,_,_,_,rfl,hh,up v1,up v2,up v3,up v4,hbb⟩

theorem ci {B g:Nat}{w0 w:World}(h:Below B w0 w)(hg:B≤g)(u0 u1 u2 u3 u4 u5 u6 u7 u8 u9 u10 u11:Value):Below B w0 ((((((((((((w.setCell ⟨g,0,none⟩ u0).setCell ⟨g,1,none⟩ u1).setCell ⟨g,2,none⟩ u2).setCell ⟨g,3,none⟩ u3).setCell ⟨g,4,none⟩ u4).setCell ⟨g,5,none⟩ u5).setCell ⟨g,6,none⟩ u6).setCell ⟨g,7,none⟩ u7).setCell ⟨g,8,none⟩ u8).setCell ⟨g,9,none⟩ u9).setCell ⟨g,10,none⟩ u10).setCell ⟨g,11,none⟩ u11):=
 eW w g u0 u1 u2 u3 u4 u5 u6 u7 u8 u9 u10 u11 ▸ Below.setL [u0,u1,u2,u3,u4,u5,u6,u7,u8,u9,u10,u11] 0 w h hg

theorem fB (b1:Bool)(a1:Option Addr)(n1 k1:Nat)(ex1:Int)(b2:Bool)(a2:Option Addr)(n2 k2:Nat)(ex2:Int)(L:Nat)(V1 V2:Int)(w:World)(h1:V8 w b1 a1 n1 k1 ex1 L V1)(h2:V8 w b2 a2 n2 k2 ex2 L V2)(s1:Sml L V1)(s2:Sml L V2) :
  Calls Tryz.prog 26 #[.agg #[.bool b1,.slice a1 n1 k1,.int .i64 ex1],.agg #[.bool b2,.slice a2 n2 k2,.int .i64 ex2]] w fun e w'=>(∃b a n k E,e=.returned (.agg #[.bool b,.slice a n k,.int .i64 E])∧V7 w' b a n k E (L+L) (V1*V2))∧Below w.heap.size w w':=by
 obtain⟨M1,d1,r1,m1,_,x1,y1⟩:=h1
 obtain⟨M2,d2,r2,m2,_,x2,y2⟩:=h2
 have f1:=s1.blen r1 m1
 have f2:=s2.blen r2 m2
 refine (oV b1 a1 n1 k1 M1 ex1 b2 a2 n2 k2 M2 ex2 w d1 d2 (by omega) (by omega) (by omega) (by omega) (by omega)).mono fun e w' h=>?_
 obtain⟨⟨b,a,n,k,he,h⟩,hb⟩:=h
 exact⟨⟨b,a,n,k,_,he,_,h,(r1.mul r2).norm,ba _ _⟩,hb⟩

set_option maxRecDepth 20000 in
set_option maxHeartbeats 4000000 in
theorem oT (b1:Bool)(a1:Option Addr)(n1 k1:Nat)(ex1:Int)(b2:Bool)(a2:Option Addr)(n2 k2:Nat)(ex2:Int)(b3:Bool)(a3:Option Addr)(n3 k3:Nat)(ex3:Int)(b4:Bool)(a4:Option Addr)(n4 k4:Nat)(ex4:Int)(pos:Int)(K:Nat)(Q1 Q2 Q3 Q4 RA RB c1 c2 c3 c4 R:Int)(w:World)(hM1:∀W,Below w.heap.size w W→Calls Tryz.prog 26 #[.agg #[.bool b1,.slice a1 n1 k1,.int .i64 ex1],.agg #[.bool b3,.slice a3 n3 k3,.int .i64 ex3]] W fun e w'=>(∃b a n k E,e=.returned (.agg #[.bool b,.slice a n k,.int .i64 E])∧V7 w' b a n k E K Q1)∧Below W.heap.size W w')(hM2:∀W,Below w.heap.size w W→Calls Tryz.prog 26 #[.agg #[.bool b1,.slice a1 n1 k1,.int .i64 ex1],.agg #[.bool b4,.slice a4 n4 k4,.int .i64 ex4]] W fun e w'=>(∃b a n k E,e=.returned (.agg #[.bool b,.slice a n k,.int .i64 E])∧V7 w' b a n k E K Q2)∧Below W.heap.size W w')(hM3:∀W,Below w.heap.size w W→Calls Tryz.prog 26 #[.agg #[.bool b2,.slice a2 n2 k2,.int .i64 ex2],.agg #[.bool b3,.slice a3 n3 k3,.int .i64 ex3]] W fun e w'=>(∃b a n k E,e=.returned (.agg #[.bool b,.slice a n k,.int .i64 E])∧V7 w' b a n k E K Q3)∧Below W.heap.size W w')(hM4:∀W,Below w.heap.size w W→Calls Tryz.prog 26 #[.agg #[.bool b2,.slice a2 n2 k2,.int .i64 ex2],.agg #[.bool b4,.slice a4 n4 k4,.int .i64 ex4]] W fun e w'=>(∃b a n k E,e=.returned (.agg #[.bool b,.slice a n k,.int .i64 E])∧V7 w' b a n k E K Q4)∧Below W.heap.size W w')(kc1:aj K Q1 c1)(kc2:aj K Q2 c2)(kc3:aj K Q3 c3)(kc4:aj K Q4 c4)(hm:aW c1 c2 c3 c4=R)(h0:R≠0) :
  Calls Tryz.prog 11 #[.agg #[.bool b1,.slice a1 n1 k1,.int .i64 ex1,.bool b2,.slice a2 n2 k2,.int .i64 ex2],.agg #[.bool b3,.slice a3 n3 k3,.int .i64 ex3,.bool b4,.slice a4 n4 k4,.int .i64 ex4],.int .i64 pos] w fun e w'=>ei w e w' R K RA RB:=by
 have HMM:=ab hm
 have HR00:=ab h0
 have i9:(R != 0)=true:=by simpa using h0
 obtain⟨w0,hw0,hb0,q0,q1,q9⟩:=aM w (.cells #[.bool b1,.slice a1 n1 k1,.int .i64 ex1,.bool b2,.slice a2 n2 k2,.int .i64 ex2] 33) (.cells #[.bool b3,.slice a3 n3 k3,.int .i64 ex3,.bool b4,.slice a4 n4 k4,.int .i64 ex4] 33) (.cells #[.bool false,.slice none 0 0,.int .i64 0,.bool false,.slice none 0 0,.int .i64 0] 33)
 have HU0:=ab hb0
 have HR0:Hid (w0.heap[w.heap.size+1+1]?=some (.cells #[.bool false,.slice none 0 0,.int .i64 0,.bool false,.slice none 0 0,.int .i64 0] 33)):=ab q9
 have KS:=ab (fun (W:World) (hg:Below w0.heap.size w0 W)=>show W.cell? ⟨w.heap.size,0,none⟩=some (.bool b1)∧W.cell? ⟨w.heap.size,1,none⟩=some (.slice a1 n1 k1)∧W.cell? ⟨w.heap.size,2,none⟩=some (.int .i64 ex1)∧W.cell? ⟨w.heap.size,3,none⟩=some (.bool b2)∧W.cell? ⟨w.heap.size,4,none⟩=some (.slice a2 n2 k2)∧W.cell? ⟨w.heap.size,5,none⟩=some (.int .i64 ex2)∧W.cell? ⟨w.heap.size+1,0,none⟩=some (.bool b3)∧W.cell? ⟨w.heap.size+1,1,none⟩=some (.slice a3 n3 k3)∧W.cell? ⟨w.heap.size+1,2,none⟩=some (.int .i64 ex3)∧W.cell? ⟨w.heap.size+1,3,none⟩=some (.bool b4)∧W.cell? ⟨w.heap.size+1,4,none⟩=some (.slice a4 n4 k4)∧W.cell? ⟨w.heap.size+1,5,none⟩=some (.int .i64 ex4) from (by
  obtain⟨x0,x1,x2,x3,x4,x5⟩:=hexa (ac hg q0)
  obtain⟨z0,z1,z2,z3,z4,z5⟩:=hexa (ac hg q1)
  exact⟨x0,x1,x2,x3,x4,x5,z0,z1,z2,z3,z4,z5⟩))
 have K1:=ab (fun (W:World) (hg:Below w0.heap.size w0 W)=>hM1 W (ae hb0 hg))
 have K2:=ab (fun (W:World) (hg:Below w0.heap.size w0 W)=>hM2 W (ae hb0 hg))
 have K3:=ab (fun (W:World) (hg:Below w0.heap.size w0 W)=>hM3 W (ae hb0 hg))
 have K4:=ab (fun (W:World) (hg:Below w0.heap.size w0 W)=>hM4 W (ae hb0 hg))
 have KC1:=ab kc1
 have KC2:=ab kc2
 have KC3:=ab kc3
 have KC4:=ab kc4
 have g0:Below w0.heap.size w0 w0.drew:=be (Below.refl _ _)
 clear q0 q1 q9 hb0 hM1 hM2 hM3 hM4 kc1 kc2 kc3 kc4 hm h0
 go_enter Tryz.func11,Tryz.ntmps11
 go_upto_region 1 with fail
 clear hw0
 go_cut [8] from 14 to 34 (fun s wx=>il w0 K Q1 Q2 Q3 Q4 s wx)
 case first=>
  refine wp_region_held_drew (S:=fun w'=>w'.cell? ⟨w.heap.size,0,none⟩=some (.bool b1)∧w'.cell? ⟨w.heap.size,1,none⟩=some (.slice a1 n1 k1)∧w'.cell? ⟨w.heap.size,2,none⟩=some (.int .i64 ex1)∧w'.cell? ⟨w.heap.size,3,none⟩=some (.bool b2)∧w'.cell? ⟨w.heap.size,4,none⟩=some (.slice a2 n2 k2)∧w'.cell? ⟨w.heap.size,5,none⟩=some (.int .i64 ex2)∧w'.cell? ⟨w.heap.size+1,0,none⟩=some (.bool b3)∧w'.cell? ⟨w.heap.size+1,1,none⟩=some (.slice a3 n3 k3)∧w'.cell? ⟨w.heap.size+1,2,none⟩=some (.int .i64 ex3)∧w'.cell? ⟨w.heap.size+1,3,none⟩=some (.bool b4)∧w'.cell? ⟨w.heap.size+1,4,none⟩=some (.slice a4 n4 k4)∧w'.cell? ⟨w.heap.size+1,5,none⟩=some (.int .i64 ex4)) (by kernel_rfl) (KS.out _ (g0)) (fun hHeld0=>?_)
  obtain⟨UD,hUD⟩:∃x,w0.drew=x:=⟨_,rfl⟩
  have gUD:Below w0.heap.size w0 UD:=by rw [←hUD];exact (g0)
  rw [hUD] at hHeld0 ⊢
  clear hUD
  refine wpAnyH_take (i:=0) (oi:={ dst:=some 14,op:=Op.fieldAddr 33 (Operand.tmp 3) 0,type:=0,pos:="ref.go:122",after:=#[],guard:=none }) (v:=.pointer (some ⟨w.heap.size,0,none⟩)) rfl (by kernel_rfl) (by kernel_rfl) (by kernel_rfl) (fun _ _ _ h=>h) (Or.inl ⟨by rfl,fun w9 hSw=>?_⟩) hHeld0 ?_
  ·(try dsimp only at hSw);go_simp
  try simp only [Act.put,List.setIfInBounds_toArray,List.set_cons_zero,List.set_cons_succ]
  refine wpAnyH_take (i:=1) (oi:={ dst:=some 15,op:=Op.load 31 (Operand.tmp 14),type:=31,pos:="ref.go:122",after:=#[{ on:=0,ground:=Ground.data }],guard:=none }) (v:=.agg #[.bool b1,.slice a1 n1 k1,.int .i64 ex1]) rfl (by kernel_rfl) (by kernel_rfl) (by kernel_rfl) (fun _ _ _ h=>h) (Or.inl ⟨by rfl,fun w9 hSw=>?_⟩) hHeld0 ?_
  ·(try dsimp only at hSw);go_simp
  try simp only [Act.put,List.setIfInBounds_toArray,List.set_cons_zero,List.set_cons_succ]
  refine wpAnyH_take (i:=2) (oi:={ dst:=some 16,op:=Op.fieldAddr 33 (Operand.tmp 4) 0,type:=0,pos:="ref.go:122",after:=#[],guard:=none }) (v:=.pointer (some ⟨w.heap.size+1,0,none⟩)) rfl (by kernel_rfl) (by kernel_rfl) (by kernel_rfl) (fun _ _ _ h=>h) (Or.inl ⟨by rfl,fun w9 hSw=>?_⟩) hHeld0 ?_
  ·(try dsimp only at hSw);go_simp
  try simp only [Act.put,List.setIfInBounds_toArray,List.set_cons_zero,List.set_cons_succ]
  refine wpAnyH_take (i:=3) (oi:={ dst:=some 17,op:=Op.load 31 (Operand.tmp 16),type:=31,pos:="ref.go:122",after:=#[{ on:=2,ground:=Ground.data }],guard:=none }) (v:=.agg #[.bool b3,.slice a3 n3 k3,.int .i64 ex3]) rfl (by kernel_rfl) (by kernel_rfl) (by kernel_rfl) (fun _ _ _ h=>h) (Or.inl ⟨by rfl,fun w9 hSw=>?_⟩) hHeld0 ?_
  ·(try dsimp only at hSw);go_simp
  try simp only [Act.put,List.setIfInBounds_toArray,List.set_cons_zero,List.set_cons_succ]
  refine wpAnyH_take (i:=5) (oi:={ dst:=some 19,op:=Op.fieldAddr 33 (Operand.tmp 3) 0,type:=0,pos:="ref.go:122",after:=#[],guard:=none }) (v:=.pointer (some ⟨w.heap.size,0,none⟩)) rfl (by kernel_rfl) (by kernel_rfl) (by kernel_rfl) (fun _ _ _ h=>h) (Or.inl ⟨by rfl,fun w9 hSw=>?_⟩) hHeld0 ?_
  ·(try dsimp only at hSw);go_simp
  try simp only [Act.put,List.setIfInBounds_toArray,List.set_cons_zero,List.set_cons_succ]
  refine wpAnyH_take (i:=6) (oi:={ dst:=some 20,op:=Op.load 31 (Operand.tmp 19),type:=31,pos:="ref.go:122",after:=#[{ on:=5,ground:=Ground.data }],guard:=none }) (v:=.agg #[.bool b1,.slice a1 n1 k1,.int .i64 ex1]) rfl (by kernel_rfl) (by kernel_rfl) (by kernel_rfl) (fun _ _ _ h=>h) (Or.inl ⟨by rfl,fun w9 hSw=>?_⟩) hHeld0 ?_
  ·(try dsimp only at hSw);go_simp
  try simp only [Act.put,List.setIfInBounds_toArray,List.set_cons_zero,List.set_cons_succ]
  refine wpAnyH_take (i:=7) (oi:={ dst:=some 21,op:=Op.fieldAddr 33 (Operand.tmp 4) 1,type:=0,pos:="ref.go:122",after:=#[],guard:=none }) (v:=.pointer (some ⟨w.heap.size+1,3,none⟩)) rfl (by kernel_rfl) (by kernel_rfl) (by kernel_rfl) (fun _ _ _ h=>h) (Or.inl ⟨by rfl,fun w9 hSw=>?_⟩) hHeld0 ?_
  ·(try dsimp only at hSw);go_simp
  try simp only [Act.put,List.setIfInBounds_toArray,List.set_cons_zero,List.set_cons_succ]
  refine wpAnyH_take (i:=8) (oi:={ dst:=some 22,op:=Op.load 31 (Operand.tmp 21),type:=31,pos:="ref.go:122",after:=#[{ on:=7,ground:=Ground.data }],guard:=none }) (v:=.agg #[.bool b4,.slice a4 n4 k4,.int .i64 ex4]) rfl (by kernel_rfl) (by kernel_rfl) (by kernel_rfl) (fun _ _ _ h=>h) (Or.inl ⟨by rfl,fun w9 hSw=>?_⟩) hHeld0 ?_
  ·(try dsimp only at hSw);go_simp
  try simp only [Act.put,List.setIfInBounds_toArray,List.set_cons_zero,List.set_cons_succ]
  refine wpAnyH_take (i:=10) (oi:={ dst:=some 24,op:=Op.fieldAddr 33 (Operand.tmp 3) 1,type:=0,pos:="ref.go:122",after:=#[],guard:=none }) (v:=.pointer (some ⟨w.heap.size,3,none⟩)) rfl (by kernel_rfl) (by kernel_rfl) (by kernel_rfl) (fun _ _ _ h=>h) (Or.inl ⟨by rfl,fun w9 hSw=>?_⟩) hHeld0 ?_
  ·(try dsimp only at hSw);go_simp
  try simp only [Act.put,List.setIfInBounds_toArray,List.set_cons_zero,List.set_cons_succ]
  refine wpAnyH_take (i:=11) (oi:={ dst:=some 25,op:=Op.load 31 (Operand.tmp 24),type:=31,pos:="ref.go:122",after:=#[{ on:=10,ground:=Ground.data }],guard:=none }) (v:=.agg #[.bool b2,.slice a2 n2 k2,.int .i64 ex2]) rfl (by kernel_rfl) (by kernel_rfl) (by kernel_rfl) (fun _ _ _ h=>h) (Or.inl ⟨by rfl,fun w9 hSw=>?_⟩) hHeld0 ?_
  ·(try dsimp only at hSw);go_simp
  try simp only [Act.put,List.setIfInBounds_toArray,List.set_cons_zero,List.set_cons_succ]
  refine wpAnyH_take (i:=12) (oi:={ dst:=some 26,op:=Op.fieldAddr 33 (Operand.tmp 4) 0,type:=0,pos:="ref.go:122",after:=#[],guard:=none }) (v:=.pointer (some ⟨w.heap.size+1,0,none⟩)) rfl (by kernel_rfl) (by kernel_rfl) (by kernel_rfl) (fun _ _ _ h=>h) (Or.inl ⟨by rfl,fun w9 hSw=>?_⟩) hHeld0 ?_
  ·(try dsimp only at hSw);go_simp
  try simp only [Act.put,List.setIfInBounds_toArray,List.set_cons_zero,List.set_cons_succ]
  refine wpAnyH_take (i:=13) (oi:={ dst:=some 27,op:=Op.load 31 (Operand.tmp 26),type:=31,pos:="ref.go:122",after:=#[{ on:=12,ground:=Ground.data }],guard:=none }) (v:=.agg #[.bool b3,.slice a3 n3 k3,.int .i64 ex3]) rfl (by kernel_rfl) (by kernel_rfl) (by kernel_rfl) (fun _ _ _ h=>h) (Or.inl ⟨by rfl,fun w9 hSw=>?_⟩) hHeld0 ?_
  ·(try dsimp only at hSw);go_simp
  try simp only [Act.put,List.setIfInBounds_toArray,List.set_cons_zero,List.set_cons_succ]
  refine wpAnyH_take (i:=15) (oi:={ dst:=some 29,op:=Op.fieldAddr 33 (Operand.tmp 3) 1,type:=0,pos:="ref.go:122",after:=#[],guard:=none }) (v:=.pointer (some ⟨w.heap.size,3,none⟩)) rfl (by kernel_rfl) (by kernel_rfl) (by kernel_rfl) (fun _ _ _ h=>h) (Or.inl ⟨by rfl,fun w9 hSw=>?_⟩) hHeld0 ?_
  ·(try dsimp only at hSw);go_simp
  try simp only [Act.put,List.setIfInBounds_toArray,List.set_cons_zero,List.set_cons_succ]
  refine wpAnyH_take (i:=16) (oi:={ dst:=some 30,op:=Op.load 31 (Operand.tmp 29),type:=31,pos:="ref.go:122",after:=#[{ on:=15,ground:=Ground.data }],guard:=none }) (v:=.agg #[.bool b2,.slice a2 n2 k2,.int .i64 ex2]) rfl (by kernel_rfl) (by kernel_rfl) (by kernel_rfl) (fun _ _ _ h=>h) (Or.inl ⟨by rfl,fun w9 hSw=>?_⟩) hHeld0 ?_
  ·(try dsimp only at hSw);go_simp
  try simp only [Act.put,List.setIfInBounds_toArray,List.set_cons_zero,List.set_cons_succ]
  refine wpAnyH_take (i:=17) (oi:={ dst:=some 31,op:=Op.fieldAddr 33 (Operand.tmp 4) 1,type:=0,pos:="ref.go:122",after:=#[],guard:=none }) (v:=.pointer (some ⟨w.heap.size+1,3,none⟩)) rfl (by kernel_rfl) (by kernel_rfl) (by kernel_rfl) (fun _ _ _ h=>h) (Or.inl ⟨by rfl,fun w9 hSw=>?_⟩) hHeld0 ?_
  ·(try dsimp only at hSw);go_simp
  try simp only [Act.put,List.setIfInBounds_toArray,List.set_cons_zero,List.set_cons_succ]
  refine wpAnyH_take (i:=18) (oi:={ dst:=some 32,op:=Op.load 31 (Operand.tmp 31),type:=31,pos:="ref.go:122",after:=#[{ on:=17,ground:=Ground.data }],guard:=none }) (v:=.agg #[.bool b4,.slice a4 n4 k4,.int .i64 ex4]) rfl (by kernel_rfl) (by kernel_rfl) (by kernel_rfl) (fun _ _ _ h=>h) (Or.inl ⟨by rfl,fun w9 hSw=>?_⟩) hHeld0 ?_
  ·(try dsimp only at hSw);go_simp
  try simp only [Act.put,List.setIfInBounds_toArray,List.set_cons_zero,List.set_cons_succ]
  refine wpAnyH_ready (rs:=[4,21]) (by kernel_rfl) (by simp) ?_
  refine AllReadyH.cons rfl (fun K hK=>?_) ?_
  ·skip
   go_simp
   refine (K1.out UD gUD).mono ?_
   rintro e' T1 ⟨⟨x1,xa1,xn1,xk1,xe1,rfl,v1⟩,hbT1⟩
   have gT1:=ae gUD hbT1
   refine hK.out _ _ (KS.out _ gT1) (fun hHeld1=>?_)
   clear hK K
   try simp only [Act.put,List.setIfInBounds_toArray,List.set_cons_zero,List.set_cons_succ]
   refine wpAnyH_ready (rs:=[9,21]) (by kernel_rfl) (by simp) ?_
   refine AllReadyH.cons rfl (fun K hK=>?_) ?_
   ·skip
    go_simp
    refine (K2.out T1 gT1).mono ?_
    rintro e' T2 ⟨⟨x2,xa2,xn2,xk2,xe2,rfl,v2⟩,hbT2⟩
    have gT2:=ae gT1 hbT2
    refine hK.out _ _ (KS.out _ gT2) (fun hHeld2=>?_)
    clear hK K
    try simp only [Act.put,List.setIfInBounds_toArray,List.set_cons_zero,List.set_cons_succ]
    refine wpAnyH_ready (rs:=[14,21]) (by kernel_rfl) (by simp) ?_
    refine AllReadyH.cons rfl (fun K hK=>?_) ?_
    ·skip
     go_simp
     refine (K3.out T2 gT2).mono ?_
     rintro e' T3 ⟨⟨x3,xa3,xn3,xk3,xe3,rfl,v3⟩,hbT3⟩
     have gT3:=ae gT2 hbT3
     refine hK.out _ _ (KS.out _ gT3) (fun hHeld3=>?_)
     clear hK K
     try simp only [Act.put,List.setIfInBounds_toArray,List.set_cons_zero,List.set_cons_succ]
     refine wpAnyH_ready (rs:=[19,21]) (by kernel_rfl) (by simp) ?_
     refine AllReadyH.cons rfl (fun K hK=>?_) ?_
     ·skip
      go_simp
      refine (K4.out T3 gT3).mono ?_
      rintro e' T4 ⟨⟨x4,xa4,xn4,xk4,xe4,rfl,v4⟩,hbT4⟩
      have gT4:=ae gT3 hbT4
      refine hK.out _ _ (KS.out _ gT4) (fun hHeld4=>?_)
      clear hK K
      try simp only [Act.put,List.setIfInBounds_toArray,List.set_cons_zero,List.set_cons_succ]
      refine wpAnyH_take (i:=20) (oi:={ dst:=some 34,op:=Op.build 68 #[(0,Operand.tmp 18),(1,Operand.tmp 23),(2,Operand.tmp 28),(3,Operand.tmp 33)],type:=68,pos:="ref.go:122",after:=#[{ on:=4,ground:=Ground.data },{ on:=9,ground:=Ground.data },{ on:=14,ground:=Ground.data },{ on:=19,ground:=Ground.data }],guard:=none }) (v:=.agg #[.bool x1,.slice xa1 xn1 xk1,.int .i64 xe1,.bool x2,.slice xa2 xn2 xk2,.int .i64 xe2,.bool x3,.slice xa3 xn3 xk3,.int .i64 xe3,.bool x4,.slice xa4 xn4 xk4,.int .i64 xe4]) rfl (by kernel_rfl) (by kernel_rfl) (by kernel_rfl) (fun _ _ _ h=>h) (Or.inl ⟨by rfl,fun w9 hSw=>?_⟩) hHeld4 ?_
      ·(try dsimp only at hSw);go_simp
      try simp only [Act.put,List.setIfInBounds_toArray,List.set_cons_zero,List.set_cons_succ]
      refine wpAnyH_ready (rs:=[21]) (by kernel_rfl) (by simp) ?_
      refine AllReadyH.cons rfl (fun K hK=>?_) AllReadyH.nil
      go_simp
      refine hK.out _ _ (KS.out _ (aG gT4 _)) (fun hHeld5=>?_)
      clear hK K
      try simp only [Act.put,List.setIfInBounds_toArray,List.set_cons_zero,List.set_cons_succ]
      obtain⟨PB5,hPB5,hbPB5,hxPB5⟩:=ag T4 (.cells #[.bool false,.slice none 0 0,.int .i64 0,.bool false,.slice none 0 0,.int .i64 0,.bool false,.slice none 0 0,.int .i64 0,.bool false,.slice none 0 0,.int .i64 0] 68)
      rw [hPB5] at hHeld5 ⊢
      have gPB5:=ae gT4 hbPB5
      clear hPB5
      refine wpAnyH_ready (rs:=[22]) (by kernel_rfl) (by simp) ?_
      refine AllReadyH.cons rfl (fun K hK=>?_) AllReadyH.nil
      have hzb:=(hxPB5)
      have zfb:=bj hzb
      obtain⟨⟨zc0,zc1,zc2⟩,⟨zc3,zc4,zc5⟩,⟨zc6,zc7,zc8⟩,⟨zc9,zc10,zc11⟩⟩:=bh hzb
      have geb:w0.heap.size≤T4.heap.size:=gT4.size
      have gst:=ci gPB5 geb (.bool x1) (.slice xa1 xn1 xk1) (.int .i64 xe1) (.bool x2) (.slice xa2 xn2 xk2) (.int .i64 xe2) (.bool x3) (.slice xa3 xn3 xk3) (.int .i64 xe3) (.bool x4) (.slice xa4 xn4 xk4) (.int .i64 xe4)
      go_simp
      refine hK.out _ _ (KS.out _ gst) (fun hHeld6=>?_)
      clear hK K
      try simp only [Act.put,List.setIfInBounds_toArray,List.set_cons_zero,List.set_cons_succ]
      refine wpAnyH_done (by kernel_rfl) ?_ _
      clear hHeld0 hHeld1 hHeld2 hHeld3 hHeld4 hHeld5 hHeld6
      go_wp2_with fail
      go_meet
      exact cj hzb geb (v1.below (ae (ae (ae hbT2 hbT3) hbT4) hbPB5)) (v2.below (ae (ae hbT3 hbT4) hbPB5)) (v3.below (ae hbT4 hbPB5)) (v4.below hbPB5) gPB5
     refine AllReadyH.cons rfl (fun K hK=>?_) ?_
     ·skip
      go_simp
      refine hK.out _ _ (KS.out _ (aG gT3 _)) (fun hHeld7=>?_)
      clear hK K
      try simp only [Act.put,List.setIfInBounds_toArray,List.set_cons_zero,List.set_cons_succ]
      obtain⟨PB7,hPB7,hbPB7,hxPB7⟩:=ag T3 (.cells #[.bool false,.slice none 0 0,.int .i64 0,.bool false,.slice none 0 0,.int .i64 0,.bool false,.slice none 0 0,.int .i64 0,.bool false,.slice none 0 0,.int .i64 0] 68)
      rw [hPB7] at hHeld7 ⊢
      have gPB7:=ae gT3 hbPB7
      clear hPB7
      refine wpAnyH_ready (rs:=[19]) (by kernel_rfl) (by simp) ?_
      refine AllReadyH.cons rfl (fun K hK=>?_) AllReadyH.nil
      go_simp
      refine (K4.out PB7 gPB7).mono ?_
      rintro e' T8 ⟨⟨x4,xa4,xn4,xk4,xe4,rfl,v4⟩,hbT8⟩
      have gT8:=ae gPB7 hbT8
      refine hK.out _ _ (KS.out _ gT8) (fun hHeld8=>?_)
      clear hK K
      try simp only [Act.put,List.setIfInBounds_toArray,List.set_cons_zero,List.set_cons_succ]
      refine wpAnyH_take (i:=20) (oi:={ dst:=some 34,op:=Op.build 68 #[(0,Operand.tmp 18),(1,Operand.tmp 23),(2,Operand.tmp 28),(3,Operand.tmp 33)],type:=68,pos:="ref.go:122",after:=#[{ on:=4,ground:=Ground.data },{ on:=9,ground:=Ground.data },{ on:=14,ground:=Ground.data },{ on:=19,ground:=Ground.data }],guard:=none }) (v:=.agg #[.bool x1,.slice xa1 xn1 xk1,.int .i64 xe1,.bool x2,.slice xa2 xn2 xk2,.int .i64 xe2,.bool x3,.slice xa3 xn3 xk3,.int .i64 xe3,.bool x4,.slice xa4 xn4 xk4,.int .i64 xe4]) rfl (by kernel_rfl) (by kernel_rfl) (by kernel_rfl) (fun _ _ _ h=>h) (Or.inl ⟨by rfl,fun w9 hSw=>?_⟩) hHeld8 ?_
      ·(try dsimp only at hSw);go_simp
      try simp only [Act.put,List.setIfInBounds_toArray,List.set_cons_zero,List.set_cons_succ]
      refine wpAnyH_ready (rs:=[22]) (by kernel_rfl) (by simp) ?_
      refine AllReadyH.cons rfl (fun K hK=>?_) AllReadyH.nil
      have hzb:=(ac hbT8 hxPB7)
      have zfb:=bj hzb
      obtain⟨⟨zc0,zc1,zc2⟩,⟨zc3,zc4,zc5⟩,⟨zc6,zc7,zc8⟩,⟨zc9,zc10,zc11⟩⟩:=bh hzb
      have geb:w0.heap.size≤T3.heap.size:=gT3.size
      have gst:=ci gT8 geb (.bool x1) (.slice xa1 xn1 xk1) (.int .i64 xe1) (.bool x2) (.slice xa2 xn2 xk2) (.int .i64 xe2) (.bool x3) (.slice xa3 xn3 xk3) (.int .i64 xe3) (.bool x4) (.slice xa4 xn4 xk4) (.int .i64 xe4)
      go_simp
      refine hK.out _ _ (KS.out _ gst) (fun hHeld9=>?_)
      clear hK K
      try simp only [Act.put,List.setIfInBounds_toArray,List.set_cons_zero,List.set_cons_succ]
      refine wpAnyH_done (by kernel_rfl) ?_ _
      clear hHeld0 hHeld1 hHeld2 hHeld3 hHeld7 hHeld8 hHeld9
      go_wp2_with fail
      go_meet
      exact cj hzb geb (v1.below (ae (ae (ae hbT2 hbT3) hbPB7) hbT8)) (v2.below (ae (ae hbT3 hbPB7) hbT8)) (v3.below (ae hbPB7 hbT8)) (v4.below (Below.refl _ _)) gT8
     exact AllReadyH.nil
    refine AllReadyH.cons rfl (fun K hK=>?_) ?_
    ·skip
     go_simp
     refine hK.out _ _ (KS.out _ (aG gT2 _)) (fun hHeld10=>?_)
     clear hK K
     try simp only [Act.put,List.setIfInBounds_toArray,List.set_cons_zero,List.set_cons_succ]
     obtain⟨PB10,hPB10,hbPB10,hxPB10⟩:=ag T2 (.cells #[.bool false,.slice none 0 0,.int .i64 0,.bool false,.slice none 0 0,.int .i64 0,.bool false,.slice none 0 0,.int .i64 0,.bool false,.slice none 0 0,.int .i64 0] 68)
     rw [hPB10] at hHeld10 ⊢
     have gPB10:=ae gT2 hbPB10
     clear hPB10
     refine wpAnyH_ready (rs:=[14]) (by kernel_rfl) (by simp) ?_
     refine AllReadyH.cons rfl (fun K hK=>?_) AllReadyH.nil
     go_simp
     refine (K3.out PB10 gPB10).mono ?_
     rintro e' T11 ⟨⟨x3,xa3,xn3,xk3,xe3,rfl,v3⟩,hbT11⟩
     have gT11:=ae gPB10 hbT11
     refine hK.out _ _ (KS.out _ gT11) (fun hHeld11=>?_)
     clear hK K
     try simp only [Act.put,List.setIfInBounds_toArray,List.set_cons_zero,List.set_cons_succ]
     refine wpAnyH_ready (rs:=[19]) (by kernel_rfl) (by simp) ?_
     refine AllReadyH.cons rfl (fun K hK=>?_) AllReadyH.nil
     go_simp
     refine (K4.out T11 gT11).mono ?_
     rintro e' T12 ⟨⟨x4,xa4,xn4,xk4,xe4,rfl,v4⟩,hbT12⟩
     have gT12:=ae gT11 hbT12
     refine hK.out _ _ (KS.out _ gT12) (fun hHeld12=>?_)
     clear hK K
     try simp only [Act.put,List.setIfInBounds_toArray,List.set_cons_zero,List.set_cons_succ]
     refine wpAnyH_take (i:=20) (oi:={ dst:=some 34,op:=Op.build 68 #[(0,Operand.tmp 18),(1,Operand.tmp 23),(2,Operand.tmp 28),(3,Operand.tmp 33)],type:=68,pos:="ref.go:122",after:=#[{ on:=4,ground:=Ground.data },{ on:=9,ground:=Ground.data },{ on:=14,ground:=Ground.data },{ on:=19,ground:=Ground.data }],guard:=none }) (v:=.agg #[.bool x1,.slice xa1 xn1 xk1,.int .i64 xe1,.bool x2,.slice xa2 xn2 xk2,.int .i64 xe2,.bool x3,.slice xa3 xn3 xk3,.int .i64 xe3,.bool x4,.slice xa4 xn4 xk4,.int .i64 xe4]) rfl (by kernel_rfl) (by kernel_rfl) (by kernel_rfl) (fun _ _ _ h=>h) (Or.inl ⟨by rfl,fun w9 hSw=>?_⟩) hHeld12 ?_
     ·(try dsimp only at hSw);go_simp
     try simp only [Act.put,List.setIfInBounds_toArray,List.set_cons_zero,List.set_cons_succ]
     refine wpAnyH_ready (rs:=[22]) (by kernel_rfl) (by simp) ?_
     refine AllReadyH.cons rfl (fun K hK=>?_) AllReadyH.nil
     have hzb:=(ac (ae hbT11 hbT12) hxPB10)
     have zfb:=bj hzb
     obtain⟨⟨zc0,zc1,zc2⟩,⟨zc3,zc4,zc5⟩,⟨zc6,zc7,zc8⟩,⟨zc9,zc10,zc11⟩⟩:=bh hzb
     have geb:w0.heap.size≤T2.heap.size:=gT2.size
     have gst:=ci gT12 geb (.bool x1) (.slice xa1 xn1 xk1) (.int .i64 xe1) (.bool x2) (.slice xa2 xn2 xk2) (.int .i64 xe2) (.bool x3) (.slice xa3 xn3 xk3) (.int .i64 xe3) (.bool x4) (.slice xa4 xn4 xk4) (.int .i64 xe4)
     go_simp
     refine hK.out _ _ (KS.out _ gst) (fun hHeld13=>?_)
     clear hK K
     try simp only [Act.put,List.setIfInBounds_toArray,List.set_cons_zero,List.set_cons_succ]
     refine wpAnyH_done (by kernel_rfl) ?_ _
     clear hHeld0 hHeld1 hHeld2 hHeld10 hHeld11 hHeld12 hHeld13
     go_wp2_with fail
     go_meet
     exact cj hzb geb (v1.below (ae (ae (ae hbT2 hbPB10) hbT11) hbT12)) (v2.below (ae (ae hbPB10 hbT11) hbT12)) (v3.below hbT12) (v4.below (Below.refl _ _)) gT12
    exact AllReadyH.nil
   refine AllReadyH.cons rfl (fun K hK=>?_) ?_
   ·skip
    go_simp
    refine hK.out _ _ (KS.out _ (aG gT1 _)) (fun hHeld14=>?_)
    clear hK K
    try simp only [Act.put,List.setIfInBounds_toArray,List.set_cons_zero,List.set_cons_succ]
    obtain⟨PB14,hPB14,hbPB14,hxPB14⟩:=ag T1 (.cells #[.bool false,.slice none 0 0,.int .i64 0,.bool false,.slice none 0 0,.int .i64 0,.bool false,.slice none 0 0,.int .i64 0,.bool false,.slice none 0 0,.int .i64 0] 68)
    rw [hPB14] at hHeld14 ⊢
    have gPB14:=ae gT1 hbPB14
    clear hPB14
    refine wpAnyH_ready (rs:=[9]) (by kernel_rfl) (by simp) ?_
    refine AllReadyH.cons rfl (fun K hK=>?_) AllReadyH.nil
    go_simp
    refine (K2.out PB14 gPB14).mono ?_
    rintro e' T15 ⟨⟨x2,xa2,xn2,xk2,xe2,rfl,v2⟩,hbT15⟩
    have gT15:=ae gPB14 hbT15
    refine hK.out _ _ (KS.out _ gT15) (fun hHeld15=>?_)
    clear hK K
    try simp only [Act.put,List.setIfInBounds_toArray,List.set_cons_zero,List.set_cons_succ]
    refine wpAnyH_ready (rs:=[14]) (by kernel_rfl) (by simp) ?_
    refine AllReadyH.cons rfl (fun K hK=>?_) AllReadyH.nil
    go_simp
    refine (K3.out T15 gT15).mono ?_
    rintro e' T16 ⟨⟨x3,xa3,xn3,xk3,xe3,rfl,v3⟩,hbT16⟩
    have gT16:=ae gT15 hbT16
    refine hK.out _ _ (KS.out _ gT16) (fun hHeld16=>?_)
    clear hK K
    try simp only [Act.put,List.setIfInBounds_toArray,List.set_cons_zero,List.set_cons_succ]
    refine wpAnyH_ready (rs:=[19]) (by kernel_rfl) (by simp) ?_
    refine AllReadyH.cons rfl (fun K hK=>?_) AllReadyH.nil
    go_simp
    refine (K4.out T16 gT16).mono ?_
    rintro e' T17 ⟨⟨x4,xa4,xn4,xk4,xe4,rfl,v4⟩,hbT17⟩
    have gT17:=ae gT16 hbT17
    refine hK.out _ _ (KS.out _ gT17) (fun hHeld17=>?_)
    clear hK K
    try simp only [Act.put,List.setIfInBounds_toArray,List.set_cons_zero,List.set_cons_succ]
    refine wpAnyH_take (i:=20) (oi:={ dst:=some 34,op:=Op.build 68 #[(0,Operand.tmp 18),(1,Operand.tmp 23),(2,Operand.tmp 28),(3,Operand.tmp 33)],type:=68,pos:="ref.go:122",after:=#[{ on:=4,ground:=Ground.data },{ on:=9,ground:=Ground.data },{ on:=14,ground:=Ground.data },{ on:=19,ground:=Ground.data }],guard:=none }) (v:=.agg #[.bool x1,.slice xa1 xn1 xk1,.int .i64 xe1,.bool x2,.slice xa2 xn2 xk2,.int .i64 xe2,.bool x3,.slice xa3 xn3 xk3,.int .i64 xe3,.bool x4,.slice xa4 xn4 xk4,.int .i64 xe4]) rfl (by kernel_rfl) (by kernel_rfl) (by kernel_rfl) (fun _ _ _ h=>h) (Or.inl ⟨by rfl,fun w9 hSw=>?_⟩) hHeld17 ?_
    ·(try dsimp only at hSw);go_simp
    try simp only [Act.put,List.setIfInBounds_toArray,List.set_cons_zero,List.set_cons_succ]
    refine wpAnyH_ready (rs:=[22]) (by kernel_rfl) (by simp) ?_
    refine AllReadyH.cons rfl (fun K hK=>?_) AllReadyH.nil
    have hzb:=(ac (ae (ae hbT15 hbT16) hbT17) hxPB14)
    have zfb:=bj hzb
    obtain⟨⟨zc0,zc1,zc2⟩,⟨zc3,zc4,zc5⟩,⟨zc6,zc7,zc8⟩,⟨zc9,zc10,zc11⟩⟩:=bh hzb
    have geb:w0.heap.size≤T1.heap.size:=gT1.size
    have gst:=ci gT17 geb (.bool x1) (.slice xa1 xn1 xk1) (.int .i64 xe1) (.bool x2) (.slice xa2 xn2 xk2) (.int .i64 xe2) (.bool x3) (.slice xa3 xn3 xk3) (.int .i64 xe3) (.bool x4) (.slice xa4 xn4 xk4) (.int .i64 xe4)
    go_simp
    refine hK.out _ _ (KS.out _ gst) (fun hHeld18=>?_)
    clear hK K
    try simp only [Act.put,List.setIfInBounds_toArray,List.set_cons_zero,List.set_cons_succ]
    refine wpAnyH_done (by kernel_rfl) ?_ _
    clear hHeld0 hHeld1 hHeld14 hHeld15 hHeld16 hHeld17 hHeld18
    go_wp2_with fail
    go_meet
    exact cj hzb geb (v1.below (ae (ae (ae hbPB14 hbT15) hbT16) hbT17)) (v2.below (ae hbT16 hbT17)) (v3.below hbT17) (v4.below (Below.refl _ _)) gT17
   exact AllReadyH.nil
  refine AllReadyH.cons rfl (fun K hK=>?_) ?_
  ·skip
   go_simp
   refine hK.out _ _ (KS.out _ (aG gUD _)) (fun hHeld19=>?_)
   clear hK K
   try simp only [Act.put,List.setIfInBounds_toArray,List.set_cons_zero,List.set_cons_succ]
   obtain⟨PB19,hPB19,hbPB19,hxPB19⟩:=ag UD (.cells #[.bool false,.slice none 0 0,.int .i64 0,.bool false,.slice none 0 0,.int .i64 0,.bool false,.slice none 0 0,.int .i64 0,.bool false,.slice none 0 0,.int .i64 0] 68)
   rw [hPB19] at hHeld19 ⊢
   have gPB19:=ae gUD hbPB19
   clear hPB19
   refine wpAnyH_ready (rs:=[4]) (by kernel_rfl) (by simp) ?_
   refine AllReadyH.cons rfl (fun K hK=>?_) AllReadyH.nil
   go_simp
   refine (K1.out PB19 gPB19).mono ?_
   rintro e' T20 ⟨⟨x1,xa1,xn1,xk1,xe1,rfl,v1⟩,hbT20⟩
   have gT20:=ae gPB19 hbT20
   refine hK.out _ _ (KS.out _ gT20) (fun hHeld20=>?_)
   clear hK K
   try simp only [Act.put,List.setIfInBounds_toArray,List.set_cons_zero,List.set_cons_succ]
   refine wpAnyH_ready (rs:=[9]) (by kernel_rfl) (by simp) ?_
   refine AllReadyH.cons rfl (fun K hK=>?_) AllReadyH.nil
   go_simp
   refine (K2.out T20 gT20).mono ?_
   rintro e' T21 ⟨⟨x2,xa2,xn2,xk2,xe2,rfl,v2⟩,hbT21⟩
   have gT21:=ae gT20 hbT21
   refine hK.out _ _ (KS.out _ gT21) (fun hHeld21=>?_)
   clear hK K
   try simp only [Act.put,List.setIfInBounds_toArray,List.set_cons_zero,List.set_cons_succ]
   refine wpAnyH_ready (rs:=[14]) (by kernel_rfl) (by simp) ?_
   refine AllReadyH.cons rfl (fun K hK=>?_) AllReadyH.nil
   go_simp
   refine (K3.out T21 gT21).mono ?_
   rintro e' T22 ⟨⟨x3,xa3,xn3,xk3,xe3,rfl,v3⟩,hbT22⟩
   have gT22:=ae gT21 hbT22
   refine hK.out _ _ (KS.out _ gT22) (fun hHeld22=>?_)
   clear hK K
   try simp only [Act.put,List.setIfInBounds_toArray,List.set_cons_zero,List.set_cons_succ]
   refine wpAnyH_ready (rs:=[19]) (by kernel_rfl) (by simp) ?_
   refine AllReadyH.cons rfl (fun K hK=>?_) AllReadyH.nil
   go_simp
   refine (K4.out T22 gT22).mono ?_
   rintro e' T23 ⟨⟨x4,xa4,xn4,xk4,xe4,rfl,v4⟩,hbT23⟩
   have gT23:=ae gT22 hbT23
   refine hK.out _ _ (KS.out _ gT23) (fun hHeld23=>?_)
   clear hK K
   try simp only [Act.put,List.setIfInBounds_toArray,List.set_cons_zero,List.set_cons_succ]
   refine wpAnyH_take (i:=20) (oi:={ dst:=some 34,op:=Op.build 68 #[(0,Operand.tmp 18),(1,Operand.tmp 23),(2,Operand.tmp 28),(3,Operand.tmp 33)],type:=68,pos:="ref.go:122",after:=#[{ on:=4,ground:=Ground.data },{ on:=9,ground:=Ground.data },{ on:=14,ground:=Ground.data },{ on:=19,ground:=Ground.data }],guard:=none }) (v:=.agg #[.bool x1,.slice xa1 xn1 xk1,.int .i64 xe1,.bool x2,.slice xa2 xn2 xk2,.int .i64 xe2,.bool x3,.slice xa3 xn3 xk3,.int .i64 xe3,.bool x4,.slice xa4 xn4 xk4,.int .i64 xe4]) rfl (by kernel_rfl) (by kernel_rfl) (by kernel_rfl) (fun _ _ _ h=>h) (Or.inl ⟨by rfl,fun w9 hSw=>?_⟩) hHeld23 ?_
   ·(try dsimp only at hSw);go_simp
   try simp only [Act.put,List.setIfInBounds_toArray,List.set_cons_zero,List.set_cons_succ]
   refine wpAnyH_ready (rs:=[22]) (by kernel_rfl) (by simp) ?_
   refine AllReadyH.cons rfl (fun K hK=>?_) AllReadyH.nil
   have hzb:=(ac (ae (ae (ae hbT20 hbT21) hbT22) hbT23) hxPB19)
   have zfb:=bj hzb
   obtain⟨⟨zc0,zc1,zc2⟩,⟨zc3,zc4,zc5⟩,⟨zc6,zc7,zc8⟩,⟨zc9,zc10,zc11⟩⟩:=bh hzb
   have geb:w0.heap.size≤UD.heap.size:=gUD.size
   have gst:=ci gT23 geb (.bool x1) (.slice xa1 xn1 xk1) (.int .i64 xe1) (.bool x2) (.slice xa2 xn2 xk2) (.int .i64 xe2) (.bool x3) (.slice xa3 xn3 xk3) (.int .i64 xe3) (.bool x4) (.slice xa4 xn4 xk4) (.int .i64 xe4)
   go_simp
   refine hK.out _ _ (KS.out _ gst) (fun hHeld24=>?_)
   clear hK K
   try simp only [Act.put,List.setIfInBounds_toArray,List.set_cons_zero,List.set_cons_succ]
   refine wpAnyH_done (by kernel_rfl) ?_ _
   clear hHeld0 hHeld19 hHeld20 hHeld21 hHeld22 hHeld23 hHeld24
   go_wp2_with fail
   go_meet
   exact cj hzb geb (v1.below (ae (ae hbT21 hbT22) hbT23)) (v2.below (ae hbT22 hbT23)) (v3.below hbT23) (v4.below (Below.refl _ _)) gT23
  exact AllReadyH.nil
 case rest=>
  obtain⟨gd,x1,xa1,xn1,xk1,xe1,x2,xa2,xn2,xk2,xe2,x3,xa3,xn3,xk3,xe3,x4,xa4,xn4,xk4,xe4,rfl,hX,v1,v2,v3,v4,hbx⟩:=hcut
  have HX:=ab hX
  have HV:=ab (And.intro v1 (And.intro v2 (And.intro v3 v4)))
  have HUc:=ab (ae HU0.out hbx)
  have HRc:=ab (ac hbx HR0.out)
  obtain⟨w6,hw6,hb6,q6⟩:=ag wc (.cells #[.bool x1,.slice xa1 xn1 xk1,.int .i64 xe1,.bool x2,.slice xa2 xn2 xk2,.int .i64 xe2,.bool x3,.slice xa3 xn3 xk3,.int .i64 xe3,.bool x4,.slice xa4 xn4 xk4,.int .i64 xe4] 31)
  have CB:=ju wc.heap.size x1 xa1 xn1 xk1 xe1 x2 xa2 xn2 xk2 xe2 x3 xa3 xn3 xk3 xe3 x4 xa4 xn4 xk4 xe4 K Q1 Q2 Q3 Q4 c1 c2 c3 c4 w6 q6 (v1.below hb6) (v2.below hb6) (v3.below hb6) (v4.below hb6) KC1.out KC2.out KC3.out KC4.out
  rw [HMM.out] at CB
  have HB6:=ab hb6
  obtain⟨⟨y0,y1,y2⟩,⟨y3,y4,y5⟩,⟨y6,y7,y8⟩,⟨y9,y10,y11⟩⟩:=bh hX
  clear KS K1 K2 K3 K4 g0 hX v1 v2 v3 v4 hbx q6 hb6
  go_wp2_with fail
  refine CB.mono ?_
  rintro e t7 ⟨rfl,g7⟩
  have g67:=ae HB6.out g7
  have HU7:=ab (ae HUc.out g67)
  have HR7:=ab (ac g67 HRc.out)
  have HC1:=HR7
  have HG:=HU7
  have hf1:=av HC1.out
  obtain⟨m0,m1,m2,m3,m4,m5⟩:=hexa HC1.out
  clear CB g7 g67 y0 y1 y2 y3 y4 y5 y6 y7 y8 y9 y10 y11 hw6
  go_wp2
  have T3:=aJ HC1.out (.bool false) (.slice none 0 0) (.int .i64 0) (.bool false) (.slice none 0 0) (.int .i64 0)
  have T4:=aF HG.out (show w.heap.size≤w.heap.size+1+1 by omega) (.bool false) (.slice none 0 0) (.int .i64 0) (.bool false) (.slice none 0 0) (.int .i64 0)
  obtain⟨p0,p1,p2,p3,p4,p5⟩:=hexa T3
  have HE:=ab T4
  clear T3 T4
  generalize (((((t7.setCell ⟨w.heap.size+1+1,0,none⟩ (.bool false)).setCell ⟨w.heap.size+1+1,1,none⟩ (.slice none 0 0)).setCell ⟨w.heap.size+1+1,2,none⟩ (.int .i64 0)).setCell ⟨w.heap.size+1+1,3,none⟩ (.bool false)).setCell ⟨w.heap.size+1+1,4,none⟩ (.slice none 0 0)).setCell ⟨w.heap.size+1+1,5,none⟩ (.int .i64 0)=w9 at *
  refine bodyPost_ret (v:=.tuple #[.agg #[.bool false,.slice none 0 0,.int .i64 0,.bool false,.slice none 0 0,.int .i64 0],.int .i64 R]) (by simp [results,Tryz.results11,go_sem,p0,p1,p2,p3,p4,p5]) rfl ?_
  exact⟨⟨_,_,_,_,_,_,_,_,_,_,rfl,fun h=>absurd h HR00.out⟩,HE.out⟩
end Go.Proofs.YtkfbobefkbpdoaaGreatDoor

