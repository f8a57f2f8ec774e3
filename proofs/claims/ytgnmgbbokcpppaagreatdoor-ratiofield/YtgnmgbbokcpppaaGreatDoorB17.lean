/- Package ratio: Add, Mul, Quo, Compare, where nothing is refused. -/
import Derived.Test.YtgnmgbbokcpppaaGreatDoorB15
import Derived.Test.YtgnmgbbokcpppaaGreatDoorB16
import Derived.Test.YtgnmgbbokcpppaaGreatDoorB01
import Derived.Test.YtgnmgbbokcpppaaGreatDoorB02
import Derived.Test.YtgnmgbbokcpppaaGreatDoorB04
import Derived.Test.YtgnmgbbokcpppaaGreatDoorB14
import Derived.LoopN
import Derived.Handy
import Derived.Laws.IdiomStrings
import Derived.Laws.Cells
set_option maxRecDepth 20000
set_option maxHeartbeats 16000000
namespace Go.Proofs.YtgnmgbbokcpppaaGreatDoor
open Go.RowKit
open Lm
attribute [local go_sem ↓] Go.wp_at_zero Go.wp_at_succ

theorem iq (b1 b2:Bool)(v1 v2 v3 v4:Value)(x1 d1 x2 d2 M1 M2:Nat)(w:World)(hA:Qn w v1 v2 x1 d1)(hB:Qn w v3 v4 x2 d2)(hT:Tab w)(hx1:blen x1≤M1)(hm1:blen d1≤M1)(hx2:blen x2≤M2)(hm2:blen d2≤M2)(hM:M1+M2≤60000000) :
  Calls Tryz.prog 29 #[.agg #[.bool b1,v1,v2],.agg #[.bool b2,v3,v4]] w (aD w (zz (b1 != b2) (x1*x2 / Nat.gcd (x1*x2) (d1*d2))) (d1*d2 / Nat.gcd (x1*x2) (d1*d2))):=by
 by_cases hx:x1=0
 ·obtain⟨e1,e2⟩:=iU (b1 != b2) x1 x2 d1 d2 (.inl hx) hA.2.2 hB.2.2
  rw [e1,e2]
  exact nk b1 b2 v1 v2 v3 v4 x1 d1 x2 d2 w hA hB hx
 ·by_cases hy:x2=0
  ·obtain⟨e1,e2⟩:=iU (b1 != b2) x1 x2 d1 d2 (.inr hy) hA.2.2 hB.2.2
   rw [e1,e2]
   exact nh b1 b2 v1 v2 v3 v4 x1 d1 x2 d2 w hA hB hx hy
  ·exact oU b1 b2 v1 v2 v3 v4 x1 d1 x2 d2 M1 M2 w hA hB hT hx hy hx1 hm1 hx2 hm2 hM

theorem qD (p p2:Addr)(w:World)(G:World→Bool→Value→Value→Prop)(hG:∀(W:World) (g k:Nat) (u:Value) (t:TypeId) (cs:Array Value) (b:Bool) (x y:Value),W.heap[g]?=some (.cells cs t)→(t=27∨t=33)→G W b x y→G (W.setCell ⟨g,k,none⟩ u) b x y)
  (hw:∀W,Below w.heap.size w W→Calls Tryz.prog 24 #[.pointer (some p),.pointer (some p2)] W (fun e w'=>(∃(b:Bool) (a1:Option Addr) (n1 k1:Nat) (a2:Option Addr) (n2 k2:Nat),e=.returned (.agg #[.bool b,.slice a1 n1 k1,.slice a2 n2 k2])∧G w' b (.slice a1 n1 k1) (.slice a2 n2 k2))∧Below W.heap.size W w')) :
  Calls Tryz.prog 23 #[.func (.func 24) #[] #[.pointer (some p),.pointer (some p2)]] w (eT w G):=by
 have hmf:∀(fn:Fn) (first cap:Array Value) (w:World),(Instr.makeFunc fn first cap).run Tryz.prog w=.ok (.func fn first cap) w:=fun _ _ _ _=>rfl
 obtain⟨w0,hw0,hb0,h0,h1⟩:=aY w (.cells #[.bool false,.slice none 0 0,.slice none 0 0] 27) (.cells #[.int .i64 0] 33)
 have HW:=hw w0 hb0
 have HB0:=ac hb0
 have H0:=ac h0
 have H1:=ac h1
 have HG:=ac hG
 clear hw hb0 h0 h1 hG
 go_enter_defers Tryz.func23,Tryz.ntmps23
 go_wp2_with fail
 refine HW.mono ?_
 rintro e w1 ⟨⟨b,a1,n1,k1,a2,n2,k2,rfl,hg⟩,hb1⟩
 have q0:=ae hb1 H0.out
 have q1:=ae hb1 H1.out
 have hne:¬w.heap.size=w.heap.size+1:=by omega
 have hne2:¬w.heap.size+1=w.heap.size:=by omega
 have c0:w1.cell? ⟨w.heap.size,0,none⟩=some (.bool false):=by simp [World.cell?,q0]
 have c1:w1.cell? ⟨w.heap.size,1,none⟩=some (.slice none 0 0):=by simp [World.cell?,q0]
 have c2:w1.cell? ⟨w.heap.size,2,none⟩=some (.slice none 0 0):=by simp [World.cell?,q0]
 have c3:w1.cell? ⟨w.heap.size+1,0,none⟩=some (.int .i64 0):=by simp [World.cell?,q1]
 have f0:∀k,w1.frozen? ⟨w.heap.size,k,none⟩=false:=fun k=>by simp [World.frozen?,q0]
 have f3:w1.frozen? ⟨w.heap.size+1,0,none⟩=false:=by simp [World.frozen?,q1]
 have so:∀(W:World) (k:Nat) (u:Value) (k':Nat),(W.setCell ⟨w.heap.size,k,none⟩ u).cell? ⟨w.heap.size+1,k',none⟩=W.cell? ⟨w.heap.size+1,k',none⟩:=fun W k u k'=>aB hne
 have sp:∀(W:World) (k:Nat) (u:Value) (k':Nat),(W.setCell ⟨w.heap.size+1,k,none⟩ u).cell? ⟨w.heap.size,k',none⟩=W.cell? ⟨w.heap.size,k',none⟩:=fun W k u k'=>aB hne2
 go_wp2
 have e0:=aj (k:=0) q0 (.bool b)
 have e1:=aj (k:=1) e0 (.slice a1 n1 k1)
 have e2:=aj (k:=2) e1 (.slice a2 n2 k2)
 have x1:(((w1.setCell ⟨w.heap.size,0,none⟩ (.bool b)).setCell ⟨w.heap.size,1,none⟩ (.slice a1 n1 k1)).setCell ⟨w.heap.size,2,none⟩ (.slice a2 n2 k2)).heap[w.heap.size+1]?=some (.cells #[.int .i64 0] 33):=by
  rw [Below.heap_setCell _ _ _ _ hne2,Below.heap_setCell _ _ _ _ hne2,Below.heap_setCell _ _ _ _ hne2]
  exact q1
 have x2:=aj (k:=0) x1 (.int .i64 0)
 have y2:((((w1.setCell ⟨w.heap.size,0,none⟩ (.bool b)).setCell ⟨w.heap.size,1,none⟩ (.slice a1 n1 k1)).setCell ⟨w.heap.size,2,none⟩ (.slice a2 n2 k2)).setCell ⟨w.heap.size+1,0,none⟩ (.int .i64 0)).heap[w.heap.size]?=some (.cells #[.bool b,.slice a1 n1 k1,.slice a2 n2 k2] 27):=by
  rw [Below.heap_setCell _ _ _ _ hne]
  exact e2
 have g1:=HG.out _ _ 0 (.bool b) _ _ _ _ _ q0 (.inl rfl) hg
 have g2:=HG.out _ _ 1 (.slice a1 n1 k1) _ _ _ _ _ e0 (.inl rfl) g1
 have g3:=HG.out _ _ 2 (.slice a2 n2 k2) _ _ _ _ _ e1 (.inl rfl) g2
 have g4:=HG.out _ _ 0 (.int .i64 0) _ _ _ _ _ x1 (.inr rfl) g3
 have b1:=((((HB0.out.trans (hb1.mono HB0.out.size)).setCell (p:=⟨w.heap.size,0,none⟩) (Nat.le_refl _) (.bool b)).setCell (p:=⟨w.heap.size,1,none⟩) (Nat.le_refl _) (.slice a1 n1 k1)).setCell (p:=⟨w.heap.size,2,none⟩) (Nat.le_refl _) (.slice a2 n2 k2)).setCell (p:=⟨w.heap.size+1,0,none⟩) (Nat.le_succ _) (.int .i64 0)
 have HE:=ac (And.intro g4 b1)
 clear so sp c0 c1 c2 c3 f0 f3 e0 e1 e2 x1 g1 g2 g3 g4 b1 q0 q1 hg hb1
 generalize (((w1.setCell ⟨w.heap.size,0,none⟩ (.bool b)).setCell ⟨w.heap.size,1,none⟩ (.slice a1 n1 k1)).setCell ⟨w.heap.size,2,none⟩ (.slice a2 n2 k2)).setCell ⟨w.heap.size+1,0,none⟩ (.int .i64 0)=w5 at *
 have m0:w5.cell? ⟨w.heap.size,0,none⟩=some (.bool b):=by simp [World.cell?,y2]
 have m1:w5.cell? ⟨w.heap.size,1,none⟩=some (.slice a1 n1 k1):=by simp [World.cell?,y2]
 have m2:w5.cell? ⟨w.heap.size,2,none⟩=some (.slice a2 n2 k2):=by simp [World.cell?,y2]
 have m3:w5.cell? ⟨w.heap.size+1,0,none⟩=some (.int .i64 0):=by simp [World.cell?,x2]
 refine leaves_cons (f:=52) (args:=#[.pointer (some ⟨w.heap.size+1,0,none⟩)]) (by simp) (by simp [go_sem]) ?_
 refine (fk ⟨w.heap.size+1,0,none⟩ w5).mono ?_
 rintro e u' w'' ⟨rfl,rfl,rfl⟩
 simp [Leaves,settle,results,Tryz.results23,go_sem,m0,m1,m2,m3]
 exact⟨⟨b,a1,n1,k1,a2,n2,k2,rfl,HE.out.1⟩,HE.out.2⟩

theorem nw (p p2:Addr)(w:World)(G:World→Bool→Value→Value→Prop)(hG:∀(W:World) (g k:Nat) (u:Value) (t:TypeId) (cs:Array Value) (b:Bool) (x y:Value),W.heap[g]?=some (.cells cs t)→(t=27∨t=33)→G W b x y→G (W.setCell ⟨g,k,none⟩ u) b x y)
  (hw:∀W,Below w.heap.size w W→Calls Tryz.prog 28 #[.pointer (some p),.pointer (some p2)] W (fun e w'=>(∃(b:Bool) (a1:Option Addr) (n1 k1:Nat) (a2:Option Addr) (n2 k2:Nat),e=.returned (.agg #[.bool b,.slice a1 n1 k1,.slice a2 n2 k2])∧G w' b (.slice a1 n1 k1) (.slice a2 n2 k2))∧Below W.heap.size W w')) :
  Calls Tryz.prog 23 #[.func (.func 28) #[] #[.pointer (some p),.pointer (some p2)]] w (eT w G):=by
 have hmf:∀(fn:Fn) (first cap:Array Value) (w:World),(Instr.makeFunc fn first cap).run Tryz.prog w=.ok (.func fn first cap) w:=fun _ _ _ _=>rfl
 obtain⟨w0,hw0,hb0,h0,h1⟩:=aY w (.cells #[.bool false,.slice none 0 0,.slice none 0 0] 27) (.cells #[.int .i64 0] 33)
 have HW:=hw w0 hb0
 have HB0:=ac hb0
 have H0:=ac h0
 have H1:=ac h1
 have HG:=ac hG
 clear hw hb0 h0 h1 hG
 go_enter_defers Tryz.func23,Tryz.ntmps23
 go_wp2_with fail
 refine HW.mono ?_
 rintro e w1 ⟨⟨b,a1,n1,k1,a2,n2,k2,rfl,hg⟩,hb1⟩
 have q0:=ae hb1 H0.out
 have q1:=ae hb1 H1.out
 have hne:¬w.heap.size=w.heap.size+1:=by omega
 have hne2:¬w.heap.size+1=w.heap.size:=by omega
 have c0:w1.cell? ⟨w.heap.size,0,none⟩=some (.bool false):=by simp [World.cell?,q0]
 have c1:w1.cell? ⟨w.heap.size,1,none⟩=some (.slice none 0 0):=by simp [World.cell?,q0]
 have c2:w1.cell? ⟨w.heap.size,2,none⟩=some (.slice none 0 0):=by simp [World.cell?,q0]
 have c3:w1.cell? ⟨w.heap.size+1,0,none⟩=some (.int .i64 0):=by simp [World.cell?,q1]
 have f0:∀k,w1.frozen? ⟨w.heap.size,k,none⟩=false:=fun k=>by simp [World.frozen?,q0]
 have f3:w1.frozen? ⟨w.heap.size+1,0,none⟩=false:=by simp [World.frozen?,q1]
 have so:∀(W:World) (k:Nat) (u:Value) (k':Nat),(W.setCell ⟨w.heap.size,k,none⟩ u).cell? ⟨w.heap.size+1,k',none⟩=W.cell? ⟨w.heap.size+1,k',none⟩:=fun W k u k'=>aB hne
 have sp:∀(W:World) (k:Nat) (u:Value) (k':Nat),(W.setCell ⟨w.heap.size+1,k,none⟩ u).cell? ⟨w.heap.size,k',none⟩=W.cell? ⟨w.heap.size,k',none⟩:=fun W k u k'=>aB hne2
 go_wp2
 have e0:=aj (k:=0) q0 (.bool b)
 have e1:=aj (k:=1) e0 (.slice a1 n1 k1)
 have e2:=aj (k:=2) e1 (.slice a2 n2 k2)
 have x1:(((w1.setCell ⟨w.heap.size,0,none⟩ (.bool b)).setCell ⟨w.heap.size,1,none⟩ (.slice a1 n1 k1)).setCell ⟨w.heap.size,2,none⟩ (.slice a2 n2 k2)).heap[w.heap.size+1]?=some (.cells #[.int .i64 0] 33):=by
  rw [Below.heap_setCell _ _ _ _ hne2,Below.heap_setCell _ _ _ _ hne2,Below.heap_setCell _ _ _ _ hne2]
  exact q1
 have x2:=aj (k:=0) x1 (.int .i64 0)
 have y2:((((w1.setCell ⟨w.heap.size,0,none⟩ (.bool b)).setCell ⟨w.heap.size,1,none⟩ (.slice a1 n1 k1)).setCell ⟨w.heap.size,2,none⟩ (.slice a2 n2 k2)).setCell ⟨w.heap.size+1,0,none⟩ (.int .i64 0)).heap[w.heap.size]?=some (.cells #[.bool b,.slice a1 n1 k1,.slice a2 n2 k2] 27):=by
  rw [Below.heap_setCell _ _ _ _ hne]
  exact e2
 have g1:=HG.out _ _ 0 (.bool b) _ _ _ _ _ q0 (.inl rfl) hg
 have g2:=HG.out _ _ 1 (.slice a1 n1 k1) _ _ _ _ _ e0 (.inl rfl) g1
 have g3:=HG.out _ _ 2 (.slice a2 n2 k2) _ _ _ _ _ e1 (.inl rfl) g2
 have g4:=HG.out _ _ 0 (.int .i64 0) _ _ _ _ _ x1 (.inr rfl) g3
 have b1:=((((HB0.out.trans (hb1.mono HB0.out.size)).setCell (p:=⟨w.heap.size,0,none⟩) (Nat.le_refl _) (.bool b)).setCell (p:=⟨w.heap.size,1,none⟩) (Nat.le_refl _) (.slice a1 n1 k1)).setCell (p:=⟨w.heap.size,2,none⟩) (Nat.le_refl _) (.slice a2 n2 k2)).setCell (p:=⟨w.heap.size+1,0,none⟩) (Nat.le_succ _) (.int .i64 0)
 have HE:=ac (And.intro g4 b1)
 clear so sp c0 c1 c2 c3 f0 f3 e0 e1 e2 x1 g1 g2 g3 g4 b1 q0 q1 hg hb1
 generalize (((w1.setCell ⟨w.heap.size,0,none⟩ (.bool b)).setCell ⟨w.heap.size,1,none⟩ (.slice a1 n1 k1)).setCell ⟨w.heap.size,2,none⟩ (.slice a2 n2 k2)).setCell ⟨w.heap.size+1,0,none⟩ (.int .i64 0)=w5 at *
 have m0:w5.cell? ⟨w.heap.size,0,none⟩=some (.bool b):=by simp [World.cell?,y2]
 have m1:w5.cell? ⟨w.heap.size,1,none⟩=some (.slice a1 n1 k1):=by simp [World.cell?,y2]
 have m2:w5.cell? ⟨w.heap.size,2,none⟩=some (.slice a2 n2 k2):=by simp [World.cell?,y2]
 have m3:w5.cell? ⟨w.heap.size+1,0,none⟩=some (.int .i64 0):=by simp [World.cell?,x2]
 refine leaves_cons (f:=52) (args:=#[.pointer (some ⟨w.heap.size+1,0,none⟩)]) (by simp) (by simp [go_sem]) ?_
 refine (fk ⟨w.heap.size+1,0,none⟩ w5).mono ?_
 rintro e u' w'' ⟨rfl,rfl,rfl⟩
 simp [Leaves,settle,results,Tryz.results23,go_sem,m0,m1,m2,m3]
 exact⟨⟨b,a1,n1,k1,a2,n2,k2,rfl,HE.out.1⟩,HE.out.2⟩

theorem qX (p p2:Addr)(w:World)(G:World→Bool→Value→Value→Prop)(hG:∀(W:World) (g k:Nat) (u:Value) (t:TypeId) (cs:Array Value) (b:Bool) (x y:Value),W.heap[g]?=some (.cells cs t)→(t=27∨t=33)→G W b x y→G (W.setCell ⟨g,k,none⟩ u) b x y)
  (hw:∀W,Below w.heap.size w W→Calls Tryz.prog 30 #[.pointer (some p),.pointer (some p2)] W (fun e w'=>(∃(b:Bool) (a1:Option Addr) (n1 k1:Nat) (a2:Option Addr) (n2 k2:Nat),e=.returned (.agg #[.bool b,.slice a1 n1 k1,.slice a2 n2 k2])∧G w' b (.slice a1 n1 k1) (.slice a2 n2 k2))∧Below W.heap.size W w')) :
  Calls Tryz.prog 23 #[.func (.func 30) #[] #[.pointer (some p),.pointer (some p2)]] w (eT w G):=by
 have hmf:∀(fn:Fn) (first cap:Array Value) (w:World),(Instr.makeFunc fn first cap).run Tryz.prog w=.ok (.func fn first cap) w:=fun _ _ _ _=>rfl
 obtain⟨w0,hw0,hb0,h0,h1⟩:=aY w (.cells #[.bool false,.slice none 0 0,.slice none 0 0] 27) (.cells #[.int .i64 0] 33)
 have HW:=hw w0 hb0
 have HB0:=ac hb0
 have H0:=ac h0
 have H1:=ac h1
 have HG:=ac hG
 clear hw hb0 h0 h1 hG
 go_enter_defers Tryz.func23,Tryz.ntmps23
 go_wp2_with fail
 refine HW.mono ?_
 rintro e w1 ⟨⟨b,a1,n1,k1,a2,n2,k2,rfl,hg⟩,hb1⟩
 have q0:=ae hb1 H0.out
 have q1:=ae hb1 H1.out
 have hne:¬w.heap.size=w.heap.size+1:=by omega
 have hne2:¬w.heap.size+1=w.heap.size:=by omega
 have c0:w1.cell? ⟨w.heap.size,0,none⟩=some (.bool false):=by simp [World.cell?,q0]
 have c1:w1.cell? ⟨w.heap.size,1,none⟩=some (.slice none 0 0):=by simp [World.cell?,q0]
 have c2:w1.cell? ⟨w.heap.size,2,none⟩=some (.slice none 0 0):=by simp [World.cell?,q0]
 have c3:w1.cell? ⟨w.heap.size+1,0,none⟩=some (.int .i64 0):=by simp [World.cell?,q1]
 have f0:∀k,w1.frozen? ⟨w.heap.size,k,none⟩=false:=fun k=>by simp [World.frozen?,q0]
 have f3:w1.frozen? ⟨w.heap.size+1,0,none⟩=false:=by simp [World.frozen?,q1]
 have so:∀(W:World) (k:Nat) (u:Value) (k':Nat),(W.setCell ⟨w.heap.size,k,none⟩ u).cell? ⟨w.heap.size+1,k',none⟩=W.cell? ⟨w.heap.size+1,k',none⟩:=fun W k u k'=>aB hne
 have sp:∀(W:World) (k:Nat) (u:Value) (k':Nat),(W.setCell ⟨w.heap.size+1,k,none⟩ u).cell? ⟨w.heap.size,k',none⟩=W.cell? ⟨w.heap.size,k',none⟩:=fun W k u k'=>aB hne2
 go_wp2
 have e0:=aj (k:=0) q0 (.bool b)
 have e1:=aj (k:=1) e0 (.slice a1 n1 k1)
 have e2:=aj (k:=2) e1 (.slice a2 n2 k2)
 have x1:(((w1.setCell ⟨w.heap.size,0,none⟩ (.bool b)).setCell ⟨w.heap.size,1,none⟩ (.slice a1 n1 k1)).setCell ⟨w.heap.size,2,none⟩ (.slice a2 n2 k2)).heap[w.heap.size+1]?=some (.cells #[.int .i64 0] 33):=by
  rw [Below.heap_setCell _ _ _ _ hne2,Below.heap_setCell _ _ _ _ hne2,Below.heap_setCell _ _ _ _ hne2]
  exact q1
 have x2:=aj (k:=0) x1 (.int .i64 0)
 have y2:((((w1.setCell ⟨w.heap.size,0,none⟩ (.bool b)).setCell ⟨w.heap.size,1,none⟩ (.slice a1 n1 k1)).setCell ⟨w.heap.size,2,none⟩ (.slice a2 n2 k2)).setCell ⟨w.heap.size+1,0,none⟩ (.int .i64 0)).heap[w.heap.size]?=some (.cells #[.bool b,.slice a1 n1 k1,.slice a2 n2 k2] 27):=by
  rw [Below.heap_setCell _ _ _ _ hne]
  exact e2
 have g1:=HG.out _ _ 0 (.bool b) _ _ _ _ _ q0 (.inl rfl) hg
 have g2:=HG.out _ _ 1 (.slice a1 n1 k1) _ _ _ _ _ e0 (.inl rfl) g1
 have g3:=HG.out _ _ 2 (.slice a2 n2 k2) _ _ _ _ _ e1 (.inl rfl) g2
 have g4:=HG.out _ _ 0 (.int .i64 0) _ _ _ _ _ x1 (.inr rfl) g3
 have b1:=((((HB0.out.trans (hb1.mono HB0.out.size)).setCell (p:=⟨w.heap.size,0,none⟩) (Nat.le_refl _) (.bool b)).setCell (p:=⟨w.heap.size,1,none⟩) (Nat.le_refl _) (.slice a1 n1 k1)).setCell (p:=⟨w.heap.size,2,none⟩) (Nat.le_refl _) (.slice a2 n2 k2)).setCell (p:=⟨w.heap.size+1,0,none⟩) (Nat.le_succ _) (.int .i64 0)
 have HE:=ac (And.intro g4 b1)
 clear so sp c0 c1 c2 c3 f0 f3 e0 e1 e2 x1 g1 g2 g3 g4 b1 q0 q1 hg hb1
 generalize (((w1.setCell ⟨w.heap.size,0,none⟩ (.bool b)).setCell ⟨w.heap.size,1,none⟩ (.slice a1 n1 k1)).setCell ⟨w.heap.size,2,none⟩ (.slice a2 n2 k2)).setCell ⟨w.heap.size+1,0,none⟩ (.int .i64 0)=w5 at *
 have m0:w5.cell? ⟨w.heap.size,0,none⟩=some (.bool b):=by simp [World.cell?,y2]
 have m1:w5.cell? ⟨w.heap.size,1,none⟩=some (.slice a1 n1 k1):=by simp [World.cell?,y2]
 have m2:w5.cell? ⟨w.heap.size,2,none⟩=some (.slice a2 n2 k2):=by simp [World.cell?,y2]
 have m3:w5.cell? ⟨w.heap.size+1,0,none⟩=some (.int .i64 0):=by simp [World.cell?,x2]
 refine leaves_cons (f:=52) (args:=#[.pointer (some ⟨w.heap.size+1,0,none⟩)]) (by simp) (by simp [go_sem]) ?_
 refine (fk ⟨w.heap.size+1,0,none⟩ w5).mono ?_
 rintro e u' w'' ⟨rfl,rfl,rfl⟩
 simp [Leaves,settle,results,Tryz.results23,go_sem,m0,m1,m2,m3]
 exact⟨⟨b,a1,n1,k1,a2,n2,k2,rfl,HE.out.1⟩,HE.out.2⟩

theorem mJ (p p2:Addr)(s:Int)(w:World)
  (hw:∀W,Below w.heap.size w W→Calls Tryz.prog 32 #[.pointer (some p),.pointer (some p2)] W (fun e w'=>e=.returned (.int .i64 s)∧Below W.heap.size W w')) :
  Calls Tryz.prog 31 #[.func (.func 32) #[] #[.pointer (some p),.pointer (some p2)]] w fun e w'=>e=.returned (.tuple #[.int .i64 s,.int .i64 0])∧Below w.heap.size w w':=by
 have hmf:∀(fn:Fn) (first cap:Array Value) (w:World),(Instr.makeFunc fn first cap).run Tryz.prog w=.ok (.func fn first cap) w:=fun _ _ _ _=>rfl
 obtain⟨w0,hw0,hb0,h1⟩:=an w (.cells #[.int .i64 0] 33)
 have HW:=hw w0 hb0
 have HB0:=ac hb0
 have H1:=ac h1
 clear hw hb0 h1
 go_enter_defers Tryz.func31,Tryz.ntmps31
 go_wp2_with fail
 refine HW.mono ?_
 rintro e w1 ⟨rfl,hb1⟩
 have k1:=ae hb1 H1.out
 have c3:w1.cell? ⟨w.heap.size,0,none⟩=some (.int .i64 0):=by simp [World.cell?,k1]
 have f3:w1.frozen? ⟨w.heap.size,0,none⟩=false:=by simp [World.frozen?,k1]
 go_wp2
 have x2:=aj (k:=0) k1 (.int .i64 0)
 have HFIN:=ac ((HB0.out.trans (hb1.mono HB0.out.size)).setCell (p:=⟨w.heap.size,0,none⟩) (Nat.le_refl _) (.int .i64 0))
 clear c3 f3 k1 hb1
 generalize w1.setCell ⟨w.heap.size,0,none⟩ (.int .i64 0)=w5 at *
 have m3:w5.cell? ⟨w.heap.size,0,none⟩=some (.int .i64 0):=by simp [World.cell?,x2]
 refine leaves_cons (f:=68) (args:=#[.pointer (some ⟨w.heap.size,0,none⟩)]) (by simp) (by simp [go_sem]) ?_
 refine (iK ⟨w.heap.size,0,none⟩ w5).mono ?_
 rintro e u' w'' ⟨rfl,rfl,rfl⟩
 simp [Leaves,settle,results,Tryz.results31,go_sem,m3]
 exact HFIN.out

theorem pc (zq:Int)(dq:Nat)(ga gb:Nat)(b1 b2:Bool)(v1 v2 v3 v4:Value)(x1 d1 x2 d2:Nat)(w:World)(hP:w.heap[ga]?=some (.cells #[.bool b1,v1,v2] 27))(hQ:w.heap[gb]?=some (.cells #[.bool b2,v3,v4] 27))(hA:Qn w v1 v2 x1 d1)(hB:Qn w v3 v4 x2 d2)(_:True)
  (hK:∀W,Below w.heap.size w W→Calls Tryz.prog 26 #[.agg #[.bool b1,v1,v2],.agg #[.bool b2,v3,v4]] W (aD W zq dq)) :
  Calls Tryz.prog 24 #[.pointer (some ⟨ga,0,none⟩),.pointer (some ⟨gb,0,none⟩)] w (aD w zq dq):=by
 obtain⟨a1,n1,k1,rfl⟩:=hA.1.form
 obtain⟨a2,n2,k2,rfl⟩:=hA.2.1.form
 obtain⟨a3,n3,k3,rfl⟩:=hB.1.form
 obtain⟨a4,n4,k4,rfl⟩:=hB.2.1.form
 obtain⟨w0,hw0,hb0,h0⟩:=an w (.cells #[.bool false,.slice none 0 0,.slice none 0 0] 27)
 obtain⟨u0,hu0,hbu,hL⟩:=an w0 (.cells #[.bool b1,.slice a1 n1 k1,.slice a2 n2 k2,.bool b2,.slice a3 n3 k3,.slice a4 n4 k4] 27)
 have g0:=ah hb0 hbu
 have ME:=f7 w0.heap.size b1 b2 _ _ _ _ x1 d1 x2 d2 u0 (hA.below g0) (hB.below g0) hL
 have AN:=ac (fun (W:World) (hg:Below u0.heap.size u0 W)=>hK W (ah g0 hg))
 obtain⟨c0,c1,c2⟩:=tri (ae hb0 hP)
 obtain⟨c3,c4,c5⟩:=tri (ae hb0 hQ)
 have HP:=ac (ae g0 hP)
 have HQ:=ac (ae g0 hQ)
 have H0:=ac (ae hbu h0)
 have HG0:=ac g0
 clear hA hB hP hQ hb0 h0 hbu hL g0 hK
 go_enter Tryz.func24,Tryz.ntmps24
 go_wp2_with fail
 refine ME.mono ?_
 rintro e t1 ⟨rfl,hb1⟩
 have A1:=AN.out t1 hb1
 have HG1:=ac (ah HG0.out hb1)
 obtain⟨d0,d1',d2'⟩:=tri (ae hb1 HP.out)
 obtain⟨d3,d4,d5⟩:=tri (ae hb1 HQ.out)
 have H01:=ac (ae hb1 H0.out)
 clear c0 c1 c2 c3 c4 c5 ME AN hb1
 go_wp2_with fail
 refine A1.mono ?_
 rintro e t2 ⟨⟨bb,y1,m1,l1,y2,m2,l2,rfl,r1⟩,hb2⟩
 have hz3:=ae hb2 H01.out
 have T1:=r1.base HG1.out.size
 have T2:=T1.tri (u0:=.bool bb) (u1:=.slice y1 m1 l1) (u2:=.slice y2 m2 l2) hz3
 have T3:=aG (u0:=.bool bb) (u1:=.slice y1 m1 l1) (u2:=.slice y2 m2 l2) hz3
 have T4:=aF (u0:=.bool bb) (u1:=.slice y1 m1 l1) (u2:=.slice y2 m2 l2) (ah HG1.out hb2) (Nat.le_refl w.heap.size)
 have HE:=ac (And.intro T2 T4)
 obtain⟨p0,p1,p2⟩:=tri T3
 have hf:=aE hz3
 obtain⟨m0,m1',m2'⟩:=tri hz3
 clear T1 T2 T3 T4 hz3 hb2 A1 r1 d0 d1' d2' d3 d4 d5
 go_wp2
 clear hf m0 m1' m2'
 generalize ((t2.setCell ⟨w.heap.size,0,none⟩ (.bool bb)).setCell ⟨w.heap.size,1,none⟩ (.slice y1 m1 l1)).setCell ⟨w.heap.size,2,none⟩ (.slice y2 m2 l2)=w5 at *
 refine bodyPost_ret (v:=.agg #[.bool bb,.slice y1 m1 l1,.slice y2 m2 l2]) (by simp [results,Tryz.results24,go_sem,p0,p1,p2]) rfl ?_
 exact⟨⟨_,_,_,_,_,_,_,rfl,HE.out.1⟩,HE.out.2⟩

theorem ln (zq:Int)(dq:Nat)(ga gb:Nat)(b1 b2:Bool)(v1 v2 v3 v4:Value)(x1 d1 x2 d2:Nat)(w:World)(hP:w.heap[ga]?=some (.cells #[.bool b1,v1,v2] 27))(hQ:w.heap[gb]?=some (.cells #[.bool b2,v3,v4] 27))(hA:Qn w v1 v2 x1 d1)(hB:Qn w v3 v4 x2 d2)(_:True)
  (hK:∀W,Below w.heap.size w W→Calls Tryz.prog 29 #[.agg #[.bool b1,v1,v2],.agg #[.bool b2,v3,v4]] W (aD W zq dq)) :
  Calls Tryz.prog 28 #[.pointer (some ⟨ga,0,none⟩),.pointer (some ⟨gb,0,none⟩)] w (aD w zq dq):=by
 obtain⟨a1,n1,k1,rfl⟩:=hA.1.form
 obtain⟨a2,n2,k2,rfl⟩:=hA.2.1.form
 obtain⟨a3,n3,k3,rfl⟩:=hB.1.form
 obtain⟨a4,n4,k4,rfl⟩:=hB.2.1.form
 obtain⟨w0,hw0,hb0,h0⟩:=an w (.cells #[.bool false,.slice none 0 0,.slice none 0 0] 27)
 obtain⟨u0,hu0,hbu,hL⟩:=an w0 (.cells #[.bool b1,.slice a1 n1 k1,.slice a2 n2 k2,.bool b2,.slice a3 n3 k3,.slice a4 n4 k4] 27)
 have g0:=ah hb0 hbu
 have ME:=f7 w0.heap.size b1 b2 _ _ _ _ x1 d1 x2 d2 u0 (hA.below g0) (hB.below g0) hL
 have AN:=ac (fun (W:World) (hg:Below u0.heap.size u0 W)=>hK W (ah g0 hg))
 obtain⟨c0,c1,c2⟩:=tri (ae hb0 hP)
 obtain⟨c3,c4,c5⟩:=tri (ae hb0 hQ)
 have HP:=ac (ae g0 hP)
 have HQ:=ac (ae g0 hQ)
 have H0:=ac (ae hbu h0)
 have HG0:=ac g0
 clear hA hB hP hQ hb0 h0 hbu hL g0 hK
 go_enter Tryz.func28,Tryz.ntmps28
 go_wp2_with fail
 refine ME.mono ?_
 rintro e t1 ⟨rfl,hb1⟩
 have A1:=AN.out t1 hb1
 have HG1:=ac (ah HG0.out hb1)
 obtain⟨d0,d1',d2'⟩:=tri (ae hb1 HP.out)
 obtain⟨d3,d4,d5⟩:=tri (ae hb1 HQ.out)
 have H01:=ac (ae hb1 H0.out)
 clear c0 c1 c2 c3 c4 c5 ME AN hb1
 go_wp2_with fail
 refine A1.mono ?_
 rintro e t2 ⟨⟨bb,y1,m1,l1,y2,m2,l2,rfl,r1⟩,hb2⟩
 have hz3:=ae hb2 H01.out
 have T1:=r1.base HG1.out.size
 have T2:=T1.tri (u0:=.bool bb) (u1:=.slice y1 m1 l1) (u2:=.slice y2 m2 l2) hz3
 have T3:=aG (u0:=.bool bb) (u1:=.slice y1 m1 l1) (u2:=.slice y2 m2 l2) hz3
 have T4:=aF (u0:=.bool bb) (u1:=.slice y1 m1 l1) (u2:=.slice y2 m2 l2) (ah HG1.out hb2) (Nat.le_refl w.heap.size)
 have HE:=ac (And.intro T2 T4)
 obtain⟨p0,p1,p2⟩:=tri T3
 have hf:=aE hz3
 obtain⟨m0,m1',m2'⟩:=tri hz3
 clear T1 T2 T3 T4 hz3 hb2 A1 r1 d0 d1' d2' d3 d4 d5
 go_wp2
 clear hf m0 m1' m2'
 generalize ((t2.setCell ⟨w.heap.size,0,none⟩ (.bool bb)).setCell ⟨w.heap.size,1,none⟩ (.slice y1 m1 l1)).setCell ⟨w.heap.size,2,none⟩ (.slice y2 m2 l2)=w5 at *
 refine bodyPost_ret (v:=.agg #[.bool bb,.slice y1 m1 l1,.slice y2 m2 l2]) (by simp [results,Tryz.results28,go_sem,p0,p1,p2]) rfl ?_
 exact⟨⟨_,_,_,_,_,_,_,rfl,HE.out.1⟩,HE.out.2⟩

theorem mZ (zq:Int)(dq:Nat)(ga gb:Nat)(b1 b2:Bool)(v1 v2 v3 v4:Value)(x1 d1 x2 d2:Nat)(w:World)(hP:w.heap[ga]?=some (.cells #[.bool b1,v1,v2] 27))(hQ:w.heap[gb]?=some (.cells #[.bool b2,v3,v4] 27))(hA:Qn w v1 v2 x1 d1)(hB:Qn w v3 v4 x2 d2)(hx2:x2≠0)
  (hK:∀W,Below w.heap.size w W→Calls Tryz.prog 29 #[.agg #[.bool b1,v1,v2],.agg #[.bool b2,v4,v3]] W (aD W zq dq)) :
  Calls Tryz.prog 30 #[.pointer (some ⟨gb,0,none⟩),.pointer (some ⟨ga,0,none⟩)] w (aD w zq dq):=by
 obtain⟨a1,n1,k1,rfl⟩:=hA.1.form
 obtain⟨a2,n2,k2,rfl⟩:=hA.2.1.form
 obtain⟨a3,n3,k3,rfl⟩:=hB.1.form
 obtain⟨a4,n4,k4,rfl⟩:=hB.2.1.form
 obtain⟨w0,hw0,hb0,h0⟩:=an w (.cells #[.bool false,.slice none 0 0,.slice none 0 0] 27)
 obtain⟨w1,hw1,hb1,h1⟩:=an w0 (.cells #[.bool b2,.slice a4 n4 k4,.slice a3 n3 k3] 27)
 obtain⟨u0,hu0,hbu,hL⟩:=an w1 (.cells #[.bool b1,.slice a1 n1 k1,.slice a2 n2 k2,.bool b2,.slice a3 n3 k3,.slice a4 n4 k4,.bool b2,.slice a4 n4 k4,.slice a3 n3 k3] 27)
 have gw:=ah hb0 hb1
 have g0:=ah gw hbu
 have ME:=oA w1.heap.size b1 b2 b2 _ _ _ _ _ _ x1 d1 x2 d2 d2 x2 u0 (hA.below g0) (hB.below g0) ⟨(hB.below g0).2.1,(hB.below g0).1,hx2⟩ hL
 have AN:=ac (fun (W:World) (hg:Below u0.heap.size u0 W)=>hK W (ah g0 hg))
 obtain⟨c0,c1,c2⟩:=tri (ae hb0 hQ)
 obtain⟨c3,c4,c5⟩:=tri (ae gw hQ)
 obtain⟨c6,c7,c8⟩:=tri (ae gw hP)
 obtain⟨f0,f1,f2⟩:=tri h1
 have HP:=ac (ae g0 hP)
 have HU:=ac (ae hbu h1)
 have H0:=ac (ae hbu (ae hb1 h0))
 have HG0:=ac g0
 clear hA hB hP hQ hb0 hb1 h0 h1 hbu hL g0 gw hK
 go_enter Tryz.func30,Tryz.ntmps30
 go_wp2_with fail
 refine ME.mono ?_
 rintro e t1 ⟨rfl,hb1⟩
 have A1:=AN.out t1 hb1
 have HG1:=ac (ah HG0.out hb1)
 obtain⟨d0,d1',d2'⟩:=tri (ae hb1 HP.out)
 obtain⟨d3,d4,d5⟩:=tri (ae hb1 HU.out)
 have H01:=ac (ae hb1 H0.out)
 clear c0 c1 c2 c3 c4 c5 c6 c7 c8 f0 f1 f2 ME AN hb1
 go_wp2_with fail
 refine A1.mono ?_
 rintro e t2 ⟨⟨bb,y1,m1,l1,y2,m2,l2,rfl,r1⟩,hb2⟩
 have hz3:=ae hb2 H01.out
 have T1:=r1.base HG1.out.size
 have T2:=T1.tri (u0:=.bool bb) (u1:=.slice y1 m1 l1) (u2:=.slice y2 m2 l2) hz3
 have T3:=aG (u0:=.bool bb) (u1:=.slice y1 m1 l1) (u2:=.slice y2 m2 l2) hz3
 have T4:=aF (u0:=.bool bb) (u1:=.slice y1 m1 l1) (u2:=.slice y2 m2 l2) (ah HG1.out hb2) (Nat.le_refl w.heap.size)
 have HE:=ac (And.intro T2 T4)
 obtain⟨p0,p1,p2⟩:=tri T3
 have hf:=aE hz3
 obtain⟨m0,m1',m2'⟩:=tri hz3
 clear T1 T2 T3 T4 hz3 hb2 A1 r1 d0 d1' d2' d3 d4 d5
 go_wp2
 clear hf m0 m1' m2'
 generalize ((t2.setCell ⟨w.heap.size,0,none⟩ (.bool bb)).setCell ⟨w.heap.size,1,none⟩ (.slice y1 m1 l1)).setCell ⟨w.heap.size,2,none⟩ (.slice y2 m2 l2)=w5 at *
 refine bodyPost_ret (v:=.agg #[.bool bb,.slice y1 m1 l1,.slice y2 m2 l2]) (by simp [results,Tryz.results30,go_sem,p0,p1,p2]) rfl ?_
 exact⟨⟨_,_,_,_,_,_,_,rfl,HE.out.1⟩,HE.out.2⟩

theorem o9 (zq:Int)(dq:Nat)(b1 b2:Bool)(v1 v2 v3 v4:Value)(x1 d1 x2 d2:Nat)(w:World)(hA:Qn w v1 v2 x1 d1)(hB:Qn w v3 v4 x2 d2)(hx2:True)
  (hK:∀W,Below w.heap.size w W→Calls Tryz.prog 26 #[.agg #[.bool b1,v1,v2],.agg #[.bool b2,v3,v4]] W (aD W zq dq)) :
  Calls Tryz.prog 6 #[.agg #[.bool b1,v1,v2],.agg #[.bool b2,v3,v4]] w (dz w zq dq):=by
 have hmf:∀(fn:Fn) (first cap:Array Value) (w:World),(Instr.makeFunc fn first cap).run Tryz.prog w=.ok (.func fn first cap) w:=fun _ _ _ _=>rfl
 obtain⟨a1,n1,k1,rfl⟩:=hA.1.form
 obtain⟨a2,n2,k2,rfl⟩:=hA.2.1.form
 obtain⟨a3,n3,k3,rfl⟩:=hB.1.form
 obtain⟨a4,n4,k4,rfl⟩:=hB.2.1.form
 obtain⟨w0,hw0,hb0,h0,h1,h2⟩:=aZ w (.cells #[.bool b1,.slice a1 n1 k1,.slice a2 n2 k2] 27) (.cells #[.bool b2,.slice a3 n3 k3,.slice a4 n4 k4] 27) (.cells #[.bool false,.slice none 0 0,.slice none 0 0] 27)
 have FA:=qD ⟨w.heap.size,0,none⟩ ⟨w.heap.size+1,0,none⟩ w0 (fun W bb x y=>TR W w.heap.size bb x y zq dq)
  (fun W g k u t cs bb x y hg ht h=>h.offT hg (by rcases ht with rfl|rfl <;> decide))
  (fun W hg=>(pc zq dq w.heap.size (w.heap.size+1) b1 b2 _ _ _ _ x1 d1 x2 d2 W (ae hg h0) (ae hg h1) ((hA.below hb0).below hg) ((hB.below hb0).below hg) hx2 (fun W' hg'=>hK W' (ah hb0 (ah hg hg')))).mono (fun e w' ⟨⟨bb,a1,n1,k1,a2,n2,k2,he,hr⟩,hb⟩=>⟨⟨bb,a1,n1,k1,a2,n2,k2,he,hr.base (Nat.le_trans hb0.size hg.size)⟩,hb⟩))
 have H1:=ac h2
 have HB0:=ac hb0
 clear hA hB h0 h1 h2 hb0 hK hx2
 go_enter Tryz.func6,Tryz.ntmps6
 go_wp2_with fail
 refine FA.mono ?_
 rintro e t2 ⟨⟨bb,y1,m1,l1,y2,m2,l2,rfl,r1⟩,hb2⟩
 have hz3:=ae hb2 H1.out
 have T2:=TR.tri (u0:=.bool bb) (u1:=.slice y1 m1 l1) (u2:=.slice y2 m2 l2) r1 hz3
 have T3:=aG (u0:=.bool bb) (u1:=.slice y1 m1 l1) (u2:=.slice y2 m2 l2) hz3
 have T4:=aF (u0:=.bool bb) (u1:=.slice y1 m1 l1) (u2:=.slice y2 m2 l2) (HB0.out.trans (hb2.mono HB0.out.size)) (show w.heap.size≤w.heap.size+2 by omega)
 have HE:=ac (And.intro T2 T4)
 obtain⟨p0,p1,p2⟩:=tri T3
 have hf:=aE hz3
 obtain⟨m0,m1',m2'⟩:=tri hz3
 clear T2 T3 T4 hz3 hb2 FA r1
 go_wp2
 clear hf m0 m1' m2'
 generalize ((t2.setCell ⟨w.heap.size+2,0,none⟩ (.bool bb)).setCell ⟨w.heap.size+2,1,none⟩ (.slice y1 m1 l1)).setCell ⟨w.heap.size+2,2,none⟩ (.slice y2 m2 l2)=w5 at *
 refine bodyPost_ret (v:=.tuple #[.agg #[.bool bb,.slice y1 m1 l1,.slice y2 m2 l2],.int .i64 0]) (by simp [results,Tryz.results6,go_sem,p0,p1,p2]) rfl ?_
 exact⟨⟨_,_,_,_,_,_,_,rfl,HE.out.1⟩,HE.out.2⟩

theorem mz (zq:Int)(dq:Nat)(b1 b2:Bool)(v1 v2 v3 v4:Value)(x1 d1 x2 d2:Nat)(w:World)(hA:Qn w v1 v2 x1 d1)(hB:Qn w v3 v4 x2 d2)(hx2:True)
  (hK:∀W,Below w.heap.size w W→Calls Tryz.prog 29 #[.agg #[.bool b1,v1,v2],.agg #[.bool b2,v3,v4]] W (aD W zq dq)) :
  Calls Tryz.prog 8 #[.agg #[.bool b1,v1,v2],.agg #[.bool b2,v3,v4]] w (dz w zq dq):=by
 have hmf:∀(fn:Fn) (first cap:Array Value) (w:World),(Instr.makeFunc fn first cap).run Tryz.prog w=.ok (.func fn first cap) w:=fun _ _ _ _=>rfl
 obtain⟨a1,n1,k1,rfl⟩:=hA.1.form
 obtain⟨a2,n2,k2,rfl⟩:=hA.2.1.form
 obtain⟨a3,n3,k3,rfl⟩:=hB.1.form
 obtain⟨a4,n4,k4,rfl⟩:=hB.2.1.form
 obtain⟨w0,hw0,hb0,h0,h1,h2⟩:=aZ w (.cells #[.bool b1,.slice a1 n1 k1,.slice a2 n2 k2] 27) (.cells #[.bool b2,.slice a3 n3 k3,.slice a4 n4 k4] 27) (.cells #[.bool false,.slice none 0 0,.slice none 0 0] 27)
 have FA:=nw ⟨w.heap.size,0,none⟩ ⟨w.heap.size+1,0,none⟩ w0 (fun W bb x y=>TR W w.heap.size bb x y zq dq)
  (fun W g k u t cs bb x y hg ht h=>h.offT hg (by rcases ht with rfl|rfl <;> decide))
  (fun W hg=>(ln zq dq w.heap.size (w.heap.size+1) b1 b2 _ _ _ _ x1 d1 x2 d2 W (ae hg h0) (ae hg h1) ((hA.below hb0).below hg) ((hB.below hb0).below hg) hx2 (fun W' hg'=>hK W' (ah hb0 (ah hg hg')))).mono (fun e w' ⟨⟨bb,a1,n1,k1,a2,n2,k2,he,hr⟩,hb⟩=>⟨⟨bb,a1,n1,k1,a2,n2,k2,he,hr.base (Nat.le_trans hb0.size hg.size)⟩,hb⟩))
 have H1:=ac h2
 have HB0:=ac hb0
 clear hA hB h0 h1 h2 hb0 hK hx2
 go_enter Tryz.func8,Tryz.ntmps8
 go_wp2_with fail
 refine FA.mono ?_
 rintro e t2 ⟨⟨bb,y1,m1,l1,y2,m2,l2,rfl,r1⟩,hb2⟩
 have hz3:=ae hb2 H1.out
 have T2:=TR.tri (u0:=.bool bb) (u1:=.slice y1 m1 l1) (u2:=.slice y2 m2 l2) r1 hz3
 have T3:=aG (u0:=.bool bb) (u1:=.slice y1 m1 l1) (u2:=.slice y2 m2 l2) hz3
 have T4:=aF (u0:=.bool bb) (u1:=.slice y1 m1 l1) (u2:=.slice y2 m2 l2) (HB0.out.trans (hb2.mono HB0.out.size)) (show w.heap.size≤w.heap.size+2 by omega)
 have HE:=ac (And.intro T2 T4)
 obtain⟨p0,p1,p2⟩:=tri T3
 have hf:=aE hz3
 obtain⟨m0,m1',m2'⟩:=tri hz3
 clear T2 T3 T4 hz3 hb2 FA r1
 go_wp2
 clear hf m0 m1' m2'
 generalize ((t2.setCell ⟨w.heap.size+2,0,none⟩ (.bool bb)).setCell ⟨w.heap.size+2,1,none⟩ (.slice y1 m1 l1)).setCell ⟨w.heap.size+2,2,none⟩ (.slice y2 m2 l2)=w5 at *
 refine bodyPost_ret (v:=.tuple #[.agg #[.bool bb,.slice y1 m1 l1,.slice y2 m2 l2],.int .i64 0]) (by simp [results,Tryz.results8,go_sem,p0,p1,p2]) rfl ?_
 exact⟨⟨_,_,_,_,_,_,_,rfl,HE.out.1⟩,HE.out.2⟩

theorem pZ (zq:Int)(dq:Nat)(b1 b2:Bool)(v1 v2 v3 v4:Value)(x1 d1 x2 d2:Nat)(w:World)(hA:Qn w v1 v2 x1 d1)(hB:Qn w v3 v4 x2 d2)(hx2:(x2≠0))
  (hK:∀W,Below w.heap.size w W→Calls Tryz.prog 29 #[.agg #[.bool b1,v1,v2],.agg #[.bool b2,v4,v3]] W (aD W zq dq)) :
  Calls Tryz.prog 9 #[.agg #[.bool b1,v1,v2],.agg #[.bool b2,v3,v4]] w (dz w zq dq):=by
 have hmf:∀(fn:Fn) (first cap:Array Value) (w:World),(Instr.makeFunc fn first cap).run Tryz.prog w=.ok (.func fn first cap) w:=fun _ _ _ _=>rfl
 obtain⟨a1,n1,k1,rfl⟩:=hA.1.form
 obtain⟨a2,n2,k2,rfl⟩:=hA.2.1.form
 obtain⟨a3,n3,k3,rfl⟩:=hB.1.form
 obtain⟨a4,n4,k4,rfl⟩:=hB.2.1.form
 obtain⟨w0,hw0,hb0,h0,h1,h2⟩:=aZ w (.cells #[.bool b1,.slice a1 n1 k1,.slice a2 n2 k2] 27) (.cells #[.bool b2,.slice a3 n3 k3,.slice a4 n4 k4] 27) (.cells #[.bool false,.slice none 0 0,.slice none 0 0] 27)
 have FA:=qX ⟨w.heap.size+1,0,none⟩ ⟨w.heap.size,0,none⟩ w0 (fun W bb x y=>TR W w.heap.size bb x y zq dq)
  (fun W g k u t cs bb x y hg ht h=>h.offT hg (by rcases ht with rfl|rfl <;> decide))
  (fun W hg=>(mZ zq dq w.heap.size (w.heap.size+1) b1 b2 _ _ _ _ x1 d1 x2 d2 W (ae hg h0) (ae hg h1) ((hA.below hb0).below hg) ((hB.below hb0).below hg) hx2 (fun W' hg'=>hK W' (ah hb0 (ah hg hg')))).mono (fun e w' ⟨⟨bb,a1,n1,k1,a2,n2,k2,he,hr⟩,hb⟩=>⟨⟨bb,a1,n1,k1,a2,n2,k2,he,hr.base (Nat.le_trans hb0.size hg.size)⟩,hb⟩))
 have H1:=ac h2
 have HB0:=ac hb0
 clear hA hB h0 h1 h2 hb0 hK hx2
 go_enter Tryz.func9,Tryz.ntmps9
 go_wp2_with fail
 refine FA.mono ?_
 rintro e t2 ⟨⟨bb,y1,m1,l1,y2,m2,l2,rfl,r1⟩,hb2⟩
 have hz3:=ae hb2 H1.out
 have T2:=TR.tri (u0:=.bool bb) (u1:=.slice y1 m1 l1) (u2:=.slice y2 m2 l2) r1 hz3
 have T3:=aG (u0:=.bool bb) (u1:=.slice y1 m1 l1) (u2:=.slice y2 m2 l2) hz3
 have T4:=aF (u0:=.bool bb) (u1:=.slice y1 m1 l1) (u2:=.slice y2 m2 l2) (HB0.out.trans (hb2.mono HB0.out.size)) (show w.heap.size≤w.heap.size+2 by omega)
 have HE:=ac (And.intro T2 T4)
 obtain⟨p0,p1,p2⟩:=tri T3
 have hf:=aE hz3
 obtain⟨m0,m1',m2'⟩:=tri hz3
 clear T2 T3 T4 hz3 hb2 FA r1
 go_wp2
 clear hf m0 m1' m2'
 generalize ((t2.setCell ⟨w.heap.size+2,0,none⟩ (.bool bb)).setCell ⟨w.heap.size+2,1,none⟩ (.slice y1 m1 l1)).setCell ⟨w.heap.size+2,2,none⟩ (.slice y2 m2 l2)=w5 at *
 refine bodyPost_ret (v:=.tuple #[.agg #[.bool bb,.slice y1 m1 l1,.slice y2 m2 l2],.int .i64 0]) (by simp [results,Tryz.results9,go_sem,p0,p1,p2]) rfl ?_
 exact⟨⟨_,_,_,_,_,_,_,rfl,HE.out.1⟩,HE.out.2⟩

def Qr (w:World)(b:Bool)(v1 v2:Value)(z:Int)(d M:Nat):Prop:=∃x,Qn w v1 v2 x d∧zz b x=z∧blen x≤M∧blen d≤M

theorem Qr.below {w w':World}{b:Bool}{v1 v2:Value}{z:Int}{d M:Nat}(h:Qr w b v1 v2 z d M)(hb:Below w.heap.size w w'):Qr w' b v1 v2 z d M:=by
 obtain⟨x,h1,h2⟩:=h
 exact⟨x,h1.below hb,h2⟩

theorem Qr.pos {w:World}{b:Bool}{v1 v2:Value}{z:Int}{d M:Nat}(h:Qr w b v1 v2 z d M):0<(d:Int):=by
 obtain⟨x,h1,_⟩:=h
 have:=h1.2.2
 omega

def eC (w:World)(P:Int→Nat→Prop)(M:Nat)(e:Ending)(w':World):Prop:=
 (∃(b:Bool) (a1:Option Addr) (n1 k1:Nat) (a2:Option Addr) (n2 k2:Nat) (z:Int) (d:Nat),e=.returned (.tuple #[.agg #[.bool b,.slice a1 n1 k1,.slice a2 n2 k2],.int .i64 0])∧Qr w' b (.slice a1 n1 k1) (.slice a2 n2 k2) z d M∧P z d)∧Below w.heap.size w w'

theorem fE {w w':World}{e:Ending}{z:Int}{d M:Nat}{P:Int→Nat→Prop}(h:dz w z d e w')(hd:d≠0)(h1:blen z.natAbs≤M)(h2:blen d≤M)(hM:M≤67108864)(hP:P z d):eC w P M e w':=by
 obtain⟨⟨b,a1,n1,k1,a2,n2,k2,rfl,hs,t1,mid,_,_,t2⟩,hb⟩:=h
 exact⟨⟨b,a1,n1,k1,a2,n2,k2,z,d,rfl,⟨z.natAbs,⟨t1.nn (by omega),t2.nn (by omega),hd⟩,by rw [hs];exact cV z,h1,h2⟩,hP⟩,hb⟩

theorem dk (b1 b2:Bool)(v1 v2 v3 v4:Value)(z1 z2:Int)(d1 d2 M1 M2:Nat)(w:World)(hA:Qr w b1 v1 v2 z1 d1 M1)(hB:Qr w b2 v3 v4 z2 d2 M2)(hT:Tab w)(hM:M1+M2≤60000000) :
  Calls Tryz.prog 6 #[.agg #[.bool b1,v1,v2],.agg #[.bool b2,v3,v4]] w (eC w (fun z d=>z*((d1:Int)*(d2:Int))=(z1*(d2:Int)+z2*(d1:Int))*(d:Int)) (M1+M2+1)):=by
 obtain⟨x1,q1,rfl,m1,n1⟩:=hA
 obtain⟨x2,q2,rfl,m2,n2⟩:=hB
 obtain⟨p1,p2,e1,e2,s,o1,o2,num,g,z,f,hN⟩:=pt b1 x1 d1 b2 x2 d2
 have hF:=jE hN q1.2.2 q2.2.2 m1 n1 m2 n2
 refine (o9 z (o1*f) b1 b2 v1 v2 v3 v4 x1 d1 x2 d2 w q1 q2 trivial (fun W hg=>kT hN v1 v2 v3 v4 W (q1.below hg) (q2.below hg) (hT.below hg) m1 n1 m2 n2 hM)).mono fun e w' h=>?_
 exact fE h hF.tdd hF.tbz (by have:=hF.tbd;omega) (by omega) hF.teq

theorem jH {x y:Nat}(hy:y≠0):y / Nat.gcd x y≠0:=fun h=>hy (by have:=Nat.div_mul_cancel (Nat.gcd_dvd_right x y);rw [h,Nat.zero_mul] at this;exact this.symm)

theorem fK (b1 b2:Bool)(v1 v2 v3 v4:Value)(z1 z2:Int)(d1 d2 M1 M2:Nat)(w:World)(hA:Qr w b1 v1 v2 z1 d1 M1)(hB:Qr w b2 v3 v4 z2 d2 M2)(hT:Tab w)(hM:M1+M2≤60000000) :
  Calls Tryz.prog 8 #[.agg #[.bool b1,v1,v2],.agg #[.bool b2,v3,v4]] w (eC w (fun z d=>z*((d1:Int)*(d2:Int))=z1*z2*(d:Int)) (M1+M2)):=by
 obtain⟨x1,q1,rfl,m1,n1⟩:=hA
 obtain⟨x2,q2,rfl,m2,n2⟩:=hB
 have hD:=Nat.mul_ne_zero q1.2.2 q2.2.2
 refine (mz _ _ b1 b2 v1 v2 v3 v4 x1 d1 x2 d2 w q1 q2 trivial (fun W hg=>iq b1 b2 v1 v2 v3 v4 x1 d1 x2 d2 M1 M2 W (q1.below hg) (q2.below hg) (hT.below hg) m1 n1 m2 n2 hM)).mono fun e w' h=>?_
 refine fE h (jH hD) (by rw [aM];exact Nat.le_trans (aH (Nat.div_le_self _ _)) (Nat.le_trans (bI _ _) (by omega))) (Nat.le_trans (aH (Nat.div_le_self _ _)) (Nat.le_trans (bI _ _) (by omega))) (by omega) ?_
 have h2:=fu (b1 != b2) (x1*x2) (d1*d2) _ (Nat.gcd_dvd_left _ _) (Nat.gcd_dvd_right _ _)
 rw [Int.natCast_mul] at h2
 rw [h2,lG]

theorem nD (b1 b2:Bool)(v1 v2 v3 v4:Value)(z1 z2:Int)(d1 d2 M1 M2:Nat)(w:World)(hA:Qr w b1 v1 v2 z1 d1 M1)(hB:Qr w b2 v3 v4 z2 d2 M2)(hT:Tab w)(hM:M1+M2≤60000000)(hz:z2≠0) :
  Calls Tryz.prog 9 #[.agg #[.bool b1,v1,v2],.agg #[.bool b2,v3,v4]] w (eC w (fun z d=>z*((d1:Int)*z2)=z1*(d2:Int)*(d:Int)) (M1+M2)):=by
 obtain⟨x1,q1,rfl,m1,n1⟩:=hA
 obtain⟨x2,q2,rfl,m2,n2⟩:=hB
 have hx2:x2≠0:=fun e=>hz (by rw [e];cases b2 <;> rfl)
 have hD:=Nat.mul_ne_zero q1.2.2 hx2
 refine (pZ _ _ b1 b2 v1 v2 v3 v4 x1 d1 x2 d2 w q1 q2 hx2 (fun W hg=>iq b1 b2 v1 v2 v4 v3 x1 d1 d2 x2 M1 M2 W (q1.below hg) ⟨(q2.below hg).2.1,(q2.below hg).1,hx2⟩ (hT.below hg) m1 n1 n2 m2 hM)).mono fun e w' h=>?_
 refine fE h (jH hD) (by rw [aM];exact Nat.le_trans (aH (Nat.div_le_self _ _)) (Nat.le_trans (bI _ _) (by omega))) (Nat.le_trans (aH (Nat.div_le_self _ _)) (Nat.le_trans (bI _ _) (by omega))) (by omega) ?_
 have h2:=fu (b1 != b2) (x1*d2) (d1*x2) _ (Nat.gcd_dvd_left _ _) (Nat.gcd_dvd_right _ _)
 generalize zz (b1 != b2) (x1*d2 / Nat.gcd (x1*d2) (d1*x2))=Z at *
 generalize ((d1*x2 / Nat.gcd (x1*d2) (d1*x2):Nat):Int)=E at *
 rw [Int.natCast_mul] at h2
 cases b1 <;> cases b2 <;> simp [zz] at h2 ⊢ <;> grind

theorem dA (b1 b2:Bool)(v1 v2 v3 v4:Value)(z1 z2:Int)(d1 d2 M1 M2:Nat)(w:World)(hA:Qr w b1 v1 v2 z1 d1 M1)(hB:Qr w b2 v3 v4 z2 d2 M2)(hT:Tab w)(hM:M1+M2≤60000000) :
  Calls Tryz.prog 10 #[.agg #[.bool b1,v1,v2],.agg #[.bool b2,v3,v4]] w fun e w'=>e=.returned (.tuple #[.int .i64 (aw (z1*(d2:Int)) (z2*(d1:Int))),.int .i64 0])∧Below w.heap.size w w':=by
 have hmf:∀(fn:Fn) (first cap:Array Value) (w:World),(Instr.makeFunc fn first cap).run Tryz.prog w=.ok (.func fn first cap) w:=fun _ _ _ _=>rfl
 obtain⟨x1,q1,rfl,m1,n1⟩:=hA
 obtain⟨x2,q2,rfl,m2,n2⟩:=hB
 obtain⟨a1,n1',k1,rfl⟩:=q1.1.form
 obtain⟨a2,n2',k2,rfl⟩:=q1.2.1.form
 obtain⟨a3,n3,k3,rfl⟩:=q2.1.form
 obtain⟨a4,n4,k4,rfl⟩:=q2.2.1.form
 obtain⟨w0,hw0,hb0,h0,h1⟩:=aY w (.cells #[.bool b1,.slice a1 n1' k1,.slice a2 n2' k2] 27) (.cells #[.bool b2,.slice a3 n3 k3,.slice a4 n4 k4] 27)
 have FA:=mJ ⟨w.heap.size,0,none⟩ ⟨w.heap.size+1,0,none⟩ (aw (zz b1 x1*(d2:Int)) (zz b2 x2*(d1:Int))) w0 (fun W hg=>by
  have hP:=ae hg h0
  have hQ:=ae hg h1
  obtain⟨u0,hu0,hbu,hL⟩:=an W (.cells #[.bool b1,.slice a1 n1' k1,.slice a2 n2' k2,.bool b2,.slice a3 n3 k3,.slice a4 n4 k4] 27)
  have gg:=ah hb0 (ah hg hbu)
  have ME:=f7 W.heap.size b1 b2 _ _ _ _ x1 d1 x2 d2 u0 (q1.below gg) (q2.below gg) hL
  have SG:=ac (fun (t:World) (h:Below u0.heap.size u0 t)=>nP b1 b2 _ _ _ _ x1 d1 x2 d2 M1 M2 t ((q1.below gg).below h) ((q2.below gg).below h) ((hT.below gg).below h) m1 n1 m2 n2 hM)
  obtain⟨c0,c1,c2⟩:=tri hP
  obtain⟨c3,c4,c5⟩:=tri hQ
  have HP:=ac (ae hbu hP)
  have HQ:=ac (ae hbu hQ)
  have HG:=ac hbu
  clear hP hQ hL hbu gg
  generalize aw (zz b1 x1*(d2:Int)) (zz b2 x2*(d1:Int))=s at *
  go_enter Tryz.func32,Tryz.ntmps32
  go_wp2_with fail
  refine ME.mono ?_
  rintro e t1 ⟨rfl,hb1⟩
  have S1:=SG.out t1 hb1
  obtain⟨d0,d1',d2'⟩:=tri (ae hb1 HP.out)
  obtain⟨d3,d4,d5⟩:=tri (ae hb1 HQ.out)
  have HG1:=ac (ah HG.out hb1)
  clear c0 c1 c2 c3 c4 c5 ME SG hb1
  go_wp2_with fail
  refine S1.mono ?_
  rintro e t2 ⟨rfl,hb2⟩
  have HG2:=ac (ah HG1.out hb2)
  clear S1 hb2
  go_wp2
  go_ret
  exact⟨rfl,HG2.out⟩)
 have HB0:=ac hb0
 clear q1 q2 h0 h1 hb0 hT
 generalize aw (zz b1 x1*(d2:Int)) (zz b2 x2*(d1:Int))=s at *
 go_enter Tryz.func10,Tryz.ntmps10
 go_wp2_with fail
 refine FA.mono ?_
 rintro e t2 ⟨rfl,hb2⟩
 have HE:=ac (HB0.out.trans (hb2.mono HB0.out.size))
 clear hb2 FA
 go_wp2
 go_ret2
 exact⟨rfl,HE.out⟩







theorem Num.zero_iff {w:World}{v:Value}{x:Nat}(h:Num w v x):∃ao n cap,v=.slice ao n cap∧((n:Int) == 0)=(x == 0):=by
 obtain⟨ds,A,hd,ht,rfl,_⟩:=h
 obtain⟨ao,cap,hv,_⟩:=A.form
 refine⟨ao,ds.length,cap,hv,?_⟩
 by_cases h0:ds=[]
 ·subst h0;rfl
 ·have h1:0<ds.length:=List.length_pos_iff.2 h0
  have h2:vb 4294967296 ds≠0:=fun e=>h0 (vb_tail_zero (by omega) ht e)
  have e1:((ds.length:Int) == 0)=false:=by rw [beq_eq_false_iff_ne];omega
  have e2:(vb 4294967296 ds == 0)=false:=by rw [beq_eq_false_iff_ne];exact h2
  rw [e1,e2]

theorem ct (v:Value)(x:Nat)(w:World)(h:Nn w v x):Calls Tryz.prog 49 #[v] w fun e w'=>(∃v',e=.returned v'∧Num w' v' x)∧Below w.heap.size w w':=by
 obtain⟨X,hA,rfl,fX⟩:=h
 exact qA v X w hA (by omega)

def mV (x1 d1 x2 d2 x3 d3:Nat)(w:World)(e:Ending)(w':World):Prop:=
 (e=.returned (.bool false)∨(e=.returned (.bool true)∧(d1≠0∧blen d1≤1048576∧blen x1≤1048576)∧(d2≠0∧blen d2≤1048576∧blen x2≤1048576)∧d3≠0∧blen d3≤1048576∧blen x3≤1048576))∧Below w.heap.size w w'

theorem pS (L:Nat)(b1 b2 b3:Bool)(u1 y1 u2 y2 u3 y3:Value)(x1 d1 x2 d2 x3 d3:Nat)(w:World)(q1:Nn w u1 x1)(q2:Nn w y1 d1)(q3:Nn w u2 x2)(q4:Nn w y2 d2)(q5:Nn w u3 x3)(q6:Nn w y3 d3)(hL:w.heap[L]?=some (.cells #[.bool b1,u1,y1,.bool b2,u2,y2,.bool b3,u3,y3] 27)) :
  Calls Tryz.prog 20 #[.slice (some ⟨L,0,none⟩) 3 3] w (mV x1 d1 x2 d2 x3 d3 w):=by
 obtain⟨a1,m1,n1,rfl⟩:=q1.form
 obtain⟨a2,m2,n2,rfl⟩:=q2.form
 obtain⟨a3,m3,n3,rfl⟩:=q3.form
 obtain⟨a4,m4,n4,rfl⟩:=q4.form
 obtain⟨a5',m5,n5',rfl⟩:=q5.form
 obtain⟨a6,m6,n6,rfl⟩:=q6.form
 have KC:=ac (fun (W:World) (hg:Below w.heap.size w W)=>show W.cell? ⟨L,0,none⟩=some (.bool b1)∧W.cell? ⟨L,1,none⟩=some (.slice a1 m1 n1)∧W.cell? ⟨L,2,none⟩=some (.slice a2 m2 n2)∧W.cell? ⟨L,3,none⟩=some (.bool b2)∧W.cell? ⟨L,4,none⟩=some (.slice a3 m3 n3)∧W.cell? ⟨L,5,none⟩=some (.slice a4 m4 n4)∧W.cell? ⟨L,6,none⟩=some (.bool b3)∧W.cell? ⟨L,7,none⟩=some (.slice a5' m5 n5')∧W.cell? ⟨L,8,none⟩=some (.slice a6 m6 n6) from by
  have h:=ae hg hL
  exact⟨by simp [World.cell?,h],by simp [World.cell?,h],by simp [World.cell?,h],by simp [World.cell?,h],by simp [World.cell?,h],by simp [World.cell?,h],by simp [World.cell?,h],by simp [World.cell?,h],by simp [World.cell?,h]⟩)
 have HX1:=ac q1
 have HD1:=ac q2
 have HX2:=ac q3
 have HD2:=ac q4
 have HX3:=ac q5
 have HD3:=ac q6
 have HW:=ac (Below.refl w.heap.size w)
 clear q1 q2 q3 q4 q5 q6 hL
 go_enter Tryz.func20,Tryz.ntmps20
 go_wp2
 refine wp_loop_rounds 4 ?_
 rw [rounds_succ]
 obtain⟨u,hu,hbu,hxu⟩:=an w (.cells #[.bool b1,.slice a1 m1 n1,.slice a2 m2 n2] 27)
 obtain⟨c0,c1,c2,c3,c4,c5,c6,c7,c8⟩:=KC.out w HW.out
 replace HW:=ac (ah HW.out hbu)
 have HU:=ac hxu
 obtain⟨e0,e1,e2⟩:=tri hxu
 have C:=ct _ d1 u (HD1.out.below HW.out)
 clear hbu hxu
 go_wp2_with fail
 refine C.mono ?_
 rintro e t1 ⟨⟨v5,rfl,hn⟩,hb⟩
 obtain⟨a5,n5,k5,rfl,hz⟩:=hn.zero_iff
 replace HW:=ac (ah HW.out hb)
 replace HU:=ac (ae hb HU.out)
 clear C hn hb e0 e1 e2 c0 c1 c2 c3 c4 c5 c6 c7 c8 hu
 by_cases h0:d1=0
 ·rw [show (d1 == 0)=true from by rw [beq_iff_eq];exact h0] at hz
  clear h0
  go_wp2
  go_ret
  exact⟨.inl rfl,HW.out⟩
 rw [show (d1 == 0)=false from by rw [beq_eq_false_iff_ne];exact h0] at hz
 have HN0:=ac h0
 obtain⟨e0,e1,e2⟩:=tri HU.out
 have C:=ct _ d1 t1 (HD1.out.below HW.out)
 clear h0
 go_wp2_with fail
 refine C.mono ?_
 rintro e t2 ⟨⟨v6,rfl,hn⟩,hb⟩
 have C:=dv v6 _ t2 hn
 replace HW:=ac (ah HW.out hb)
 replace HU:=ac (ae hb HU.out)
 obtain⟨ld,hld⟩:∃l,blen d1=l:=⟨_,rfl⟩
 rw [hld] at C
 have HLD:=ac hld
 clear hn hb e0 e1 e2 hz hld
 go_wp2_with fail
 refine C.mono ?_
 rintro e wn ⟨rfl,hw⟩;rw [hw];clear hw wn C
 by_cases h1:1048576<ld
 ·have i1:(1048576:Int)<(ld:Int):=by omega
  go_wp2
  go_ret
  exact⟨.inl rfl,HW.out⟩
 have i1:¬(1048576:Int)<(ld:Int):=by omega
 obtain⟨e0,e1,e2⟩:=tri HU.out
 have C:=ct _ x1 t2 (HX1.out.below HW.out)
 go_wp2_with fail
 refine C.mono ?_
 rintro e t3 ⟨⟨v7,rfl,hn⟩,hb⟩
 have C:=dv v7 _ t3 hn
 replace HW:=ac (ah HW.out hb)
 obtain⟨lx,hlx⟩:∃l,blen x1=l:=⟨_,rfl⟩
 rw [hlx] at C
 have HLX:=ac hlx
 clear hn hb e0 e1 e2 hlx HU i1
 go_wp2_with fail
 refine C.mono ?_
 rintro e wn ⟨rfl,hw⟩;rw [hw];clear hw wn C
 by_cases h2:1048576<lx
 ·have i2:(1048576:Int)<(lx:Int):=by omega
  go_wp2
  go_ret
  exact⟨.inl rfl,HW.out⟩
 have i2:¬(1048576:Int)<(lx:Int):=by omega
 have FA1:=ac (show d1≠0∧blen d1≤1048576∧blen x1≤1048576 from ⟨HN0.out,by rw [HLD.out];omega,by rw [HLX.out];omega⟩)
 clear h1 h2 HN0 HLD HLX
 go_wp2
 rw [rounds_succ]
 clear i2
 obtain⟨u,hu,hbu,hxu⟩:=an t3 (.cells #[.bool b2,.slice a3 m3 n3,.slice a4 m4 n4] 27)
 obtain⟨c0,c1,c2,c3,c4,c5,c6,c7,c8⟩:=KC.out t3 HW.out
 replace HW:=ac (ah HW.out hbu)
 have HU:=ac hxu
 obtain⟨e0,e1,e2⟩:=tri hxu
 have C:=ct _ d2 u (HD2.out.below HW.out)
 clear hbu hxu
 go_wp2_with fail
 refine C.mono ?_
 rintro e s1 ⟨⟨v5,rfl,hn⟩,hb⟩
 obtain⟨a5,n5,k5,rfl,hz⟩:=hn.zero_iff
 replace HW:=ac (ah HW.out hb)
 replace HU:=ac (ae hb HU.out)
 clear C hn hb e0 e1 e2 c0 c1 c2 c3 c4 c5 c6 c7 c8 hu
 by_cases h0:d2=0
 ·rw [show (d2 == 0)=true from by rw [beq_iff_eq];exact h0] at hz
  clear h0
  go_wp2
  go_ret
  exact⟨.inl rfl,HW.out⟩
 rw [show (d2 == 0)=false from by rw [beq_eq_false_iff_ne];exact h0] at hz
 have HN0:=ac h0
 obtain⟨e0,e1,e2⟩:=tri HU.out
 have C:=ct _ d2 s1 (HD2.out.below HW.out)
 clear h0
 go_wp2_with fail
 refine C.mono ?_
 rintro e s2 ⟨⟨v6,rfl,hn⟩,hb⟩
 have C:=dv v6 _ s2 hn
 replace HW:=ac (ah HW.out hb)
 replace HU:=ac (ae hb HU.out)
 obtain⟨ld,hld⟩:∃l,blen d2=l:=⟨_,rfl⟩
 rw [hld] at C
 have HLD:=ac hld
 clear hn hb e0 e1 e2 hz hld
 go_wp2_with fail
 refine C.mono ?_
 rintro e wn ⟨rfl,hw⟩;rw [hw];clear hw wn C
 by_cases h1:1048576<ld
 ·have i1:(1048576:Int)<(ld:Int):=by omega
  go_wp2
  go_ret
  exact⟨.inl rfl,HW.out⟩
 have i1:¬(1048576:Int)<(ld:Int):=by omega
 obtain⟨e0,e1,e2⟩:=tri HU.out
 have C:=ct _ x2 s2 (HX2.out.below HW.out)
 go_wp2_with fail
 refine C.mono ?_
 rintro e s3 ⟨⟨v7,rfl,hn⟩,hb⟩
 have C:=dv v7 _ s3 hn
 replace HW:=ac (ah HW.out hb)
 obtain⟨lx,hlx⟩:∃l,blen x2=l:=⟨_,rfl⟩
 rw [hlx] at C
 have HLX:=ac hlx
 clear hn hb e0 e1 e2 hlx HU i1
 go_wp2_with fail
 refine C.mono ?_
 rintro e wn ⟨rfl,hw⟩;rw [hw];clear hw wn C
 by_cases h2:1048576<lx
 ·have i2:(1048576:Int)<(lx:Int):=by omega
  go_wp2
  go_ret
  exact⟨.inl rfl,HW.out⟩
 have i2:¬(1048576:Int)<(lx:Int):=by omega
 have FA2:=ac (show d2≠0∧blen d2≤1048576∧blen x2≤1048576 from ⟨HN0.out,by rw [HLD.out];omega,by rw [HLX.out];omega⟩)
 clear h1 h2 HN0 HLD HLX
 go_wp2
 rw [rounds_succ]
 clear i2
 obtain⟨u,hu,hbu,hxu⟩:=an s3 (.cells #[.bool b3,.slice a5' m5 n5',.slice a6 m6 n6] 27)
 obtain⟨c0,c1,c2,c3,c4,c5,c6,c7,c8⟩:=KC.out s3 HW.out
 replace HW:=ac (ah HW.out hbu)
 have HU:=ac hxu
 obtain⟨e0,e1,e2⟩:=tri hxu
 have C:=ct _ d3 u (HD3.out.below HW.out)
 clear hbu hxu
 go_wp2_with fail
 refine C.mono ?_
 rintro e q1 ⟨⟨v5,rfl,hn⟩,hb⟩
 obtain⟨a5,n5,k5,rfl,hz⟩:=hn.zero_iff
 replace HW:=ac (ah HW.out hb)
 replace HU:=ac (ae hb HU.out)
 clear C hn hb e0 e1 e2 c0 c1 c2 c3 c4 c5 c6 c7 c8 hu
 by_cases h0:d3=0
 ·rw [show (d3 == 0)=true from by rw [beq_iff_eq];exact h0] at hz
  clear h0
  go_wp2
  go_ret
  exact⟨.inl rfl,HW.out⟩
 rw [show (d3 == 0)=false from by rw [beq_eq_false_iff_ne];exact h0] at hz
 have HN0:=ac h0
 obtain⟨e0,e1,e2⟩:=tri HU.out
 have C:=ct _ d3 q1 (HD3.out.below HW.out)
 clear h0
 go_wp2_with fail
 refine C.mono ?_
 rintro e q2 ⟨⟨v6,rfl,hn⟩,hb⟩
 have C:=dv v6 _ q2 hn
 replace HW:=ac (ah HW.out hb)
 replace HU:=ac (ae hb HU.out)
 obtain⟨ld,hld⟩:∃l,blen d3=l:=⟨_,rfl⟩
 rw [hld] at C
 have HLD:=ac hld
 clear hn hb e0 e1 e2 hz hld
 go_wp2_with fail
 refine C.mono ?_
 rintro e wn ⟨rfl,hw⟩;rw [hw];clear hw wn C
 by_cases h1:1048576<ld
 ·have i1:(1048576:Int)<(ld:Int):=by omega
  go_wp2
  go_ret
  exact⟨.inl rfl,HW.out⟩
 have i1:¬(1048576:Int)<(ld:Int):=by omega
 obtain⟨e0,e1,e2⟩:=tri HU.out
 have C:=ct _ x3 q2 (HX3.out.below HW.out)
 go_wp2_with fail
 refine C.mono ?_
 rintro e q3 ⟨⟨v7,rfl,hn⟩,hb⟩
 have C:=dv v7 _ q3 hn
 replace HW:=ac (ah HW.out hb)
 obtain⟨lx,hlx⟩:∃l,blen x3=l:=⟨_,rfl⟩
 rw [hlx] at C
 have HLX:=ac hlx
 clear hn hb e0 e1 e2 hlx HU i1
 go_wp2_with fail
 refine C.mono ?_
 rintro e wn ⟨rfl,hw⟩;rw [hw];clear hw wn C
 by_cases h2:1048576<lx
 ·have i2:(1048576:Int)<(lx:Int):=by omega
  go_wp2
  go_ret
  exact⟨.inl rfl,HW.out⟩
 have i2:¬(1048576:Int)<(lx:Int):=by omega
 have FA3:=ac (show d3≠0∧blen d3≤1048576∧blen x3≤1048576 from ⟨HN0.out,by rw [HLD.out];omega,by rw [HLX.out];omega⟩)
 clear h1 h2 HN0 HLD HLX
 go_wp2
 rw [rounds_succ]
 clear i2
 go_wp2
 go_ret
 exact⟨.inr ⟨rfl,FA1.out,FA2.out,FA3.out⟩,HW.out⟩



theorem Ans.cellAt5 {w:World}{base g cap:Nat}{zs:List Nat}(h:Ans w base (.slice (some ⟨g,0,none⟩) zs.length cap) zs):(zs.length≤cap∧cap≤9223372036854775807)∧(∀k,w.frozen? ⟨g,k,none⟩=false)∧∀k,k<zs.length→w.cell? ⟨g,k,none⟩=some (.int .u64 ((zs.getD k 0:Nat):Int)):=by
 rcases h.form with ⟨e,_⟩|⟨g',cap',e,_,_,h1,h2,h3,h4⟩
 ·cases e
 ·cases e
  exact⟨⟨h1,h2⟩,h3,h4⟩

theorem jZ {w:World}{h k:Nat}{cs:Array Value}{t:TypeId}(e:w.heap[h]?=some (.cells cs t))(u:Value):(w.setCell ⟨h,k,none⟩ u).heap[h]?=some (.cells (cs.setIfInBounds k u) t):=by
 have hlt:=lt_of_block e
 have h':w.heap[h]=.cells cs t:=by simpa [Array.getElem?_eq_getElem hlt] using e
 show (w.heap.modify h _)[h]?=_
 rw [Array.getElem?_eq_getElem (by simpa using hlt),Array.getElem_modify_self,h']
 rfl

theorem qm (h:15<(ByteArray.mk #[48,49,50,51,52,53,54,55,56,57,97,98,99,100,101,102,103,104,105,106,107,108,109,110,111,112,113,114,115,116,117,118,119,120,121,122]).size):(ByteArray.mk #[48,49,50,51,52,53,54,55,56,57,97,98,99,100,101,102,103,104,105,106,107,108,109,110,111,112,113,114,115,116,117,118,119,120,121,122])[15]=102:=rfl

theorem qM (h:15<(ByteArray.mk #[48,49,50,51,52,53,54,55,56,57,97,98,99,100,101,102,103,104,105,106,107,108,109,110,111,112,113,114,115,116,117,118,119,120,121,122]).size):(ByteArray.mk #[48,49,50,51,52,53,54,55,56,57,97,98,99,100,101,102,103,104,105,106,107,108,109,110,111,112,113,114,115,116,117,118,119,120,121,122])[15].toNat=102:=rfl

attribute [local go_sem] qm qM
end Go.Proofs.YtgnmgbbokcpppaaGreatDoor
namespace Go.Proofs.YtgnmgbbokcpppaaGreatDoor
open Go.RowKit
open Lm
attribute [local go_sem ↓] Go.wp_at_zero Go.wp_at_succ

theorem oR (b:Nat)(w:World)(h1:2≤b)(h2:b≤36):Calls Tryz.prog 105 #[.int .i64 b] w fun e w'=>e=.returned (.bool true)∧w'=w:=by
 have i0:(2:Int)≤(b:Int):=by omega
 have i1:(b:Int)≤36:=by omega
 have i2:decide ((b:Int)≤36)=true:=decide_eq_true i1
 go_enter Tryz.func105,Tryz.ntmps105
 go_wp2
 go_ret
 exact⟨rfl,rfl⟩

def aN (b v n:Nat):Prop:=1≤n∧v<b ^ n∧(n=1∨b ^ (n - 1)≤v)

theorem aN.unique {b v m n:Nat}(hb:2≤b)(h:aN b v m)(h':aN b v n):m=n:=by
 have key:∀ {m n:Nat},aN b v m→aN b v n→m≤n:=by
  intro m n h h'
  rcases h.2.2 with e|e
  ·have:=h'.1;omega
  ·have h1:=(Nat.pow_lt_pow_iff_right (show 1<b by omega)).1 (Nat.lt_of_le_of_lt e h'.2.1)
   omega
 exact Nat.le_antisymm (key h h') (key h' h)

theorem aN.few {b v n k:Nat}(hb:2≤b)(h:aN b v n)(hk:1≤k)(hv:v<2 ^ k):n≤k:=by
 rcases h.2.2 with e|e
 ·omega
 ·have h1:2 ^ (n - 1)≤b ^ (n - 1):=Nat.pow_le_pow_left hb _
  have h2:=(Nat.pow_lt_pow_iff_right (show 1<2 by omega)).1 (Nat.lt_of_le_of_lt (Nat.le_trans h1 e) hv)
  omega

def Cs (b v c n:Nat):Prop:=1≤n∧c=v / b ^ (n - 1)∧(n=1∨b ^ (n - 1)≤v)

theorem Cs.next {b v c n:Nat}(hb:2≤b)(h:Cs b v c n)(hc:b≤c):Cs b v (c / b) (n+1):=by
 obtain⟨h1,h2,_⟩:=h
 have e:b ^ (n+1 - 1)=b ^ (n - 1)*b:=by rw [←Nat.pow_succ];congr 1;omega
 have hp:0<b ^ (n - 1):=Nat.pow_pos (by omega)
 refine⟨by omega,by rw [e,←Nat.div_div_eq_div_mul,h2],.inr ?_⟩
 rw [e,Nat.mul_comm]
 exact (Nat.le_div_iff_mul_le hp).1 (by rw [←h2];exact hc)

theorem Cs.done {b v c n:Nat}(hb:2≤b)(h:Cs b v c n)(hc:c<b):aN b v n:=by
 obtain⟨h1,h2,h3⟩:=h
 have hp:0<b ^ (n - 1):=Nat.pow_pos (by omega)
 refine⟨h1,?_,h3⟩
 have e:b ^ n=b*b ^ (n - 1):=by rw [Nat.mul_comm,←Nat.pow_succ];congr 1;omega
 rw [e]
 exact (Nat.div_lt_iff_lt_mul hp).1 (by rw [←h2];exact hc)

theorem Cs.few {b v c n:Nat}(hb:2≤b)(h:Cs b v c n)(hv:v<18446744073709551616):n≤64:=by
 rcases h.2.2 with e|e
 ·omega
 ·have h1:2 ^ (n - 1)≤b ^ (n - 1):=Nat.pow_le_pow_left hb _
  have h2:=(Nat.pow_lt_pow_iff_right (show 1<2 by omega)).1 (Nat.lt_of_le_of_lt (Nat.le_trans h1 e) (show v<2 ^ 64 by omega))
  omega

theorem mI (v b:Nat)(w:World)(hb:2≤b)(hb2:b≤36)(hv:v<18446744073709551616) :
  Calls Tryz.prog 149 #[.int .u64 v,.int .u64 b] w fun e w'=>∃n:Nat,e=.returned (.int .i64 n)∧aN b v n∧w'=w:=by
 have hbz:((b:Int) == 0)=false:=by rw [beq_eq_false_iff_ne];omega
 go_enter Tryz.func149,Tryz.ntmps149
 go_wp2
 go_loop [0,5] (fun x y=>∃c n:Nat,x=.int .u64 c∧y=.int .i64 n∧c≤v∧Cs b v c n) (fun x _=>(intOf x).toNat)
 case atStart=>exact⟨v,1,rfl,rfl,Nat.le_refl _,Nat.le_refl _,by simp,.inl rfl⟩
 case round=>
  obtain⟨c,n,rfl,rfl,hcv,hcs⟩:=hrel
  have hn:=hcs.few hb hv
  have HC:=ac hcs
  by_cases hc:b≤c
  ·have i1:(b:Int)≤(c:Int):=by omega
   have hdl:c / b<c:=Nat.div_lt_self (by omega) (by omega)
   have hde:(c:Int) / (b:Int)=((c / b:Nat):Int):=by omega
   have HN:=ac (HC.out.next hb hc)
   generalize c / b=q at *
   clear hcs
   go_wp2
   go_round
   case rel=>exact⟨q,n+1,rfl,by go_num,by omega,HN.out⟩
   case measure=>simp [intOf];omega
  ·have i1:¬((b:Int)≤(c:Int)):=by omega
   clear hcs
   go_wp2
   go_ret
   exact⟨n,rfl,HC.out.done hb (by omega),rfl⟩

structure qp (b d p:Nat):Prop where
 pow:p=b ^ d
 fits:p<18446744073709551616
 most:18446744073709551616≤p*b
 some:1≤d
 few:d≤63

theorem kW (b:Nat)(w:World)(hb:2≤b)(hb2:b≤36) :
  Calls Tryz.prog 154 #[.int .i64 b] w fun e w'=>∃d p:Nat,e=.returned (.tuple #[.int .i64 d,.int .u64 p])∧qp b d p∧w'=w:=by
 have hbz:((b:Int) == 0)=false:=by rw [beq_eq_false_iff_ne];omega
 obtain⟨m,hm⟩:∃m,18446744073709551615 / b=m:=⟨_,rfl⟩
 have hmi:(18446744073709551615:Int) / (b:Int)=(m:Int):=by rw [←hm,Int.natCast_ediv];rfl
 have hm1:m*b≤18446744073709551615:=by rw [←hm];exact Nat.div_mul_le_self _ _
 have hm2:18446744073709551615<(m+1)*b:=by rw [←hm,Nat.mul_comm];exact Nat.lt_mul_div_succ _ (by omega)
 have hm3:1≤m:=by rw [←hm];exact (Nat.le_div_iff_mul_le (by omega)).2 (by omega)
 have HM:=ac (And.intro hm1 hm2)
 clear hm hm1 hm2
 go_enter Tryz.func154,Tryz.ntmps154
 go_wp2
 go_loop [2,3] (fun x y=>∃d p:Nat,x=.int .i64 d∧y=.int .u64 p∧p=b ^ d∧p<18446744073709551616∧d≤63) (fun x _=>64 - (intOf x).toNat)
 case atStart=>exact⟨0,1,rfl,rfl,by simp,by omega,by omega⟩
 case round=>
  obtain⟨d,p,rfl,rfl,hp,hpl,hd⟩:=hrel
  have HP:=ac hp
  by_cases hc:p≤m
  ·have i1:(p:Int)≤(m:Int):=by omega
   have hpb:p*b<18446744073709551616:=by
    have:=Nat.mul_le_mul_right b hc
    have:=HM.out.1
    omega
   have hpi:(p:Int)*(b:Int)=((p*b:Nat):Int):=by simp
   have hq:p*b=b ^ (d+1):=by rw [hp,Nat.pow_succ]
   have hd2:d+1≤63:=by
    have h1:2 ^ (d+1)≤b ^ (d+1):=Nat.pow_le_pow_left hb _
    have h2:=(Nat.pow_lt_pow_iff_right (show 1<2 by omega)).1 (Nat.lt_of_le_of_lt h1 (show b ^ (d+1)<2 ^ 64 by omega))
    omega
   have HQ:=ac hq
   generalize p*b=q at *
   clear hp hq
   go_wp2
   go_round
   case rel=>exact⟨d+1,q,by go_num,rfl,HQ.out,hpb,hd2⟩
   case measure=>simp [intOf];omega
  ·have i1:¬((p:Int)≤(m:Int)):=by omega
   clear hp
   go_wp2
   go_returns
   refine⟨d,p,rfl,⟨HP.out,hpl,?_,?_,hd⟩,rfl⟩
   ·have:=Nat.mul_le_mul_right b (show m+1≤p by omega)
    have:=HM.out.2
    omega
   ·rcases Nat.eq_zero_or_pos d with h|h
    ·have:=HP.out;rw [h] at this;simp at this;omega
    ·exact h

theorem Ans.front5 {w:World}{base g cap:Nat}{zs:List Nat}(h:Ans w base (.slice (some ⟨g,0,none⟩) zs.length cap) zs)(n:Nat)(hn:n≤zs.length):Ans w base (.slice (some ⟨g,0,none⟩) n cap) (zs.take n):=by
 refine⟨?_,fun z hz=>h.limbs z (List.mem_of_mem_take hz)⟩
 obtain⟨_,h2⟩:=h.own
 have e:(zs.take n).length=n:=by simp;omega
 refine⟨by simp,?_⟩
 rcases h2 with ⟨h1,_⟩|⟨g',cap',cur,hv,hg,hh,hnn,hcm,hs,ht⟩
 ·cases h1
 ·cases hv
  refine .inr ⟨g,cap,cur,by rw [e],hg,hh,by rw [e];omega,hcm,hs,?_⟩
  rw [e]
  have e2:cur.toList.take (n*1)=(cur.toList.take (zs.length*1)).take n:=by
   rw [List.take_take,Nat.mul_one,Nat.mul_one,Nat.min_eq_left hn]
  rw [e2,ht,List.map_take]

theorem ph (X out:List Nat)(j q:Nat)(h:out.take (j+1)=X.take (j+1)):(out.set j q).take j=X.take j:=by
 have e:(out.set j q).take j=out.take j:=by
  apply List.ext_getElem?
  intro n
  simp only [List.getElem?_take]
  split
  ·rw [List.getElem?_set_ne (by omega)]
  ·rfl
 rw [e]
 have h2:=congrArg (List.take j) h
 simpa [List.take_take,Nat.min_eq_left (Nat.le_succ j)] using h2

theorem nf (X out:List Nat)(j:Nat)(h:out.take (j+1)=X.take (j+1)):out.getD j 0=X.getD j 0:=by
 have h2:=congrArg (fun l=>l.getD j 0) h
 simpa [List.getD,List.getElem?_take] using h2

def fz (base x d:Nat)(w:World)(e:Ending)(w':World):Prop:=
 ∃v Y,e=.returned (.tuple #[v,.int .u64 ((x % d:Nat):Int)])∧Ans w' base v Y∧val Y=x / d∧Below base w w'

theorem nG (base g cap d:Nat)(X:List Nat)(w:World)(hA:Ans w base (.slice (some ⟨g,0,none⟩) X.length cap) X)(hd:d<18446744073709551616)(hd0:0<d) :
  Calls Tryz.prog 155 #[.slice (some ⟨g,0,none⟩) X.length cap,.int .u64 d] w (fz base (val X) d w):=by
 obtain⟨⟨hc1,hc2⟩,_,_⟩:=Ans.cellAt5 hA
 have hbg:base≤g:=(hA.own.lt g rfl).1
 have M1:=hA.limbs
 have HA:=ac hA
 clear hA
 go_enter Tryz.func155,Tryz.ntmps155
 go_wp2
 go_loopw [6,8] (fun c i wr=>∃(k r:Nat) (out:List Nat),k≤X.length∧i=.int .i64 ((k:Int) - 1)∧c=.int .u64 r∧r<d∧out.length=X.length∧Ans wr base (.slice (some ⟨g,0,none⟩) out.length cap) out∧Below base w wr ∧
   val (out.drop k)*d+r=val (X.drop k)∧out.take k=X.take k) (fun _ i _=>(intOf i+1).toNat)
 case atStart=>exact⟨X.length,0,X,Nat.le_refl _,by go_num,rfl,hd0,rfl,HA.out,Below.refl _ _,by simp [val],rfl⟩
 case round=>
  obtain⟨k,r,out,hk,rfl,rfl,hr,hlen,hans,hbl,hval,htk⟩:=hrel
  clear HA
  obtain⟨_,hfz,hcell⟩:=Ans.cellAt5 hans
  rcases Nat.eq_zero_or_pos k with rfl|hk0
  ·rw [List.drop_zero,List.drop_zero] at hval
   have hq:val out=val X / d:=by
    rw [←hval,Nat.mul_comm,Nat.mul_add_div hd0,Nat.div_eq_of_lt hr,Nat.add_zero]
   have hm:r=val X % d:=by
    rw [←hval,Nat.mul_comm,Nat.mul_add_mod,Nat.mod_eq_of_lt hr]
   have hrW:r<18446744073709551616:=by omega
   have HX:=ac hans
   have HL:=ac hbl
   have HQ:=ac (And.intro hq hm)
   rcases Nat.eq_zero_or_pos X.length with hx|hx
   ·obtain rfl:=List.eq_nil_of_length_eq_zero hx
    obtain rfl:=List.eq_nil_of_length_eq_zero hlen
    clear hans hbl hcell htk hval hq hm hfz
    go_wp2
    go_returns
    exact⟨_,[],by rw [←HQ.out.2];rfl,HX.out,HQ.out.1,HL.out⟩
   ·obtain⟨j,hj⟩:∃j,X.length=j+1:=⟨X.length - 1,by omega⟩
    have hji:(X.length:Int) - 1=(j:Int):=by omega
    have hck:=hcell j (by omega)
    have hlast:=val_take_next out j
    rw [show j+1=out.length by omega,List.take_length] at hlast
    have HF:=ac (HX.out.front5 j (by omega))
    have HT:=ac hlast
    have hjl:j<X.length:=by omega
    generalize out.getD j 0=o at *
    clear hans hbl hcell htk hval hq hm hlast hfz
    by_cases ho:o=0
    ·subst ho
     have hjc:j≤cap:=by omega
     go_wp2
     go_returns
     refine⟨_,out.take j,by rw [←HQ.out.2];rfl,HF.out,?_,HL.out⟩
     have:=HT.out;rw [Nat.mul_zero,Nat.add_zero] at this
     rw [←this];exact HQ.out.1
    ·have hoz:((o:Int) == 0)=false:=by rw [beq_eq_false_iff_ne];omega
     go_wp2
     go_returns
     refine⟨_,out,by rw [←HQ.out.2];rfl,?_,HQ.out.1,HL.out⟩
     have:=HX.out;rw [hlen] at this;exact this
  ·obtain⟨j,rfl⟩:∃j,k=j+1:=⟨k - 1,by omega⟩
   have hje:(((j+1:Nat):Int)) - 1=(j:Int):=by omega
   rw [hje]
   have hck:=hcell j (by omega)
   have hjl:j<X.length:=by omega
   have hst:=through_step X out d j r (by omega) hval hjl
   have hts:=ph X out j ((r*18446744073709551616+X.getD j 0) / d) htk
   rw [nf X out j htk] at hck
   have z1:=limb_lt M1 j
   have HV:=ac (And.intro hst hts)
   have HD:=js r (X.getD j 0) d wr hd hr z1
   have hql:=quo_lt r (X.getD j 0) d hr z1
   have hrl:(r*18446744073709551616+X.getD j 0) % d<d:=Nat.mod_lt _ hd0
   generalize (r*18446744073709551616+X.getD j 0) / d=qq at *
   generalize (r*18446744073709551616+X.getD j 0) % d=rr at *
   generalize X.getD j 0=x at *
   have HX:=ac hans
   have HL:=ac hbl
   have hi1:(0:Int)≤(j:Int):=by omega
   have hi2:(j:Int)<(X.length:Int):=by omega
   clear hst hts hval hcell hans hbl htk hfz hje M1
   go_wp2_with fail
   refine HD.mono ?_
   rintro e w2 ⟨rfl,hs⟩
   have HX2:=ac (HX.out.below (hs.below _))
   have HL2:=ac (HL.out.trans (hs.below _))
   obtain⟨_,hfz,hcell⟩:=Ans.cellAt5 HX2.out
   have hfr:=hfz j
   have hco:=hcell j (by omega)
   generalize out.getD j 0=o at *
   clear HD hs hck hfz hcell
   go_wp2
   go_roundw
   case rel=>
    exact⟨j,rr,out.set j qq,by omega,by go_num,rfl,hrl,by simp;omega,HX2.out.stored j qq hql,HL2.out.setCell hbg _,HV.out.1,HV.out.2⟩
   case measure=>simp [intOf]

theorem lk (base d:Nat)(w:World) :
  Calls Tryz.prog 155 #[.slice none 0 0,.int .u64 d] w (fz base 0 d w):=by
 go_enter Tryz.func155,Tryz.ntmps155
 go_wp2
 refine wp_loop_rounds 1 ?_
 rw [rounds_succ]
 go_wp2
 go_returns
 exact⟨_,[],by rw [Nat.zero_mod];rfl,Ans.nil _ _,by simp [val],Below.refl _ _⟩

theorem nZ (base d:Nat)(v:Value)(X:List Nat)(w:World)(hA:Ans w base v X)(hd:d<18446744073709551616)(hd0:0<d) :
  Calls Tryz.prog 155 #[v,.int .u64 d] w (fz base (val X) d w):=by
 rcases hA.form with ⟨rfl,rfl⟩|⟨g,cap,rfl,_⟩
 ·exact lk base d w
 ·exact nG base g cap d X w hA hd hd0

def bv (z:Nat):Value:=.int .u8 (z:Int)

def Byt (w:World)(b:Nat)(xs:List Nat):Prop:=w.heap[b]?=some (.cells (xs.map bv).toArray 5 (0,0))

theorem Byt.lt {w:World}{b:Nat}{xs:List Nat}(h:Byt w b xs):b<w.heap.size:=lt_of_block h

theorem Byt.cell {w:World}{b:Nat}{xs:List Nat}(h:Byt w b xs)(k:Nat)(hk:k<xs.length):w.cell? ⟨b,k,none⟩=some (.int .u8 ((xs.getD k 0:Nat):Int)):=by
 simp [World.cell?,show w.heap[b]?=_ from h,hk,bv,List.getD]

theorem Byt.free {w:World}{b:Nat}{xs:List Nat}(h:Byt w b xs)(k:Nat):w.frozen? ⟨b,k,none⟩=false:=by
 simp [World.frozen?,show w.heap[b]?=_ from h]

theorem Byt.set {w:World}{b:Nat}{xs:List Nat}(h:Byt w b xs)(k z:Nat):Byt (w.setCell ⟨b,k,none⟩ (.int .u8 (z:Int))) b (xs.set k z):=by
 have hlt:=h.lt
 have h':w.heap[b]=.cells (xs.map bv).toArray 5 (0,0):=by simpa [Array.getElem?_eq_getElem hlt] using (show w.heap[b]?=_ from h)
 show (w.heap.modify b _)[b]?=_
 rw [Array.getElem?_eq_getElem (by simpa using hlt),Array.getElem_modify_self,h']
 simp [List.map_set,bv]

theorem Byt.below {w w':World}{b B:Nat}{xs:List Nat}(h:Byt w b xs)(hb:Below B w w')(hB:b<B):Byt w' b xs:=by
 unfold Byt;rw [hb.block b hB];exact h

theorem Ans.apart5 {w:World}{base:Nat}{v:Value}{zs:List Nat}(h:Ans w base v zs)(g o:Nat)(u:Value)(hg:g<base):Ans (w.setCell ⟨g,o,none⟩ u) base v zs:=by
 refine⟨?_,h.limbs⟩
 obtain⟨h1,h2⟩:=h.own
 refine⟨h1,?_⟩
 rcases h2 with h2|⟨g',cap,cur,hv,hg',hh,r⟩
 ·exact .inl h2
 ·exact .inr ⟨g',cap,cur,hv,hg',by rw [Below.heap_setCell _ _ _ _ (show g'≠(⟨g,o,none⟩:Addr).block by show g'≠g;omega)];exact hh,r⟩

theorem Fr.low {gd:Nat}{w wr w2:World}(h:Fr gd w wr)(k:Below w.heap.size wr w2):Fr gd w w2:=
 ⟨k.os.trans h.os,k.tape.trans h.tape,k.output.trans h.output,Nat.le_trans h.size k.size,fun j h1 h2=>(k.block j h1).trans (h.block j h1 h2)⟩

structure bh (b x o n t:Nat)(D D':List Nat):Prop where
 len:D'.length=D.length
 digs:∀i,t≤i→i<n→D'.getD (o+i) 0=x / b ^ (n - 1 - i) % b
 same:∀k,k<o+t∨o+n≤k→D'.getD k 0=D.getD k 0

theorem bh.start (b x o n:Nat)(D:List Nat):bh b x o n n D D:=⟨rfl,fun i h1 h2=>by omega,fun _ _=>rfl⟩

theorem bh.set {b x o n t:Nat}{D D':List Nat}(h:bh b x o n (t+1) D D')(ht:t<n)(ho:o+n≤D.length):bh b x o n t D (D'.set (o+t) (x / b ^ (n - 1 - t) % b)):=by
 have hl:=h.len
 refine⟨by simp [h.len],fun i h1 h2=>?_,fun k hk=>?_⟩
 ·rw [List.getD,List.getElem?_set]
  by_cases e:i=t
  ·subst e;rw [if_pos rfl,if_pos (by omega)];rfl
  ·rw [if_neg (by omega)];exact h.digs i (by omega) h2
 ·rw [List.getD,List.getElem?_set,if_neg (by omega)]
  exact h.same k (by omega)

theorem iY (x b m d s:Nat)(hs:s<d):x / b ^ (m*d) % b ^ d / b ^ s % b=x / b ^ (m*d+s) % b:=by
 have e:b ^ d=b ^ s*b ^ (d - s):=by rw [←Nat.pow_add];congr 1;omega
 rw [e,Nat.mod_mul_right_div_self,Nat.div_div_eq_div_mul,←Nat.pow_add]
 have hd:b ∣ b ^ (d - s):=by
  obtain⟨k,hk⟩:∃k,d - s=k+1:=⟨d - s - 1,by omega⟩
  rw [hk,Nat.pow_succ];exact Nat.dvd_mul_left _ _
 rw [Nat.mod_mod_of_dvd _ hd]

def gP (b x o n gd:Nat)(D:List Nat)(w:World)(e:Ending)(w':World):Prop:=
 e=.returned (.tuple #[])∧∃D',Byt w' gd D'∧bh b x o n 0 D D'∧Fr gd w w'

theorem qc (gd o n cap b:Nat)(D:List Nat)(va:Value)(X:List Nat)(w:World)(hD:Byt w gd D)(ho:o+n≤D.length)(hn:n≤cap)(hcap:cap≤9223372036854775807)(hA:Arg w va X)(hl:X.length≤17592186044416)(hb:2≤b)(hb2:b≤36) :
  Calls Tryz.prog 133 #[.slice (some ⟨gd,o,none⟩) n cap,va,.int .i64 b] w (gP b (val X) o n gd D w):=by
 have HU:=kW b w hb hb2
 have HN:=dd va X w hA hl
 have hbz:((b:Int) == 0)=false:=by rw [beq_eq_false_iff_ne];omega
 have hgd:=hD.lt
 have HD:=ac hD
 have hX:=val_tr X
 generalize val X=x at *
 clear hA hD
 go_enter Tryz.func133,Tryz.ntmps133
 go_wp2_with fail
 refine HU.mono ?_
 rintro e wn ⟨d,p,rfl,hu,hw⟩;rw [hw];clear hw wn HU
 have hpf:=hu.fits
 have hp0:0<p:=by rw [hu.pow];exact Nat.pow_pos (by omega)
 have hd1:=hu.some
 have hd2:=hu.few
 have HP:=ac hu.pow
 clear hu
 go_wp2_with fail
 refine HN.mono ?_
 rintro e w1 ⟨⟨v1,rfl,A1⟩,hb1⟩
 have HA1:=ac A1
 have HB1:=ac hb1
 clear HN A1 hb1
 go_wp2
 go_loopw [1,8] (fun a t wr=>∃(m:Nat) (v:Value) (Y D':List Nat),v=a∧t=.int .i64 ((n:Int) - ((m*d:Nat):Int))∧(n:Int) - ((m*d:Nat):Int) > -64∧Ans wr w.heap.size v Y∧val Y=x / b ^ (m*d)∧Byt wr gd D'∧bh b x o n (n - m*d) D D'∧Fr gd w wr) (fun _ t _=>(intOf t).toNat)
 case atStart=>
  exact⟨0,v1,tr X,D,rfl,by simp,by omega,HA1.out,by simpa using hX,HD.out.below HB1.out hgd,by simpa using bh.start b x o n D,Fr.of_below HB1.out⟩
 case round=>
  obtain⟨m,v,Y,D',rfl,rfl,htb,hAns,hY,hByt,hW,hFr⟩:=hrel
  clear HA1 HB1
  by_cases hto:m*d<n
  ·obtain⟨T,hT1,hT2,hT3⟩:∃T:Nat,(n:Int) - ((m*d:Nat):Int)=(T:Int)∧n - m*d=T∧T≤n:=⟨n - m*d,by omega,rfl,by omega⟩
   rw [hT1]
   rw [hT2] at hW
   have hT0:(0:Int)<(T:Int):=by omega
   have HS:=nZ w.heap.size p v Y wr hAns hpf hp0
   rw [hY] at HS
   have HBy:=ac hByt
   have HWr:=ac hW
   have HFr:=ac hFr
   have HT:=ac (And.intro hT1 hT2)
   clear hAns hY hByt hW hFr hT1 hT2 htb hto
   go_wp2_with fail
   refine HS.mono ?_
   rintro e w2 ⟨v2,Y2,rfl,hA2,hY2,hb2'⟩
   have HA2:=ac hA2
   have HY2:=ac hY2
   have HBy2:=ac (HBy.out.below hb2' hgd)
   have HFr2:=ac (HFr.out.low hb2')
   have hrp:x / b ^ (m*d) % p<p:=Nat.mod_lt _ hp0
   obtain⟨r,hr⟩:∃r,x / b ^ (m*d) % p=r:=⟨_,rfl⟩
   rw [hr] at hrp
   rw [hr]
   have HR:=ac hr
   obtain⟨M,hM,hM2⟩:∃M:Nat,max ((T:Int) - (d:Int)) 0=(M:Int)∧M=T - d:=⟨T - d,by omega,rfl⟩
   clear HS hA2 hY2 hb2' hr HBy HFr
   go_wp2
   go_loopw [9,10] (fun lo i wr2=>∃(s L:Nat) (D2:List Nat),lo=.int .u64 L∧i=.int .i64 ((T:Int) - 1 - (s:Int))∧s≤d∧s≤T∧L=r / b ^ s∧Byt wr2 gd D2∧bh b x o n (T - s) D D2∧Fr gd w wr2∧Ans wr2 w.heap.size v2 Y2) (fun _ i _=>(intOf i+1).toNat)
   case atStart=>exact⟨0,r,D',rfl,by simp,by omega,by omega,by simp,HBy2.out,HWr.out,HFr2.out,HA2.out⟩
   case round=>
    obtain⟨s,L,D2,rfl,rfl,hs1,hs2,hL,hByt,hW,hFr,hAns⟩:=hrel
    clear HBy2 HFr2 HA2
    by_cases hc:s<d∧s<T
    ·obtain⟨j,hj1,hj2⟩:∃j:Nat,(T:Int) - 1 - (s:Int)=(j:Int)∧T - s=j+1:=⟨T - s - 1,by omega,by omega⟩
     rw [hj1]
     rw [hj2] at hW
     have hi:(M:Int)≤(j:Int):=by omega
     have hLr:L≤r:=by rw [hL];exact Nat.div_le_self _ _
     have hjn:j<n:=by have:=HT.out;omega
     have hdig:L % b=x / b ^ (n - 1 - j) % b:=by
      rw [hL,←HR.out,HP.out,iY x b m d s hc.1]
      congr 3
      have:=HT.out;omega
     have hq:L / b=r / b ^ (s+1):=by rw [hL,Nat.div_div_eq_div_mul,Nat.pow_succ]
     have hset:=hW.set hjn ho
     rw [←hdig] at hset
     have hg36:L % b<b:=Nat.mod_lt _ (by omega)
     have hqL:L / b≤L:=Nat.div_le_self _ _
     have em:(L:Int).tmod (b:Int)=((L % b:Nat):Int):=rfl
     have ed:(L:Int).tdiv (b:Int)=((L / b:Nat):Int):=rfl
     have HQ:=ac hq
     have HW2:=ac hset
     generalize L % b=g at *
     generalize L / b=q at *
     have eg:(g:Int) % 256=(g:Int):=by omega
     have hlen:=hW.len
     have hco:=hByt.cell (o+j) (by omega)
     have hfr:=hByt.free (o+j)
     generalize D2.getD (o+j) 0=old at *
     have HBy:=ac hByt
     have HFr:=ac hFr
     have HAn:=ac hAns
     have hj0:(0:Int)≤(j:Int):=by omega
     have hjn':(j:Int)<(n:Int):=by omega
     have hj3:T - (s+1)=j:=by omega
     have hj4:(j:Int) - 1=(T:Int) - 1 - ((s+1:Nat):Int):=by omega
     have HJ:=ac (And.intro hj3 hj4)
     clear hL hByt hW hFr hAns hset hdig hq hj1 hj2 hj3 hj4
     go_wp2
     go_roundw
     case rel=>
      refine⟨s+1,q,D2.set (o+j) g,by go_num,by rw [HJ.out.2],by omega,by omega,HQ.out,HBy.out.set _ _,?_,HFr.out.setCell _ _,HAn.out.apart5 _ _ _ hgd⟩
      rw [HJ.out.1];exact HW2.out
     case measure=>simp [intOf]
    ·have hi:¬((M:Int)≤(T:Int) - 1 - (s:Int)):=by omega
     have hts:T - s=T - d:=by omega
     rw [hts] at hW
     have HW3:=ac hW
     have HBy:=ac hByt
     have HFr:=ac hFr
     have HAn:=ac hAns
     have he:(m+1)*d=m*d+d:=Nat.succ_mul m d
     have ht1:(n:Int) - (((m+1)*d:Nat):Int)=(T:Int) - (d:Int):=by have:=HT.out.1;omega
     have ht2:n - (m+1)*d=T - d:=by have:=HT.out.2;omega
     have hval:val Y2=x / b ^ ((m+1)*d):=by rw [HY2.out,HP.out,Nat.div_div_eq_div_mul,←Nat.pow_add,he]
     have HE:=ac (And.intro ht1 (And.intro ht2 hval))
     have hgt:(T:Int) - (d:Int) > -64:=by omega
     clear hL hByt hW hFr hAns hval ht1 ht2 he hts
     go_wp2
     go_roundw
     case rel=>
      refine⟨m+1,v2,Y2,D2,rfl,by rw [HE.out.1],by rw [HE.out.1];exact hgt,HAn.out,HE.out.2.2,HBy.out,?_,HFr.out⟩
      rw [HE.out.2.1];exact HW3.out
     case measure=>simp [intOf];omega
  ·have hc:¬((n:Int) - ((m*d:Nat):Int) > 0):=by omega
   have hz:n - m*d=0:=by omega
   rw [hz] at hW
   have HE:=ac (And.intro hByt (And.intro hW hFr))
   generalize (n:Int) - ((m*d:Nat):Int)=t at *
   have hc2:¬((0:Int)<t):=by omega
   clear hAns hByt hW hFr hto hY
   go_wp2
   go_end0
   exact⟨rfl,D',HE.out⟩

def fig (d:Nat):Nat:=[48,49,50,51,52,53,54,55,56,57,97,98,99,100,101,102,103,104,105,106,107,108,109,110,111,112,113,114,115,116,117,118,119,120,121,122].getD d 0

theorem jy (d:Nat):fig d<128:=by
 rcases Nat.lt_or_ge d 36 with h|h
 ·have:∀d:Fin 36,fig d.1<128:=by decide +kernel
  exact this ⟨d,h⟩
 ·unfold fig;rw [List.getD,List.getElem?_eq_none (by simpa using h)];decide

theorem ki (d:Nat)(h:d<(ByteArray.mk #[48,49,50,51,52,53,54,55,56,57,97,98,99,100,101,102,103,104,105,106,107,108,109,110,111,112,113,114,115,116,117,118,119,120,121,122]).size):(ByteArray.mk #[48,49,50,51,52,53,54,55,56,57,97,98,99,100,101,102,103,104,105,106,107,108,109,110,111,112,113,114,115,116,117,118,119,120,121,122])[d].toNat=fig d:=by
 have key:∀d:Fin 36,((ByteArray.mk #[48,49,50,51,52,53,54,55,56,57,97,98,99,100,101,102,103,104,105,106,107,108,109,110,111,112,113,114,115,116,117,118,119,120,121,122])[d.1]'(d.2)).toNat=fig d.1:=by decide +kernel
 exact key ⟨d,h⟩

def aI (L:List Nat):ByteArray:=L.foldl (fun r n=>r.push (UInt8.ofNat n)) ByteArray.empty

theorem iJ (L:List Nat):∀r:ByteArray,((L.map fun n=>((n:Nat):Int)).foldl (fun r n=>r.push (UInt8.ofNat n.toNat)) r)=L.foldl (fun r n=>r.push (UInt8.ofNat n)) r:=by
 induction L with
 | nil=>intro r;rfl
 | cons a l ih=>intro r;simp only [List.map_cons,List.foldl_cons,Int.toNat_natCast];exact ih _

theorem og (gd cap:Nat)(D:List Nat)(w:World)(hd:Byt w gd D) :
  (convert 112 9 (.slice (some ⟨gd,0,none⟩) D.length cap)).run Tryz.prog w=.ok (.string (aI D)) w:=by
 rw [run_convert_bytes_string w 112 9 5 _ _ _ Tryz.underlying112 Tryz.underlying5 Tryz.underlying9]
 rw [run_bytesToString w _ D.length cap (D.map fun n=>((n:Nat):Int)) ?_,iJ]
 ·rfl
 ·have h:=run_loadCells_list (P:=Tryz.prog) (w:=w) ⟨gd,0,none⟩ (D.map bv) (fun j v hj=>by
   rw [List.getElem?_map] at hj
   rcases hh:D[j]? with _|z
   ·rw [hh] at hj;cases hj
   ·rw [hh] at hj
    have hjl:j<D.length:=by
     rcases Nat.lt_or_ge j D.length with h|h
     ·exact h
     ·rw [List.getElem?_eq_none h] at hh;cases hh
    have:=hd.cell j hjl
    have e:D.getD j 0=z:=by rw [List.getD,hh];rfl
    rw [e] at this
    simp only [Option.map_some,Option.some.injEq] at hj
    rw [←hj]
    by_cases h0:j=0
    ·subst h0;simpa [Addr.add,bv] using this
    ·simpa [Addr.add,bv,h0] using this)
  rw [List.length_map] at h
  rw [h,List.map_map]
  rfl

theorem qE (gd cap:Nat)(D:List Nat)(w:World)(hd:Byt w gd D)(h36:∀d ∈ D,d<36)(hc:D.length≤cap)(hcm:cap≤9223372036854775807) :
  Calls Tryz.prog 106 #[.slice (some ⟨gd,0,none⟩) D.length cap] w fun e w'=>e=.returned (.string (aI (D.map fig)))∧Fr gd w w':=by
 have HD:=ac hd
 clear hd
 go_enter Tryz.func106,Tryz.ntmps106
 go_wp2
 go_loopw [7] (fun i wr=>∃(k:Nat) (D':List Nat),k≤D.length∧i=.int .i64 k∧Byt wr gd D'∧D'=(D.take k).map fig ++ D.drop k∧Fr gd w wr) (fun i _=>D.length - (intOf i).toNat)
 case atStart=>exact⟨0,D,Nat.zero_le _,rfl,HD.out,by simp,Fr.refl _ _⟩
 case round=>
  obtain⟨k,D',hk,rfl,hB,hD',hF⟩:=hrel
  clear HD
  have hlen:D'.length=D.length:=by rw [hD'];simp;omega
  by_cases hkl:k<D.length
  ·have e1:D.drop k=D.getD k 0 :: D.drop (k+1):=by
    rw [List.drop_eq_getElem_cons hkl,List.getD,List.getElem?_eq_getElem hkl];rfl
   have e2:D'.getD k 0=D.getD k 0:=by
    rw [hD',List.getD,List.getElem?_append_right (by simp;omega)]
    simp [e1,Nat.min_eq_left (Nat.le_of_lt hkl)]
   have hset:D'.set k (fig (D.getD k 0))=(D.take (k+1)).map fig ++ D.drop (k+1):=by
    have hA:((D.take k).map fig).length=k:=by simp;omega
    have e3:D.take (k+1)=D.take k ++ [D.getD k 0]:=by rw [List.take_add_one,List.getD,List.getElem?_eq_getElem hkl];rfl
    rw [hD',List.set_append_right _ _ (by omega),hA,Nat.sub_self,e1,List.set_cons_zero,e3,List.map_append,List.append_assoc]
    rfl
   have h36k:D.getD k 0<36:=h36 _ (by rw [List.getD,List.getElem?_eq_getElem hkl];exact List.getElem_mem _)
   have hco:=hB.cell k (by omega)
   have hfr:=hB.free k
   rw [e2] at hco
   have hfl:=jy (D.getD k 0)
   have hfa:=ki (D.getD k 0) h36k
   have HS:=ac hset
   have HB:=ac hB
   have HF:=ac hF
   generalize D.getD k 0=d at *
   clear hB hF hset hD' e1 e2
   go_wp2
   go_roundw
   case rel=>exact⟨k+1,D'.set k (fig d),by omega,by go_num,HB.out.set _ _,HS.out,HF.out.setCell _ _⟩
   case measure=>simp [intOf];omega
  ·have ek:k=D.length:=by omega
   subst ek
   have e1:D'=D.map fig:=by rw [hD'];simp
   subst e1
   have HC:=og gd cap _ wr hB
   rw [List.length_map] at HC
   have HF:=ac hF
   clear hB hF hD'
   go_wp2
   go_ret
   exact⟨rfl,HF.out⟩
end Go.Proofs.YtgnmgbbokcpppaaGreatDoor

