/- The document's Mul of spans at one scale: what is answered. -/
import Derived.Test.YtkfbobefkbpdoaaGreatDoorB19
import Derived.Deep.RegionHeld3
import Derived.Test.YtkfbobefkbpdoaaGreatDoorB16
import Derived.Test.YtkfbobefkbpdoaaGreatDoorB18
import Derived.Test.YtkfbobefkbpdoaaGreatDoorB14
set_option maxRecDepth 20000
set_option maxHeartbeats 4000000
namespace Go.Proofs.YtkfbobefkbpdoaaGreatDoor
open Go.RowKit
open Lm
attribute [local go_sem ↓] Go.wp_at_zero Go.wp_at_succ

theorem lV (v0 v1 v2 v3 v4 v5 v6 v7 v8 v9 v10 v11:Value)(w:World):(Instr.index 68 (.agg #[v0,v1,v2,v3,v4,v5,v6,v7,v8,v9,v10,v11]) (.int .i64 0)).run Tryz.prog w=.ok (.agg #[v0,v1,v2]) w:=by kernel_rfl

theorem mP (v0 v1 v2 v3 v4 v5 v6 v7 v8 v9 v10 v11:Value)(w:World):(Instr.index 68 (.agg #[v0,v1,v2,v3,v4,v5,v6,v7,v8,v9,v10,v11]) (.int .i64 1)).run Tryz.prog w=.ok (.agg #[v3,v4,v5]) w:=by kernel_rfl

theorem pC (v0 v1 v2 v3 v4 v5 v6 v7 v8 v9 v10 v11:Value)(w:World):(Instr.index 68 (.agg #[v0,v1,v2,v3,v4,v5,v6,v7,v8,v9,v10,v11]) (.int .i64 2)).run Tryz.prog w=.ok (.agg #[v6,v7,v8]) w:=by kernel_rfl

theorem oD (v0 v1 v2 v3 v4 v5 v6 v7 v8 v9 v10 v11:Value)(w:World):(Instr.index 68 (.agg #[v0,v1,v2,v3,v4,v5,v6,v7,v8,v9,v10,v11]) (.int .i64 3)).run Tryz.prog w=.ok (.agg #[v9,v10,v11]) w:=by kernel_rfl

def pk4 (Q1 Q2 Q3 Q4:Int):Nat→Int
 | 0=>Q1
 | 1=>Q2
 | 2=>Q3
 | _=>Q4

def loK (Q1 Q2 Q3 Q4:Int):Nat→Int
 | 0=>Q1
 | k+1=>min (loK Q1 Q2 Q3 Q4 k) (pk4 Q1 Q2 Q3 Q4 k)

def hiK (Q1 Q2 Q3 Q4:Int):Nat→Int
 | 0=>Q1
 | k+1=>max (hiK Q1 Q2 Q3 Q4 k) (pk4 Q1 Q2 Q3 Q4 k)

theorem ko (Q1 Q2 Q3 Q4:Int):loK Q1 Q2 Q3 Q4 4=min (min (min Q1 Q2) Q3) Q4:=by
 show min (min (min (min Q1 Q1) Q2) Q3) Q4=_
 omega

theorem kW (Q1 Q2 Q3 Q4:Int):hiK Q1 Q2 Q3 Q4 4=max (max (max Q1 Q2) Q3) Q4:=by
 show max (max (max (max Q1 Q1) Q2) Q3) Q4=_
 omega

def ij (U:World)(g h K:Nat)(VL VH:Int)(wx:World):Prop:=
 ∃(p:Bool) (pa:Option Addr) (pn pk:Nat) (pe:Int) (q:Bool) (qa:Option Addr) (qn qk:Nat) (qe:Int),wx.heap[g]?=some (.cells #[.bool p,.slice pa pn pk,.int .i64 pe] 31)∧wx.heap[h]?=some (.cells #[.bool q,.slice qa qn qk,.int .i64 qe] 31)∧V8 wx p pa pn pk pe K VL∧V8 wx q qa qn qk qe K VH∧Below U.heap.size U wx

theorem fg {w:World}{g h:Nat}{x:Obj}(hne:h≠g)(u0 u1 u2:Value)(e:w.heap[h]?=some x):(((w.setCell ⟨g,0,none⟩ u0).setCell ⟨g,1,none⟩ u1).setCell ⟨g,2,none⟩ u2).heap[h]?=some x:=by
 rw [Below.heap_setCell _ _ _ _ hne,Below.heap_setCell _ _ _ _ hne,Below.heap_setCell _ _ _ _ hne];exact e

theorem gN {U t:World}{g h K:Nat}{VL VH:Int}{p:Bool}{pa:Option Addr}{pn pk:Nat}{pe:Int}{q:Bool}{qa:Option Addr}{qn qk:Nat}{qe:Int}{x:Bool}{xa:Option Addr}{xn xk:Nat}{xe:Int}{y:Bool}{ya:Option Addr}{yn yk:Nat}{ye:Int}(hg:t.heap[g]?=some (.cells #[.bool x,.slice xa xn xk,.int .i64 xe] 31))(hh:t.heap[h]?=some (.cells #[.bool y,.slice ya yn yk,.int .i64 ye] 31))(hne:g≠h)(g1:U.heap.size≤g)(g2:U.heap.size≤h)(v1:V8 t p pa pn pk pe K VL)(v2:V8 t q qa qn qk qe K VH)(hb:Below U.heap.size U t):ij U g h K VL VH ((((((t.setCell ⟨g,0,none⟩ (.bool p)).setCell ⟨g,1,none⟩ (.slice pa pn pk)).setCell ⟨g,2,none⟩ (.int .i64 pe)).setCell ⟨h,0,none⟩ (.bool q)).setCell ⟨h,1,none⟩ (.slice qa qn qk)).setCell ⟨h,2,none⟩ (.int .i64 qe)):=by
 have e1:=ay hg (.bool p) (.slice pa pn pk) (.int .i64 pe)
 have e2:=fg (Ne.symm hne) (.bool p) (.slice pa pn pk) (.int .i64 pe) hh
 exact⟨p,pa,pn,pk,pe,q,qa,qn,qk,qe,fg hne _ _ _ e1,ay e2 _ _ _,(v1.tri8 hg p pa pn pk _).tri8 e2 q qa qn qk _,(v2.tri8 hg p pa pn pk _).tri8 e2 q qa qn qk _,an (an hb g1 _ _ _) g2 _ _ _⟩

def mg (U:World)(K:Nat)(VL VH:Int)(s t:Value)(wx:World):Prop:=
 ∃g h,s=.pointer (some ⟨g,0,none⟩)∧t=.pointer (some ⟨h,0,none⟩)∧g≠h∧U.heap.size≤g∧U.heap.size≤h∧ij U g h K VL VH wx

theorem sH (b1:Bool)(a1:Option Addr)(n1 k1:Nat)(ex1:Int)(b2:Bool)(a2:Option Addr)(n2 k2:Nat)(ex2:Int)(b3:Bool)(a3:Option Addr)(n3 k3:Nat)(ex3:Int)(b4:Bool)(a4:Option Addr)(n4 k4:Nat)(ex4:Int)(pos:Int)(K:Nat)(Q1 Q2 Q3 Q4 RA RB DD:Int)(w:World)(hM1:∀W,Below w.heap.size w W→Calls Tryz.prog 26 #[.agg #[.bool b1,.slice a1 n1 k1,.int .i64 ex1],.agg #[.bool b3,.slice a3 n3 k3,.int .i64 ex3]] W fun e w'=>(∃b a n k E,e=.returned (.agg #[.bool b,.slice a n k,.int .i64 E])∧V7 w' b a n k E K Q1)∧Below W.heap.size W w')(hM2:∀W,Below w.heap.size w W→Calls Tryz.prog 26 #[.agg #[.bool b1,.slice a1 n1 k1,.int .i64 ex1],.agg #[.bool b4,.slice a4 n4 k4,.int .i64 ex4]] W fun e w'=>(∃b a n k E,e=.returned (.agg #[.bool b,.slice a n k,.int .i64 E])∧V7 w' b a n k E K Q2)∧Below W.heap.size W w')(hM3:∀W,Below w.heap.size w W→Calls Tryz.prog 26 #[.agg #[.bool b2,.slice a2 n2 k2,.int .i64 ex2],.agg #[.bool b3,.slice a3 n3 k3,.int .i64 ex3]] W fun e w'=>(∃b a n k E,e=.returned (.agg #[.bool b,.slice a n k,.int .i64 E])∧V7 w' b a n k E K Q3)∧Below W.heap.size W w')(hM4:∀W,Below w.heap.size w W→Calls Tryz.prog 26 #[.agg #[.bool b2,.slice a2 n2 k2,.int .i64 ex2],.agg #[.bool b4,.slice a4 n4 k4,.int .i64 ex4]] W fun e w'=>(∃b a n k E,e=.returned (.agg #[.bool b,.slice a n k,.int .i64 E])∧V7 w' b a n k E K Q4)∧Below W.heap.size W w')(kc1:aj K Q1 0)(kc2:aj K Q2 0)(kc3:aj K Q3 0)(kc4:aj K Q4 0)(hO:∀W (b1:Bool) (a1:Option Addr) (n1 k1:Nat) (ex1:Int) (b2:Bool) (a2:Option Addr) (n2 k2:Nat) (ex2:Int),V8 W b1 a1 n1 k1 ex1 K (loK Q1 Q2 Q3 Q4 4)→V8 W b2 a2 n2 k2 ex2 K (hiK Q1 Q2 Q3 Q4 4)→Calls Tryz.prog 31 #[.agg #[.bool b1,.slice a1 n1 k1,.int .i64 ex1],.agg #[.bool b2,.slice a2 n2 k2,.int .i64 ex2],.int .i64 pos] W fun e w'=>kd W e w' K RA RB)(hD:∀W (b1:Bool) (a1:Option Addr) (n1 k1:Nat) (ex1:Int) (b2:Bool) (a2:Option Addr) (n2 k2:Nat) (ex2:Int),V8 W b1 a1 n1 k1 ex1 K RA→V8 W b2 a2 n2 k2 ex2 K RB→Calls Tryz.prog 30 #[.agg #[.bool b1,.slice a1 n1 k1,.int .i64 ex1,.bool b2,.slice a2 n2 k2,.int .i64 ex2]] W fun e w'=>ei W e w' DD K RA RB) :
  Calls Tryz.prog 11 #[.agg #[.bool b1,.slice a1 n1 k1,.int .i64 ex1,.bool b2,.slice a2 n2 k2,.int .i64 ex2],.agg #[.bool b3,.slice a3 n3 k3,.int .i64 ex3,.bool b4,.slice a4 n4 k4,.int .i64 ex4],.int .i64 pos] w fun e w'=>ei w e w' DD K RA RB:=by
 obtain⟨w0,hw0,hb0,q0,q1,q9⟩:=aM w (.cells #[.bool b1,.slice a1 n1 k1,.int .i64 ex1,.bool b2,.slice a2 n2 k2,.int .i64 ex2] 33) (.cells #[.bool b3,.slice a3 n3 k3,.int .i64 ex3,.bool b4,.slice a4 n4 k4,.int .i64 ex4] 33) (.cells #[.bool false,.slice none 0 0,.int .i64 0,.bool false,.slice none 0 0,.int .i64 0] 33)
 have HU0:=ab hb0
 have HR0:Hid (w0.heap[w.heap.size+1+1]?=some (.cells #[.bool false,.slice none 0 0,.int .i64 0,.bool false,.slice none 0 0,.int .i64 0] 33)):=ab q9
 have KS:=ab (fun (W:World) (hg:Below w0.heap.size w0 W)=>show W.cell? ⟨w.heap.size,0,none⟩=some (.bool b1)∧W.cell? ⟨w.heap.size,1,none⟩=some (.slice a1 n1 k1)∧W.cell? ⟨w.heap.size,2,none⟩=some (.int .i64 ex1)∧W.cell? ⟨w.heap.size,3,none⟩=some (.bool b2)∧W.cell? ⟨w.heap.size,4,none⟩=some (.slice a2 n2 k2)∧W.cell? ⟨w.heap.size,5,none⟩=some (.int .i64 ex2)∧W.cell? ⟨w.heap.size+1,0,none⟩=some (.bool b3)∧W.cell? ⟨w.heap.size+1,1,none⟩=some (.slice a3 n3 k3)∧W.cell? ⟨w.heap.size+1,2,none⟩=some (.int .i64 ex3)∧W.cell? ⟨w.heap.size+1,3,none⟩=some (.bool b4)∧W.cell? ⟨w.heap.size+1,4,none⟩=some (.slice a4 n4 k4)∧W.cell? ⟨w.heap.size+1,5,none⟩=some (.int .i64 ex4) from (by
  obtain⟨x0,x1,x2,x3,x4,x5⟩:=hexa (ac hg q0)
  obtain⟨z0,z1,z2,z3,z4,z5⟩:=hexa (ac hg q1)
  exact⟨x0,x1,x2,x3,x4,x5,z0,z1,z2,z3,z4,z5⟩))
 have K1:=ab (fun (W:World) (hg:Below w0.heap.size w0 W)=>hM1 W (ae hb0 hg))
 have K2:=ab (fun (W:World) (hg:Below w0.heap.size w0 W)=>hM2 W (ae hb0 hg))
 have K3:=ab (fun (W:World) (hg:Below w0.heap.size w0 W)=>hM3 W (ae hb0 hg))
 have K4:=ab (fun (W:World) (hg:Below w0.heap.size w0 W)=>hM4 W (ae hb0 hg))
 have KC1:=ab kc1
 have KC2:=ab kc2
 have KC3:=ab kc3
 have KC4:=ab kc4
 have g0:Below w0.heap.size w0 w0.drew:=be (Below.refl _ _)
 have HOO:=ab hO
 have HDD:=ab hD
 clear q0 q1 q9 hb0 hM1 hM2 hM3 hM4 kc1 kc2 kc3 kc4 hO hD
 go_enter Tryz.func11,Tryz.ntmps11
 go_upto_region 1 with fail
 clear hw0
 go_cut [8] from 14 to 34 (fun s wx=>il w0 K Q1 Q2 Q3 Q4 s wx)
 case first=>
  refine wp_region_held_drew (S:=fun w'=>w'.cell? ⟨w.heap.size,0,none⟩=some (.bool b1)∧w'.cell? ⟨w.heap.size,1,none⟩=some (.slice a1 n1 k1)∧w'.cell? ⟨w.heap.size,2,none⟩=some (.int .i64 ex1)∧w'.cell? ⟨w.heap.size,3,none⟩=some (.bool b2)∧w'.cell? ⟨w.heap.size,4,none⟩=some (.slice a2 n2 k2)∧w'.cell? ⟨w.heap.size,5,none⟩=some (.int .i64 ex2)∧w'.cell? ⟨w.heap.size+1,0,none⟩=some (.bool b3)∧w'.cell? ⟨w.heap.size+1,1,none⟩=some (.slice a3 n3 k3)∧w'.cell? ⟨w.heap.size+1,2,none⟩=some (.int .i64 ex3)∧w'.cell? ⟨w.heap.size+1,3,none⟩=some (.bool b4)∧w'.cell? ⟨w.heap.size+1,4,none⟩=some (.slice a4 n4 k4)∧w'.cell? ⟨w.heap.size+1,5,none⟩=some (.int .i64 ex4)) (by kernel_rfl) (KS.out _ (g0)) (fun hHeld0=>?_)
  obtain⟨UD,hUD⟩:∃x,w0.drew=x:=⟨_,rfl⟩
  have gUD:Below w0.heap.size w0 UD:=by rw [←hUD];exact (g0)
  rw [hUD] at hHeld0 ⊢
  clear hUD
  refine wpAnyH_take (i:=0) (oi:={ dst:=some 14,op:=Op.fieldAddr 33 (Operand.tmp 3) 0,type:=0,pos:="ref.go:122",after:=#[],guard:=none }) (v:=.pointer (some ⟨w.heap.size,0,none⟩)) rfl (by kernel_rfl) (by kernel_rfl) (by kernel_rfl) (fun _ _ _ h=>h) (Or.inl ⟨by rfl,fun w9 hSw=>?_⟩) hHeld0 ?_
  ·(try dsimp only at hSw);go_simp
  try simp only [Act.put,List.setIfInBounds_toArray,List.set_cons_zero,List.set_cons_succ]
  refine wpAnyH_take (i:=1) (oi:={ dst:=some 15,op:=Op.load 31 (Operand.tmp 14),type:=31,pos:="ref.go:122",after:=#[{ on:=0,ground:=Ground.data }],guard:=none }) (v:=.agg #[.bool b1,.slice a1 n1 k1,.int .i64 ex1]) rfl (by kernel_rfl) (by kernel_rfl) (by kernel_rfl) (fun _ _ _ h=>h) (Or.inl ⟨by rfl,fun w9 hSw=>?_⟩) hHeld0 ?_
  ·(try dsimp only at hSw);go_simp
  try simp only [Act.put,List.setIfInBounds_toArray,List.set_cons_zero,List.set_cons_succ]
  refine wpAnyH_take (i:=2) (oi:={ dst:=some 16,op:=Op.fieldAddr 33 (Operand.tmp 4) 0,type:=0,pos:="ref.go:122",after:=#[],guard:=none }) (v:=.pointer (some ⟨w.heap.size+1,0,none⟩)) rfl (by kernel_rfl) (by kernel_rfl) (by kernel_rfl) (fun _ _ _ h=>h) (Or.inl ⟨by rfl,fun w9 hSw=>?_⟩) hHeld0 ?_
  ·(try dsimp only at hSw);go_simp
  try simp only [Act.put,List.setIfInBounds_toArray,List.set_cons_zero,List.set_cons_succ]
  refine wpAnyH_take (i:=3) (oi:={ dst:=some 17,op:=Op.load 31 (Operand.tmp 16),type:=31,pos:="ref.go:122",after:=#[{ on:=2,ground:=Ground.data }],guard:=none }) (v:=.agg #[.bool b3,.slice a3 n3 k3,.int .i64 ex3]) rfl (by kernel_rfl) (by kernel_rfl) (by kernel_rfl) (fun _ _ _ h=>h) (Or.inl ⟨by rfl,fun w9 hSw=>?_⟩) hHeld0 ?_
  ·(try dsimp only at hSw);go_simp
  try simp only [Act.put,List.setIfInBounds_toArray,List.set_cons_zero,List.set_cons_succ]
  refine wpAnyH_take (i:=5) (oi:={ dst:=some 19,op:=Op.fieldAddr 33 (Operand.tmp 3) 0,type:=0,pos:="ref.go:122",after:=#[],guard:=none }) (v:=.pointer (some ⟨w.heap.size,0,none⟩)) rfl (by kernel_rfl) (by kernel_rfl) (by kernel_rfl) (fun _ _ _ h=>h) (Or.inl ⟨by rfl,fun w9 hSw=>?_⟩) hHeld0 ?_
  ·(try dsimp only at hSw);go_simp
  try simp only [Act.put,List.setIfInBounds_toArray,List.set_cons_zero,List.set_cons_succ]
  refine wpAnyH_take (i:=6) (oi:={ dst:=some 20,op:=Op.load 31 (Operand.tmp 19),type:=31,pos:="ref.go:122",after:=#[{ on:=5,ground:=Ground.data }],guard:=none }) (v:=.agg #[.bool b1,.slice a1 n1 k1,.int .i64 ex1]) rfl (by kernel_rfl) (by kernel_rfl) (by kernel_rfl) (fun _ _ _ h=>h) (Or.inl ⟨by rfl,fun w9 hSw=>?_⟩) hHeld0 ?_
  ·(try dsimp only at hSw);go_simp
  try simp only [Act.put,List.setIfInBounds_toArray,List.set_cons_zero,List.set_cons_succ]
  refine wpAnyH_take (i:=7) (oi:={ dst:=some 21,op:=Op.fieldAddr 33 (Operand.tmp 4) 1,type:=0,pos:="ref.go:122",after:=#[],guard:=none }) (v:=.pointer (some ⟨w.heap.size+1,3,none⟩)) rfl (by kernel_rfl) (by kernel_rfl) (by kernel_rfl) (fun _ _ _ h=>h) (Or.inl ⟨by rfl,fun w9 hSw=>?_⟩) hHeld0 ?_
  ·(try dsimp only at hSw);go_simp
  try simp only [Act.put,List.setIfInBounds_toArray,List.set_cons_zero,List.set_cons_succ]
  refine wpAnyH_take (i:=8) (oi:={ dst:=some 22,op:=Op.load 31 (Operand.tmp 21),type:=31,pos:="ref.go:122",after:=#[{ on:=7,ground:=Ground.data }],guard:=none }) (v:=.agg #[.bool b4,.slice a4 n4 k4,.int .i64 ex4]) rfl (by kernel_rfl) (by kernel_rfl) (by kernel_rfl) (fun _ _ _ h=>h) (Or.inl ⟨by rfl,fun w9 hSw=>?_⟩) hHeld0 ?_
  ·(try dsimp only at hSw);go_simp
  try simp only [Act.put,List.setIfInBounds_toArray,List.set_cons_zero,List.set_cons_succ]
  refine wpAnyH_take (i:=10) (oi:={ dst:=some 24,op:=Op.fieldAddr 33 (Operand.tmp 3) 1,type:=0,pos:="ref.go:122",after:=#[],guard:=none }) (v:=.pointer (some ⟨w.heap.size,3,none⟩)) rfl (by kernel_rfl) (by kernel_rfl) (by kernel_rfl) (fun _ _ _ h=>h) (Or.inl ⟨by rfl,fun w9 hSw=>?_⟩) hHeld0 ?_
  ·(try dsimp only at hSw);go_simp
  try simp only [Act.put,List.setIfInBounds_toArray,List.set_cons_zero,List.set_cons_succ]
  refine wpAnyH_take (i:=11) (oi:={ dst:=some 25,op:=Op.load 31 (Operand.tmp 24),type:=31,pos:="ref.go:122",after:=#[{ on:=10,ground:=Ground.data }],guard:=none }) (v:=.agg #[.bool b2,.slice a2 n2 k2,.int .i64 ex2]) rfl (by kernel_rfl) (by kernel_rfl) (by kernel_rfl) (fun _ _ _ h=>h) (Or.inl ⟨by rfl,fun w9 hSw=>?_⟩) hHeld0 ?_
  ·(try dsimp only at hSw);go_simp
  try simp only [Act.put,List.setIfInBounds_toArray,List.set_cons_zero,List.set_cons_succ]
  refine wpAnyH_take (i:=12) (oi:={ dst:=some 26,op:=Op.fieldAddr 33 (Operand.tmp 4) 0,type:=0,pos:="ref.go:122",after:=#[],guard:=none }) (v:=.pointer (some ⟨w.heap.size+1,0,none⟩)) rfl (by kernel_rfl) (by kernel_rfl) (by kernel_rfl) (fun _ _ _ h=>h) (Or.inl ⟨by rfl,fun w9 hSw=>?_⟩) hHeld0 ?_
  ·(try dsimp only at hSw);go_simp
  try simp only [Act.put,List.setIfInBounds_toArray,List.set_cons_zero,List.set_cons_succ]
  refine wpAnyH_take (i:=13) (oi:={ dst:=some 27,op:=Op.load 31 (Operand.tmp 26),type:=31,pos:="ref.go:122",after:=#[{ on:=12,ground:=Ground.data }],guard:=none }) (v:=.agg #[.bool b3,.slice a3 n3 k3,.int .i64 ex3]) rfl (by kernel_rfl) (by kernel_rfl) (by kernel_rfl) (fun _ _ _ h=>h) (Or.inl ⟨by rfl,fun w9 hSw=>?_⟩) hHeld0 ?_
  ·(try dsimp only at hSw);go_simp
  try simp only [Act.put,List.setIfInBounds_toArray,List.set_cons_zero,List.set_cons_succ]
  refine wpAnyH_take (i:=15) (oi:={ dst:=some 29,op:=Op.fieldAddr 33 (Operand.tmp 3) 1,type:=0,pos:="ref.go:122",after:=#[],guard:=none }) (v:=.pointer (some ⟨w.heap.size,3,none⟩)) rfl (by kernel_rfl) (by kernel_rfl) (by kernel_rfl) (fun _ _ _ h=>h) (Or.inl ⟨by rfl,fun w9 hSw=>?_⟩) hHeld0 ?_
  ·(try dsimp only at hSw);go_simp
  try simp only [Act.put,List.setIfInBounds_toArray,List.set_cons_zero,List.set_cons_succ]
  refine wpAnyH_take (i:=16) (oi:={ dst:=some 30,op:=Op.load 31 (Operand.tmp 29),type:=31,pos:="ref.go:122",after:=#[{ on:=15,ground:=Ground.data }],guard:=none }) (v:=.agg #[.bool b2,.slice a2 n2 k2,.int .i64 ex2]) rfl (by kernel_rfl) (by kernel_rfl) (by kernel_rfl) (fun _ _ _ h=>h) (Or.inl ⟨by rfl,fun w9 hSw=>?_⟩) hHeld0 ?_
  ·(try dsimp only at hSw);go_simp
  try simp only [Act.put,List.setIfInBounds_toArray,List.set_cons_zero,List.set_cons_succ]
  refine wpAnyH_take (i:=17) (oi:={ dst:=some 31,op:=Op.fieldAddr 33 (Operand.tmp 4) 1,type:=0,pos:="ref.go:122",after:=#[],guard:=none }) (v:=.pointer (some ⟨w.heap.size+1,3,none⟩)) rfl (by kernel_rfl) (by kernel_rfl) (by kernel_rfl) (fun _ _ _ h=>h) (Or.inl ⟨by rfl,fun w9 hSw=>?_⟩) hHeld0 ?_
  ·(try dsimp only at hSw);go_simp
  try simp only [Act.put,List.setIfInBounds_toArray,List.set_cons_zero,List.set_cons_succ]
  refine wpAnyH_take (i:=18) (oi:={ dst:=some 32,op:=Op.load 31 (Operand.tmp 31),type:=31,pos:="ref.go:122",after:=#[{ on:=17,ground:=Ground.data }],guard:=none }) (v:=.agg #[.bool b4,.slice a4 n4 k4,.int .i64 ex4]) rfl (by kernel_rfl) (by kernel_rfl) (by kernel_rfl) (fun _ _ _ h=>h) (Or.inl ⟨by rfl,fun w9 hSw=>?_⟩) hHeld0 ?_
  ·(try dsimp only at hSw);go_simp
  try simp only [Act.put,List.setIfInBounds_toArray,List.set_cons_zero,List.set_cons_succ]
  refine wpAnyH_ready (rs:=[4,21]) (by kernel_rfl) (by simp) ?_
  refine AllReadyH.cons rfl (fun K hK=>?_) ?_
  ·skip
   go_simp
   refine (K1.out UD gUD).mono ?_
   rintro e' T1 ⟨⟨x1,xa1,xn1,xk1,xe1,rfl,v1⟩,hbT1⟩
   have gT1:=ae gUD hbT1
   refine hK.out _ _ (KS.out _ gT1) (fun hHeld1=>?_)
   clear hK K
   try simp only [Act.put,List.setIfInBounds_toArray,List.set_cons_zero,List.set_cons_succ]
   refine wpAnyH_ready (rs:=[9,21]) (by kernel_rfl) (by simp) ?_
   refine AllReadyH.cons rfl (fun K hK=>?_) ?_
   ·skip
    go_simp
    refine (K2.out T1 gT1).mono ?_
    rintro e' T2 ⟨⟨x2,xa2,xn2,xk2,xe2,rfl,v2⟩,hbT2⟩
    have gT2:=ae gT1 hbT2
    refine hK.out _ _ (KS.out _ gT2) (fun hHeld2=>?_)
    clear hK K
    try simp only [Act.put,List.setIfInBounds_toArray,List.set_cons_zero,List.set_cons_succ]
    refine wpAnyH_ready (rs:=[14,21]) (by kernel_rfl) (by simp) ?_
    refine AllReadyH.cons rfl (fun K hK=>?_) ?_
    ·skip
     go_simp
     refine (K3.out T2 gT2).mono ?_
     rintro e' T3 ⟨⟨x3,xa3,xn3,xk3,xe3,rfl,v3⟩,hbT3⟩
     have gT3:=ae gT2 hbT3
     refine hK.out _ _ (KS.out _ gT3) (fun hHeld3=>?_)
     clear hK K
     try simp only [Act.put,List.setIfInBounds_toArray,List.set_cons_zero,List.set_cons_succ]
     refine wpAnyH_ready (rs:=[19,21]) (by kernel_rfl) (by simp) ?_
     refine AllReadyH.cons rfl (fun K hK=>?_) ?_
     ·skip
      go_simp
      refine (K4.out T3 gT3).mono ?_
      rintro e' T4 ⟨⟨x4,xa4,xn4,xk4,xe4,rfl,v4⟩,hbT4⟩
      have gT4:=ae gT3 hbT4
      refine hK.out _ _ (KS.out _ gT4) (fun hHeld4=>?_)
      clear hK K
      try simp only [Act.put,List.setIfInBounds_toArray,List.set_cons_zero,List.set_cons_succ]
      refine wpAnyH_take (i:=20) (oi:={ dst:=some 34,op:=Op.build 68 #[(0,Operand.tmp 18),(1,Operand.tmp 23),(2,Operand.tmp 28),(3,Operand.tmp 33)],type:=68,pos:="ref.go:122",after:=#[{ on:=4,ground:=Ground.data },{ on:=9,ground:=Ground.data },{ on:=14,ground:=Ground.data },{ on:=19,ground:=Ground.data }],guard:=none }) (v:=.agg #[.bool x1,.slice xa1 xn1 xk1,.int .i64 xe1,.bool x2,.slice xa2 xn2 xk2,.int .i64 xe2,.bool x3,.slice xa3 xn3 xk3,.int .i64 xe3,.bool x4,.slice xa4 xn4 xk4,.int .i64 xe4]) rfl (by kernel_rfl) (by kernel_rfl) (by kernel_rfl) (fun _ _ _ h=>h) (Or.inl ⟨by rfl,fun w9 hSw=>?_⟩) hHeld4 ?_
      ·(try dsimp only at hSw);go_simp
      try simp only [Act.put,List.setIfInBounds_toArray,List.set_cons_zero,List.set_cons_succ]
      refine wpAnyH_ready (rs:=[21]) (by kernel_rfl) (by simp) ?_
      refine AllReadyH.cons rfl (fun K hK=>?_) AllReadyH.nil
      go_simp
      refine hK.out _ _ (KS.out _ (aG gT4 _)) (fun hHeld5=>?_)
      clear hK K
      try simp only [Act.put,List.setIfInBounds_toArray,List.set_cons_zero,List.set_cons_succ]
      obtain⟨PB5,hPB5,hbPB5,hxPB5⟩:=ag T4 (.cells #[.bool false,.slice none 0 0,.int .i64 0,.bool false,.slice none 0 0,.int .i64 0,.bool false,.slice none 0 0,.int .i64 0,.bool false,.slice none 0 0,.int .i64 0] 68)
      rw [hPB5] at hHeld5 ⊢
      have gPB5:=ae gT4 hbPB5
      clear hPB5
      refine wpAnyH_ready (rs:=[22]) (by kernel_rfl) (by simp) ?_
      refine AllReadyH.cons rfl (fun K hK=>?_) AllReadyH.nil
      have hzb:=(hxPB5)
      have zfb:=bj hzb
      obtain⟨⟨zc0,zc1,zc2⟩,⟨zc3,zc4,zc5⟩,⟨zc6,zc7,zc8⟩,⟨zc9,zc10,zc11⟩⟩:=bh hzb
      have geb:w0.heap.size≤T4.heap.size:=gT4.size
      have gst:=ci gPB5 geb (.bool x1) (.slice xa1 xn1 xk1) (.int .i64 xe1) (.bool x2) (.slice xa2 xn2 xk2) (.int .i64 xe2) (.bool x3) (.slice xa3 xn3 xk3) (.int .i64 xe3) (.bool x4) (.slice xa4 xn4 xk4) (.int .i64 xe4)
      go_simp
      refine hK.out _ _ (KS.out _ gst) (fun hHeld6=>?_)
      clear hK K
      try simp only [Act.put,List.setIfInBounds_toArray,List.set_cons_zero,List.set_cons_succ]
      refine wpAnyH_done (by kernel_rfl) ?_ _
      clear hHeld0 hHeld1 hHeld2 hHeld3 hHeld4 hHeld5 hHeld6
      go_wp2_with fail
      go_meet
      exact cj hzb geb (v1.below (ae (ae (ae hbT2 hbT3) hbT4) hbPB5)) (v2.below (ae (ae hbT3 hbT4) hbPB5)) (v3.below (ae hbT4 hbPB5)) (v4.below hbPB5) gPB5
     refine AllReadyH.cons rfl (fun K hK=>?_) ?_
     ·skip
      go_simp
      refine hK.out _ _ (KS.out _ (aG gT3 _)) (fun hHeld7=>?_)
      clear hK K
      try simp only [Act.put,List.setIfInBounds_toArray,List.set_cons_zero,List.set_cons_succ]
      obtain⟨PB7,hPB7,hbPB7,hxPB7⟩:=ag T3 (.cells #[.bool false,.slice none 0 0,.int .i64 0,.bool false,.slice none 0 0,.int .i64 0,.bool false,.slice none 0 0,.int .i64 0,.bool false,.slice none 0 0,.int .i64 0] 68)
      rw [hPB7] at hHeld7 ⊢
      have gPB7:=ae gT3 hbPB7
      clear hPB7
      refine wpAnyH_ready (rs:=[19]) (by kernel_rfl) (by simp) ?_
      refine AllReadyH.cons rfl (fun K hK=>?_) AllReadyH.nil
      go_simp
      refine (K4.out PB7 gPB7).mono ?_
      rintro e' T8 ⟨⟨x4,xa4,xn4,xk4,xe4,rfl,v4⟩,hbT8⟩
      have gT8:=ae gPB7 hbT8
      refine hK.out _ _ (KS.out _ gT8) (fun hHeld8=>?_)
      clear hK K
      try simp only [Act.put,List.setIfInBounds_toArray,List.set_cons_zero,List.set_cons_succ]
      refine wpAnyH_take (i:=20) (oi:={ dst:=some 34,op:=Op.build 68 #[(0,Operand.tmp 18),(1,Operand.tmp 23),(2,Operand.tmp 28),(3,Operand.tmp 33)],type:=68,pos:="ref.go:122",after:=#[{ on:=4,ground:=Ground.data },{ on:=9,ground:=Ground.data },{ on:=14,ground:=Ground.data },{ on:=19,ground:=Ground.data }],guard:=none }) (v:=.agg #[.bool x1,.slice xa1 xn1 xk1,.int .i64 xe1,.bool x2,.slice xa2 xn2 xk2,.int .i64 xe2,.bool x3,.slice xa3 xn3 xk3,.int .i64 xe3,.bool x4,.slice xa4 xn4 xk4,.int .i64 xe4]) rfl (by kernel_rfl) (by kernel_rfl) (by kernel_rfl) (fun _ _ _ h=>h) (Or.inl ⟨by rfl,fun w9 hSw=>?_⟩) hHeld8 ?_
      ·(try dsimp only at hSw);go_simp
      try simp only [Act.put,List.setIfInBounds_toArray,List.set_cons_zero,List.set_cons_succ]
      refine wpAnyH_ready (rs:=[22]) (by kernel_rfl) (by simp) ?_
      refine AllReadyH.cons rfl (fun K hK=>?_) AllReadyH.nil
      have hzb:=(ac hbT8 hxPB7)
      have zfb:=bj hzb
      obtain⟨⟨zc0,zc1,zc2⟩,⟨zc3,zc4,zc5⟩,⟨zc6,zc7,zc8⟩,⟨zc9,zc10,zc11⟩⟩:=bh hzb
      have geb:w0.heap.size≤T3.heap.size:=gT3.size
      have gst:=ci gT8 geb (.bool x1) (.slice xa1 xn1 xk1) (.int .i64 xe1) (.bool x2) (.slice xa2 xn2 xk2) (.int .i64 xe2) (.bool x3) (.slice xa3 xn3 xk3) (.int .i64 xe3) (.bool x4) (.slice xa4 xn4 xk4) (.int .i64 xe4)
      go_simp
      refine hK.out _ _ (KS.out _ gst) (fun hHeld9=>?_)
      clear hK K
      try simp only [Act.put,List.setIfInBounds_toArray,List.set_cons_zero,List.set_cons_succ]
      refine wpAnyH_done (by kernel_rfl) ?_ _
      clear hHeld0 hHeld1 hHeld2 hHeld3 hHeld7 hHeld8 hHeld9
      go_wp2_with fail
      go_meet
      exact cj hzb geb (v1.below (ae (ae (ae hbT2 hbT3) hbPB7) hbT8)) (v2.below (ae (ae hbT3 hbPB7) hbT8)) (v3.below (ae hbPB7 hbT8)) (v4.below (Below.refl _ _)) gT8
     exact AllReadyH.nil
    refine AllReadyH.cons rfl (fun K hK=>?_) ?_
    ·skip
     go_simp
     refine hK.out _ _ (KS.out _ (aG gT2 _)) (fun hHeld10=>?_)
     clear hK K
     try simp only [Act.put,List.setIfInBounds_toArray,List.set_cons_zero,List.set_cons_succ]
     obtain⟨PB10,hPB10,hbPB10,hxPB10⟩:=ag T2 (.cells #[.bool false,.slice none 0 0,.int .i64 0,.bool false,.slice none 0 0,.int .i64 0,.bool false,.slice none 0 0,.int .i64 0,.bool false,.slice none 0 0,.int .i64 0] 68)
     rw [hPB10] at hHeld10 ⊢
     have gPB10:=ae gT2 hbPB10
     clear hPB10
     refine wpAnyH_ready (rs:=[14]) (by kernel_rfl) (by simp) ?_
     refine AllReadyH.cons rfl (fun K hK=>?_) AllReadyH.nil
     go_simp
     refine (K3.out PB10 gPB10).mono ?_
     rintro e' T11 ⟨⟨x3,xa3,xn3,xk3,xe3,rfl,v3⟩,hbT11⟩
     have gT11:=ae gPB10 hbT11
     refine hK.out _ _ (KS.out _ gT11) (fun hHeld11=>?_)
     clear hK K
     try simp only [Act.put,List.setIfInBounds_toArray,List.set_cons_zero,List.set_cons_succ]
     refine wpAnyH_ready (rs:=[19]) (by kernel_rfl) (by simp) ?_
     refine AllReadyH.cons rfl (fun K hK=>?_) AllReadyH.nil
     go_simp
     refine (K4.out T11 gT11).mono ?_
     rintro e' T12 ⟨⟨x4,xa4,xn4,xk4,xe4,rfl,v4⟩,hbT12⟩
     have gT12:=ae gT11 hbT12
     refine hK.out _ _ (KS.out _ gT12) (fun hHeld12=>?_)
     clear hK K
     try simp only [Act.put,List.setIfInBounds_toArray,List.set_cons_zero,List.set_cons_succ]
     refine wpAnyH_take (i:=20) (oi:={ dst:=some 34,op:=Op.build 68 #[(0,Operand.tmp 18),(1,Operand.tmp 23),(2,Operand.tmp 28),(3,Operand.tmp 33)],type:=68,pos:="ref.go:122",after:=#[{ on:=4,ground:=Ground.data },{ on:=9,ground:=Ground.data },{ on:=14,ground:=Ground.data },{ on:=19,ground:=Ground.data }],guard:=none }) (v:=.agg #[.bool x1,.slice xa1 xn1 xk1,.int .i64 xe1,.bool x2,.slice xa2 xn2 xk2,.int .i64 xe2,.bool x3,.slice xa3 xn3 xk3,.int .i64 xe3,.bool x4,.slice xa4 xn4 xk4,.int .i64 xe4]) rfl (by kernel_rfl) (by kernel_rfl) (by kernel_rfl) (fun _ _ _ h=>h) (Or.inl ⟨by rfl,fun w9 hSw=>?_⟩) hHeld12 ?_
     ·(try dsimp only at hSw);go_simp
     try simp only [Act.put,List.setIfInBounds_toArray,List.set_cons_zero,List.set_cons_succ]
     refine wpAnyH_ready (rs:=[22]) (by kernel_rfl) (by simp) ?_
     refine AllReadyH.cons rfl (fun K hK=>?_) AllReadyH.nil
     have hzb:=(ac (ae hbT11 hbT12) hxPB10)
     have zfb:=bj hzb
     obtain⟨⟨zc0,zc1,zc2⟩,⟨zc3,zc4,zc5⟩,⟨zc6,zc7,zc8⟩,⟨zc9,zc10,zc11⟩⟩:=bh hzb
     have geb:w0.heap.size≤T2.heap.size:=gT2.size
     have gst:=ci gT12 geb (.bool x1) (.slice xa1 xn1 xk1) (.int .i64 xe1) (.bool x2) (.slice xa2 xn2 xk2) (.int .i64 xe2) (.bool x3) (.slice xa3 xn3 xk3) (.int .i64 xe3) (.bool x4) (.slice xa4 xn4 xk4) (.int .i64 xe4)
     go_simp
     refine hK.out _ _ (KS.out _ gst) (fun hHeld13=>?_)
     clear hK K
     try simp only [Act.put,List.setIfInBounds_toArray,List.set_cons_zero,List.set_cons_succ]
     refine wpAnyH_done (by kernel_rfl) ?_ _
     clear hHeld0 hHeld1 hHeld2 hHeld10 hHeld11 hHeld12 hHeld13
     go_wp2_with fail
     go_meet
     exact cj hzb geb (v1.below (ae (ae (ae hbT2 hbPB10) hbT11) hbT12)) (v2.below (ae (ae hbPB10 hbT11) hbT12)) (v3.below hbT12) (v4.below (Below.refl _ _)) gT12
    exact AllReadyH.nil
   refine AllReadyH.cons rfl (fun K hK=>?_) ?_
   ·skip
    go_simp
    refine hK.out _ _ (KS.out _ (aG gT1 _)) (fun hHeld14=>?_)
    clear hK K
    try simp only [Act.put,List.setIfInBounds_toArray,List.set_cons_zero,List.set_cons_succ]
    obtain⟨PB14,hPB14,hbPB14,hxPB14⟩:=ag T1 (.cells #[.bool false,.slice none 0 0,.int .i64 0,.bool false,.slice none 0 0,.int .i64 0,.bool false,.slice none 0 0,.int .i64 0,.bool false,.slice none 0 0,.int .i64 0] 68)
    rw [hPB14] at hHeld14 ⊢
    have gPB14:=ae gT1 hbPB14
    clear hPB14
    refine wpAnyH_ready (rs:=[9]) (by kernel_rfl) (by simp) ?_
    refine AllReadyH.cons rfl (fun K hK=>?_) AllReadyH.nil
    go_simp
    refine (K2.out PB14 gPB14).mono ?_
    rintro e' T15 ⟨⟨x2,xa2,xn2,xk2,xe2,rfl,v2⟩,hbT15⟩
    have gT15:=ae gPB14 hbT15
    refine hK.out _ _ (KS.out _ gT15) (fun hHeld15=>?_)
    clear hK K
    try simp only [Act.put,List.setIfInBounds_toArray,List.set_cons_zero,List.set_cons_succ]
    refine wpAnyH_ready (rs:=[14]) (by kernel_rfl) (by simp) ?_
    refine AllReadyH.cons rfl (fun K hK=>?_) AllReadyH.nil
    go_simp
    refine (K3.out T15 gT15).mono ?_
    rintro e' T16 ⟨⟨x3,xa3,xn3,xk3,xe3,rfl,v3⟩,hbT16⟩
    have gT16:=ae gT15 hbT16
    refine hK.out _ _ (KS.out _ gT16) (fun hHeld16=>?_)
    clear hK K
    try simp only [Act.put,List.setIfInBounds_toArray,List.set_cons_zero,List.set_cons_succ]
    refine wpAnyH_ready (rs:=[19]) (by kernel_rfl) (by simp) ?_
    refine AllReadyH.cons rfl (fun K hK=>?_) AllReadyH.nil
    go_simp
    refine (K4.out T16 gT16).mono ?_
    rintro e' T17 ⟨⟨x4,xa4,xn4,xk4,xe4,rfl,v4⟩,hbT17⟩
    have gT17:=ae gT16 hbT17
    refine hK.out _ _ (KS.out _ gT17) (fun hHeld17=>?_)
    clear hK K
    try simp only [Act.put,List.setIfInBounds_toArray,List.set_cons_zero,List.set_cons_succ]
    refine wpAnyH_take (i:=20) (oi:={ dst:=some 34,op:=Op.build 68 #[(0,Operand.tmp 18),(1,Operand.tmp 23),(2,Operand.tmp 28),(3,Operand.tmp 33)],type:=68,pos:="ref.go:122",after:=#[{ on:=4,ground:=Ground.data },{ on:=9,ground:=Ground.data },{ on:=14,ground:=Ground.data },{ on:=19,ground:=Ground.data }],guard:=none }) (v:=.agg #[.bool x1,.slice xa1 xn1 xk1,.int .i64 xe1,.bool x2,.slice xa2 xn2 xk2,.int .i64 xe2,.bool x3,.slice xa3 xn3 xk3,.int .i64 xe3,.bool x4,.slice xa4 xn4 xk4,.int .i64 xe4]) rfl (by kernel_rfl) (by kernel_rfl) (by kernel_rfl) (fun _ _ _ h=>h) (Or.inl ⟨by rfl,fun w9 hSw=>?_⟩) hHeld17 ?_
    ·(try dsimp only at hSw);go_simp
    try simp only [Act.put,List.setIfInBounds_toArray,List.set_cons_zero,List.set_cons_succ]
    refine wpAnyH_ready (rs:=[22]) (by kernel_rfl) (by simp) ?_
    refine AllReadyH.cons rfl (fun K hK=>?_) AllReadyH.nil
    have hzb:=(ac (ae (ae hbT15 hbT16) hbT17) hxPB14)
    have zfb:=bj hzb
    obtain⟨⟨zc0,zc1,zc2⟩,⟨zc3,zc4,zc5⟩,⟨zc6,zc7,zc8⟩,⟨zc9,zc10,zc11⟩⟩:=bh hzb
    have geb:w0.heap.size≤T1.heap.size:=gT1.size
    have gst:=ci gT17 geb (.bool x1) (.slice xa1 xn1 xk1) (.int .i64 xe1) (.bool x2) (.slice xa2 xn2 xk2) (.int .i64 xe2) (.bool x3) (.slice xa3 xn3 xk3) (.int .i64 xe3) (.bool x4) (.slice xa4 xn4 xk4) (.int .i64 xe4)
    go_simp
    refine hK.out _ _ (KS.out _ gst) (fun hHeld18=>?_)
    clear hK K
    try simp only [Act.put,List.setIfInBounds_toArray,List.set_cons_zero,List.set_cons_succ]
    refine wpAnyH_done (by kernel_rfl) ?_ _
    clear hHeld0 hHeld1 hHeld14 hHeld15 hHeld16 hHeld17 hHeld18
    go_wp2_with fail
    go_meet
    exact cj hzb geb (v1.below (ae (ae (ae hbPB14 hbT15) hbT16) hbT17)) (v2.below (ae hbT16 hbT17)) (v3.below hbT17) (v4.below (Below.refl _ _)) gT17
   exact AllReadyH.nil
  refine AllReadyH.cons rfl (fun K hK=>?_) ?_
  ·skip
   go_simp
   refine hK.out _ _ (KS.out _ (aG gUD _)) (fun hHeld19=>?_)
   clear hK K
   try simp only [Act.put,List.setIfInBounds_toArray,List.set_cons_zero,List.set_cons_succ]
   obtain⟨PB19,hPB19,hbPB19,hxPB19⟩:=ag UD (.cells #[.bool false,.slice none 0 0,.int .i64 0,.bool false,.slice none 0 0,.int .i64 0,.bool false,.slice none 0 0,.int .i64 0,.bool false,.slice none 0 0,.int .i64 0] 68)
   rw [hPB19] at hHeld19 ⊢
   have gPB19:=ae gUD hbPB19
   clear hPB19
   refine wpAnyH_ready (rs:=[4]) (by kernel_rfl) (by simp) ?_
   refine AllReadyH.cons rfl (fun K hK=>?_) AllReadyH.nil
   go_simp
   refine (K1.out PB19 gPB19).mono ?_
   rintro e' T20 ⟨⟨x1,xa1,xn1,xk1,xe1,rfl,v1⟩,hbT20⟩
   have gT20:=ae gPB19 hbT20
   refine hK.out _ _ (KS.out _ gT20) (fun hHeld20=>?_)
   clear hK K
   try simp only [Act.put,List.setIfInBounds_toArray,List.set_cons_zero,List.set_cons_succ]
   refine wpAnyH_ready (rs:=[9]) (by kernel_rfl) (by simp) ?_
   refine AllReadyH.cons rfl (fun K hK=>?_) AllReadyH.nil
   go_simp
   refine (K2.out T20 gT20).mono ?_
   rintro e' T21 ⟨⟨x2,xa2,xn2,xk2,xe2,rfl,v2⟩,hbT21⟩
   have gT21:=ae gT20 hbT21
   refine hK.out _ _ (KS.out _ gT21) (fun hHeld21=>?_)
   clear hK K
   try simp only [Act.put,List.setIfInBounds_toArray,List.set_cons_zero,List.set_cons_succ]
   refine wpAnyH_ready (rs:=[14]) (by kernel_rfl) (by simp) ?_
   refine AllReadyH.cons rfl (fun K hK=>?_) AllReadyH.nil
   go_simp
   refine (K3.out T21 gT21).mono ?_
   rintro e' T22 ⟨⟨x3,xa3,xn3,xk3,xe3,rfl,v3⟩,hbT22⟩
   have gT22:=ae gT21 hbT22
   refine hK.out _ _ (KS.out _ gT22) (fun hHeld22=>?_)
   clear hK K
   try simp only [Act.put,List.setIfInBounds_toArray,List.set_cons_zero,List.set_cons_succ]
   refine wpAnyH_ready (rs:=[19]) (by kernel_rfl) (by simp) ?_
   refine AllReadyH.cons rfl (fun K hK=>?_) AllReadyH.nil
   go_simp
   refine (K4.out T22 gT22).mono ?_
   rintro e' T23 ⟨⟨x4,xa4,xn4,xk4,xe4,rfl,v4⟩,hbT23⟩
   have gT23:=ae gT22 hbT23
   refine hK.out _ _ (KS.out _ gT23) (fun hHeld23=>?_)
   clear hK K
   try simp only [Act.put,List.setIfInBounds_toArray,List.set_cons_zero,List.set_cons_succ]
   refine wpAnyH_take (i:=20) (oi:={ dst:=some 34,op:=Op.build 68 #[(0,Operand.tmp 18),(1,Operand.tmp 23),(2,Operand.tmp 28),(3,Operand.tmp 33)],type:=68,pos:="ref.go:122",after:=#[{ on:=4,ground:=Ground.data },{ on:=9,ground:=Ground.data },{ on:=14,ground:=Ground.data },{ on:=19,ground:=Ground.data }],guard:=none }) (v:=.agg #[.bool x1,.slice xa1 xn1 xk1,.int .i64 xe1,.bool x2,.slice xa2 xn2 xk2,.int .i64 xe2,.bool x3,.slice xa3 xn3 xk3,.int .i64 xe3,.bool x4,.slice xa4 xn4 xk4,.int .i64 xe4]) rfl (by kernel_rfl) (by kernel_rfl) (by kernel_rfl) (fun _ _ _ h=>h) (Or.inl ⟨by rfl,fun w9 hSw=>?_⟩) hHeld23 ?_
   ·(try dsimp only at hSw);go_simp
   try simp only [Act.put,List.setIfInBounds_toArray,List.set_cons_zero,List.set_cons_succ]
   refine wpAnyH_ready (rs:=[22]) (by kernel_rfl) (by simp) ?_
   refine AllReadyH.cons rfl (fun K hK=>?_) AllReadyH.nil
   have hzb:=(ac (ae (ae (ae hbT20 hbT21) hbT22) hbT23) hxPB19)
   have zfb:=bj hzb
   obtain⟨⟨zc0,zc1,zc2⟩,⟨zc3,zc4,zc5⟩,⟨zc6,zc7,zc8⟩,⟨zc9,zc10,zc11⟩⟩:=bh hzb
   have geb:w0.heap.size≤UD.heap.size:=gUD.size
   have gst:=ci gT23 geb (.bool x1) (.slice xa1 xn1 xk1) (.int .i64 xe1) (.bool x2) (.slice xa2 xn2 xk2) (.int .i64 xe2) (.bool x3) (.slice xa3 xn3 xk3) (.int .i64 xe3) (.bool x4) (.slice xa4 xn4 xk4) (.int .i64 xe4)
   go_simp
   refine hK.out _ _ (KS.out _ gst) (fun hHeld24=>?_)
   clear hK K
   try simp only [Act.put,List.setIfInBounds_toArray,List.set_cons_zero,List.set_cons_succ]
   refine wpAnyH_done (by kernel_rfl) ?_ _
   clear hHeld0 hHeld19 hHeld20 hHeld21 hHeld22 hHeld23 hHeld24
   go_wp2_with fail
   go_meet
   exact cj hzb geb (v1.below (ae (ae hbT21 hbT22) hbT23)) (v2.below (ae hbT22 hbT23)) (v3.below hbT23) (v4.below (Below.refl _ _)) gT23
  exact AllReadyH.nil
 case rest=>
  obtain⟨gd,x1,xa1,xn1,xk1,xe1,x2,xa2,xn2,xk2,xe2,x3,xa3,xn3,xk3,xe3,x4,xa4,xn4,xk4,xe4,rfl,hX,v1,v2,v3,v4,hbx⟩:=hcut
  have HX:=ab hX
  have HV:=ab (And.intro v1 (And.intro v2 (And.intro v3 v4)))
  have HUc:=ab (ae HU0.out hbx)
  have HRc:=ab (ac hbx HR0.out)
  obtain⟨w6,hw6,hb6,q6⟩:=ag wc (.cells #[.bool x1,.slice xa1 xn1 xk1,.int .i64 xe1,.bool x2,.slice xa2 xn2 xk2,.int .i64 xe2,.bool x3,.slice xa3 xn3 xk3,.int .i64 xe3,.bool x4,.slice xa4 xn4 xk4,.int .i64 xe4] 31)
  have CB:=ju wc.heap.size x1 xa1 xn1 xk1 xe1 x2 xa2 xn2 xk2 xe2 x3 xa3 xn3 xk3 xe3 x4 xa4 xn4 xk4 xe4 K Q1 Q2 Q3 Q4 0 0 0 0 w6 q6 (v1.below hb6) (v2.below hb6) (v3.below hb6) (v4.below hb6) KC1.out KC2.out KC3.out KC4.out
  rw [show aW 0 0 0 0=0 from rfl] at CB
  have HB6:=ab hb6
  obtain⟨⟨y0,y1,y2⟩,⟨y3,y4,y5⟩,⟨y6,y7,y8⟩,⟨y9,y10,y11⟩⟩:=bh hX
  clear KS K1 K2 K3 K4 g0 hX v1 v2 v3 v4 hbx q6 hb6
  go_wp2_with fail
  refine CB.mono ?_
  rintro e t7 ⟨rfl,g7⟩
  have g67:=ae HB6.out g7
  have HU7:=ab (ae HUc.out g67)
  have HR7:=ab (ac g67 HRc.out)
  have HX7:=ab (ac g67 HX.out)
  have HW1:=ab ((HV.out.1.below g67).v8 KC1.out)
  have HW2:=ab ((HV.out.2.1.below g67).v8 KC2.out)
  have HW3:=ab ((HV.out.2.2.1.below g67).v8 KC3.out)
  have HW4:=ab ((HV.out.2.2.2.below g67).v8 KC4.out)
  have KS5:=ab (fun (W:World) (hg:Below t7.heap.size t7 W)=>show W.cell? ⟨gd,0,none⟩=some (.bool x1)∧W.cell? ⟨gd,1,none⟩=some (.slice xa1 xn1 xk1)∧W.cell? ⟨gd,2,none⟩=some (.int .i64 xe1)∧W.cell? ⟨gd,3,none⟩=some (.bool x2)∧W.cell? ⟨gd,4,none⟩=some (.slice xa2 xn2 xk2)∧W.cell? ⟨gd,5,none⟩=some (.int .i64 xe2)∧W.cell? ⟨gd,6,none⟩=some (.bool x3)∧W.cell? ⟨gd,7,none⟩=some (.slice xa3 xn3 xk3)∧W.cell? ⟨gd,8,none⟩=some (.int .i64 xe3)∧W.cell? ⟨gd,9,none⟩=some (.bool x4)∧W.cell? ⟨gd,10,none⟩=some (.slice xa4 xn4 xk4)∧W.cell? ⟨gd,11,none⟩=some (.int .i64 xe4) from (by
   obtain⟨⟨y0,y1,y2⟩,⟨y3,y4,y5⟩,⟨y6,y7,y8⟩,⟨y9,y10,y11⟩⟩:=bh (ac hg HX7.out)
   exact⟨y0,y1,y2,y3,y4,y5,y6,y7,y8,y9,y10,y11⟩))
  have g5:Below t7.heap.size t7 t7.drew:=be (Below.refl _ _)
  clear CB g7 g67 y0 y1 y2 y3 y4 y5 y6 y7 y8 y9 y10 y11 hw6 HV HX HRc HUc HU0 HR0 HB6
  go_upto_region 5 with fail
  go_cut [10,11] from 49 to 52 (fun s t wx=>mg t7 K Q1 Q1 s t wx)
  case first=>
   refine wp_region_held_drew (S:=fun w'=>w'.cell? ⟨gd,0,none⟩=some (.bool x1)∧w'.cell? ⟨gd,1,none⟩=some (.slice xa1 xn1 xk1)∧w'.cell? ⟨gd,2,none⟩=some (.int .i64 xe1)∧w'.cell? ⟨gd,3,none⟩=some (.bool x2)∧w'.cell? ⟨gd,4,none⟩=some (.slice xa2 xn2 xk2)∧w'.cell? ⟨gd,5,none⟩=some (.int .i64 xe2)∧w'.cell? ⟨gd,6,none⟩=some (.bool x3)∧w'.cell? ⟨gd,7,none⟩=some (.slice xa3 xn3 xk3)∧w'.cell? ⟨gd,8,none⟩=some (.int .i64 xe3)∧w'.cell? ⟨gd,9,none⟩=some (.bool x4)∧w'.cell? ⟨gd,10,none⟩=some (.slice xa4 xn4 xk4)∧w'.cell? ⟨gd,11,none⟩=some (.int .i64 xe4)) (by kernel_rfl) (KS5.out _ (g5)) (fun hHeld0=>?_)
   obtain⟨UD,hUD⟩:∃x,t7.drew=x:=⟨_,rfl⟩
   have gUD:Below t7.heap.size t7 UD:=by rw [←hUD];exact (g5)
   rw [hUD] at hHeld0 ⊢
   clear hUD
   refine wpAnyH_take (i:=0) (oi:={ dst:=some 49,op:=Op.indexAddr 68 (Operand.tmp 8) (Operand.const (Value.int IntKind.i64 0)),type:=0,pos:="ref.go:127",after:=#[],guard:=none }) (v:=.pointer (some ⟨gd,0,none⟩)) rfl (by kernel_rfl) (by kernel_rfl) (by kernel_rfl) (fun _ _ _ h=>h) (Or.inl ⟨by rfl,fun w9 hSw=>?_⟩) hHeld0 ?_
   ·(try dsimp only at hSw);go_simp
   try simp only [Act.put,List.setIfInBounds_toArray,List.set_cons_zero,List.set_cons_succ]
   refine wpAnyH_take (i:=1) (oi:={ dst:=some 50,op:=Op.load 31 (Operand.tmp 49),type:=31,pos:="ref.go:127",after:=#[{ on:=0,ground:=Ground.data }],guard:=none }) (v:=.agg #[.bool x1,.slice xa1 xn1 xk1,.int .i64 xe1]) rfl (by kernel_rfl) (by kernel_rfl) (by kernel_rfl) (fun _ _ _ h=>h) (Or.inl ⟨by rfl,fun w9 hSw=>?_⟩) hHeld0 ?_
   ·(try dsimp only at hSw);go_simp
   try simp only [Act.put,List.setIfInBounds_toArray,List.set_cons_zero,List.set_cons_succ]
   refine wpAnyH_take (i:=2) (oi:={ dst:=some 51,op:=Op.indexAddr 68 (Operand.tmp 8) (Operand.const (Value.int IntKind.i64 0)),type:=0,pos:="ref.go:127",after:=#[{ on:=6,ground:=Ground.gcOnly Departure.lateStores }],guard:=none }) (v:=.pointer (some ⟨gd,0,none⟩)) rfl (by kernel_rfl) (by kernel_rfl) (by kernel_rfl) (fun _ _ _ h=>h) (Or.inl ⟨by rfl,fun w9 hSw=>?_⟩) hHeld0 ?_
   ·(try dsimp only at hSw);go_simp
   try simp only [Act.put,List.setIfInBounds_toArray,List.set_cons_zero,List.set_cons_succ]
   refine wpAnyH_take (i:=3) (oi:={ dst:=some 52,op:=Op.load 31 (Operand.tmp 51),type:=31,pos:="ref.go:127",after:=#[{ on:=2,ground:=Ground.data },{ on:=6,ground:=Ground.gcOnly Departure.lateStores }],guard:=none }) (v:=.agg #[.bool x1,.slice xa1 xn1 xk1,.int .i64 xe1]) rfl (by kernel_rfl) (by kernel_rfl) (by kernel_rfl) (fun _ _ _ h=>h) (Or.inl ⟨by rfl,fun w9 hSw=>?_⟩) hHeld0 ?_
   ·(try dsimp only at hSw);go_simp
   try simp only [Act.put,List.setIfInBounds_toArray,List.set_cons_zero,List.set_cons_succ]
   refine wpAnyH_ready (rs:=[4,5]) (by kernel_rfl) (by simp) ?_
   refine AllReadyH.cons rfl (fun K hK=>?_) ?_
   ·skip
    go_simp
    refine hK.out _ _ (KS5.out _ (aG gUD _)) (fun hHeld1=>?_)
    clear hK K
    try simp only [Act.put,List.setIfInBounds_toArray,List.set_cons_zero,List.set_cons_succ]
    obtain⟨PB1,hPB1,hbPB1,hxPB1⟩:=ag UD (.cells #[.bool false,.slice none 0 0,.int .i64 0] 31)
    rw [hPB1] at hHeld1 ⊢
    have gPB1:=ae gUD hbPB1
    clear hPB1
    refine wpAnyH_ready (rs:=[5]) (by kernel_rfl) (by simp) ?_
    refine AllReadyH.cons rfl (fun K hK=>?_) AllReadyH.nil
    go_simp
    refine hK.out _ _ (KS5.out _ (aG gPB1 _)) (fun hHeld2=>?_)
    clear hK K
    try simp only [Act.put,List.setIfInBounds_toArray,List.set_cons_zero,List.set_cons_succ]
    obtain⟨PB2,hPB2,hbPB2,hxPB2⟩:=ag PB1 (.cells #[.bool false,.slice none 0 0,.int .i64 0] 31)
    rw [hPB2] at hHeld2 ⊢
    have gPB2:=ae gPB1 hbPB2
    clear hPB2
    refine wpAnyH_ready (rs:=[6]) (by kernel_rfl) (by simp) ?_
    refine AllReadyH.cons rfl (fun K hK=>?_) AllReadyH.nil
    have hzb:=(ac hbPB2 hxPB1)
    have zfb:=ak hzb
    obtain⟨zc0,zc1,zc2⟩:=tri8 hzb
    have geb:t7.heap.size≤UD.heap.size:=gUD.size
    have gst:=an gPB2 geb (.bool x1) (.slice xa1 xn1 xk1) (.int .i64 xe1)
    go_simp
    refine hK.out _ _ (KS5.out _ gst) (fun hHeld3=>?_)
    clear hK K
    try simp only [Act.put,List.setIfInBounds_toArray,List.set_cons_zero,List.set_cons_succ]
    refine wpAnyH_ready (rs:=[7]) (by kernel_rfl) (by simp) ?_
    refine AllReadyH.cons rfl (fun K hK=>?_) AllReadyH.nil
    have hzc:=(hxPB2)
    have hneb:UD.heap.size≠PB1.heap.size:=by have l1:=lt_of_block hxPB1;omega
    have hzd:=fg (Ne.symm hneb) (.bool x1) (.slice xa1 xn1 xk1) (.int .i64 xe1) hzc
    have zfd:=ak hzd
    obtain⟨zd0,zd1,zd2⟩:=tri8 hzd
    have gec:t7.heap.size≤PB1.heap.size:=gPB1.size
    have gst2:=an gst gec (.bool x1) (.slice xa1 xn1 xk1) (.int .i64 xe1)
    go_simp
    refine hK.out _ _ (KS5.out _ gst2) (fun hHeld4=>?_)
    clear hK K
    try simp only [Act.put,List.setIfInBounds_toArray,List.set_cons_zero,List.set_cons_succ]
    refine wpAnyH_done (by kernel_rfl) ?_ _
    clear hHeld0 hHeld1 hHeld2 hHeld3 hHeld4
    go_wp2_with fail
    go_meet
    exact⟨_,_,rfl,rfl,hneb,geb,gec,gN hzb hzc hneb geb gec (HW1.out.below gPB2) (HW1.out.below gPB2) gPB2⟩
   refine AllReadyH.cons rfl (fun K hK=>?_) ?_
   ·skip
    go_simp
    refine hK.out _ _ (KS5.out _ (aG gUD _)) (fun hHeld5=>?_)
    clear hK K
    try simp only [Act.put,List.setIfInBounds_toArray,List.set_cons_zero,List.set_cons_succ]
    obtain⟨PB5,hPB5,hbPB5,hxPB5⟩:=ag UD (.cells #[.bool false,.slice none 0 0,.int .i64 0] 31)
    rw [hPB5] at hHeld5 ⊢
    have gPB5:=ae gUD hbPB5
    clear hPB5
    refine wpAnyH_ready (rs:=[4]) (by kernel_rfl) (by simp) ?_
    refine AllReadyH.cons rfl (fun K hK=>?_) AllReadyH.nil
    go_simp
    refine hK.out _ _ (KS5.out _ (aG gPB5 _)) (fun hHeld6=>?_)
    clear hK K
    try simp only [Act.put,List.setIfInBounds_toArray,List.set_cons_zero,List.set_cons_succ]
    obtain⟨PB6,hPB6,hbPB6,hxPB6⟩:=ag PB5 (.cells #[.bool false,.slice none 0 0,.int .i64 0] 31)
    rw [hPB6] at hHeld6 ⊢
    have gPB6:=ae gPB5 hbPB6
    clear hPB6
    refine wpAnyH_ready (rs:=[6]) (by kernel_rfl) (by simp) ?_
    refine AllReadyH.cons rfl (fun K hK=>?_) AllReadyH.nil
    have hzb:=(hxPB6)
    have zfb:=ak hzb
    obtain⟨zc0,zc1,zc2⟩:=tri8 hzb
    have geb:t7.heap.size≤PB5.heap.size:=gPB5.size
    have gst:=an gPB6 geb (.bool x1) (.slice xa1 xn1 xk1) (.int .i64 xe1)
    go_simp
    refine hK.out _ _ (KS5.out _ gst) (fun hHeld7=>?_)
    clear hK K
    try simp only [Act.put,List.setIfInBounds_toArray,List.set_cons_zero,List.set_cons_succ]
    refine wpAnyH_ready (rs:=[7]) (by kernel_rfl) (by simp) ?_
    refine AllReadyH.cons rfl (fun K hK=>?_) AllReadyH.nil
    have hzc:=(ac hbPB6 hxPB5)
    have hneb:PB5.heap.size≠UD.heap.size:=by have l1:=lt_of_block hxPB5;omega
    have hzd:=fg (Ne.symm hneb) (.bool x1) (.slice xa1 xn1 xk1) (.int .i64 xe1) hzc
    have zfd:=ak hzd
    obtain⟨zd0,zd1,zd2⟩:=tri8 hzd
    have gec:t7.heap.size≤UD.heap.size:=gUD.size
    have gst2:=an gst gec (.bool x1) (.slice xa1 xn1 xk1) (.int .i64 xe1)
    go_simp
    refine hK.out _ _ (KS5.out _ gst2) (fun hHeld8=>?_)
    clear hK K
    try simp only [Act.put,List.setIfInBounds_toArray,List.set_cons_zero,List.set_cons_succ]
    refine wpAnyH_done (by kernel_rfl) ?_ _
    clear hHeld0 hHeld5 hHeld6 hHeld7 hHeld8
    go_wp2_with fail
    go_meet
    exact⟨_,_,rfl,rfl,hneb,geb,gec,gN hzb hzc hneb geb gec (HW1.out.below gPB6) (HW1.out.below gPB6) gPB6⟩
   exact AllReadyH.nil
  case rest=>
   obtain⟨g,h,rfl,rfl,hne,hg1,hg2,hst⟩:=hcut
   have hbw:Below t7.heap.size t7 wc:=by
    obtain⟨_,_,_,_,_,_,_,_,_,_,_,_,_,_,hb⟩:=hst
    exact hb
   have HNE:=ab hne
   have HG1:=ab hg1
   have HG2:=ab hg2
   have HST:=ab hst
   obtain⟨y0,y1,y2,y3,y4,y5,y6,y7,y8,y9,y10,y11⟩:=KS5.out wc hbw
   clear hne hg1 hg2 hst hbw g5
   go_wp2_with fail
   clear y0 y1 y2 y3 y4 y5 y6 y7 y8 y9 y10 y11 KS5
   go_loopw [54] (fun i wr=>∃(k:Nat),k≤4∧i=.int .i64 k∧ij t7 g h K (loK Q1 Q2 Q3 Q4 k) (hiK Q1 Q2 Q3 Q4 k) wr) (fun i _=>4 - (intOf i).toNat)
   case atStart=>exact⟨0,by omega,rfl,HST.out⟩
   case round=>
    obtain⟨k,hk,rfl,p,pa,pn,pk,pe,q,qa,qn,qk,qe,hA,hB,hv1,hv2,hbr⟩:=hrel
    have HAA:=ab hA
    have HBB:=ab hB
    have HV1:=ab hv1
    have HV2:=ab hv2
    have HBR:=ab hbr
    clear hA hB hv1 hv2 hbr HST
    rcases Nat.lt_or_ge k 4 with hk4|hk4
    ·obtain⟨x,xa,xn,xk,xe,hidx,hxv⟩:∃(x:Bool) (xa:Option Addr) (xn xk:Nat) (xe:Int),(∀W,(Instr.index 68 (.agg #[.bool x1,.slice xa1 xn1 xk1,.int .i64 xe1,.bool x2,.slice xa2 xn2 xk2,.int .i64 xe2,.bool x3,.slice xa3 xn3 xk3,.int .i64 xe3,.bool x4,.slice xa4 xn4 xk4,.int .i64 xe4]) (.int .i64 (k:Int))).run Tryz.prog W=.ok (.agg #[.bool x,.slice xa xn xk,.int .i64 xe]) W)∧V8 t7 x xa xn xk xe K (pk4 Q1 Q2 Q3 Q4 k):=by
      rcases (show k=0∨k=1∨k=2∨k=3 by omega) with rfl|rfl|rfl|rfl
      ·exact⟨_,_,_,_,_,fun W=>lV _ _ _ _ _ _ _ _ _ _ _ _ W,HW1.out⟩
      ·exact⟨_,_,_,_,_,fun W=>mP _ _ _ _ _ _ _ _ _ _ _ _ W,HW2.out⟩
      ·exact⟨_,_,_,_,_,fun W=>pC _ _ _ _ _ _ _ _ _ _ _ _ W,HW3.out⟩
      ·exact⟨_,_,_,_,_,fun W=>oD _ _ _ _ _ _ _ _ _ _ _ _ W,HW4.out⟩
     have i1:decide ((k:Int)<4)=true:=decide_eq_true (by omega)
     have i1b:(k:Int)<4:=by omega
     obtain⟨u1,hu1,hbu,qu⟩:=ag wr (.cells #[.bool x,.slice xa xn xk,.int .i64 xe] 31)
     have HXV:=ab ((hxv.below HBR.out).below hbu)
     have HBU:=ab hbu
     have KS9:=ab (fun (W:World) (hg:Below u1.heap.size u1 W)=>show W.cell? ⟨g,0,none⟩=some (.bool p)∧W.cell? ⟨g,1,none⟩=some (.slice pa pn pk)∧W.cell? ⟨g,2,none⟩=some (.int .i64 pe)∧W.cell? ⟨h,0,none⟩=some (.bool q)∧W.cell? ⟨h,1,none⟩=some (.slice qa qn qk)∧W.cell? ⟨h,2,none⟩=some (.int .i64 qe)∧W.cell? ⟨wr.heap.size,0,none⟩=some (.bool x)∧W.cell? ⟨wr.heap.size,1,none⟩=some (.slice xa xn xk)∧W.cell? ⟨wr.heap.size,2,none⟩=some (.int .i64 xe) from (by
      obtain⟨c0,c1,c2⟩:=tri8 (ac (ae hbu hg) HAA.out)
      obtain⟨c3,c4,c5⟩:=tri8 (ac (ae hbu hg) HBB.out)
      obtain⟨c6,c7,c8⟩:=tri8 (ac hg qu)
      exact⟨c0,c1,c2,c3,c4,c5,c6,c7,c8⟩))
     have KL:=ab (fun (W:World) (hg:Below u1.heap.size u1 W)=>pi p pa pn pk pe x xa xn xk xe K _ _ W (HV1.out.below (ae hbu hg)) (HXV.out.below hg))
     have KM:=ab (fun (W:World) (hg:Below u1.heap.size u1 W)=>rK q qa qn qk qe x xa xn xk xe K _ _ W (HV2.out.below (ae hbu hg)) (HXV.out.below hg))
     have KF:=ab (fun (W:World) (hg:Below u1.heap.size u1 W)=>show (∀j,W.frozen? ⟨g,j,none⟩=false)∧(∀j,W.frozen? ⟨h,j,none⟩=false) from ⟨ak (ac (ae hbu hg) HAA.out),ak (ac (ae hbu hg) HBB.out)⟩)
     have KH:=ab (fun (W:World) (hg:Below u1.heap.size u1 W)=>And.intro (ac (ae hbu hg) HAA.out) (ac (ae hbu hg) HBB.out))
     have KB:=ab (fun (W:World) (hg:Below u1.heap.size u1 W)=>ae HBR.out (ae hbu hg))
     have g0:Below u1.heap.size u1 u1.drew:=be (Below.refl _ _)
     clear hbu qu hxv
     go_upto_region 9 with fail
     clear hu1 hidx
     obtain⟨d0,d1,d2,d3,d4,d5,d6,d7,d8⟩:=KS9.out u1.drew g0
     go_region_with (first
      | (go_at_call 28;refine (KL.out _ g0).mono ?_;rintro e' t1 ⟨⟨b8,a8,n8,c8,e8,rfl,v8⟩,hb1⟩;have g1:=ae g0 hb1;clear d0 d1 d2 d3 d4 d5 d6 d7 d8;obtain⟨d0,d1,d2,d3,d4,d5,d6,d7,d8⟩:=KS9.out t1 g1)
      | (go_at_call 29;refine (KM.out _ g1).mono ?_;rintro e' t2 ⟨⟨b9,a9,n9,c9,e9,rfl,v9⟩,hb2⟩;have g2:=ae g1 hb2;clear d0 d1 d2 d3 d4 d5 d6 d7 d8;obtain⟨d0,d1,d2,d3,d4,d5,d6,d7,d8⟩:=KS9.out t2 g2;obtain⟨f1,f2⟩:=KF.out t2 g2;have hne1:=HNE.out))
     all_goals
      have HST:=ab (gN (KH.out t2 g2).1 (KH.out t2 g2).2 HNE.out HG1.out HG2.out (v8.below hb2) v9 (KB.out t2 g2))
      clear KS9 KL KM KF KH KB g0 d0 d1 d2 d3 d4 d5 d6 d7 d8 f1 f2
      go_wp2_with fail
      go_roundw
      case rel=>exact⟨k+1,by omega,by go_num,HST.out⟩
      case measure=>simp [intOf];omega
    ·obtain rfl:k=4:=by omega
     obtain⟨d0,d1,d2⟩:=tri8 HAA.out
     obtain⟨d3,d4,d5⟩:=tri8 HBB.out
     have C:=HOO.out wr p pa pn pk pe q qa qn qk qe HV1.out HV2.out
     have HUr:=ab (ae HU7.out HBR.out)
     have HRr:=ab (ac HBR.out HR7.out)
     go_wp2_with fail
     refine C.mono ?_
     rintro e t8 ⟨⟨p8,pa8,pn8,pk8,pe8,q8,qa8,qn8,qk8,qe8,rfl,v8,v9⟩,g8⟩
     have C9:=HDD.out t8 p8 pa8 pn8 pk8 pe8 q8 qa8 qn8 qk8 qe8 v8 v9
     have HU8:=ab (ae HUr.out g8)
     have HR8:=ab (ac g8 HRr.out)
     clear C g8 v8 v9 d0 d1 d2 d3 d4 d5
     go_wp2_with fail
     refine C9.mono ?_
     rintro e t9 ⟨⟨b8,a8,n8,c8,e8,b9,a9,n9,c9,e9,rfl,hv⟩,g9⟩
     have HC1:=ab (ac g9 HR8.out)
     have HG:=ab (ae HU8.out g9)
     have HV:=ab hv
     have hf1:=av HC1.out
     obtain⟨m0,m1,m2,m3,m4,m5⟩:=hexa HC1.out
     clear C9 g9 hv
     go_wp2
     have T3:=aJ HC1.out (.bool b8) (.slice a8 n8 c8) (.int .i64 e8) (.bool b9) (.slice a9 n9 c9) (.int .i64 e9)
     have T4:=aF HG.out (show w.heap.size≤w.heap.size+1+1 by omega) (.bool b8) (.slice a8 n8 c8) (.int .i64 e8) (.bool b9) (.slice a9 n9 c9) (.int .i64 e9)
     have T5:=fun (h:DD=0)=>And.intro ((HV.out h).1.hexa HC1.out b8 a8 n8 c8 e8 b9 a9 n9 c9 e9) ((HV.out h).2.hexa HC1.out b8 a8 n8 c8 e8 b9 a9 n9 c9 e9)
     obtain⟨p0,p1,p2,p3,p4,p5⟩:=hexa T3
     have HE:=ab (And.intro T5 T4)
     clear T3 T4 T5
     generalize (((((t9.setCell ⟨w.heap.size+1+1,0,none⟩ (.bool b8)).setCell ⟨w.heap.size+1+1,1,none⟩ (.slice a8 n8 c8)).setCell ⟨w.heap.size+1+1,2,none⟩ (.int .i64 e8)).setCell ⟨w.heap.size+1+1,3,none⟩ (.bool b9)).setCell ⟨w.heap.size+1+1,4,none⟩ (.slice a9 n9 c9)).setCell ⟨w.heap.size+1+1,5,none⟩ (.int .i64 e9)=w9 at *
     refine bodyPost_ret (v:=.tuple #[.agg #[.bool b8,.slice a8 n8 c8,.int .i64 e8,.bool b9,.slice a9 n9 c9,.int .i64 e9],.int .i64 DD]) (by simp [results,Tryz.results11,go_sem,p0,p1,p2,p3,p4,p5]) rfl ?_
     exact⟨⟨_,_,_,_,_,_,_,_,_,_,rfl,HE.out.1⟩,HE.out.2⟩

theorem Sml.lo4 {L:Nat}{V W:Int}(h:Sml L V)(g:Sml L W):Sml L (min V W):=by
 rcases (show min V W=V∨min V W=W by omega) with e|e <;> rw [e] <;> assumption

theorem Sml.hi4 {L:Nat}{V W:Int}(h:Sml L V)(g:Sml L W):Sml L (max V W):=by
 rcases (show max V W=V∨max V W=W by omega) with e|e <;> rw [e] <;> assumption

theorem eT (b1:Bool)(a1:Option Addr)(n1 k1:Nat)(ex1:Int)(b2:Bool)(a2:Option Addr)(n2 k2:Nat)(ex2:Int)(b3:Bool)(a3:Option Addr)(n3 k3:Nat)(ex3:Int)(b4:Bool)(a4:Option Addr)(n4 k4:Nat)(ex4:Int)(pos:Int)(L:Nat)(V1 V2 V3 V4 c1 c2 c3 c4 d1 d2:Int)(w:World)(h1:V8 w b1 a1 n1 k1 ex1 L V1)(h2:V8 w b2 a2 n2 k2 ex2 L V2)(h3:V8 w b3 a3 n3 k3 ex3 L V3)(h4:V8 w b4 a4 n4 k4 ex4 L V4)(s1:Sml L V1)(s2:Sml L V2)(s3:Sml L V3)(s4:Sml L V4)(kc1:aj (L+L) (V1*V3) c1)(kc2:aj (L+L) (V1*V4) c2)(kc3:aj (L+L) (V2*V3) c3)(kc4:aj (L+L) (V2*V4) c4)(kd1:aj (L+L) (rv 0 (min (min (min (V1*V3) (V1*V4)) (V2*V3)) (V2*V4)) (2 ^ (pos+(L+L:Nat)).toNat)) d1)(kd2:aj (L+L) (rv 1 (max (max (max (V1*V3) (V1*V4)) (V2*V3)) (V2*V4)) (2 ^ (pos+(L+L:Nat)).toNat)) d2)(hK:ah pos=true)(hL:4611686018427387904≤L) :
  Calls Tryz.prog 11 #[.agg #[.bool b1,.slice a1 n1 k1,.int .i64 ex1,.bool b2,.slice a2 n2 k2,.int .i64 ex2],.agg #[.bool b3,.slice a3 n3 k3,.int .i64 ex3,.bool b4,.slice a4 n4 k4,.int .i64 ex4],.int .i64 pos] w fun e w'=>ei w e w' (if aW c1 c2 c3 c4=0 then aE d1 d2 else aW c1 c2 c3 c4) (L+L) (rv 0 (min (min (min (V1*V3) (V1*V4)) (V2*V3)) (V2*V4)) (2 ^ (pos+(L+L:Nat)).toNat)) (rv 1 (max (max (max (V1*V3) (V1*V4)) (V2*V3)) (V2*V4)) (2 ^ (pos+(L+L:Nat)).toNat)):=by
 have M1:=fun (W:World) (hg:Below w.heap.size w W)=>fB b1 a1 n1 k1 ex1 b3 a3 n3 k3 ex3 L V1 V3 W (h1.below hg) (h3.below hg) s1 s3
 have M2:=fun (W:World) (hg:Below w.heap.size w W)=>fB b1 a1 n1 k1 ex1 b4 a4 n4 k4 ex4 L V1 V4 W (h1.below hg) (h4.below hg) s1 s4
 have M3:=fun (W:World) (hg:Below w.heap.size w W)=>fB b2 a2 n2 k2 ex2 b3 a3 n3 k3 ex3 L V2 V3 W (h2.below hg) (h3.below hg) s2 s3
 have M4:=fun (W:World) (hg:Below w.heap.size w W)=>fB b2 a2 n2 k2 ex2 b4 a4 n4 k4 ex4 L V2 V4 W (h2.below hg) (h4.below hg) s2 s4
 by_cases hm:aW c1 c2 c3 c4=0
 ·rw [if_pos hm]
  obtain⟨z1,z2,z3,z4⟩:=iD hm
  rw [z1] at kc1
  rw [z2] at kc2
  rw [z3] at kc3
  rw [z4] at kc4
  have hO:=fun (W:World) (b1:Bool) (a1:Option Addr) (n1 k1:Nat) (ex1:Int) (b2:Bool) (a2:Option Addr) (n2 k2:Nat) (ex2:Int) (g1:V8 W b1 a1 n1 k1 ex1 (L+L) (min (min (min (V1*V3) (V1*V4)) (V2*V3)) (V2*V4))) (g2:V8 W b2 a2 n2 k2 ex2 (L+L) (max (max (max (V1*V3) (V1*V4)) (V2*V3)) (V2*V4)))=>pg b1 a1 n1 k1 ex1 b2 a2 n2 k2 ex2 pos (L+L) _ _ W g1 g2 (((kc1.sml.lo4 kc2.sml).lo4 kc3.sml).lo4 kc4.sml) (((kc1.sml.hi4 kc2.sml).hi4 kc3.sml).hi4 kc4.sml) hK (by omega)
  rw [←ko,←kW] at hO
  have hD:=fun (W:World) (b1:Bool) (a1:Option Addr) (n1 k1:Nat) (ex1:Int) (b2:Bool) (a2:Option Addr) (n2 k2:Nat) (ex2:Int) (g1:V8 W b1 a1 n1 k1 ex1 (L+L) (rv 0 (min (min (min (V1*V3) (V1*V4)) (V2*V3)) (V2*V4)) (2 ^ (pos+(L+L:Nat)).toNat))) (g2:V8 W b2 a2 n2 k2 ex2 (L+L) (rv 1 (max (max (max (V1*V3) (V1*V4)) (V2*V3)) (V2*V4)) (2 ^ (pos+(L+L:Nat)).toNat)))=>sr b1 a1 n1 k1 ex1 b2 a2 n2 k2 ex2 (L+L) _ _ d1 d2 W g1 g2 kd1 kd2
  rw [←ko,←kW] at hD ⊢
  exact sH b1 a1 n1 k1 ex1 b2 a2 n2 k2 ex2 b3 a3 n3 k3 ex3 b4 a4 n4 k4 ex4 pos (L+L) _ _ _ _ _ _ _ w M1 M2 M3 M4 kc1 kc2 kc3 kc4 hO hD
 ·rw [if_neg hm]
  exact oT b1 a1 n1 k1 ex1 b2 a2 n2 k2 ex2 b3 a3 n3 k3 ex3 b4 a4 n4 k4 ex4 pos (L+L) _ _ _ _ _ _ c1 c2 c3 c4 _ w M1 M2 M3 M4 kc1 kc2 kc3 kc4 rfl hm

theorem dO (b:Bool)(a:Option Addr)(n k:Nat)(ex:Int)(b':Bool)(a':Option Addr)(n' k':Nat)(ex' r m:Int)(b1:Bool)(a1:Option Addr)(n1 k1:Nat)(E1:Int)(b2:Bool)(a2:Option Addr)(n2 k2:Nat)(E2:Int)(L:Nat)(V1 V2 d1 d2 I:Int)(base:Nat)(w:World)(hS:SRV w base b (.slice a n k) ex b' (.slice a' n' k') ex' r m L V1 V2)(c1:aj L V1 d1)(c2:aj L V2 d2)(hI:(if m=0 then aE d1 d2 else m)=I)(hv:I=0→V8 w b1 a1 n1 k1 E1 L V1∧V8 w b2 a2 n2 k2 E2 L V2) :
  Calls Tryz.prog 12 #[.agg #[.bool b,.slice a n k,.int .i64 ex,.bool b',.slice a' n' k',.int .i64 ex'],.int .i64 r,.agg #[.bool b1,.slice a1 n1 k1,.int .i64 E1,.bool b2,.slice a2 n2 k2,.int .i64 E2],.int .i64 I] w fun e w'=>e=.returned (.bool true)∧Below w.heap.size w w':=by
 by_cases h0:m=0
 ·subst h0
  rw [if_pos rfl] at hI
  subst hI
  exact lT b a n k ex b' a' n' k' ex' r b1 a1 n1 k1 E1 b2 a2 n2 k2 E2 L V1 V2 d1 d2 base w hS c1 c2 hv
 ·rw [if_neg h0] at hI
  subst hI
  exact cW b a n k ex b' a' n' k' ex' r m b1 a1 n1 k1 E1 b2 a2 n2 k2 E2 L V1 V2 base w hS (fun h=>absurd h h0) (fun h=>absurd h h0)

def V88 (c:Int)(w:World)(b:Bool)(a:Option Addr)(n k:Nat)(E:Int)(b':Bool)(a':Option Addr)(n' k':Nat)(E':Int)(L:Nat)(V V':Int):Prop:=c=0→V8 w b a n k E L V∧V8 w b' a' n' k' E' L V'

theorem V88.below {c:Int}{w w':World}{b:Bool}{a:Option Addr}{n k:Nat}{E:Int}{b':Bool}{a':Option Addr}{n' k':Nat}{E':Int}{L:Nat}{V V':Int}(h:V88 c w b a n k E b' a' n' k' E' L V V')(hb:Below w.heap.size w w'):V88 c w' b a n k E b' a' n' k' E' L V V':=fun h0=>⟨(h h0).1.below hb,(h h0).2.below hb⟩

theorem kt (gs:Nat)(b1:Bool)(a1:Option Addr)(n1 k1:Nat)(e1:Int)(b2:Bool)(a2:Option Addr)(n2 k2:Nat)(e2:Int)(b3:Bool)(a3:Option Addr)(n3 k3:Nat)(e3:Int)(b4:Bool)(a4:Option Addr)(n4 k4:Nat)(e4:Int)(b5:Bool)(a5:Option Addr)(n5 k5:Nat)(e5:Int)(b6:Bool)(a6:Option Addr)(n6 k6:Nat)(e6:Int)(b7:Bool)(a7:Option Addr)(n7 k7:Nat)(e7:Int)(b8:Bool)(a8:Option Addr)(n8 k8:Nat)(e8:Int)(b9:Bool)(a9:Option Addr)(n9 k9:Nat)(e9:Int)(b10:Bool)(a10:Option Addr)(n10 k10:Nat)(e10:Int)(base:Nat)(rss:List (List Nat))(w:World)(hg:w.heap[gs]?=some (.cells #[.bool b1,.slice a1 n1 k1,.int .i64 e1,.bool b2,.slice a2 n2 k2,.int .i64 e2,.bool b3,.slice a3 n3 k3,.int .i64 e3,.bool b4,.slice a4 n4 k4,.int .i64 e4,.bool b5,.slice a5 n5 k5,.int .i64 e5,.bool b6,.slice a6 n6 k6,.int .i64 e6,.bool b7,.slice a7 n7 k7,.int .i64 e7,.bool b8,.slice a8 n8 k8,.int .i64 e8,.bool b9,.slice a9 n9 k9,.int .i64 e9,.bool b10,.slice a10 n10 k10,.int .i64 e10] 45))(hA:bk w base [.slice a1 n1 k1,.slice a2 n2 k2,.slice a3 n3 k3,.slice a4 n4 k4,.slice a5 n5 k5,.slice a6 n6 k6,.slice a7 n7 k7,.slice a8 n8 k8,.slice a9 n9 k9,.slice a10 n10 k10] rss)(hl:∀r ∈ rss,r.length≤17592186044000)(hb:base≤w.heap.size) :
  Calls Tryz.prog 14 #[.slice (some ⟨gs,0,none⟩) 5 5] w fun e w'=>e=.returned (.bool true)∧BK base w w':=by
 obtain⟨i0,hi,hz0,hz1,hz2⟩:=info_parts rf
 have HS:=ab hg
 have HA:=ab hA
 have HLL:=ab hl
 have HBS:=ab hb
 have HU:Hid (Below w.heap.size w w):=ab (Below.refl _ _)
 have HO:Hid (w.ownsRow w.heap.size 22 1 (.slice none 0 0) 0 []):=ab ⟨rfl,.inl ⟨rfl,rfl⟩⟩
 clear hg hA hl hb
 go_enter Tryz.func14,Tryz.ntmps14
 go_wp2
 refine wp_loop_rounds 6 ?_
 rw [rounds_succ]
 obtain⟨u0,hu0,hbu0,qu0⟩:=ag w (.cells #[.bool b1,.slice a1 n1 k1,.int .i64 e1,.bool b2,.slice a2 n2 k2,.int .i64 e2] 45)
 obtain⟨x0,x1,x2,x3,x4,x5⟩:=hexa qu0
 have CS:=ac HU.out HS.out
 have c0:w.cell? ⟨gs,0,none⟩=some (.bool b1):=by simp [World.cell?,CS]
 have c1:w.cell? ⟨gs,1,none⟩=some (.slice a1 n1 k1):=by simp [World.cell?,CS]
 have c2:w.cell? ⟨gs,2,none⟩=some (.int .i64 e1):=by simp [World.cell?,CS]
 have c3:w.cell? ⟨gs,3,none⟩=some (.bool b2):=by simp [World.cell?,CS]
 have c4:w.cell? ⟨gs,4,none⟩=some (.slice a2 n2 k2):=by simp [World.cell?,CS]
 have c5:w.cell? ⟨gs,5,none⟩=some (.int .i64 e2):=by simp [World.cell?,CS]
 have HBN:=ab (ae HU.out hbu0)
 have HON:=ab (show u0.ownsRow w.heap.size 22 1 (.slice none 0 0) 0 [] by rw [←hu0];exact HO.out.alloc _)
 clear CS HU HO hbu0 qu0
 go_wp2_with (at_builtin;refine wpList_append_own_at _ rfl _ _ 73 rfl w.heap.size 22 i0 (.slice none 0 0) 1 24 Tryz.underlying73 hi hz0 hz1 hz2 rfl (by decide) (.slice none 0 0) 0 [] rfl (HON.out.alloc _) ⟨u0.heap.size,0,none⟩ 2 2 [.slice a1 n1 k1,.slice a2 n2 k2] rfl rfl (ef [.slice a1 n1 k1,.slice a2 n2 k2] 22) (by intro u hu;simp at hu;rcases hu with rfl|rfl <;> rfl) (by unfold maxLen;omega) (by omega) (by have:=HBN.out.size;simp;omega) ?_;intro v0 t0 hown hgrow _ _;obtain⟨g0,cap0,rfl⟩:=dz hown (by omega);have HU:=ab ((HBN.out.alloc (by have:=HBN.out.size;omega) _).grown hgrow (by have:=HBN.out.size;simp;omega) (fun g hg=>(HON.out.lt g hg).1));have HO:=ab hown;clear hown hgrow HBN HON x0 x1 x2 x3 x4 x5 c0 c1 c2 c3 c4 c5 hu0)
 rw [rounds_succ]
 obtain⟨u1,hu1,hbu1,qu1⟩:=ag t0 (.cells #[.bool b3,.slice a3 n3 k3,.int .i64 e3,.bool b4,.slice a4 n4 k4,.int .i64 e4] 45)
 obtain⟨x0,x1,x2,x3,x4,x5⟩:=hexa qu1
 have CS:=ac HU.out HS.out
 have c0:t0.cell? ⟨gs,6,none⟩=some (.bool b3):=by simp [World.cell?,CS]
 have c1:t0.cell? ⟨gs,7,none⟩=some (.slice a3 n3 k3):=by simp [World.cell?,CS]
 have c2:t0.cell? ⟨gs,8,none⟩=some (.int .i64 e3):=by simp [World.cell?,CS]
 have c3:t0.cell? ⟨gs,9,none⟩=some (.bool b4):=by simp [World.cell?,CS]
 have c4:t0.cell? ⟨gs,10,none⟩=some (.slice a4 n4 k4):=by simp [World.cell?,CS]
 have c5:t0.cell? ⟨gs,11,none⟩=some (.int .i64 e4):=by simp [World.cell?,CS]
 have HBN:=ab (ae HU.out hbu1)
 have HON:=ab (show u1.ownsRow w.heap.size 22 1 (.slice (some ⟨g0,0,none⟩) 2 cap0) 2 [.slice a1 n1 k1,.slice a2 n2 k2] by rw [←hu1];exact HO.out.alloc _)
 clear CS HU HO hbu1 qu1
 go_wp2_with (at_builtin;refine wpList_append_own_at _ rfl _ _ 73 rfl w.heap.size 22 i0 (.slice none 0 0) 1 24 Tryz.underlying73 hi hz0 hz1 hz2 rfl (by decide) (.slice (some ⟨g0,0,none⟩) 2 cap0) 2 [.slice a1 n1 k1,.slice a2 n2 k2] rfl (HON.out.alloc _) ⟨u1.heap.size,0,none⟩ 2 2 [.slice a3 n3 k3,.slice a4 n4 k4] rfl rfl (ef [.slice a3 n3 k3,.slice a4 n4 k4] 22) (by intro u hu;simp at hu;rcases hu with rfl|rfl <;> rfl) (by unfold maxLen;omega) (by omega) (by have:=HBN.out.size;simp;omega) ?_;intro v1 t1 hown hgrow _ _;obtain⟨g1,cap1,rfl⟩:=dz hown (by omega);have HU:=ab ((HBN.out.alloc (by have:=HBN.out.size;omega) _).grown hgrow (by have:=HBN.out.size;simp;omega) (fun g hg=>(HON.out.lt g hg).1));have HO:=ab hown;clear hown hgrow HBN HON x0 x1 x2 x3 x4 x5 c0 c1 c2 c3 c4 c5 hu1)
 rw [rounds_succ]
 obtain⟨u2,hu2,hbu2,qu2⟩:=ag t1 (.cells #[.bool b5,.slice a5 n5 k5,.int .i64 e5,.bool b6,.slice a6 n6 k6,.int .i64 e6] 45)
 obtain⟨x0,x1,x2,x3,x4,x5⟩:=hexa qu2
 have CS:=ac HU.out HS.out
 have c0:t1.cell? ⟨gs,12,none⟩=some (.bool b5):=by simp [World.cell?,CS]
 have c1:t1.cell? ⟨gs,13,none⟩=some (.slice a5 n5 k5):=by simp [World.cell?,CS]
 have c2:t1.cell? ⟨gs,14,none⟩=some (.int .i64 e5):=by simp [World.cell?,CS]
 have c3:t1.cell? ⟨gs,15,none⟩=some (.bool b6):=by simp [World.cell?,CS]
 have c4:t1.cell? ⟨gs,16,none⟩=some (.slice a6 n6 k6):=by simp [World.cell?,CS]
 have c5:t1.cell? ⟨gs,17,none⟩=some (.int .i64 e6):=by simp [World.cell?,CS]
 have HBN:=ab (ae HU.out hbu2)
 have HON:=ab (show u2.ownsRow w.heap.size 22 1 (.slice (some ⟨g1,0,none⟩) 4 cap1) 4 [.slice a1 n1 k1,.slice a2 n2 k2,.slice a3 n3 k3,.slice a4 n4 k4] by rw [←hu2];exact HO.out.alloc _)
 clear CS HU HO hbu2 qu2
 go_wp2_with (at_builtin;refine wpList_append_own_at _ rfl _ _ 73 rfl w.heap.size 22 i0 (.slice none 0 0) 1 24 Tryz.underlying73 hi hz0 hz1 hz2 rfl (by decide) (.slice (some ⟨g1,0,none⟩) 4 cap1) 4 [.slice a1 n1 k1,.slice a2 n2 k2,.slice a3 n3 k3,.slice a4 n4 k4] rfl (HON.out.alloc _) ⟨u2.heap.size,0,none⟩ 2 2 [.slice a5 n5 k5,.slice a6 n6 k6] rfl rfl (ef [.slice a5 n5 k5,.slice a6 n6 k6] 22) (by intro u hu;simp at hu;rcases hu with rfl|rfl <;> rfl) (by unfold maxLen;omega) (by omega) (by have:=HBN.out.size;simp;omega) ?_;intro v2 t2 hown hgrow _ _;obtain⟨g2,cap2,rfl⟩:=dz hown (by omega);have HU:=ab ((HBN.out.alloc (by have:=HBN.out.size;omega) _).grown hgrow (by have:=HBN.out.size;simp;omega) (fun g hg=>(HON.out.lt g hg).1));have HO:=ab hown;clear hown hgrow HBN HON x0 x1 x2 x3 x4 x5 c0 c1 c2 c3 c4 c5 hu2)
 rw [rounds_succ]
 obtain⟨u3,hu3,hbu3,qu3⟩:=ag t2 (.cells #[.bool b7,.slice a7 n7 k7,.int .i64 e7,.bool b8,.slice a8 n8 k8,.int .i64 e8] 45)
 obtain⟨x0,x1,x2,x3,x4,x5⟩:=hexa qu3
 have CS:=ac HU.out HS.out
 have c0:t2.cell? ⟨gs,18,none⟩=some (.bool b7):=by simp [World.cell?,CS]
 have c1:t2.cell? ⟨gs,19,none⟩=some (.slice a7 n7 k7):=by simp [World.cell?,CS]
 have c2:t2.cell? ⟨gs,20,none⟩=some (.int .i64 e7):=by simp [World.cell?,CS]
 have c3:t2.cell? ⟨gs,21,none⟩=some (.bool b8):=by simp [World.cell?,CS]
 have c4:t2.cell? ⟨gs,22,none⟩=some (.slice a8 n8 k8):=by simp [World.cell?,CS]
 have c5:t2.cell? ⟨gs,23,none⟩=some (.int .i64 e8):=by simp [World.cell?,CS]
 have HBN:=ab (ae HU.out hbu3)
 have HON:=ab (show u3.ownsRow w.heap.size 22 1 (.slice (some ⟨g2,0,none⟩) 6 cap2) 6 [.slice a1 n1 k1,.slice a2 n2 k2,.slice a3 n3 k3,.slice a4 n4 k4,.slice a5 n5 k5,.slice a6 n6 k6] by rw [←hu3];exact HO.out.alloc _)
 clear CS HU HO hbu3 qu3
 go_wp2_with (at_builtin;refine wpList_append_own_at _ rfl _ _ 73 rfl w.heap.size 22 i0 (.slice none 0 0) 1 24 Tryz.underlying73 hi hz0 hz1 hz2 rfl (by decide) (.slice (some ⟨g2,0,none⟩) 6 cap2) 6 [.slice a1 n1 k1,.slice a2 n2 k2,.slice a3 n3 k3,.slice a4 n4 k4,.slice a5 n5 k5,.slice a6 n6 k6] rfl (HON.out.alloc _) ⟨u3.heap.size,0,none⟩ 2 2 [.slice a7 n7 k7,.slice a8 n8 k8] rfl rfl (ef [.slice a7 n7 k7,.slice a8 n8 k8] 22) (by intro u hu;simp at hu;rcases hu with rfl|rfl <;> rfl) (by unfold maxLen;omega) (by omega) (by have:=HBN.out.size;simp;omega) ?_;intro v3 t3 hown hgrow _ _;obtain⟨g3,cap3,rfl⟩:=dz hown (by omega);have HU:=ab ((HBN.out.alloc (by have:=HBN.out.size;omega) _).grown hgrow (by have:=HBN.out.size;simp;omega) (fun g hg=>(HON.out.lt g hg).1));have HO:=ab hown;clear hown hgrow HBN HON x0 x1 x2 x3 x4 x5 c0 c1 c2 c3 c4 c5 hu3)
 rw [rounds_succ]
 obtain⟨u4,hu4,hbu4,qu4⟩:=ag t3 (.cells #[.bool b9,.slice a9 n9 k9,.int .i64 e9,.bool b10,.slice a10 n10 k10,.int .i64 e10] 45)
 obtain⟨x0,x1,x2,x3,x4,x5⟩:=hexa qu4
 have CS:=ac HU.out HS.out
 have c0:t3.cell? ⟨gs,24,none⟩=some (.bool b9):=by simp [World.cell?,CS]
 have c1:t3.cell? ⟨gs,25,none⟩=some (.slice a9 n9 k9):=by simp [World.cell?,CS]
 have c2:t3.cell? ⟨gs,26,none⟩=some (.int .i64 e9):=by simp [World.cell?,CS]
 have c3:t3.cell? ⟨gs,27,none⟩=some (.bool b10):=by simp [World.cell?,CS]
 have c4:t3.cell? ⟨gs,28,none⟩=some (.slice a10 n10 k10):=by simp [World.cell?,CS]
 have c5:t3.cell? ⟨gs,29,none⟩=some (.int .i64 e10):=by simp [World.cell?,CS]
 have HBN:=ab (ae HU.out hbu4)
 have HON:=ab (show u4.ownsRow w.heap.size 22 1 (.slice (some ⟨g3,0,none⟩) 8 cap3) 8 [.slice a1 n1 k1,.slice a2 n2 k2,.slice a3 n3 k3,.slice a4 n4 k4,.slice a5 n5 k5,.slice a6 n6 k6,.slice a7 n7 k7,.slice a8 n8 k8] by rw [←hu4];exact HO.out.alloc _)
 clear CS HU HO hbu4 qu4
 go_wp2_with (at_builtin;refine wpList_append_own_at _ rfl _ _ 73 rfl w.heap.size 22 i0 (.slice none 0 0) 1 24 Tryz.underlying73 hi hz0 hz1 hz2 rfl (by decide) (.slice (some ⟨g3,0,none⟩) 8 cap3) 8 [.slice a1 n1 k1,.slice a2 n2 k2,.slice a3 n3 k3,.slice a4 n4 k4,.slice a5 n5 k5,.slice a6 n6 k6,.slice a7 n7 k7,.slice a8 n8 k8] rfl (HON.out.alloc _) ⟨u4.heap.size,0,none⟩ 2 2 [.slice a9 n9 k9,.slice a10 n10 k10] rfl rfl (ef [.slice a9 n9 k9,.slice a10 n10 k10] 22) (by intro u hu;simp at hu;rcases hu with rfl|rfl <;> rfl) (by unfold maxLen;omega) (by omega) (by have:=HBN.out.size;simp;omega) ?_;intro v4 t4 hown hgrow _ _;obtain⟨g4,cap4,rfl⟩:=dz hown (by omega);have HU:=ab ((HBN.out.alloc (by have:=HBN.out.size;omega) _).grown hgrow (by have:=HBN.out.size;simp;omega) (fun g hg=>(HON.out.lt g hg).1));have HO:=ab hown;clear hown hgrow HBN HON x0 x1 x2 x3 x4 x5 c0 c1 c2 c3 c4 c5 hu4)
 rw [rounds_succ]
 obtain⟨⟨sp,hst⟩,hge⟩:=m8 (vs:=[.slice a1 n1 k1,.slice a2 n2 k2,.slice a3 n3 k3,.slice a4 n4 k4,.slice a5 n5 k5,.slice a6 n6 k6,.slice a7 n7 k7,.slice a8 n8 k8,.slice a9 n9 k9,.slice a10 n10 k10]) HO.out HA.out HU.out
 have C:=pm sp cap4 g4 base [.slice a1 n1 k1,.slice a2 n2 k2,.slice a3 n3 k3,.slice a4 n4 k4,.slice a5 n5 k5,.slice a6 n6 k6,.slice a7 n7 k7,.slice a8 n8 k8,.slice a9 n9 k9,.slice a10 n10 k10] (fun i=>rss.getD i []) t4 hst (by simp) (by
  intro i hi'
  have hi2:i<rss.length:=by rw [←HA.out.len];exact hi'
  show (rss.getD i []).length≤_
  have e:rss.getD i []=rss[i]:=by simp [List.getD,hi2]
  rw [e]
  exact HLL.out _ (List.getElem_mem _)) (by have:=HBS.out;omega)
 clear hst hge HO
 go_wp2_with fail
 refine C.mono ?_
 rintro e t9 ⟨rfl,hk⟩
 have HE:=ab (BK.after10 HU.out HBS.out hk)
 clear hk C
 go_wp2
 go_ret
 exact⟨rfl,HE.out⟩
end Go.Proofs.YtkfbobefkbpdoaaGreatDoor

