/- Package whole: Lehmer's steps: next, with its quotients in the room (mkNext). -/
import Derived.Test.YtdbjbbdhlpfhjaaGreatDoorB09
import Derived.Deep.RegionLaw
import Derived.Deep.RegionHeld3
import Derived.Deep.CutBlock
import Derived.Deep.DeepCutAuto
import Derived.Test.YtdbjbbdhlpfhjaaGreatDoorB10
import Derived.BigQuiet
import Derived.Deep.QuietTactic
import Derived.Test.YtdbjbbdhlpfhjaaGreatDoorB01
import Derived.Deep.RegionWith
set_option maxRecDepth 20000
set_option maxHeartbeats 16000000
namespace Go.Proofs.YtdbjbbdhlpfhjaaGreatDoor
open Go.RowKit
open Lm
attribute [local go_sem ↓] Go.wp_at_zero Go.wp_at_succ

theorem dO {bz g o:Nat}{a w:World}{u:Value}(h:Fr bz a w)(hg:a.heap.size≤g):Fr bz a (w.setCell ⟨g,o,none⟩ u):=
 ⟨h.os,h.tape,h.output,by simpa using h.size,fun k h1 h2=>(Below.heap_setCell w _ u k (show k≠g by omega)).trans (h.block k h1 h2)⟩

theorem cE {bz g:Nat}{a w:World}{u0 u1 u2 u3 u4:Value}(h:Fr bz a w)(hg:a.heap.size≤g):Fr bz a (((((w.setCell ⟨g,0,none⟩ u0).setCell ⟨g,1,none⟩ u1).setCell ⟨g,2,none⟩ u2).setCell ⟨g,3,none⟩ u3).setCell ⟨g,4,none⟩ u4):=
 dO (dO (dO (dO (dO h hg) hg) hg) hg) hg

theorem dY {W0 W:World}(h:Below W0.heap.size W0 W):Below W0.heap.size W0 W.drew:=h.drew

theorem ib {W0 W:World}(h:Below W0.heap.size W0 W)(o:Obj):Below W0.heap.size W0 (W.alloc o):=h.alloc h.size _

def aJ (w:World)(R:Nat):Prop:=∃xs:List Nat,Blk w R xs∧xs.length=128

theorem jl (a b c d q R n:Nat)(w:World)(h1:a+q*c<18446744073709551616)(h2:b+q*d<18446744073709551616)(hR:aJ w R)(hn:n<128) :
  Calls Tryz.prog 162 #[stw a b c d (some ⟨R,0,none⟩) n 128,.int .u64 q] w fun e w'=>e=.returned (stw c d (a+q*c) (b+q*d) (some ⟨R,0,none⟩) (n+1) 128)∧aJ w' R∧Fr R w w':=by
 unfold stw
 obtain⟨xs,hB,hl⟩:=hR
 obtain⟨w0,hw0,hb0,h0,hx0⟩:=bR w (.cells #[.int .u64 a,.int .u64 b,.int .u64 c,.int .u64 d,.slice (some ⟨R,0,none⟩) n 128] 139) (.cells #[.int .u64 0,.int .u64 0,.int .u64 0,.int .u64 0,.slice none 0 0] 139)
 obtain⟨c0,c1,c2,c3,c4⟩:=aH h0
 have hB0:=hB.below' hb0
 have hRlt:=hB.lt
 obtain⟨i0,hi,hza,hzb,hzc⟩:=info_parts Tryz.infoU
 obtain⟨p,hp,ep⟩:∃p:Nat,q*c=p∧(q:Int)*(c:Int)=(p:Int):=⟨q*c,rfl,by rw [Int.natCast_mul]⟩
 obtain⟨r,hr,er⟩:∃r:Nat,q*d=r∧(q:Int)*(d:Int)=(r:Int):=⟨q*d,rfl,by rw [Int.natCast_mul]⟩
 rw [hp] at h1 ⊢
 rw [hr] at h2 ⊢
 have wp:IntKind.u64.wrap (p:Int)=(p:Int):=by rw [IntKind.wrap_u64];omega
 have wr:IntKind.u64.wrap (r:Int)=(r:Int):=by rw [IntKind.wrap_u64];omega
 obtain⟨ap',hap⟩:∃x,a+p=x:=⟨_,rfl⟩
 obtain⟨ar',har⟩:∃x,b+r=x:=⟨_,rfl⟩
 rw [hap] at h1 ⊢
 rw [har] at h2 ⊢
 have ap:(a:Int)+(p:Int)=(ap':Int):=by omega
 have ar:(b:Int)+(r:Int)=(ar':Int):=by omega
 have wp2:IntKind.u64.wrap (ap':Int)=(ap':Int):=by rw [IntKind.wrap_u64];omega
 have wr2:IntKind.u64.wrap (ar':Int)=(ar':Int):=by rw [IntKind.wrap_u64];omega
 have hRn:R≠w.heap.size+1:=by omega
 obtain⟨W,hW⟩:∃W,(w0.alloc (.cells #[.int .u64 (q:Int)] 61)).drew=W:=⟨_,rfl⟩
 have gW:Below w0.heap.size w0 W:=by rw [←hW];exact ((Below.refl _ _).alloc (Nat.le_refl _) _).drew
 have hBW:=hB0.below' gW
 have hnews:∀j u,([Value.int .u64 (q:Int)]:List Value)[j]?=some u→W.cell? ((⟨w0.heap.size,0,none⟩:Addr).add j)=some u:=by
  intro j u hj
  cases j with
  | zero=>
   simp at hj
   subst hj
   have hh:W.heap[w0.heap.size]?=some (.cells #[.int .u64 (q:Int)] 61):=by rw [←hW];exact heap_alloc_new w0 _
   simp [Addr.add,World.cell?,hh]
  | succ j=>simp at hj
 have h1c:∀u ∈ ([Value.int .u64 (q:Int)]:List Value),u.oneCell'=true:=by intro u hu;simp at hu;subst hu;rfl
 have hspare:∀j,j<([Value.int .u64 (q:Int)]:List Value).length→(W.cell? ⟨R,0+n*1+j,none⟩).isSome=true∧W.frozen? ⟨R,0+n*1+j,none⟩=false:=by
  intro j hj
  have ej:j=0:=by simp at hj;omega
  subst ej
  have hcl:=hBW.cell n (by omega)
  have hfr:=hBW.free n
  have en:0+n*1+0=n:=by omega
  rw [en]
  exact⟨by rw [hcl];rfl,hfr⟩
 obtain⟨W2,hW2⟩:∃W2,W.setCells R (0+n*1) [Value.int .u64 (q:Int)]=W2:=⟨_,rfl⟩
 have hW2':W2=W.setCell ⟨R,n,none⟩ (.int .u64 (q:Int)):=by rw [←hW2];simp [World.setCells]
 have hB2:Blk W2 R (xs.set n q):=by rw [hW2'];exact hBW.set n q
 have hx2:W2.heap[w.heap.size+1]?=some (.cells #[.int .u64 0,.int .u64 0,.int .u64 0,.int .u64 0,.slice none 0 0] 139):=by rw [hW2'];exact aN (ac gW hx0) (Ne.symm hRn)
 have hF2:Fr R w W2:=by rw [hW2'];exact (Fr.of_below (hb0.trans (gW.mono hb0.size))).setCell n _
 obtain⟨e0,e1,e2,e3,e4⟩:=aH hx2
 have ef:=cf hx2
 obtain⟨g0,g1,g2,g3,g4⟩:=aH (ac gW h0)
 rw [←hW] at g0 g1 g2 g3 g4
 have hRn0:R≠w.heap.size:=by omega
 have hy2:W2.heap[w.heap.size]?=some (.cells #[.int .u64 a,.int .u64 b,.int .u64 c,.int .u64 d,.slice (some ⟨R,0,none⟩) n 128] 139):=by rw [hW2'];exact aN (ac gW h0) (Ne.symm hRn0)
 obtain⟨k0,k1,k2,k3,k4⟩:=aH hy2
 have KS:=aa (fun (W9:World) (hg:Below w0.heap.size w0 W9)=>show W9.cell? ⟨w.heap.size,0,none⟩=some (.int .u64 a)∧W9.cell? ⟨w.heap.size,1,none⟩=some (.int .u64 b)∧W9.cell? ⟨w.heap.size,2,none⟩=some (.int .u64 c)∧W9.cell? ⟨w.heap.size,3,none⟩=some (.int .u64 d)∧W9.cell? ⟨w.heap.size,4,none⟩=some (.slice (some ⟨R,0,none⟩) n 128) from aH (ac hg h0))
 have KS2:=aa (show W2.cell? ⟨w.heap.size,0,none⟩=some (.int .u64 a)∧W2.cell? ⟨w.heap.size,1,none⟩=some (.int .u64 b)∧W2.cell? ⟨w.heap.size,2,none⟩=some (.int .u64 c)∧W2.cell? ⟨w.heap.size,3,none⟩=some (.int .u64 d)∧W2.cell? ⟨w.heap.size,4,none⟩=some (.slice (some ⟨R,0,none⟩) n 128) from aH hy2)
 have KS3:=aa (show (((((W2.setCell ⟨w.heap.size+1,0,none⟩ (.int .u64 c)).setCell ⟨w.heap.size+1,1,none⟩ (.int .u64 d)).setCell ⟨w.heap.size+1,2,none⟩ (.int .u64 (ap':Int))).setCell ⟨w.heap.size+1,3,none⟩ (.int .u64 (ar':Int))).setCell ⟨w.heap.size+1,4,none⟩ (.slice (some ⟨R,0,none⟩) (n+1) 128)).cell? ⟨w.heap.size,0,none⟩=some (.int .u64 a)∧(((((W2.setCell ⟨w.heap.size+1,0,none⟩ (.int .u64 c)).setCell ⟨w.heap.size+1,1,none⟩ (.int .u64 d)).setCell ⟨w.heap.size+1,2,none⟩ (.int .u64 (ap':Int))).setCell ⟨w.heap.size+1,3,none⟩ (.int .u64 (ar':Int))).setCell ⟨w.heap.size+1,4,none⟩ (.slice (some ⟨R,0,none⟩) (n+1) 128)).cell? ⟨w.heap.size,1,none⟩=some (.int .u64 b)∧(((((W2.setCell ⟨w.heap.size+1,0,none⟩ (.int .u64 c)).setCell ⟨w.heap.size+1,1,none⟩ (.int .u64 d)).setCell ⟨w.heap.size+1,2,none⟩ (.int .u64 (ap':Int))).setCell ⟨w.heap.size+1,3,none⟩ (.int .u64 (ar':Int))).setCell ⟨w.heap.size+1,4,none⟩ (.slice (some ⟨R,0,none⟩) (n+1) 128)).cell? ⟨w.heap.size,2,none⟩=some (.int .u64 c)∧(((((W2.setCell ⟨w.heap.size+1,0,none⟩ (.int .u64 c)).setCell ⟨w.heap.size+1,1,none⟩ (.int .u64 d)).setCell ⟨w.heap.size+1,2,none⟩ (.int .u64 (ap':Int))).setCell ⟨w.heap.size+1,3,none⟩ (.int .u64 (ar':Int))).setCell ⟨w.heap.size+1,4,none⟩ (.slice (some ⟨R,0,none⟩) (n+1) 128)).cell? ⟨w.heap.size,3,none⟩=some (.int .u64 d)∧(((((W2.setCell ⟨w.heap.size+1,0,none⟩ (.int .u64 c)).setCell ⟨w.heap.size+1,1,none⟩ (.int .u64 d)).setCell ⟨w.heap.size+1,2,none⟩ (.int .u64 (ap':Int))).setCell ⟨w.heap.size+1,3,none⟩ (.int .u64 (ar':Int))).setCell ⟨w.heap.size+1,4,none⟩ (.slice (some ⟨R,0,none⟩) (n+1) 128)).cell? ⟨w.heap.size,4,none⟩=some (.slice (some ⟨R,0,none⟩) n 128) from aH (aN (aN (aN (aN (aN hy2 (by omega)) (by omega)) (by omega)) (by omega)) (by omega)))
 have HB3:Hid (Blk (((((W2.setCell ⟨w.heap.size+1,0,none⟩ (.int .u64 c)).setCell ⟨w.heap.size+1,1,none⟩ (.int .u64 d)).setCell ⟨w.heap.size+1,2,none⟩ (.int .u64 (ap':Int))).setCell ⟨w.heap.size+1,3,none⟩ (.int .u64 (ar':Int))).setCell ⟨w.heap.size+1,4,none⟩ (.slice (some ⟨R,0,none⟩) (n+1) 128)) R (xs.set n q)):=aa (aN (aN (aN (aN (aN hB2 hRn) hRn) hRn) hRn) hRn)
 have HX3:=aa (cD (a':=.int .u64 c) (b':=.int .u64 d) (c':=.int .u64 (ap':Int)) (d':=.int .u64 (ar':Int)) (f':=.slice (some ⟨R,0,none⟩) (n+1) 128) hx2)
 have HGW:=aa gW
 have HN:=aa hnews
 have HC1:=aa h1c
 have HSP:=aa hspare
 have HB2:=aa hB2
 have HF2:=aa hF2
 have HX2:=aa hx2
 have HW:=aa hW
 have HW2:=aa hW2
 have HB:=aa hB
 have HB0:=aa hb0
 have HW0:=aa hw0
 clear hp hr hap har hb0 hw0 hB hnews h1c hspare hB2 hF2 hx2 hW hW2 hW2' hx0 hBW hB0 gW hy2 h0
 go_enter Tryz.func162,Tryz.ntmps162
 go_upto_region 1 with fail
 rw [HW0.out]
 refine wp_region_held_drew (S:=fun w'=>w'.cell? ⟨w.heap.size,0,none⟩=some (.int .u64 a)∧w'.cell? ⟨w.heap.size,1,none⟩=some (.int .u64 b)∧w'.cell? ⟨w.heap.size,2,none⟩=some (.int .u64 c)∧w'.cell? ⟨w.heap.size,3,none⟩=some (.int .u64 d)∧w'.cell? ⟨w.heap.size,4,none⟩=some (.slice (some ⟨R,0,none⟩) n 128)) (by kernel_rfl) (KS.out _ (dY (Below.refl _ _))) (fun hHeld0=>?_)
 refine wpAnyH_take (i:=0) (oi:={ dst:=some 5,op:=Op.fieldAddr 139 (Operand.tmp 2) 2,type:=0,pos:="steps.go:34",after:=#[],guard:=none }) (v:=.pointer (some ⟨w.heap.size,2,none⟩)) rfl (by kernel_rfl) (by kernel_rfl) (by kernel_rfl) (fun _ _ _ h=>h) (Or.inl ⟨by rfl,fun w9 hSw=>?_⟩) hHeld0 ?_
 ·(try dsimp only at hSw);go_simp
 try simp only [Act.put,List.setIfInBounds_toArray,List.set_cons_zero,List.set_cons_succ]
 refine wpAnyH_take (i:=1) (oi:={ dst:=some 6,op:=Op.load 61 (Operand.tmp 5),type:=61,pos:="steps.go:34",after:=#[{ on:=0,ground:=Ground.data }],guard:=none }) (v:=.int .u64 (c:Int)) rfl (by kernel_rfl) (by kernel_rfl) (by kernel_rfl) (fun _ _ _ h=>h) (Or.inl ⟨by rfl,fun w9 hSw=>?_⟩) hHeld0 ?_
 ·(try dsimp only at hSw);go_simp
 try simp only [Act.put,List.setIfInBounds_toArray,List.set_cons_zero,List.set_cons_succ]
 refine wpAnyH_take (i:=2) (oi:={ dst:=some 7,op:=Op.fieldAddr 139 (Operand.tmp 2) 3,type:=0,pos:="steps.go:34",after:=#[],guard:=none }) (v:=.pointer (some ⟨w.heap.size,3,none⟩)) rfl (by kernel_rfl) (by kernel_rfl) (by kernel_rfl) (fun _ _ _ h=>h) (Or.inl ⟨by rfl,fun w9 hSw=>?_⟩) hHeld0 ?_
 ·(try dsimp only at hSw);go_simp
 try simp only [Act.put,List.setIfInBounds_toArray,List.set_cons_zero,List.set_cons_succ]
 refine wpAnyH_take (i:=3) (oi:={ dst:=some 8,op:=Op.load 61 (Operand.tmp 7),type:=61,pos:="steps.go:34",after:=#[{ on:=2,ground:=Ground.data }],guard:=none }) (v:=.int .u64 (d:Int)) rfl (by kernel_rfl) (by kernel_rfl) (by kernel_rfl) (fun _ _ _ h=>h) (Or.inl ⟨by rfl,fun w9 hSw=>?_⟩) hHeld0 ?_
 ·(try dsimp only at hSw);go_simp
 try simp only [Act.put,List.setIfInBounds_toArray,List.set_cons_zero,List.set_cons_succ]
 refine wpAnyH_take (i:=4) (oi:={ dst:=some 9,op:=Op.fieldAddr 139 (Operand.tmp 2) 0,type:=0,pos:="steps.go:34",after:=#[],guard:=none }) (v:=.pointer (some ⟨w.heap.size,0,none⟩)) rfl (by kernel_rfl) (by kernel_rfl) (by kernel_rfl) (fun _ _ _ h=>h) (Or.inl ⟨by rfl,fun w9 hSw=>?_⟩) hHeld0 ?_
 ·(try dsimp only at hSw);go_simp
 try simp only [Act.put,List.setIfInBounds_toArray,List.set_cons_zero,List.set_cons_succ]
 refine wpAnyH_take (i:=5) (oi:={ dst:=some 10,op:=Op.load 61 (Operand.tmp 9),type:=61,pos:="steps.go:34",after:=#[{ on:=4,ground:=Ground.data }],guard:=none }) (v:=.int .u64 (a:Int)) rfl (by kernel_rfl) (by kernel_rfl) (by kernel_rfl) (fun _ _ _ h=>h) (Or.inl ⟨by rfl,fun w9 hSw=>?_⟩) hHeld0 ?_
 ·(try dsimp only at hSw);go_simp
 try simp only [Act.put,List.setIfInBounds_toArray,List.set_cons_zero,List.set_cons_succ]
 refine wpAnyH_take (i:=6) (oi:={ dst:=some 11,op:=Op.move (Operand.tmp 1),type:=61,pos:="steps.go:34",after:=#[],guard:=none }) (v:=.int .u64 (q:Int)) rfl (by kernel_rfl) (by kernel_rfl) (by kernel_rfl) (fun _ _ _ h=>h) (Or.inl ⟨by rfl,fun w9 hSw=>?_⟩) hHeld0 ?_
 ·(try dsimp only at hSw);go_simp
 try simp only [Act.put,List.setIfInBounds_toArray,List.set_cons_zero,List.set_cons_succ]
 refine wpAnyH_take (i:=7) (oi:={ dst:=some 12,op:=Op.fieldAddr 139 (Operand.tmp 2) 2,type:=0,pos:="steps.go:34",after:=#[],guard:=none }) (v:=.pointer (some ⟨w.heap.size,2,none⟩)) rfl (by kernel_rfl) (by kernel_rfl) (by kernel_rfl) (fun _ _ _ h=>h) (Or.inl ⟨by rfl,fun w9 hSw=>?_⟩) hHeld0 ?_
 ·(try dsimp only at hSw);go_simp
 try simp only [Act.put,List.setIfInBounds_toArray,List.set_cons_zero,List.set_cons_succ]
 refine wpAnyH_take (i:=8) (oi:={ dst:=some 13,op:=Op.load 61 (Operand.tmp 12),type:=61,pos:="steps.go:34",after:=#[{ on:=7,ground:=Ground.data }],guard:=none }) (v:=.int .u64 (c:Int)) rfl (by kernel_rfl) (by kernel_rfl) (by kernel_rfl) (fun _ _ _ h=>h) (Or.inl ⟨by rfl,fun w9 hSw=>?_⟩) hHeld0 ?_
 ·(try dsimp only at hSw);go_simp
 try simp only [Act.put,List.setIfInBounds_toArray,List.set_cons_zero,List.set_cons_succ]
 refine wpAnyH_take (i:=9) (oi:={ dst:=some 14,op:=Op.binOp BinOp.mul 61 (Operand.tmp 11) (Operand.tmp 13) 61,type:=61,pos:="steps.go:34",after:=#[{ on:=6,ground:=Ground.data },{ on:=8,ground:=Ground.data }],guard:=none }) (v:=.int .u64 (p:Int)) rfl (by kernel_rfl) (by kernel_rfl) (by kernel_rfl) (fun _ _ _ h=>h) (Or.inl ⟨by rfl,fun w9 hSw=>?_⟩) hHeld0 ?_
 ·(try dsimp only at hSw);go_simp
 try simp only [Act.put,List.setIfInBounds_toArray,List.set_cons_zero,List.set_cons_succ]
 refine wpAnyH_take (i:=10) (oi:={ dst:=some 15,op:=Op.binOp BinOp.add 61 (Operand.tmp 10) (Operand.tmp 14) 61,type:=61,pos:="steps.go:34",after:=#[{ on:=5,ground:=Ground.data },{ on:=9,ground:=Ground.data }],guard:=none }) (v:=.int .u64 (ap':Int)) rfl (by kernel_rfl) (by kernel_rfl) (by kernel_rfl) (fun _ _ _ h=>h) (Or.inl ⟨by rfl,fun w9 hSw=>?_⟩) hHeld0 ?_
 ·(try dsimp only at hSw);go_simp
 try simp only [Act.put,List.setIfInBounds_toArray,List.set_cons_zero,List.set_cons_succ]
 refine wpAnyH_take (i:=11) (oi:={ dst:=some 16,op:=Op.fieldAddr 139 (Operand.tmp 2) 1,type:=0,pos:="steps.go:34",after:=#[],guard:=none }) (v:=.pointer (some ⟨w.heap.size,1,none⟩)) rfl (by kernel_rfl) (by kernel_rfl) (by kernel_rfl) (fun _ _ _ h=>h) (Or.inl ⟨by rfl,fun w9 hSw=>?_⟩) hHeld0 ?_
 ·(try dsimp only at hSw);go_simp
 try simp only [Act.put,List.setIfInBounds_toArray,List.set_cons_zero,List.set_cons_succ]
 refine wpAnyH_take (i:=12) (oi:={ dst:=some 17,op:=Op.load 61 (Operand.tmp 16),type:=61,pos:="steps.go:34",after:=#[{ on:=11,ground:=Ground.data }],guard:=none }) (v:=.int .u64 (b:Int)) rfl (by kernel_rfl) (by kernel_rfl) (by kernel_rfl) (fun _ _ _ h=>h) (Or.inl ⟨by rfl,fun w9 hSw=>?_⟩) hHeld0 ?_
 ·(try dsimp only at hSw);go_simp
 try simp only [Act.put,List.setIfInBounds_toArray,List.set_cons_zero,List.set_cons_succ]
 refine wpAnyH_take (i:=13) (oi:={ dst:=some 18,op:=Op.move (Operand.tmp 1),type:=61,pos:="steps.go:34",after:=#[],guard:=none }) (v:=.int .u64 (q:Int)) rfl (by kernel_rfl) (by kernel_rfl) (by kernel_rfl) (fun _ _ _ h=>h) (Or.inl ⟨by rfl,fun w9 hSw=>?_⟩) hHeld0 ?_
 ·(try dsimp only at hSw);go_simp
 try simp only [Act.put,List.setIfInBounds_toArray,List.set_cons_zero,List.set_cons_succ]
 refine wpAnyH_take (i:=14) (oi:={ dst:=some 19,op:=Op.fieldAddr 139 (Operand.tmp 2) 3,type:=0,pos:="steps.go:34",after:=#[],guard:=none }) (v:=.pointer (some ⟨w.heap.size,3,none⟩)) rfl (by kernel_rfl) (by kernel_rfl) (by kernel_rfl) (fun _ _ _ h=>h) (Or.inl ⟨by rfl,fun w9 hSw=>?_⟩) hHeld0 ?_
 ·(try dsimp only at hSw);go_simp
 try simp only [Act.put,List.setIfInBounds_toArray,List.set_cons_zero,List.set_cons_succ]
 refine wpAnyH_take (i:=15) (oi:={ dst:=some 20,op:=Op.load 61 (Operand.tmp 19),type:=61,pos:="steps.go:34",after:=#[{ on:=14,ground:=Ground.data }],guard:=none }) (v:=.int .u64 (d:Int)) rfl (by kernel_rfl) (by kernel_rfl) (by kernel_rfl) (fun _ _ _ h=>h) (Or.inl ⟨by rfl,fun w9 hSw=>?_⟩) hHeld0 ?_
 ·(try dsimp only at hSw);go_simp
 try simp only [Act.put,List.setIfInBounds_toArray,List.set_cons_zero,List.set_cons_succ]
 refine wpAnyH_take (i:=16) (oi:={ dst:=some 21,op:=Op.binOp BinOp.mul 61 (Operand.tmp 18) (Operand.tmp 20) 61,type:=61,pos:="steps.go:34",after:=#[{ on:=13,ground:=Ground.data },{ on:=15,ground:=Ground.data }],guard:=none }) (v:=.int .u64 (r:Int)) rfl (by kernel_rfl) (by kernel_rfl) (by kernel_rfl) (fun _ _ _ h=>h) (Or.inl ⟨by rfl,fun w9 hSw=>?_⟩) hHeld0 ?_
 ·(try dsimp only at hSw);go_simp
 try simp only [Act.put,List.setIfInBounds_toArray,List.set_cons_zero,List.set_cons_succ]
 refine wpAnyH_take (i:=17) (oi:={ dst:=some 22,op:=Op.binOp BinOp.add 61 (Operand.tmp 17) (Operand.tmp 21) 61,type:=61,pos:="steps.go:34",after:=#[{ on:=12,ground:=Ground.data },{ on:=16,ground:=Ground.data }],guard:=none }) (v:=.int .u64 (ar':Int)) rfl (by kernel_rfl) (by kernel_rfl) (by kernel_rfl) (fun _ _ _ h=>h) (Or.inl ⟨by rfl,fun w9 hSw=>?_⟩) hHeld0 ?_
 ·(try dsimp only at hSw);go_simp
 try simp only [Act.put,List.setIfInBounds_toArray,List.set_cons_zero,List.set_cons_succ]
 refine wpAnyH_take (i:=18) (oi:={ dst:=some 23,op:=Op.fieldAddr 139 (Operand.tmp 2) 4,type:=0,pos:="steps.go:34",after:=#[],guard:=none }) (v:=.pointer (some ⟨w.heap.size,4,none⟩)) rfl (by kernel_rfl) (by kernel_rfl) (by kernel_rfl) (fun _ _ _ h=>h) (Or.inl ⟨by rfl,fun w9 hSw=>?_⟩) hHeld0 ?_
 ·(try dsimp only at hSw);go_simp
 try simp only [Act.put,List.setIfInBounds_toArray,List.set_cons_zero,List.set_cons_succ]
 refine wpAnyH_take (i:=19) (oi:={ dst:=some 24,op:=Op.load 22 (Operand.tmp 23),type:=22,pos:="steps.go:34",after:=#[{ on:=18,ground:=Ground.data }],guard:=none }) (v:=.slice (some ⟨R,0,none⟩) n 128) rfl (by kernel_rfl) (by kernel_rfl) (by kernel_rfl) (fun _ _ _ h=>h) (Or.inl ⟨by rfl,fun w9 hSw=>?_⟩) hHeld0 ?_
 ·(try dsimp only at hSw);go_simp
 try simp only [Act.put,List.setIfInBounds_toArray,List.set_cons_zero,List.set_cons_succ]
 refine wpAnyH_take (i:=20) (oi:={ dst:=some 25,op:=Op.move (Operand.tmp 1),type:=61,pos:="steps.go:34",after:=#[],guard:=none }) (v:=.int .u64 (q:Int)) rfl (by kernel_rfl) (by kernel_rfl) (by kernel_rfl) (fun _ _ _ h=>h) (Or.inl ⟨by rfl,fun w9 hSw=>?_⟩) hHeld0 ?_
 ·(try dsimp only at hSw);go_simp
 try simp only [Act.put,List.setIfInBounds_toArray,List.set_cons_zero,List.set_cons_succ]
 refine wpAnyH_ready (rs:=[21]) (by kernel_rfl) (by simp) ?_
 refine AllReadyH.cons rfl (fun K hK=>?_) AllReadyH.nil
 go_simp
 rw [HW.out]
 refine hK.out _ _ (KS.out _ HGW.out) (fun hHeld1=>?_)
 clear hK K
 try simp only [Act.put,List.setIfInBounds_toArray,List.set_cons_zero,List.set_cons_succ]
 refine wpAnyH_ready (rs:=[22]) (by kernel_rfl) (by simp) ?_
 refine AllReadyH.cons rfl (fun K hK=>?_) AllReadyH.nil
 refine step_append_room rfl (.tmp 24) (.tmp 26) 22 rfl 61 i0 1 Tryz.underlying22 hi hzb R 0 n 128 rfl ⟨w0.heap.size,0,none⟩ 1 1 [.int .u64 (q:Int)] rfl rfl HN.out HC1.out (by omega) HSP.out ?_
 rw [HW2.out]
 refine hK.out _ _ KS2.out (fun hHeld2=>?_)
 clear hK K
 try simp only [Act.put,List.setIfInBounds_toArray]
 refine wpAnyH_take (i:=23) (oi:={ dst:=some 28,op:=Op.build 139 #[(0,Operand.tmp 6),(1,Operand.tmp 8),(2,Operand.tmp 15),(3,Operand.tmp 22),(4,Operand.tmp 27)],type:=139,pos:="steps.go:34",after:=#[{ on:=1,ground:=Ground.data },{ on:=3,ground:=Ground.data },{ on:=10,ground:=Ground.data },{ on:=17,ground:=Ground.data },{ on:=22,ground:=Ground.data }],guard:=none }) (v:=.agg #[.int .u64 c,.int .u64 d,.int .u64 (ap':Int),.int .u64 (ar':Int),.slice (some ⟨R,0,none⟩) (n+1) 128]) rfl (by kernel_rfl) (by kernel_rfl) (by kernel_rfl) (fun _ _ _ h=>h) (Or.inl ⟨by rfl,fun w9 hSw=>?_⟩) hHeld2 ?_
 ·(try dsimp only at hSw);go_simp
 try simp only [Act.put]
 refine wpAnyH_ready (rs:=[24]) (by kernel_rfl) (by simp) ?_
 refine AllReadyH.cons rfl (fun K hK=>?_) AllReadyH.nil
 go_simp
 refine hK.out _ _ KS3.out (fun hHeld3=>?_)
 clear hK K
 try simp only [Act.put,List.setIfInBounds_toArray,List.set_cons_zero,List.set_cons_succ]
 refine wpAnyH_done (by kernel_rfl) ?_ _
 clear hHeld0 hHeld1 hHeld2 hHeld3
 clear KS KS2 KS3 HN HC1 HSP g0 g1 g2 g3 g4 k0 k1 k2 k3 k4 e0 e1 e2 e3 e4 ef c0 c1 c2 c3 c4
 have HR:=aa (show aJ (((((W2.setCell ⟨w.heap.size+1,0,none⟩ (.int .u64 c)).setCell ⟨w.heap.size+1,1,none⟩ (.int .u64 d)).setCell ⟨w.heap.size+1,2,none⟩ (.int .u64 (ap':Int))).setCell ⟨w.heap.size+1,3,none⟩ (.int .u64 (ar':Int))).setCell ⟨w.heap.size+1,4,none⟩ (.slice (some ⟨R,0,none⟩) (n+1) 128)) R from ⟨_,HB3.out,by rw [List.length_set];exact hl⟩)
 have HF3:=aa (show Fr R w (((((W2.setCell ⟨w.heap.size+1,0,none⟩ (.int .u64 c)).setCell ⟨w.heap.size+1,1,none⟩ (.int .u64 d)).setCell ⟨w.heap.size+1,2,none⟩ (.int .u64 (ap':Int))).setCell ⟨w.heap.size+1,3,none⟩ (.int .u64 (ar':Int))).setCell ⟨w.heap.size+1,4,none⟩ (.slice (some ⟨R,0,none⟩) (n+1) 128)) from cE HF2.out (by omega))
 obtain⟨q0,q1,q2,q3,q4⟩:=aH HX3.out
 clear HB2 HB3 HX2 HX3 HF2
 generalize ((((W2.setCell ⟨w.heap.size+1,0,none⟩ (.int .u64 c)).setCell ⟨w.heap.size+1,1,none⟩ (.int .u64 d)).setCell ⟨w.heap.size+1,2,none⟩ (.int .u64 (ap':Int))).setCell ⟨w.heap.size+1,3,none⟩ (.int .u64 (ar':Int))).setCell ⟨w.heap.size+1,4,none⟩ (.slice (some ⟨R,0,none⟩) (n+1) 128)=w5 at *
 go_wp2
 refine bodyPost_ret (v:=stw c d ap' ar' (some ⟨R,0,none⟩) (n+1) 128) (by simp [stw,results,Tryz.results162,go_sem,q0,q1,q2,q3,q4]) rfl ?_
 exact⟨rfl,HR.out,HF3.out⟩

theorem aJ.fr {R:Nat}{w w':World}(h:aJ w R)(hb:Below w.heap.size w w'):aJ w' R:=by
 obtain⟨xs,h1,h2⟩:=h
 exact⟨xs,h1.below' hb,h2⟩

theorem aJ.lt {R:Nat}{w:World}(h:aJ w R):R<w.heap.size:=by
 obtain⟨xs,h1,_⟩:=h
 exact h1.lt

theorem aJ.set {R g o:Nat}{w:World}{u:Value}(h:aJ w R)(hne:R≠g):aJ (w.setCell ⟨g,o,none⟩ u) R:=by
 obtain⟨xs,h1,h2⟩:=h
 exact⟨xs,aN h1 hne,h2⟩

theorem iN (R:Nat)(w:World) :
  Calls Tryz.prog 161 #[.slice (some ⟨R,0,none⟩) 0 128] w fun e w'=>e=.returned (.agg #[.int .u64 1,.int .u64 0,.int .u64 0,.int .u64 1,.slice (some ⟨R,0,none⟩) 0 128])∧Below w.heap.size w w':=by
 have hb:Below w.heap.size w (w.alloc (.cells #[.int .u64 1,.int .u64 0,.int .u64 0,.int .u64 1,.slice (some ⟨R,0,none⟩) 0 128] 139)):=(Below.refl _ _).alloc (Nat.le_refl _) _
 have HB:=aa hb
 clear hb
 go_enter Tryz.func161,Tryz.ntmps161
 go_wp2
 go_returns
 exact⟨rfl,HB.out⟩

theorem kA {wr w2 W0:World}{R B0 G1:Nat}(h0:Below wr.heap.size wr W0)(hf:Fr R W0 w2)(hR:aJ w2 R)(hR0:R<wr.heap.size)(hB:B0<wr.heap.size)(hG:G1<wr.heap.size)(o:Obj) :
  ∃g:Nat,Value.pointer (some ⟨w2.heap.size,0,none⟩)=Value.pointer (some ⟨g,0,none⟩)∧g≠B0∧g≠G1∧g≠R∧(w2.alloc o).heap[g]?=some o∧aJ (w2.alloc o) R∧Fr R wr (w2.alloc o):=by
 have h1:Fr R wr w2:=(Fr.of_below h0).trans hf
 have h2:=h1.size
 exact⟨w2.heap.size,rfl,by omega,by omega,by omega,heap_alloc_new ..,hR.fr ((Below.refl _ _).alloc (Nat.le_refl _) o),h1.trans (Fr.alloc R w2 o)⟩

theorem kB {wr w2 W0:World}{R B0 G1:Nat}(h0:Below wr.heap.size wr W0)(hf:Fr R W0 w2)(hR:aJ w2 R)(hR0:R<wr.heap.size)(hB:B0<wr.heap.size)(hG:G1<wr.heap.size){a b c d f a' b' c' d' f':Value}{t:TypeId}(hk:w2.heap[wr.heap.size]?=some (.cells #[a,b,c,d,f] t)) :
  ∃g:Nat,Value.pointer (some ⟨wr.heap.size,0,none⟩)=Value.pointer (some ⟨g,0,none⟩)∧g≠B0∧g≠G1∧g≠R∧(((((w2.setCell ⟨wr.heap.size,0,none⟩ a').setCell ⟨wr.heap.size,1,none⟩ b').setCell ⟨wr.heap.size,2,none⟩ c').setCell ⟨wr.heap.size,3,none⟩ d').setCell ⟨wr.heap.size,4,none⟩ f').heap[g]?=some (.cells #[a',b',c',d',f'] t) ∧
   aJ (((((w2.setCell ⟨wr.heap.size,0,none⟩ a').setCell ⟨wr.heap.size,1,none⟩ b').setCell ⟨wr.heap.size,2,none⟩ c').setCell ⟨wr.heap.size,3,none⟩ d').setCell ⟨wr.heap.size,4,none⟩ f') R ∧
   Fr R wr (((((w2.setCell ⟨wr.heap.size,0,none⟩ a').setCell ⟨wr.heap.size,1,none⟩ b').setCell ⟨wr.heap.size,2,none⟩ c').setCell ⟨wr.heap.size,3,none⟩ d').setCell ⟨wr.heap.size,4,none⟩ f'):=by
 have h1:Fr R wr w2:=(Fr.of_below h0).trans hf
 have hne:R≠wr.heap.size:=by omega
 exact⟨wr.heap.size,rfl,by omega,by omega,by omega,cD hk,((((hR.set hne).set hne).set hne).set hne).set hne,cE h1 (Nat.le_refl _)⟩

theorem ak {W0 W t:World}(h:Below W0.heap.size W0 W)(h2:Below W.heap.size W t):Below W0.heap.size W0 t:=h.trans (h2.mono h.size)

def pd (xh yh R:Nat)(w:World)(e:Ending)(w':World):Prop:=
 (∃a b c d n x y:Nat,e=.returned (stw a b c d (some ⟨R,0,none⟩) n 128)∧bD n xh yh x y a b c d∧n<128∧(1≤n→d<4294967296))∧aJ w' R∧Fr R w w'

theorem lW (xh yh R:Nat)(w:World)(hx:xh<18446744073709551616)(hyx:yh≤xh)(hx0:0<xh)(hR:aJ w R) :
  Calls Tryz.prog 119 #[.int .u64 xh,.int .u64 yh,.slice (some ⟨R,0,none⟩) 0 128] w (pd xh yh R w):=by
 obtain⟨w0,hw0,hb0,h0⟩:=aO w (.cells #[.int .u64 0,.int .u64 0,.int .u64 0,.int .u64 0,.slice none 0 0] 139)
 have NS:=iN R w0
 have HB0:=aa hb0
 have H0:=aa h0
 have HR:=aa hR
 have HX:=aa (And.intro hx hx0)
 have HYX:=aa hyx
 have hs0:w0.heap.size=w.heap.size+1:=by rw [←hw0];exact World.size_alloc _ _
 have HS0:=aa hs0
 have hRw:=hR.lt
 clear hb0 h0 hR hs0
 go_enter Tryz.func119,Tryz.ntmps119
 go_wp2_with fail
 refine NS.mono ?_
 rintro e w1 ⟨rfl,hb1⟩
 obtain⟨w2,hw2,hb2,h2⟩:=aO w1 (.cells #[.int .u64 1,.int .u64 0,.int .u64 0,.int .u64 1,.slice (some ⟨R,0,none⟩) 0 128] 139)
 have HS1:=aa hb1.size
 have HRM:=aa (((HR.out.fr HB0.out).fr hb1).fr hb2)
 have HFR:=aa (Fr.of_below (bz:=R) ((ak HB0.out hb1).trans (hb2.mono (ak HB0.out hb1).size)))
 have H02:=aa (ac hb2 (ac hb1 H0.out))
 have H12:=aa h2
 have HTOP0:=aa (bD.start HYX.out)
 obtain⟨G1,hG1⟩:∃G1,w1.heap.size=G1:=⟨_,rfl⟩
 rw [hG1] at H12
 have hG:w.heap.size+1≤G1:=by have:=HS1.out;have:=HS0.out;omega
 have HG:=aa hG
 clear hb1 hb2 h2 NS
 go_wp2
 clear hG1 HS1
 go_loopw [0,1] (fun X Y wr=>∃(x y a b c d n:Nat),X=.int .u64 x∧Y=.int .u64 y∧x<18446744073709551616∧y<18446744073709551616∧0<x∧bD n xh yh x y a b c d∧wr.heap[w.heap.size]?=some (.cells #[.int .u64 0,.int .u64 0,.int .u64 0,.int .u64 0,.slice none 0 0] 139)∧wr.heap[G1]?=some (.cells #[.int .u64 (a:Int),.int .u64 (b:Int),.int .u64 (c:Int),.int .u64 (d:Int),.slice (some ⟨R,0,none⟩) n 128] 139)∧aJ wr R∧Fr R w wr) (fun _ Y _=>(intOf Y).toNat)
 case atStart=>exact⟨xh,yh,1,0,0,1,0,rfl,rfl,HX.out.1,by have:=HX.out.1;have:=HYX.out;omega,HX.out.2,HTOP0.out,H02.out,H12.out,HRM.out,HFR.out⟩
 case round=>
  obtain⟨x,y,a,b,c,d,n,rfl,rfl,hxl,hyl,hxp,htop,r0,r1,hrm,hfr⟩:=hrel
  have HTOP:=aa htop
  have R0:=aa r0
  have R1:=aa r1
  have RM:=aa hrm
  have FR:=aa hfr
  have hn:=htop.few hxp HX.out.1
  have HLN:=aa hn
  have HRB:=aa (show R≠w.heap.size by omega)
  obtain⟨sa,sb,sc,sd⟩:=htop.top.small HX.out.1
  obtain⟨hr0,hr1,hr2,hr3,hr4⟩:=aH r1
  obtain⟨hq0,hq1,hq2,hq3,hq4⟩:=aH r0
  have hqf:=cf r0
  have hrf:=cf r1
  clear H02 H12 HRM HFR HTOP0
  by_cases hy0:y=0
  ·subst hy0
   clear htop r0 r1 hrm hfr
   replace HX:=aa HX.out.1
   go_wp2
   have HE:=aa (show ∃x y:Nat,bD n xh yh x y a b c d∧n<128∧(1≤n→d<4294967296) from ⟨_,_,HTOP.out,HLN.out,fun h1=>HTOP.out.top.1.half (by have h2:=(HTOP.out.acc h1).1;have:=h2.xy;have:=h2.dy;omega) HX.out⟩)
   have R5:=cD R0.out (a':=.int .u64 a) (b':=.int .u64 b) (c':=.int .u64 c) (d':=.int .u64 d) (f':=.slice (some ⟨R,0,none⟩) n 128)
   have W5:=aa (And.intro ((((((RM.out.set HRB.out).set HRB.out).set HRB.out).set HRB.out).set HRB.out:aJ (((((wr.setCell ⟨w.heap.size,0,none⟩ (.int .u64 a)).setCell ⟨w.heap.size,1,none⟩ (.int .u64 b)).setCell ⟨w.heap.size,2,none⟩ (.int .u64 c)).setCell ⟨w.heap.size,3,none⟩ (.int .u64 d)).setCell ⟨w.heap.size,4,none⟩ (.slice (some ⟨R,0,none⟩) n 128)) R)) (cE (g:=w.heap.size) (u0:=.int .u64 a) (u1:=.int .u64 b) (u2:=.int .u64 c) (u3:=.int .u64 d) (u4:=.slice (some ⟨R,0,none⟩) n 128) FR.out (Nat.le_refl _)))
   generalize ((((wr.setCell ⟨w.heap.size,0,none⟩ (.int .u64 a)).setCell ⟨w.heap.size,1,none⟩ (.int .u64 b)).setCell ⟨w.heap.size,2,none⟩ (.int .u64 c)).setCell ⟨w.heap.size,3,none⟩ (.int .u64 d)).setCell ⟨w.heap.size,4,none⟩ (.slice (some ⟨R,0,none⟩) n 128)=w5 at *
   obtain⟨hk0,hk1,hk2,hk3,hk4⟩:=aH R5
   refine bodyPost_ret (v:=stw a b c d (some ⟨R,0,none⟩) n 128) (by simp [stw,results,Tryz.results119,go_sem,hk0,hk1,hk2,hk3,hk4]) rfl ?_
   obtain⟨x9,y9,q1,q2,q3⟩:=HE.out
   exact⟨⟨a,b,c,d,n,x9,y9,rfl,q1,q2,q3⟩,W5.out.1,W5.out.2⟩
  ·have hy:0<y:=by omega
   have hypos:(0:Int)<(y:Int):=by omega
   have hz:((y:Int) == 0)=false:=by rw [beq_eq_false_iff_ne];omega
   obtain⟨n1,n2,n3,n4,n5,n6,n7⟩:=htop.top.next hy
   have hdiv:(x:Int) / (y:Int)=((x / y:Nat):Int):=by omega
   have hmod:(x:Int) % (y:Int)=((x % y:Nat):Int):=by omega
   have hml:x % y<y:=Nat.mod_lt _ hy
   have hdl:=n1.d_le hy
   have hql:x / y≤x:=Nat.div_le_self _ _
   have HNX:=fun W hR=>jl a b c d (x / y) R n W (by have:=HX.out.1;omega) (by have:=HX.out.1;omega) hR hn
   have HNE:=aa (fun h1 h2=>htop.next hy h1 h2)
   generalize x / y=q at *
   generalize x % y=r at *
   generalize a+q*c=c' at *
   generalize b+q*d=d' at *
   unfold stw at HNX
   have hlt0:w.heap.size<wr.heap.size:=bC R0.out
   have hlt1:G1<wr.heap.size:=bC R1.out
   have hRlt:=RM.out.lt
   have hRG:R≠G1:=by have:=HG.out;omega
   have HRG:=aa hRG
   have hne1:¬(G1=wr.heap.size):=by omega
   have hne2:¬(wr.heap.size=G1):=by omega
   obtain⟨ha0,ha1,ha2,ha3,ha4⟩:=aH (hC (o:=.cells #[.int .u64 0,.int .u64 0,.int .u64 0,.int .u64 0,.slice none 0 0] 139) R1.out)
   have wq:IntKind.u64.wrap (q:Int)=(q:Int):=by rw [IntKind.wrap_u64];omega
   have wr':IntKind.u64.wrap (r:Int)=(r:Int):=by rw [IntKind.wrap_u64];omega
   have RW1:=aa (RM.out.fr (dY (Below.refl _ _)))
   have RW2:=aa (RM.out.fr (dY (ib (Below.refl _ _) (.cells #[.int .u64 0,.int .u64 0,.int .u64 0,.int .u64 0,.slice none 0 0] 139))))
   have HN1:=aa n1
   clear htop r0 r1 hrm hfr n1 hy0 hRG hn
   go_upto_region 3 with fail
   go_cut [8] from 13 to 18 (fun s wx=>∃g:Nat,s=.pointer (some ⟨g,0,none⟩)∧g≠w.heap.size∧g≠G1∧g≠R∧wx.heap[g]?=some (.cells #[.int .u64 (c:Int),.int .u64 (d:Int),.int .u64 (c':Int),.int .u64 (d':Int),.slice (some ⟨R,0,none⟩) (n+1) 128] 139)∧aJ wx R∧Fr R wr wx)
   case first=>
    go_region_with (first | (go_at_call 162;refine (HNX _ (by first|exact RW1.out|exact RW2.out)).mono ?_;rintro e w3 ⟨rfl,hR3,hF3⟩;first | (have hz3:=(hF3.block wr.heap.size (by simp [World.size_alloc]) (by omega)).trans (show (wr.alloc (.cells #[.int .u64 0,.int .u64 0,.int .u64 0,.int .u64 0,.slice none 0 0] 139)).drew.heap[wr.heap.size]?=_ from heap_alloc_new ..);obtain⟨hl0,hl1,hl2,hl3,hl4⟩:=aH hz3;have hlf:=cf hz3) | skip))
    all_goals (go_wp2_with fail;go_meet;first|exact kA (Below.refl _ _).drew hF3 hR3 hRlt hlt0 hlt1 _|exact kB ((Below.refl _ _).alloc (Nat.le_refl _) _).drew hF3 hR3 hRlt hlt0 hlt1 hz3)
   case rest=>
    obtain⟨g,rfl,hg1,hg2,hg3,hgc,hrm,hbx⟩:=hcut
    have S0:=aa ((hbx.block w.heap.size hlt0 (by omega)).trans R0.out)
    have S1:=aa ((hbx.block G1 hlt1 (fun e=>HRG.out e.symm)).trans R1.out)
    have SR:=aa hrm
    have SF:=aa (FR.out.trans hbx)
    obtain⟨k0,k1,k2,k3,k4⟩:=aH hgc
    obtain⟨m0,m1,m2,m3,m4⟩:=aH S1.out
    have mf:=cf S1.out
    obtain⟨z0,z1,z2,z3,z4⟩:=aH S0.out
    have zf:=cf S0.out
    clear hbx hgc hrm hr0 hr1 hr2 hr3 hr4 hq0 hq1 hq2 hq3 hq4 hqf hrf R0 R1 RM FR ha0 ha1 ha2 ha3 ha4 HNX RW1 RW2
    go_wp2
    go_quiet (fail)
    by_cases t1:r<d'
    ·have t1':(r:Int)<(d':Int):=by omega
     replace HX:=aa HX.out.1
     clear HNE HN1
     go_wp2
     obtain⟨wd,hwd⟩:∃wd,wd=wc.drewN nq:=⟨_,rfl⟩
     rw [←hwd]
     have R0:=S0
     rw [show wc.heap=wd.heap by rw [hwd];rfl] at R0
     have hbd:Below wc.heap.size wc wd:=by rw [hwd];exact (((aA.refl _).drewN _).below _)
     have RM:=aa (SR.out.fr hbd)
     have FR:=aa (SF.out.trans (Fr.of_below hbd))
     clear hwd
     have HE:=aa (show ∃x y:Nat,bD n xh yh x y a b c d∧n<128∧(1≤n→d<4294967296) from ⟨_,_,HTOP.out,HLN.out,fun h1=>HTOP.out.top.1.half (by have h2:=(HTOP.out.acc h1).1;have:=h2.xy;have:=h2.dy;omega) HX.out⟩)
     have R5:=cD R0.out (a':=.int .u64 a) (b':=.int .u64 b) (c':=.int .u64 c) (d':=.int .u64 d) (f':=.slice (some ⟨R,0,none⟩) n 128)
     have W5:=aa (And.intro ((((((RM.out.set HRB.out).set HRB.out).set HRB.out).set HRB.out).set HRB.out:aJ (((((wd.setCell ⟨w.heap.size,0,none⟩ (.int .u64 a)).setCell ⟨w.heap.size,1,none⟩ (.int .u64 b)).setCell ⟨w.heap.size,2,none⟩ (.int .u64 c)).setCell ⟨w.heap.size,3,none⟩ (.int .u64 d)).setCell ⟨w.heap.size,4,none⟩ (.slice (some ⟨R,0,none⟩) n 128)) R)) (cE (g:=w.heap.size) (u0:=.int .u64 a) (u1:=.int .u64 b) (u2:=.int .u64 c) (u3:=.int .u64 d) (u4:=.slice (some ⟨R,0,none⟩) n 128) FR.out (Nat.le_refl _)))
     generalize ((((wd.setCell ⟨w.heap.size,0,none⟩ (.int .u64 a)).setCell ⟨w.heap.size,1,none⟩ (.int .u64 b)).setCell ⟨w.heap.size,2,none⟩ (.int .u64 c)).setCell ⟨w.heap.size,3,none⟩ (.int .u64 d)).setCell ⟨w.heap.size,4,none⟩ (.slice (some ⟨R,0,none⟩) n 128)=w5 at *
     obtain⟨hk0,hk1,hk2,hk3,hk4⟩:=aH R5
     refine bodyPost_ret (v:=stw a b c d (some ⟨R,0,none⟩) n 128) (by simp [stw,results,Tryz.results119,go_sem,hk0,hk1,hk2,hk3,hk4]) rfl ?_
     obtain⟨x9,y9,q1,q2,q3⟩:=HE.out
     exact⟨⟨a,b,c,d,n,x9,y9,rfl,q1,q2,q3⟩,W5.out.1,W5.out.2⟩
    ·have t1':¬((r:Int)<(d':Int)):=by omega
     have hsum:=HN1.out.sum_le hy (show 0<r by omega)
     obtain⟨e1,he1,hf1⟩:∃e1:Nat,(y:Int) - (r:Int)=(e1:Int)∧e1+r=y:=⟨y - r,by omega,by omega⟩
     obtain⟨e2,he2,hf2⟩:∃e2:Nat,(d:Int)+(d':Int)=(e2:Int)∧d+d'=e2:=⟨d+d',by omega,rfl⟩
     have hl1:e1<18446744073709551616:=by omega
     have hl2:e2<18446744073709551616:=by have:=HX.out.1;omega
     by_cases t2:e1<e2
     ·have t2':(e1:Int)<(e2:Int):=by omega
      replace HX:=aa HX.out.1
      clear hf1 hf2 HNE HN1
      go_wp2
      obtain⟨wd,hwd⟩:∃wd,wd=wc.drewN nq:=⟨_,rfl⟩
      rw [←hwd]
      have R0:=S0
      rw [show wc.heap=wd.heap by rw [hwd];rfl] at R0
      have hbd:Below wc.heap.size wc wd:=by rw [hwd];exact (((aA.refl _).drewN _).below _)
      have RM:=aa (SR.out.fr hbd)
      have FR:=aa (SF.out.trans (Fr.of_below hbd))
      clear hwd
      have HE:=aa (show ∃x y:Nat,bD n xh yh x y a b c d∧n<128∧(1≤n→d<4294967296) from ⟨_,_,HTOP.out,HLN.out,fun h1=>HTOP.out.top.1.half (by have h2:=(HTOP.out.acc h1).1;have:=h2.xy;have:=h2.dy;omega) HX.out⟩)
      have R5:=cD R0.out (a':=.int .u64 a) (b':=.int .u64 b) (c':=.int .u64 c) (d':=.int .u64 d) (f':=.slice (some ⟨R,0,none⟩) n 128)
      have W5:=aa (And.intro ((((((RM.out.set HRB.out).set HRB.out).set HRB.out).set HRB.out).set HRB.out:aJ (((((wd.setCell ⟨w.heap.size,0,none⟩ (.int .u64 a)).setCell ⟨w.heap.size,1,none⟩ (.int .u64 b)).setCell ⟨w.heap.size,2,none⟩ (.int .u64 c)).setCell ⟨w.heap.size,3,none⟩ (.int .u64 d)).setCell ⟨w.heap.size,4,none⟩ (.slice (some ⟨R,0,none⟩) n 128)) R)) (cE (g:=w.heap.size) (u0:=.int .u64 a) (u1:=.int .u64 b) (u2:=.int .u64 c) (u3:=.int .u64 d) (u4:=.slice (some ⟨R,0,none⟩) n 128) FR.out (Nat.le_refl _)))
      generalize ((((wd.setCell ⟨w.heap.size,0,none⟩ (.int .u64 a)).setCell ⟨w.heap.size,1,none⟩ (.int .u64 b)).setCell ⟨w.heap.size,2,none⟩ (.int .u64 c)).setCell ⟨w.heap.size,3,none⟩ (.int .u64 d)).setCell ⟨w.heap.size,4,none⟩ (.slice (some ⟨R,0,none⟩) n 128)=w5 at *
      obtain⟨hk0,hk1,hk2,hk3,hk4⟩:=aH R5
      refine bodyPost_ret (v:=stw a b c d (some ⟨R,0,none⟩) n 128) (by simp [stw,results,Tryz.results119,go_sem,hk0,hk1,hk2,hk3,hk4]) rfl ?_
      obtain⟨x9,y9,q1,q2,q3⟩:=HE.out
      exact⟨⟨a,b,c,d,n,x9,y9,rfl,q1,q2,q3⟩,W5.out.1,W5.out.2⟩
     ·have t2':¬((e1:Int)<(e2:Int)):=by omega
      have HNT:=aa (HNE.out (by omega) (by omega))
      have hrp:0<r:=by omega
      clear hf1 hf2 HNE HN1
      go_wp2
      go_roundw
      case rel=>
       have hdr:Below wc.heap.size wc (wc.drewN nq):=((aA.refl _).drewN _).below _
       have hwG:w.heap.size≤G1:=by have:=HG.out;omega
       refine⟨y,r,c,d,c',d',n+1,rfl,by rw [hmod],hyl,by omega,hy,HNT.out,?_,?_,?_,?_⟩
       ·exact aN (aN (aN (aN (aN S0.out (by omega)) (by omega)) (by omega)) (by omega)) (by omega)
       ·exact cD S1.out
       ·exact (((((SR.out.fr hdr).set HRG.out).set HRG.out).set HRG.out).set HRG.out).set HRG.out
       ·exact cE (SF.out.trans (Fr.of_below hdr)) hwG
      case measure=>simp [intOf];omega

structure LTo (n xh yh x y a b c d:Nat):Prop where
 steps:LSteps xh yh x y a b c d (aU n)
 yx:y≤x
 zero:n=0→a=1∧b=0∧c=0∧d=1
 pos:1≤n→a≤b∧c≤d∧1≤c∧b≤d∧a≤c∧1≤b∧c+d≤18446744073709551616
 grow:2 ^ (n / 2)≤d
 grow1:1≤n→2 ^ ((n - 1) / 2)≤b
 lt:1≤n→y<x

theorem LTo.start {x y:Nat}(h:y≤x):LTo 0 x y x y 1 0 0 1:=
 ⟨LSteps.start _ _,h,fun _=>⟨rfl,rfl,rfl,rfl⟩,fun h=>by omega,by simp,fun h=>by omega,fun h=>by omega⟩

theorem LTo.parts {n xh yh x y a b c d:Nat}(h:LTo n xh yh x y a b c d)(hy:0<y) :
  c≤d∧a+x / y*c≤b+x / y*d∧1≤a+x / y*c∧d≤b+x / y*d∧c≤a+x / y*c∧1≤d∧b+d≤b+x / y*d∧a≤d:=by
 have hq:1≤x / y:=(Nat.le_div_iff_mul_le hy).2 (by have:=h.yx;omega)
 have p2:c≤x / y*c:=Nat.le_mul_of_pos_left _ hq
 have p3:d≤x / y*d:=Nat.le_mul_of_pos_left _ hq
 rcases Nat.eq_zero_or_pos n with h0|h0
 ·obtain⟨rfl,rfl,rfl,rfl⟩:=h.zero h0
  generalize x / y=q at *
  refine⟨by omega,by omega,by omega,by omega,by omega,by omega,by omega,by omega⟩
 ·obtain⟨k1,k2,k3,k4,k5,k6,k7⟩:=h.pos h0
  have p1:x / y*c≤x / y*d:=Nat.mul_le_mul_left _ k2
  generalize x / y*c=u at *
  generalize x / y*d=v at *
  refine⟨by omega,by omega,by omega,by omega,by omega,by omega,by omega,by omega⟩

theorem LTo.next {n xh yh x y a b c d:Nat}(h:LTo n xh yh x y a b c d)(hy:0<y)(h2:a+x / y*c+(b+x / y*d)≤18446744073709551616) :
  LTo (n+1) xh yh y (x % y) c d (a+x / y*c) (b+x / y*d):=by
 obtain⟨p1,p2,p3,p4,p5,p6,p7,_⟩:=h.parts hy
 have hm:=Nat.mod_lt x hy
 refine⟨by rw [ij];exact h.steps.next hy,by omega,fun h=>by omega,fun _=>⟨p1,p2,p3,p4,p5,p6,h2⟩,?_,fun _=>?_,fun _=>hm⟩
 ·rcases Nat.eq_zero_or_pos n with h0|h0
  ·subst h0
   simp
   omega
  ·have g:=h.grow
   have g1:=h.grow1 h0
   rcases Nat.mod_two_eq_zero_or_one n with hm|hm
   ·have e:(n+1) / 2=n / 2:=by omega
    rw [e];omega
   ·have e:(n+1) / 2=n / 2+1:=by omega
    have e1:(n - 1) / 2=n / 2:=by omega
    rw [e1] at g1
    rw [e,Nat.pow_succ];omega
 ·rw [show n+1 - 1=n by omega];exact h.grow

theorem LTo.few {n xh yh x y a b c d:Nat}(h:LTo n xh yh x y a b c d)(hx:0<x)(hl:xh<18446744073709551616):n<128:=by
 have h1:=h.steps.d_le hx
 have h2:=h.grow
 rcases Nat.lt_or_ge n 128 with h3|h3
 ·exact h3
 ·exfalso
  have h4:2 ^ 64≤2 ^ (n / 2):=Nat.pow_le_pow_right (by omega) (by omega)
  have h5:(2:Nat) ^ 64=18446744073709551616:=rfl
  omega

theorem LTo.small {n xh yh x y a b c d:Nat}(h:LTo n xh yh x y a b c d)(hx:0<x)(hl:xh<18446744073709551616):a<18446744073709551616∧b<18446744073709551616∧c<18446744073709551616∧d<18446744073709551616:=by
 have h1:=h.steps.d_le hx
 rcases Nat.eq_zero_or_pos n with h0|h0
 ·obtain⟨rfl,rfl,rfl,rfl⟩:=h.zero h0
  omega
 ·obtain⟨k1,k2,k3,k4,k5,k6,k7⟩:=h.pos h0
  omega

theorem LTo.many {n xh yh x y a b c d:Nat}(h:LTo n xh yh x y a b c d)(hn:1≤n):Many a b c d (aU n) xh yh x y∧y<yh:=by
 obtain⟨k1,k2,k3,k4,k5,k6,k7⟩:=h.pos hn
 have hl:=h.lt hn
 have ex:=h.steps.hx
 have ey:=h.steps.hy
 have hxy:x≤yh:=by
  rw [ey]
  have:=Nat.le_mul_of_pos_left x k3
  omega
 have e1:(x:Int)=fsg (aU n)*((a:Int)*xh - (b:Int)*yh)∧(y:Int)=fsg (aU n)*((d:Int)*yh - (c:Int)*xh):=by
  rw [ex,ey,Int.natCast_add,Int.natCast_mul,Int.natCast_mul,Int.natCast_add,Int.natCast_mul,Int.natCast_mul]
  cases ho:aU n with
  | false=>
   have hd:((a*d:Nat):Int)=((b*c+1:Nat):Int):=by rw [h.steps.even ho]
   rw [Int.natCast_mul,Int.natCast_add,Int.natCast_mul] at hd
   simp only [fsg,Bool.false_eq_true,if_false]
   constructor <;> grind
  | true=>
   have hd:((b*c:Nat):Int)=((a*d+1:Nat):Int):=by rw [h.steps.odd ho]
   rw [Int.natCast_mul,Int.natCast_add,Int.natCast_mul] at hd
   simp only [fsg,if_true]
   constructor <;> grind
 refine⟨⟨ex,ey,e1.1,e1.2,?_,⟨k5,k4⟩,by omega⟩,by omega⟩
 refine Nat.dvd_antisymm (Nat.dvd_gcd ?_ ?_) (Nat.dvd_gcd ?_ ?_)
 ·rw [ex]
  exact Nat.dvd_add (Nat.dvd_trans (Nat.gcd_dvd_left x y) (Nat.dvd_mul_left _ _)) (Nat.dvd_trans (Nat.gcd_dvd_right x y) (Nat.dvd_mul_left _ _))
 ·rw [ey]
  exact Nat.dvd_add (Nat.dvd_trans (Nat.gcd_dvd_left x y) (Nat.dvd_mul_left _ _)) (Nat.dvd_trans (Nat.gcd_dvd_right x y) (Nat.dvd_mul_left _ _))
 ·have g1:((Nat.gcd xh yh:Nat):Int) ∣ (xh:Int):=Int.natCast_dvd_natCast.2 (Nat.gcd_dvd_left xh yh)
  have g2:((Nat.gcd xh yh:Nat):Int) ∣ (yh:Int):=Int.natCast_dvd_natCast.2 (Nat.gcd_dvd_right xh yh)
  refine Int.natCast_dvd_natCast.1 ?_
  rw [e1.1]
  exact Int.dvd_trans (Int.dvd_sub (Int.dvd_trans g1 (Int.dvd_mul_left _ _)) (Int.dvd_trans g2 (Int.dvd_mul_left _ _))) (Int.dvd_mul_left _ _)
 ·have g1:((Nat.gcd xh yh:Nat):Int) ∣ (xh:Int):=Int.natCast_dvd_natCast.2 (Nat.gcd_dvd_left xh yh)
  have g2:((Nat.gcd xh yh:Nat):Int) ∣ (yh:Int):=Int.natCast_dvd_natCast.2 (Nat.gcd_dvd_right xh yh)
  refine Int.natCast_dvd_natCast.1 ?_
  rw [e1.2]
  exact Int.dvd_trans (Int.dvd_sub (Int.dvd_trans g2 (Int.dvd_mul_left _ _)) (Int.dvd_trans g1 (Int.dvd_mul_left _ _))) (Int.dvd_mul_left _ _)

theorem LTo.first {xh yh x y a b c d:Nat}(h:LTo 0 xh yh x y a b c d)(hx:x<18446744073709551616):a+x / y*c+(b+x / y*d)≤18446744073709551616:=by
 obtain⟨rfl,rfl,rfl,rfl⟩:=h.zero rfl
 have:=Nat.div_le_self x y
 generalize x / y=q at *
 omega

def jQ (xh yh R:Nat)(w:World)(e:Ending)(w':World):Prop:=
 (∃a b c d n x y:Nat,e=.returned (.tuple #[stw a b c d (some ⟨R,0,none⟩) n 128,.int .u64 (x:Int),.int .u64 (y:Int)])∧LTo n xh yh x y a b c d∧0<x∧n<128∧(0<yh→1≤n))∧aJ w' R∧Fr R w w'

theorem pC (xh yh R:Nat)(w:World)(hx:xh<18446744073709551616)(hyx:yh≤xh)(hx0:0<xh)(hR:aJ w R) :
  Calls Tryz.prog 123 #[.int .u64 xh,.int .u64 yh,.slice (some ⟨R,0,none⟩) 0 128] w (jQ xh yh R w):=by
 obtain⟨w0,hw0,hb0,h0⟩:=aO w (.cells #[.int .u64 0,.int .u64 0,.int .u64 0,.int .u64 0,.slice none 0 0] 139)
 have NS:=iN R w0
 have HB0:=aa hb0
 have H0:=aa h0
 have HR:=aa hR
 have HX:=aa (And.intro hx hx0)
 have HYX:=aa hyx
 have hs0:w0.heap.size=w.heap.size+1:=by rw [←hw0];exact World.size_alloc _ _
 have HS0:=aa hs0
 have hRw:=hR.lt
 clear hb0 h0 hR hs0
 go_enter Tryz.func123,Tryz.ntmps123
 go_wp2_with fail
 refine NS.mono ?_
 rintro e w1 ⟨rfl,hb1⟩
 obtain⟨w2,hw2,hb2,h2⟩:=aO w1 (.cells #[.int .u64 1,.int .u64 0,.int .u64 0,.int .u64 1,.slice (some ⟨R,0,none⟩) 0 128] 139)
 have HS1:=aa hb1.size
 have HRM:=aa (((HR.out.fr HB0.out).fr hb1).fr hb2)
 have HFR:=aa (Fr.of_below (bz:=R) ((ak HB0.out hb1).trans (hb2.mono (ak HB0.out hb1).size)))
 have H02:=aa (ac hb2 (ac hb1 H0.out))
 have H12:=aa h2
 have HTOP0:=aa (LTo.start HYX.out)
 obtain⟨G1,hG1⟩:∃G1,w1.heap.size=G1:=⟨_,rfl⟩
 rw [hG1] at H12
 have hG:w.heap.size+1≤G1:=by have:=HS1.out;have:=HS0.out;omega
 have HG:=aa hG
 clear hb1 hb2 h2 NS
 go_wp2
 clear hG1 HS1
 go_loopw [0,1] (fun X Y wr=>∃(x y a b c d n:Nat),X=.int .u64 x∧Y=.int .u64 y∧x<18446744073709551616∧y<18446744073709551616∧0<x∧(n=0→x=xh∧y=yh)∧LTo n xh yh x y a b c d∧wr.heap[w.heap.size]?=some (.cells #[.int .u64 0,.int .u64 0,.int .u64 0,.int .u64 0,.slice none 0 0] 139)∧wr.heap[G1]?=some (.cells #[.int .u64 (a:Int),.int .u64 (b:Int),.int .u64 (c:Int),.int .u64 (d:Int),.slice (some ⟨R,0,none⟩) n 128] 139)∧aJ wr R∧Fr R w wr) (fun _ Y _=>(intOf Y).toNat)
 case atStart=>exact⟨xh,yh,1,0,0,1,0,rfl,rfl,HX.out.1,by have:=HX.out.1;have:=HYX.out;omega,HX.out.2,fun _=>⟨rfl,rfl⟩,HTOP0.out,H02.out,H12.out,HRM.out,HFR.out⟩
 case round=>
  obtain⟨x,y,a,b,c,d,n,rfl,rfl,hxl,hyl,hxp,hn0,htop,r0,r1,hrm,hfr⟩:=hrel
  have HTOP:=aa htop
  have R0:=aa r0
  have R1:=aa r1
  have RM:=aa hrm
  have FR:=aa hfr
  have hn:=htop.few hxp HX.out.1
  have HLN:=aa hn
  have HXP:=aa hxp
  have HZ0:=aa hn0
  clear hn0
  have HRB:=aa (show R≠w.heap.size by omega)
  obtain⟨sa,sb,sc,sd⟩:=htop.small hxp HX.out.1
  obtain⟨hr0,hr1,hr2,hr3,hr4⟩:=aH r1
  obtain⟨hq0,hq1,hq2,hq3,hq4⟩:=aH r0
  have hqf:=cf r0
  have hrf:=cf r1
  clear H02 H12 HRM HFR HTOP0
  by_cases hy0:y=0
  ·subst hy0
   clear htop r0 r1 hrm hfr
   have HN0:Hid (0<yh→1≤n):=aa (fun h=>Nat.pos_of_ne_zero (fun h0=>by have:=(HZ0.out h0).2;omega))
   go_wp2
   have HE:=aa (And.intro HTOP.out (And.intro HXP.out (And.intro HLN.out HN0.out)))
   have R5:=cD R0.out (a':=.int .u64 a) (b':=.int .u64 b) (c':=.int .u64 c) (d':=.int .u64 d) (f':=.slice (some ⟨R,0,none⟩) n 128)
   have W5:=aa (And.intro ((((((RM.out.set HRB.out).set HRB.out).set HRB.out).set HRB.out).set HRB.out:aJ (((((wr.setCell ⟨w.heap.size,0,none⟩ (.int .u64 a)).setCell ⟨w.heap.size,1,none⟩ (.int .u64 b)).setCell ⟨w.heap.size,2,none⟩ (.int .u64 c)).setCell ⟨w.heap.size,3,none⟩ (.int .u64 d)).setCell ⟨w.heap.size,4,none⟩ (.slice (some ⟨R,0,none⟩) n 128)) R)) (cE (g:=w.heap.size) (u0:=.int .u64 a) (u1:=.int .u64 b) (u2:=.int .u64 c) (u3:=.int .u64 d) (u4:=.slice (some ⟨R,0,none⟩) n 128) FR.out (Nat.le_refl _)))
   generalize ((((wr.setCell ⟨w.heap.size,0,none⟩ (.int .u64 a)).setCell ⟨w.heap.size,1,none⟩ (.int .u64 b)).setCell ⟨w.heap.size,2,none⟩ (.int .u64 c)).setCell ⟨w.heap.size,3,none⟩ (.int .u64 d)).setCell ⟨w.heap.size,4,none⟩ (.slice (some ⟨R,0,none⟩) n 128)=w5 at *
   obtain⟨hk0,hk1,hk2,hk3,hk4⟩:=aH R5
   refine bodyPost_ret (v:=.tuple #[stw a b c d (some ⟨R,0,none⟩) n 128,.int .u64 (x:Int),.int .u64 ((0:Nat):Int)]) (by simp [stw,results,Tryz.results123,go_sem,hk0,hk1,hk2,hk3,hk4]) rfl ?_
   exact⟨⟨a,b,c,d,n,x,(0:Nat),rfl,HE.out⟩,W5.out.1,W5.out.2⟩
  ·have hy:0<y:=by omega
   have hypos:(0:Int)<(y:Int):=by omega
   have hz:((y:Int) == 0)=false:=by rw [beq_eq_false_iff_ne];omega
   have n1:=htop.steps.next hy
   obtain⟨n2,n3,n4,n5,n6,n7,n8,n9⟩:=htop.parts hy
   have hdiv:(x:Int) / (y:Int)=((x / y:Nat):Int):=by omega
   have hmod:(x:Int) % (y:Int)=((x % y:Nat):Int):=by omega
   have hml:x % y<y:=Nat.mod_lt _ hy
   have hdl:=n1.d_le hy
   have hql:x / y≤x:=Nat.div_le_self _ _
   have HNX:=fun W hR=>jl a b c d (x / y) R n W (by have:=HX.out.1;omega) (by have:=HX.out.1;omega) hR hn
   have HNE:=aa (fun h2=>htop.next hy h2)
   have HFI:=aa (fun h0:n=0=>LTo.first (h0 ▸ htop) hxl)
   generalize x / y=q at *
   generalize x % y=r at *
   generalize a+q*c=c' at *
   generalize b+q*d=d' at *
   unfold stw at HNX
   have hlt0:w.heap.size<wr.heap.size:=bC R0.out
   have hlt1:G1<wr.heap.size:=bC R1.out
   have hRlt:=RM.out.lt
   have hRG:R≠G1:=by have:=HG.out;omega
   have HRG:=aa hRG
   have hne1:¬(G1=wr.heap.size):=by omega
   have hne2:¬(wr.heap.size=G1):=by omega
   obtain⟨ha0,ha1,ha2,ha3,ha4⟩:=aH (hC (o:=.cells #[.int .u64 0,.int .u64 0,.int .u64 0,.int .u64 0,.slice none 0 0] 139) R1.out)
   have wq:IntKind.u64.wrap (q:Int)=(q:Int):=by rw [IntKind.wrap_u64];omega
   have wr':IntKind.u64.wrap (r:Int)=(r:Int):=by rw [IntKind.wrap_u64];omega
   have RW1:=aa (RM.out.fr (dY (Below.refl _ _)))
   have RW2:=aa (RM.out.fr (dY (ib (Below.refl _ _) (.cells #[.int .u64 0,.int .u64 0,.int .u64 0,.int .u64 0,.slice none 0 0] 139))))
   have HN1:=aa n1
   clear htop r0 r1 hrm hfr n1 hy0 hRG hn
   go_upto_region 3 with fail
   go_cut [10] from 15 to 20 (fun s wx=>∃g:Nat,s=.pointer (some ⟨g,0,none⟩)∧g≠w.heap.size∧g≠G1∧g≠R∧wx.heap[g]?=some (.cells #[.int .u64 (c:Int),.int .u64 (d:Int),.int .u64 (c':Int),.int .u64 (d':Int),.slice (some ⟨R,0,none⟩) (n+1) 128] 139)∧aJ wx R∧Fr R wr wx)
   case first=>
    go_region_with (first | (go_at_call 162;refine (HNX _ (by first|exact RW1.out|exact RW2.out)).mono ?_;rintro e w3 ⟨rfl,hR3,hF3⟩;first | (have hz3:=(hF3.block wr.heap.size (by simp [World.size_alloc]) (by omega)).trans (show (wr.alloc (.cells #[.int .u64 0,.int .u64 0,.int .u64 0,.int .u64 0,.slice none 0 0] 139)).drew.heap[wr.heap.size]?=_ from heap_alloc_new ..);obtain⟨hl0,hl1,hl2,hl3,hl4⟩:=aH hz3;have hlf:=cf hz3) | skip))
    all_goals (go_wp2_with fail;go_meet;first|exact kA (Below.refl _ _).drew hF3 hR3 hRlt hlt0 hlt1 _|exact kB ((Below.refl _ _).alloc (Nat.le_refl _) _).drew hF3 hR3 hRlt hlt0 hlt1 hz3)
   case rest=>
    obtain⟨g,rfl,hg1,hg2,hg3,hgc,hrm,hbx⟩:=hcut
    have S0:=aa ((hbx.block w.heap.size hlt0 (by omega)).trans R0.out)
    have S1:=aa ((hbx.block G1 hlt1 (fun e=>HRG.out e.symm)).trans R1.out)
    have SR:=aa hrm
    have SF:=aa (FR.out.trans hbx)
    obtain⟨k0,k1,k2,k3,k4⟩:=aH hgc
    obtain⟨m0,m1,m2,m3,m4⟩:=aH S1.out
    have mf:=cf S1.out
    obtain⟨z0,z1,z2,z3,z4⟩:=aH S0.out
    have zf:=cf S0.out
    clear hbx hgc hrm hr0 hr1 hr2 hr3 hr4 hq0 hq1 hq2 hq3 hq4 hqf hrf R0 R1 RM FR ha0 ha1 ha2 ha3 ha4 HNX RW1 RW2
    have MB:=oR c' d' wc (by have:=HX.out.1;omega) (by have:=HX.out.1;omega) (by omega)
    by_cases t1:c'+d'≤18446744073709551616
    ·rw [decide_eq_true t1] at MB
     have HNT:=aa (HNE.out t1)
     have HRP:=aa hy
     clear HNE HN1 HFI
     go_wp2_with fail
     refine MB.mono ?_
     rintro e wn ⟨rfl,hw⟩;rw [hw];clear hw wn MB
     go_wp2
     go_quiet (fail)
     go_wp2
     go_roundw
     case rel=>
      obtain⟨wd,hwd⟩:∃wd,wd=((((((wc.setCell ⟨G1,0,none⟩ (.int .u64 (c:Int))).setCell ⟨G1,1,none⟩ (.int .u64 (d:Int))).setCell ⟨G1,2,none⟩ (.int .u64 (c':Int))).setCell ⟨G1,3,none⟩ (.int .u64 (d':Int))).setCell ⟨G1,4,none⟩ (.slice (some ⟨R,0,none⟩) (n+1) 128))):=⟨_,rfl⟩
      have hwG:w.heap.size≤G1:=by have:=HG.out;omega
      have q1:wd.heap[w.heap.size]?=some (.cells #[.int .u64 0,.int .u64 0,.int .u64 0,.int .u64 0,.slice none 0 0] 139):=by rw [hwd];exact aN (aN (aN (aN (aN S0.out (by omega)) (by omega)) (by omega)) (by omega)) (by omega)
      have q2:wd.heap[G1]?=some (.cells #[.int .u64 (c:Int),.int .u64 (d:Int),.int .u64 (c':Int),.int .u64 (d':Int),.slice (some ⟨R,0,none⟩) (n+1) 128] 139):=by rw [hwd];exact cD S1.out
      have q3:aJ wd R:=by rw [hwd];exact ((((SR.out.set HRG.out).set HRG.out).set HRG.out).set HRG.out).set HRG.out
      have q4:Fr R w wd:=by rw [hwd];exact cE SF.out hwG
      rw [←hwd]
      have hdr:Below wd.heap.size wd (wd.drewN nq):=((aA.refl _).drewN _).below _
      exact⟨y,r,c,d,c',d',n+1,rfl,by rw [hmod],hyl,by omega,HRP.out,fun h=>by omega,HNT.out,q1,q2,q3.fr hdr,q4.trans (Fr.of_below hdr)⟩
     case measure=>simp [intOf];omega
    ·rw [decide_eq_false t1] at MB
     have HN0:Hid (0<yh→1≤n):=aa (fun _=>Nat.pos_of_ne_zero (fun h0=>t1 (HFI.out h0)))
     clear HNE HN1 HFI
     go_wp2_with fail
     refine MB.mono ?_
     rintro e wn ⟨rfl,hw⟩;rw [hw];clear hw wn MB
     go_wp2
     have R0:=S0
     have RM:=SR
     have FR:=SF
     have HE:=aa (And.intro HTOP.out (And.intro HXP.out (And.intro HLN.out HN0.out)))
     have R5:=cD R0.out (a':=.int .u64 a) (b':=.int .u64 b) (c':=.int .u64 c) (d':=.int .u64 d) (f':=.slice (some ⟨R,0,none⟩) n 128)
     have W5:=aa (And.intro ((((((RM.out.set HRB.out).set HRB.out).set HRB.out).set HRB.out).set HRB.out:aJ (((((wc.setCell ⟨w.heap.size,0,none⟩ (.int .u64 a)).setCell ⟨w.heap.size,1,none⟩ (.int .u64 b)).setCell ⟨w.heap.size,2,none⟩ (.int .u64 c)).setCell ⟨w.heap.size,3,none⟩ (.int .u64 d)).setCell ⟨w.heap.size,4,none⟩ (.slice (some ⟨R,0,none⟩) n 128)) R)) (cE (g:=w.heap.size) (u0:=.int .u64 a) (u1:=.int .u64 b) (u2:=.int .u64 c) (u3:=.int .u64 d) (u4:=.slice (some ⟨R,0,none⟩) n 128) FR.out (Nat.le_refl _)))
     generalize ((((wc.setCell ⟨w.heap.size,0,none⟩ (.int .u64 a)).setCell ⟨w.heap.size,1,none⟩ (.int .u64 b)).setCell ⟨w.heap.size,2,none⟩ (.int .u64 c)).setCell ⟨w.heap.size,3,none⟩ (.int .u64 d)).setCell ⟨w.heap.size,4,none⟩ (.slice (some ⟨R,0,none⟩) n 128)=w5 at *
     obtain⟨hk0,hk1,hk2,hk3,hk4⟩:=aH R5
     refine bodyPost_ret (v:=.tuple #[stw a b c d (some ⟨R,0,none⟩) n 128,.int .u64 (x:Int),.int .u64 (y:Int)]) (by simp [stw,results,Tryz.results123,go_sem,hk0,hk1,hk2,hk3,hk4]) rfl ?_
     exact⟨⟨a,b,c,d,n,x,y,rfl,HE.out⟩,W5.out.1,W5.out.2⟩



theorem iJ {Z:List Nat}(h:val Z<18446744073709551616)(h1:1≤Z.length):Z.getD 0 0=val Z:=by
 match Z with
 | []=>simp at h1
 | a :: r=>
  simp only [val] at h ⊢
  have:val r=0:=by omega
  rw [this]
  simp

theorem gK {n V A B L:Nat}{p q c:Int}(N:Nat)(hn:N=18446744073709551616 ^ n)(hL:L<N)(hV:V<N)(h:(L:Int)+N*c=p*A - q*B)(R:Nat)(hVe:(V:Int)=p*(A+N*R) - q*B):L=V:=by
 have e:(V:Int)=L+N*(c+p*R):=by
  have:p*((A:Int)+N*R) - q*B=p*A - q*B+N*(p*R):=by grind
  rw [hVe,this,←h];grind
 generalize c+p*R=z at e
 have hz:z=0:=by
  rcases Int.lt_trichotomy z 0 with h1|h1|h1
  ·have:=Int.mul_le_mul_of_nonneg_left (show z≤-1 by omega) (show (0:Int)≤(N:Int) by omega)
   omega
  ·exact h1
  ·have:=Int.mul_le_mul_of_nonneg_left (show 1≤z by omega) (show (0:Int)≤(N:Int) by omega)
   omega
 subst hz
 omega

theorem Ans.front {w:World}{base g cap:Nat}{zs:List Nat}(h:Ans w base (.slice (some ⟨g,0,none⟩) zs.length cap) zs)(n:Nat)(hn:n≤zs.length):Ans w base (.slice (some ⟨g,0,none⟩) n cap) (zs.take n):=by
 refine⟨?_,fun z hz=>h.limbs z (List.mem_of_mem_take hz)⟩
 obtain⟨_,h2⟩:=h.own
 have e:(zs.take n).length=n:=by simp;omega
 refine⟨by simp,?_⟩
 rcases h2 with ⟨h1,_⟩|⟨g',cap',cur,hv,hg,hh,hnn,hcm,hs,ht⟩
 ·cases h1
 ·cases hv
  refine .inr ⟨g,cap,cur,by rw [e],hg,hh,by rw [e];omega,hcm,hs,?_⟩
  rw [e]
  have e2:cur.toList.take (n*1)=(cur.toList.take (zs.length*1)).take n:=by
   rw [List.take_take,Nat.mul_one,Nat.mul_one,Nat.min_eq_left hn]
  rw [e2,ht,List.map_take]

def rdN (w:World):Value→Nat
 | .slice (some a) n _=>val ((List.range n).map fun k=>match w.cell? ⟨a.block,a.off+k,none⟩ with
  | some v=>(intOf v).toNat
  | none=>0)
 | _=>0

theorem eD {w:World}{v:Value}{zs:List Nat}(h:Arg w v zs):rdN w v=val zs:=by
 obtain⟨ao,cap,rfl,_,_,hl⟩:=h.form
 rcases hl with rfl|⟨b,off,rfl,hc⟩
 ·cases ao with
  | none=>rfl
  | some a=>rfl
 ·show val _=val zs
  congr 1
  apply List.ext_getElem
  ·simp
  ·intro i h1 h2
   simp only [List.getElem_map,List.getElem_range]
   rw [hc i h2]
   simp [intOf,List.getD,h2]

theorem Ans.kept {w w':World}{base:Nat}{v:Value}{zs:List Nat}(h:Ans w base v zs)(hk:∀k,v.ownBlock=some k→w'.heap[k]?=w.heap[k]?):Ans w' base v zs:=by
 refine⟨?_,h.limbs⟩
 obtain⟨h1,h2⟩:=h.own
 refine⟨h1,?_⟩
 rcases h2 with h2|⟨g',cap,cur,hv,hg',hh,r⟩
 ·exact .inl h2
 ·exact .inr ⟨g',cap,cur,hv,hg',by rw [hk g' (by rw [hv];rfl)];exact hh,r⟩

theorem aL.ltx {w:World}{g bF:Nat}{vx vy:Value}{fx fy:Nat}{o:Bool}(h:aL w g bF vx vy fx fy o):∀k,vx.ownBlock=some k→bF≤k∧k<w.heap.size:=by
 obtain⟨X,Y,h1,h2,_⟩:=h.at2
 exact h1.own.lt

theorem aL.lty {w:World}{g bF:Nat}{vx vy:Value}{fx fy:Nat}{o:Bool}(h:aL w g bF vx vy fx fy o):∀k,vy.ownBlock=some k→bF≤k∧k<w.heap.size:=by
 obtain⟨X,Y,h1,h2,_⟩:=h.at2
 exact h2.own.lt

theorem aL.kept {w w':World}{g bF:Nat}{vx vy:Value}{fx fy:Nat}{o:Bool}(h:aL w g bF vx vy fx fy o)(hg:w'.heap[g]?=w.heap[g]?)(hx:∀k,vx.ownBlock=some k→w'.heap[k]?=w.heap[k]?)(hy:∀k,vy.ownBlock=some k→w'.heap[k]?=w.heap[k]?):aL w' g bF vx vy fx fy o:=by
 obtain⟨X,Y,h1,h2,h3⟩:=h.at2
 exact⟨by rw [hg];exact h.box,h.gb,⟨X,Y,h1.kept hx,h2.kept hy,h3⟩,h.apart⟩

theorem aL.low {w:World}{g bF:Nat}{vx vy:Value}{fx fy:Nat}{o:Bool}(h:aL w g bF vx vy fx fy o){k:Nat}(hk:k<bF∧k≠g):Pk g vx vy k:=
 ⟨hk.2,fun e=>by have:=(h.ltx k e).1;omega,fun e=>by have:=(h.lty k e).1;omega⟩

theorem aL.high {w:World}{g bF:Nat}{vx vy:Value}{fx fy:Nat}{o:Bool}(h:aL w g bF vx vy fx fy o){k:Nat}(hk:w.heap.size≤k):Pk g vx vy k:=by
 have:=bC h.box
 exact⟨by omega,fun e=>by have:=(h.ltx k e).2;omega,fun e=>by have:=(h.lty k e).2;omega⟩

theorem Tab.kept {w w':World}(h:Tab w)(hs:w.heap.size≤w'.heap.size)(hk:w'.heap[(0:Nat)]?=w.heap[(0:Nat)]?):Tab w':=by
 refine⟨Nat.lt_of_lt_of_le h.1 hs,fun i hi=>?_⟩
 have e:=h.2 i hi
 simp only [World.cell?] at e ⊢
 rw [hk];exact e

theorem aJ.kept {R:Nat}{w w':World}(h:aJ w R)(hk:w'.heap[R]?=w.heap[R]?):aJ w' R:=by
 obtain⟨xs,h1,h2⟩:=h
 exact⟨xs,by unfold Blk at h1 ⊢;rw [hk];exact h1,h2⟩

structure aV (w wr:World)(g bF R:Nat)(vx vy:Value)(X Y:List Nat)(f0x f0y vfx vfy:Value)(fx fy:Nat)(o:Bool):Prop where
 ax:Ans wr w.heap.size vx X
 ay:Ans wr w.heap.size vy Y
 tx:tr X=X
 ty:tr Y=Y
 apart:∀k,vx.ownBlock=some k→vy.ownBlock≠some k
 fa:aL wr g bF vfx vfy fx fy o
 room:aJ wr R
 px:∀k,vx.ownBlock=some k→Pk g vfx vfy k∧k≠R
 py:∀k,vy.ownBlock=some k→Pk g vfx vfy k∧k≠R
 pR:Pk g vfx vfy R
 rw:w.heap.size≤R
 nx:Nx w.heap.size f0x f0y vfx
 ny:Nx w.heap.size f0x f0y vfy
 fr:FrP (Pk g f0x f0y) w wr
 tab:Tab wr
 tg:0<bF∧0≠g
 bw:bF≤w.heap.size∧g<w.heap.size

section
variable {w wr:World} {g bF R:Nat} {vx vy:Value} {X Y:List Nat} {f0x f0y vfx vfy:Value} {fx fy:Nat} {o:Bool}

theorem aV.size (h:aV w wr g bF R vx vy X Y f0x f0y vfx vfy fx fy o):w.heap.size≤wr.heap.size:=h.fr.size

theorem aV.gl (h:aV w wr g bF R vx vy X Y f0x f0y vfx vfy fx fy o):g<w.heap.size:=h.bw.2

theorem aV.keep (h:aV w wr g bF R vx vy X Y f0x f0y vfx vfy fx fy o){w':World}(hf:Fr R wr w')(hR:aJ w' R):aV w w' g bF R vx vy X Y f0x f0y vfx vfy fx fy o:=by
 have hgl:=h.gl
 have hs:=h.size
 have hrw:=h.rw
 have htg:=h.tg
 have hbw:=h.bw
 refine⟨h.ax.kept (fun k e=>hf.block k (h.ax.own.lt k e).2 (h.px k e).2),h.ay.kept (fun k e=>hf.block k (h.ay.own.lt k e).2 (h.py k e).2),h.tx,h.ty,h.apart,
  h.fa.kept (hf.block g (by omega) (by omega)) (fun k e=>hf.block k (h.fa.ltx k e).2 (fun e2=>h.pR.2.1 (by rw [←e2];exact e))) (fun k e=>hf.block k (h.fa.lty k e).2 (fun e2=>h.pR.2.2 (by rw [←e2];exact e))),hR,h.px,h.py,h.pR,h.rw,h.nx,h.ny,?_,h.tab.kept hf.size (hf.block _ (by omega) (by omega)),h.tg,h.bw⟩
 exact⟨hf.os.trans h.fr.os,hf.tape.trans h.fr.tape,hf.output.trans h.fr.output,Nat.le_trans h.fr.size hf.size,fun k h1 h2=>(hf.block k (by omega) (by omega)).trans (h.fr.block k h1 h2)⟩

theorem aV.below (h:aV w wr g bF R vx vy X Y f0x f0y vfx vfy fx fy o){w':World}(hb:Below wr.heap.size wr w'):aV w w' g bF R vx vy X Y f0x f0y vfx vfy fx fy o:=
 h.keep (Fr.of_below hb) (h.room.fr hb)

theorem aV.shift (h:aV w wr g bF R vx vy X Y f0x f0y vfx vfy fx fy o){w':World}(hb:Below wr.heap.size wr w'){v2:Value}{r2:List Nat}(hA:Ans w' wr.heap.size v2 r2)(ht:tr r2=r2):aV w w' g bF R vy v2 Y r2 f0x f0y vfx vfy fx fy o:=by
 have h2:=h.below hb
 have hs:=h.size
 have hRl:=h.room.lt
 refine⟨h2.ay,hA.base hs,h.ty,ht,fun k e e2=>?_,h2.fa,h2.room,h.py,fun k e=>⟨h.fa.high (hA.own.lt k e).1,fun e2=>by have:=(hA.own.lt k e).1;omega⟩,h.pR,h.rw,h.nx,h.ny,h2.fr,h2.tab,h.tg,h.bw⟩
 have:=(h.ay.own.lt k e).2
 have:=(hA.own.lt k e2).1
 omega

theorem aV.step (h:aV w wr g bF R vx vy X Y f0x f0y vfx vfy fx fy o){w':World}{vfx' vfy':Value}{fx' fy':Nat}{o':Bool}(hF:aL w' g bF vfx' vfy' fx' fy' o')(n1:Nx wr.heap.size vfx vfy vfx')(n2:Nx wr.heap.size vfx vfy vfy')(hf:FrP (Pk g vfx vfy) wr w'):aV w w' g bF R vx vy X Y f0x f0y vfx' vfy' fx' fy' o':=by
 have hgl:=h.gl
 have hs:=h.size
 have hrw:=h.rw
 have htg:=h.tg
 have hbw:=h.bw
 have hRl:=h.room.lt
 have off:∀k,Pk g vfx vfy k→k<wr.heap.size→Pk g vfx' vfy' k:=fun k hp hk=>⟨hp.1,fun e=>by
  rcases n1 k e with h1|h1|h1
  ·exact hp.2.1 h1
  ·exact hp.2.2 h1
  ·omega,fun e=>by
  rcases n2 k e with h1|h1|h1
  ·exact hp.2.1 h1
  ·exact hp.2.2 h1
  ·omega⟩
 have nn:∀v,Nx wr.heap.size vfx vfy v→Nx w.heap.size f0x f0y v:=fun v hn k e=>by
  rcases hn k e with h1|h1|h1
  ·exact h.nx k h1
  ·exact h.ny k h1
  ·exact .inr (.inr (by omega))
 refine⟨h.ax.kept (fun k e=>hf.block k (h.ax.own.lt k e).2 (h.px k e).1),h.ay.kept (fun k e=>hf.block k (h.ay.own.lt k e).2 (h.py k e).1),h.tx,h.ty,h.apart,hF,h.room.kept (hf.block R hRl h.pR),fun k e=>⟨off k (h.px k e).1 (h.ax.own.lt k e).2,(h.px k e).2⟩,fun k e=>⟨off k (h.py k e).1 (h.ay.own.lt k e).2,(h.py k e).2⟩,off R h.pR hRl,h.rw,nn _ n1,nn _ n2,?_,h.tab.kept hf.size (hf.block _ (by omega) (h.fa.low htg)),h.tg,h.bw⟩
 refine⟨hf.os.trans h.fr.os,hf.tape.trans h.fr.tape,hf.output.trans h.fr.output,Nat.le_trans h.fr.size hf.size,fun k h1 h2=>?_⟩
 rw [hf.block k (by omega) ?_,h.fr.block k h1 h2]
 refine⟨h2.1,fun e=>?_,fun e=>?_⟩
 ·rcases h.nx k e with h3|h3|h3
  ·exact h2.2.1 h3
  ·exact h2.2.2 h3
  ·omega
 ·rcases h.ny k e with h3|h3|h3
  ·exact h2.2.1 h3
  ·exact h2.2.2 h3
  ·omega

theorem aV.took {gx gy cx cy:Nat}(h:aV w wr g bF R (.slice (some ⟨gx,0,none⟩) X.length cx) (.slice (some ⟨gy,0,none⟩) Y.length cy) X Y f0x f0y vfx vfy fx fy o){w':World}{X' Y':List Nat}(hX:Ans w' w.heap.size (.slice (some ⟨gx,0,none⟩) X'.length cx) X')(hY:Ans w' w.heap.size (.slice (some ⟨gy,0,none⟩) Y'.length cy) Y')(hn:Y.length≤X'.length)(hf:FrP (fun k=>k≠gx∧k≠gy) wr w') :
  aV w w' g bF R (.slice (some ⟨gx,0,none⟩) (tr (X'.take Y.length)).length cx) (.slice (some ⟨gy,0,none⟩) (tr Y').length cy) (tr (X'.take Y.length)) (tr Y') f0x f0y vfx vfy fx fy o:=by
 have hgl:=h.gl
 have hs:=h.size
 have htg:=h.tg
 have hbw:=h.bw
 have hRl:=h.room.lt
 obtain⟨hpx,hxR⟩:=h.px gx rfl
 obtain⟨hpy,hyR⟩:=h.py gy rfl
 have lx:=(h.ax.own.lt gx rfl).1
 have ly:=(h.ay.own.lt gy rfl).1
 have kb:∀k,k<wr.heap.size→k≠gx→k≠gy→w'.heap[k]?=wr.heap[k]?:=fun k h1 h2 h3=>hf.block k h1 ⟨h2,h3⟩
 have hfr:=hX.front Y.length hn
 have l1:(X'.take Y.length).length=Y.length:=by simp;omega
 have hfr2:Ans w' w.heap.size (.slice (some ⟨gx,0,none⟩) (X'.take Y.length).length cx) (X'.take Y.length):=by rw [l1];exact hfr
 refine⟨hfr2.trim,hY.trim,tr_tr _,tr_tr _,fun k e=>h.apart k e,h.fa.kept (kb g (by omega) (by omega) (by omega)) (fun k e=>kb k (h.fa.ltx k e).2 (fun e2=>hpx.2.1 (by rw [←e2];exact e)) (fun e2=>hpy.2.1 (by rw [←e2];exact e))) (fun k e=>kb k (h.fa.lty k e).2 (fun e2=>hpx.2.2 (by rw [←e2];exact e)) (fun e2=>hpy.2.2 (by rw [←e2];exact e))),h.room.kept (kb R hRl (Ne.symm hxR) (Ne.symm hyR)),fun k e=>h.px k e,fun k e=>h.py k e,h.pR,h.rw,h.nx,h.ny,?_,h.tab.kept hf.size (kb _ (by omega) (by omega) (by omega)),h.tg,h.bw⟩
 exact⟨hf.os.trans h.fr.os,hf.tape.trans h.fr.tape,hf.output.trans h.fr.output,Nat.le_trans h.fr.size hf.size,fun k h1 h2=>(kb k (by omega) (by omega) (by omega)).trans (h.fr.block k h1 h2)⟩
end

theorem ga {m a x y fx fy:Nat}{o:Bool}(h:Fac m a x y fx fy o)(hm:0<m):0<fy:=by
 refine Nat.pos_of_ne_zero fun e=>?_
 have h1:=h.sum
 have h2:=h.le
 have h3:fx=0:=by omega
 rw [e,h3] at h1
 simp at h1
 omega

theorem gC {m a x y fx fy:Nat}{o:Bool}(h:Fac m a x y fx fy o)(hx:0<x):fy≤m:=by
 have h1:=h.sum
 have h2:fy≤x*fy:=Nat.le_mul_of_pos_left _ hx
 omega

theorem mH (g:Nat):∀w:World,(method 137 109 (.pointer (some ⟨g,0,none⟩)) "surd/whole.one").run Tryz.prog w=.ok (246,.pointer (some ⟨g,0,none⟩)) w:=fun _=>by kernel_rfl

theorem pp (g:Nat):∀w:World,(method 137 109 (.pointer (some ⟨g,0,none⟩)) "surd/whole.many").run Tryz.prog w=.ok (245,.pointer (some ⟨g,0,none⟩)) w:=fun _=>by kernel_rfl

theorem bO {X:List Nat}{n:Nat}(ht:tr X=X)(h:val X<18446744073709551616 ^ n):X.length≤n:=by
 have:=aQ X n h
 rwa [ht] at this

theorem fl {X:List Nat}(h:0<val X):1≤X.length:=by
 refine Nat.pos_of_ne_zero fun e=>?_
 rw [List.length_eq_zero_iff.1 e] at h
 simp [val] at h

theorem aL.lists {w:World}{g bF:Nat}{vx vy:Value}{fx fy:Nat}{o:Bool}(h:aL w g bF vx vy fx fy o)(K:Nat)(hle:fx≤fy)(hp:0<fy)(hK:fy<18446744073709551616 ^ K) :
  ∃X Y,Ans w bF vx X∧Ans w bF vy Y∧val X=fx∧val Y=fy∧tr Y=Y∧X.length≤Y.length∧1≤Y.length∧Y.length≤K:=by
 obtain⟨X,Y,h1,h2,h3,h4,h5,h6⟩:=h.at2
 refine⟨X,Y,h1,h2,h3,h4,h6,bO h5 ?_,fl (by omega),bO h6 (by rw [h4];exact hK)⟩
 have:=val_lt h2.limbs
 omega

theorem aL.many {w:World}{g bF:Nat}{vx vy:Value}{fx fy:Nat}{o:Bool}(h:aL w g bF vx vy fx fy o)(hbF:bF≤w.heap.size)(K:Nat)(hK0:K≤17592186044000)(hle:fx≤fy)(hp:0<fy)(hK:fy<18446744073709551616 ^ K)(a b c d R n:Nat)
  (ha:a<18446744073709551616) (hb:b<18446744073709551616) (hc:c<18446744073709551616) (hd:d<18446744073709551616) (hab0:0<a+b) (hab:a+b≤18446744073709551616) (hcd0:0<c+d) (hcd:c+d≤18446744073709551616) :
  Calls Tryz.prog 245 #[.pointer (some ⟨g,0,none⟩),stw a b c d (some ⟨R,0,none⟩) n 128] w (fV g bF vx vy (a*fx+b*fy) (c*fx+d*fy) (o != aU n) w):=by
 obtain⟨X,Y,h1,h2,h3,h4,h5,h6,h7,h8⟩:=h.lists K hle hp hK
 subst h3
 subst h4
 exact pE g bF vx vy X Y o a b c d R n w h hbF h1 h2 h6 h7 (by omega) ha hb hc hd hab0 hab hcd0 hcd

theorem kM {Q Y:List Nat}{K:Nat}(hQ:tr Q=Q)(hY:tr Y=Y)(h1:1≤Q.length)(h2:1≤Y.length)(h:val Q*val Y<18446744073709551616 ^ K):Q.length+Y.length≤K+1:=by
 obtain⟨p,hp⟩:∃p,Q.length=p+1:=⟨Q.length - 1,by omega⟩
 obtain⟨q,hq⟩:∃q,Y.length=q+1:=⟨Y.length - 1,by omega⟩
 have e1:=tr_val_ge Q p (by rw [hQ];exact hp)
 have e2:=tr_val_ge Y q (by rw [hY];exact hq)
 rw [hQ] at e1
 rw [hY] at e2
 have e3:(18446744073709551616:Nat) ^ (p+q)≤val Q*val Y:=by rw [Nat.pow_add];exact Nat.mul_le_mul e1 e2
 have e4:p+q<K:=by
  refine Nat.lt_of_not_le fun hge=>?_
  have:(18446744073709551616:Nat) ^ K≤18446744073709551616 ^ (p+q):=Nat.pow_le_pow_right (by omega) hge
  omega
 omega

theorem aL.one {w:World}{g bF:Nat}{vx vy:Value}{fx fy:Nat}{o:Bool}(h:aL w g bF vx vy fx fy o)(hbF:bF≤w.heap.size)(K:Nat)(hK0:K≤17592186043904)(hle:fx≤fy)(hp:0<fy){vq:Value}{Q:List Nat}(hQ:Arg w vq Q)(tQ:tr Q=Q)(hT:Tab w)(hq:0<val Q)(hqK:val Q*fy<18446744073709551616 ^ K) :
  Calls Tryz.prog 246 #[.pointer (some ⟨g,0,none⟩),vq] w (fV g bF vx vy fy (fx+val Q*fy) (!o) w):=by
 have hK:fy<18446744073709551616 ^ K:=Nat.lt_of_le_of_lt (Nat.le_mul_of_pos_left _ hq) hqK
 obtain⟨X,Y,h1,h2,h3,h4,h5,h6,h7,h8⟩:=h.lists K hle hp hK
 subst h3
 subst h4
 have hl:=kM tQ h5 (fl hq) h7 hqK
 have hgb:=bC h.box
 refine (jP g vx vy vq X Y Q o w h.box (h1.arg (by omega)) (h2.arg (by omega)) hQ hT (by omega) (by omega)).mono ?_
 rintro e w' ⟨rfl,v,rs,hb,hA,hv,ht,hf⟩
 have hA2:Ans w' bF vy Y:=h2.kept (fun k e=>hf.block k (h2.own.lt k e).2 (fun e2=>h.gb.2 (by rw [←e2];exact e)))
 refine⟨rfl,vy,v,⟨hb,⟨h.gb.2,fun e=>by have:=(hA.own.lt g e).1;omega⟩,⟨Y,rs,hA2,hA.base hbF,rfl,hv,h5,ht⟩,fun k e e2=>?_⟩,fun k e=>.inr (.inl e),fun k e=>.inr (.inr (hA.own.lt k e).1),⟨hf.os,hf.tape,hf.output,hf.size,fun k h1 h2=>hf.block k h1 h2.1⟩⟩
 have:=(h2.own.lt k e).2
 have:=(hA.own.lt k e2).1
 omega

theorem og {w w':World}{base gx cx gy cy:Nat}{X Y X' Y':List Nat}{a b c d:Nat}{o:Bool}{ov un:Int}(h:cn w w' base gx cx gy cy X Y X' Y' Y.length (sgL o a) (sgL o b) (sgL o d) (sgL o c) ov un)(hY:Limbs Y)(hxy:Y.length≤X.length){V W:Nat}(ht:LTake (val X) (val Y) V W)
  (k1:sgL o a*(val X:Int) - sgL o b*(val Y:Int)=(V:Int)) (k2:sgL o d*(val Y:Int) - sgL o c*(val X:Int)=(W:Int)):val (X'.take Y.length)=V∧val Y'=W:=by
 have hYl:=val_lt hY
 have hX'l:val (X'.take Y.length)<18446744073709551616 ^ Y.length:=Nat.lt_of_lt_of_le (val_lt (fun z hz=>h.ax.limbs z (List.mem_of_mem_take hz))) (Nat.pow_le_pow_right (by omega) (by simp;omega))
 have hY'l:val Y'<18446744073709551616 ^ Y.length:=by rw [←h.ly];exact val_lt h.ay.limbs
 have eXs:val X=val (X.take Y.length)+18446744073709551616 ^ Y.length*val (X.drop Y.length):=by
  conv=>lhs;rw [←List.take_append_drop Y.length X,val_append]
  rw [List.length_take,Nat.min_eq_left hxy]
 have vx:=h.vx
 have vy:=h.vy
 rw [List.take_of_length_le (Nat.le_of_eq h.ly),List.take_length] at vy
 rw [List.take_length] at vx
 obtain⟨N,hN⟩:∃N:Nat,N=18446744073709551616 ^ Y.length:=⟨_,rfl⟩
 have hNI:(18446744073709551616:Int) ^ Y.length=(N:Int):=by rw [hN,Int.natCast_pow];rfl
 rw [hNI] at vx vy
 rw [←hN] at hYl hX'l hY'l eXs
 have hVl:V<N:=Nat.lt_of_le_of_lt ht.le hYl
 have hWl:W<N:=Nat.lt_trans ht.lt hVl
 refine⟨?_,?_⟩
 ·refine gK N hN hX'l hVl vx (val (X.drop Y.length)) ?_
  rw [←k1,eXs,Int.natCast_add,Int.natCast_mul]
 ·have vy':(val Y':Int)+N*un=(-sgL o c)*(val (X.take Y.length):Int) - (-sgL o d)*(val Y:Int):=by rw [vy];grind
  refine gK N hN hY'l hWl vy' (val (X.drop Y.length)) ?_
  rw [←k2,eXs,Int.natCast_add,Int.natCast_mul];grind

theorem ow {o:Bool}{a b c d X Y V W:Nat}(h0:o=false→V+b*Y=a*X∧W+c*X=d*Y)(h1:o=true→V+a*X=b*Y∧W+d*Y=c*X) :
  sgL o a*(X:Int) - sgL o b*(Y:Int)=(V:Int)∧sgL o d*(Y:Int) - sgL o c*(X:Int)=(W:Int):=by
 cases o with
 | false=>
  obtain⟨f1,f2⟩:=h0 rfl
  have e1:((V+b*Y:Nat):Int)=((a*X:Nat):Int):=by rw [f1]
  have e2:((W+c*X:Nat):Int)=((d*Y:Nat):Int):=by rw [f2]
  rw [Int.natCast_add,Int.natCast_mul,Int.natCast_mul] at e1 e2
  simp only [sgL]
  omega
 | true=>
  obtain⟨f1,f2⟩:=h1 rfl
  have e1:((V+a*X:Nat):Int)=((b*Y:Nat):Int):=by rw [f1]
  have e2:((W+d*Y:Nat):Int)=((c*X:Nat):Int):=by rw [f2]
  rw [Int.natCast_add,Int.natCast_mul,Int.natCast_mul] at e1 e2
  simp only [sgL]
  rw [Int.neg_mul,Int.neg_mul,Int.neg_mul,Int.neg_mul]
  omega
end Go.Proofs.YtdbjbbdhlpfhjaaGreatDoor

