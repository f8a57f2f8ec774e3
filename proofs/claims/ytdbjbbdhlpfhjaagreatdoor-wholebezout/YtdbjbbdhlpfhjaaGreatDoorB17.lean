/- Package whole: Lehmer's steps: next, with its quotients in the room (mkNext). -/
import Derived.Test.YtdbjbbdhlpfhjaaGreatDoorB15
import Derived.Deep.RegionLaw
import Derived.Deep.RegionHeld3
import Derived.Deep.CutBlock
import Derived.Deep.DeepCutAuto
import Derived.Test.YtdbjbbdhlpfhjaaGreatDoorB16
import Derived.BigQuiet
import Derived.Deep.QuietTactic
import Derived.Test.YtdbjbbdhlpfhjaaGreatDoorB01
import Derived.Deep.RegionWith
import Derived.Test.YtdbjbbdhlpfhjaaGreatDoorB14
import Derived.Test.YtdbjbbdhlpfhjaaGreatDoorB13
set_option maxRecDepth 20000
set_option maxHeartbeats 16000000
namespace Go.Proofs.YtdbjbbdhlpfhjaaGreatDoor
open Go.RowKit
open Lm
attribute [local go_sem ↓] Go.wp_at_zero Go.wp_at_succ

theorem d5 {bz g o:Nat}{a w:World}{u:Value}(h:Fr bz a w)(hg:a.heap.size≤g):Fr bz a (w.setCell ⟨g,o,none⟩ u):=
 ⟨h.os,h.tape,h.output,by simpa using h.size,fun k h1 h2=>(Below.heap_setCell w _ u k (show k≠g by omega)).trans (h.block k h1 h2)⟩

theorem cD {bz g:Nat}{a w:World}{u0 u1 u2 u3 u4:Value}(h:Fr bz a w)(hg:a.heap.size≤g):Fr bz a (((((w.setCell ⟨g,0,none⟩ u0).setCell ⟨g,1,none⟩ u1).setCell ⟨g,2,none⟩ u2).setCell ⟨g,3,none⟩ u3).setCell ⟨g,4,none⟩ u4):=
 d5 (d5 (d5 (d5 (d5 h hg) hg) hg) hg) hg

theorem dZ {W0 W:World}(h:Below W0.heap.size W0 W):Below W0.heap.size W0 W.drew:=h.drew

theorem jS {W0 W:World}(h:Below W0.heap.size W0 W)(o:Obj):Below W0.heap.size W0 (W.alloc o):=h.alloc h.size _

def aD (w:World)(R:Nat):Prop:=∃xs:List Nat,Blk w R xs∧xs.length=128

theorem g9 (a b c d q R n:Nat)(w:World)(h1:a+q*c<18446744073709551616)(h2:b+q*d<18446744073709551616)(hR:aD w R)(hn:n<128) :
  Calls Tryz.prog 162 #[stw a b c d (some ⟨R,0,none⟩) n 128,.int .u64 q] w fun e w'=>e=.returned (stw c d (a+q*c) (b+q*d) (some ⟨R,0,none⟩) (n+1) 128)∧aD w' R∧Fr R w w':=by
 unfold stw
 obtain⟨xs,hB,hl⟩:=hR
 obtain⟨w0,hw0,hb0,h0,hx0⟩:=ct w (.cells #[.int .u64 a,.int .u64 b,.int .u64 c,.int .u64 d,.slice (some ⟨R,0,none⟩) n 128] 139) (.cells #[.int .u64 0,.int .u64 0,.int .u64 0,.int .u64 0,.slice none 0 0] 139)
 obtain⟨c0,c1,c2,c3,c4⟩:=aw h0
 have hB0:=hB.below' hb0
 have hRlt:=hB.lt
 obtain⟨i0,hi,hza,hzb,hzc⟩:=info_parts Tryz.infoU
 obtain⟨p,hp,ep⟩:∃p:Nat,q*c=p∧(q:Int)*(c:Int)=(p:Int):=⟨q*c,rfl,by rw [Int.natCast_mul]⟩
 obtain⟨r,hr,er⟩:∃r:Nat,q*d=r∧(q:Int)*(d:Int)=(r:Int):=⟨q*d,rfl,by rw [Int.natCast_mul]⟩
 rw [hp] at h1 ⊢
 rw [hr] at h2 ⊢
 have wp:IntKind.u64.wrap (p:Int)=(p:Int):=by rw [IntKind.wrap_u64];omega
 have wr:IntKind.u64.wrap (r:Int)=(r:Int):=by rw [IntKind.wrap_u64];omega
 obtain⟨ap',hap⟩:∃x,a+p=x:=⟨_,rfl⟩
 obtain⟨ar',har⟩:∃x,b+r=x:=⟨_,rfl⟩
 rw [hap] at h1 ⊢
 rw [har] at h2 ⊢
 have ap:(a:Int)+(p:Int)=(ap':Int):=by omega
 have ar:(b:Int)+(r:Int)=(ar':Int):=by omega
 have wp2:IntKind.u64.wrap (ap':Int)=(ap':Int):=by rw [IntKind.wrap_u64];omega
 have wr2:IntKind.u64.wrap (ar':Int)=(ar':Int):=by rw [IntKind.wrap_u64];omega
 have hRn:R≠w.heap.size+1:=by omega
 obtain⟨W,hW⟩:∃W,(w0.alloc (.cells #[.int .u64 (q:Int)] 61)).drew=W:=⟨_,rfl⟩
 have gW:Below w0.heap.size w0 W:=by rw [←hW];exact ((Below.refl _ _).alloc (Nat.le_refl _) _).drew
 have hBW:=hB0.below' gW
 have hnews:∀j u,([Value.int .u64 (q:Int)]:List Value)[j]?=some u→W.cell? ((⟨w0.heap.size,0,none⟩:Addr).add j)=some u:=by
  intro j u hj
  cases j with
  | zero=>
   simp at hj
   subst hj
   have hh:W.heap[w0.heap.size]?=some (.cells #[.int .u64 (q:Int)] 61):=by rw [←hW];exact heap_alloc_new w0 _
   simp [Addr.add,World.cell?,hh]
  | succ j=>simp at hj
 have h1c:∀u ∈ ([Value.int .u64 (q:Int)]:List Value),u.oneCell'=true:=by intro u hu;simp at hu;subst hu;rfl
 have hspare:∀j,j<([Value.int .u64 (q:Int)]:List Value).length→(W.cell? ⟨R,0+n*1+j,none⟩).isSome=true∧W.frozen? ⟨R,0+n*1+j,none⟩=false:=by
  intro j hj
  have ej:j=0:=by simp at hj;omega
  subst ej
  have hcl:=hBW.cell n (by omega)
  have hfr:=hBW.free n
  have en:0+n*1+0=n:=by omega
  rw [en]
  exact⟨by rw [hcl];rfl,hfr⟩
 obtain⟨W2,hW2⟩:∃W2,W.setCells R (0+n*1) [Value.int .u64 (q:Int)]=W2:=⟨_,rfl⟩
 have hW2':W2=W.setCell ⟨R,n,none⟩ (.int .u64 (q:Int)):=by rw [←hW2];simp [World.setCells]
 have hB2:Blk W2 R (xs.set n q):=by rw [hW2'];exact hBW.set n q
 have hx2:W2.heap[w.heap.size+1]?=some (.cells #[.int .u64 0,.int .u64 0,.int .u64 0,.int .u64 0,.slice none 0 0] 139):=by rw [hW2'];exact aC (ac gW hx0) (Ne.symm hRn)
 have hF2:Fr R w W2:=by rw [hW2'];exact (Fr.of_below (hb0.trans (gW.mono hb0.size))).setCell n _
 obtain⟨e0,e1,e2,e3,e4⟩:=aw hx2
 have ef:=bh hx2
 obtain⟨g0,g1,g2,g3,g4⟩:=aw (ac gW h0)
 rw [←hW] at g0 g1 g2 g3 g4
 have hRn0:R≠w.heap.size:=by omega
 have hy2:W2.heap[w.heap.size]?=some (.cells #[.int .u64 a,.int .u64 b,.int .u64 c,.int .u64 d,.slice (some ⟨R,0,none⟩) n 128] 139):=by rw [hW2'];exact aC (ac gW h0) (Ne.symm hRn0)
 obtain⟨k0,k1,k2,k3,k4⟩:=aw hy2
 have KS:=aa (fun (W9:World) (hg:Below w0.heap.size w0 W9)=>show W9.cell? ⟨w.heap.size,0,none⟩=some (.int .u64 a)∧W9.cell? ⟨w.heap.size,1,none⟩=some (.int .u64 b)∧W9.cell? ⟨w.heap.size,2,none⟩=some (.int .u64 c)∧W9.cell? ⟨w.heap.size,3,none⟩=some (.int .u64 d)∧W9.cell? ⟨w.heap.size,4,none⟩=some (.slice (some ⟨R,0,none⟩) n 128) from aw (ac hg h0))
 have KS2:=aa (show W2.cell? ⟨w.heap.size,0,none⟩=some (.int .u64 a)∧W2.cell? ⟨w.heap.size,1,none⟩=some (.int .u64 b)∧W2.cell? ⟨w.heap.size,2,none⟩=some (.int .u64 c)∧W2.cell? ⟨w.heap.size,3,none⟩=some (.int .u64 d)∧W2.cell? ⟨w.heap.size,4,none⟩=some (.slice (some ⟨R,0,none⟩) n 128) from aw hy2)
 have KS3:=aa (show (((((W2.setCell ⟨w.heap.size+1,0,none⟩ (.int .u64 c)).setCell ⟨w.heap.size+1,1,none⟩ (.int .u64 d)).setCell ⟨w.heap.size+1,2,none⟩ (.int .u64 (ap':Int))).setCell ⟨w.heap.size+1,3,none⟩ (.int .u64 (ar':Int))).setCell ⟨w.heap.size+1,4,none⟩ (.slice (some ⟨R,0,none⟩) (n+1) 128)).cell? ⟨w.heap.size,0,none⟩=some (.int .u64 a)∧(((((W2.setCell ⟨w.heap.size+1,0,none⟩ (.int .u64 c)).setCell ⟨w.heap.size+1,1,none⟩ (.int .u64 d)).setCell ⟨w.heap.size+1,2,none⟩ (.int .u64 (ap':Int))).setCell ⟨w.heap.size+1,3,none⟩ (.int .u64 (ar':Int))).setCell ⟨w.heap.size+1,4,none⟩ (.slice (some ⟨R,0,none⟩) (n+1) 128)).cell? ⟨w.heap.size,1,none⟩=some (.int .u64 b)∧(((((W2.setCell ⟨w.heap.size+1,0,none⟩ (.int .u64 c)).setCell ⟨w.heap.size+1,1,none⟩ (.int .u64 d)).setCell ⟨w.heap.size+1,2,none⟩ (.int .u64 (ap':Int))).setCell ⟨w.heap.size+1,3,none⟩ (.int .u64 (ar':Int))).setCell ⟨w.heap.size+1,4,none⟩ (.slice (some ⟨R,0,none⟩) (n+1) 128)).cell? ⟨w.heap.size,2,none⟩=some (.int .u64 c)∧(((((W2.setCell ⟨w.heap.size+1,0,none⟩ (.int .u64 c)).setCell ⟨w.heap.size+1,1,none⟩ (.int .u64 d)).setCell ⟨w.heap.size+1,2,none⟩ (.int .u64 (ap':Int))).setCell ⟨w.heap.size+1,3,none⟩ (.int .u64 (ar':Int))).setCell ⟨w.heap.size+1,4,none⟩ (.slice (some ⟨R,0,none⟩) (n+1) 128)).cell? ⟨w.heap.size,3,none⟩=some (.int .u64 d)∧(((((W2.setCell ⟨w.heap.size+1,0,none⟩ (.int .u64 c)).setCell ⟨w.heap.size+1,1,none⟩ (.int .u64 d)).setCell ⟨w.heap.size+1,2,none⟩ (.int .u64 (ap':Int))).setCell ⟨w.heap.size+1,3,none⟩ (.int .u64 (ar':Int))).setCell ⟨w.heap.size+1,4,none⟩ (.slice (some ⟨R,0,none⟩) (n+1) 128)).cell? ⟨w.heap.size,4,none⟩=some (.slice (some ⟨R,0,none⟩) n 128) from aw (aC (aC (aC (aC (aC hy2 (by omega)) (by omega)) (by omega)) (by omega)) (by omega)))
 have HB3:Hid (Blk (((((W2.setCell ⟨w.heap.size+1,0,none⟩ (.int .u64 c)).setCell ⟨w.heap.size+1,1,none⟩ (.int .u64 d)).setCell ⟨w.heap.size+1,2,none⟩ (.int .u64 (ap':Int))).setCell ⟨w.heap.size+1,3,none⟩ (.int .u64 (ar':Int))).setCell ⟨w.heap.size+1,4,none⟩ (.slice (some ⟨R,0,none⟩) (n+1) 128)) R (xs.set n q)):=aa (aC (aC (aC (aC (aC hB2 hRn) hRn) hRn) hRn) hRn)
 have HX3:=aa (bE (a':=.int .u64 c) (b':=.int .u64 d) (c':=.int .u64 (ap':Int)) (d':=.int .u64 (ar':Int)) (f':=.slice (some ⟨R,0,none⟩) (n+1) 128) hx2)
 have HGW:=aa gW
 have HN:=aa hnews
 have HC1:=aa h1c
 have HSP:=aa hspare
 have HB2:=aa hB2
 have HF2:=aa hF2
 have HX2:=aa hx2
 have HW:=aa hW
 have HW2:=aa hW2
 have HB:=aa hB
 have HB0:=aa hb0
 have HW0:=aa hw0
 clear hp hr hap har hb0 hw0 hB hnews h1c hspare hB2 hF2 hx2 hW hW2 hW2' hx0 hBW hB0 gW hy2 h0
 go_enter Tryz.func162,Tryz.ntmps162
 go_upto_region 1 with fail
 rw [HW0.out]
 refine wp_region_held_drew (S:=fun w'=>w'.cell? ⟨w.heap.size,0,none⟩=some (.int .u64 a)∧w'.cell? ⟨w.heap.size,1,none⟩=some (.int .u64 b)∧w'.cell? ⟨w.heap.size,2,none⟩=some (.int .u64 c)∧w'.cell? ⟨w.heap.size,3,none⟩=some (.int .u64 d)∧w'.cell? ⟨w.heap.size,4,none⟩=some (.slice (some ⟨R,0,none⟩) n 128)) (by kernel_rfl) (KS.out _ (dZ (Below.refl _ _))) (fun hHeld0=>?_)
 refine wpAnyH_take (i:=0) (oi:={ dst:=some 5,op:=Op.fieldAddr 139 (Operand.tmp 2) 2,type:=0,pos:="steps.go:34",after:=#[],guard:=none }) (v:=.pointer (some ⟨w.heap.size,2,none⟩)) rfl (by kernel_rfl) (by kernel_rfl) (by kernel_rfl) (fun _ _ _ h=>h) (Or.inl ⟨by rfl,fun w9 hSw=>?_⟩) hHeld0 ?_
 ·(try dsimp only at hSw);go_simp
 try simp only [Act.put,List.setIfInBounds_toArray,List.set_cons_zero,List.set_cons_succ]
 refine wpAnyH_take (i:=1) (oi:={ dst:=some 6,op:=Op.load 61 (Operand.tmp 5),type:=61,pos:="steps.go:34",after:=#[{ on:=0,ground:=Ground.data }],guard:=none }) (v:=.int .u64 (c:Int)) rfl (by kernel_rfl) (by kernel_rfl) (by kernel_rfl) (fun _ _ _ h=>h) (Or.inl ⟨by rfl,fun w9 hSw=>?_⟩) hHeld0 ?_
 ·(try dsimp only at hSw);go_simp
 try simp only [Act.put,List.setIfInBounds_toArray,List.set_cons_zero,List.set_cons_succ]
 refine wpAnyH_take (i:=2) (oi:={ dst:=some 7,op:=Op.fieldAddr 139 (Operand.tmp 2) 3,type:=0,pos:="steps.go:34",after:=#[],guard:=none }) (v:=.pointer (some ⟨w.heap.size,3,none⟩)) rfl (by kernel_rfl) (by kernel_rfl) (by kernel_rfl) (fun _ _ _ h=>h) (Or.inl ⟨by rfl,fun w9 hSw=>?_⟩) hHeld0 ?_
 ·(try dsimp only at hSw);go_simp
 try simp only [Act.put,List.setIfInBounds_toArray,List.set_cons_zero,List.set_cons_succ]
 refine wpAnyH_take (i:=3) (oi:={ dst:=some 8,op:=Op.load 61 (Operand.tmp 7),type:=61,pos:="steps.go:34",after:=#[{ on:=2,ground:=Ground.data }],guard:=none }) (v:=.int .u64 (d:Int)) rfl (by kernel_rfl) (by kernel_rfl) (by kernel_rfl) (fun _ _ _ h=>h) (Or.inl ⟨by rfl,fun w9 hSw=>?_⟩) hHeld0 ?_
 ·(try dsimp only at hSw);go_simp
 try simp only [Act.put,List.setIfInBounds_toArray,List.set_cons_zero,List.set_cons_succ]
 refine wpAnyH_take (i:=4) (oi:={ dst:=some 9,op:=Op.fieldAddr 139 (Operand.tmp 2) 0,type:=0,pos:="steps.go:34",after:=#[],guard:=none }) (v:=.pointer (some ⟨w.heap.size,0,none⟩)) rfl (by kernel_rfl) (by kernel_rfl) (by kernel_rfl) (fun _ _ _ h=>h) (Or.inl ⟨by rfl,fun w9 hSw=>?_⟩) hHeld0 ?_
 ·(try dsimp only at hSw);go_simp
 try simp only [Act.put,List.setIfInBounds_toArray,List.set_cons_zero,List.set_cons_succ]
 refine wpAnyH_take (i:=5) (oi:={ dst:=some 10,op:=Op.load 61 (Operand.tmp 9),type:=61,pos:="steps.go:34",after:=#[{ on:=4,ground:=Ground.data }],guard:=none }) (v:=.int .u64 (a:Int)) rfl (by kernel_rfl) (by kernel_rfl) (by kernel_rfl) (fun _ _ _ h=>h) (Or.inl ⟨by rfl,fun w9 hSw=>?_⟩) hHeld0 ?_
 ·(try dsimp only at hSw);go_simp
 try simp only [Act.put,List.setIfInBounds_toArray,List.set_cons_zero,List.set_cons_succ]
 refine wpAnyH_take (i:=6) (oi:={ dst:=some 11,op:=Op.move (Operand.tmp 1),type:=61,pos:="steps.go:34",after:=#[],guard:=none }) (v:=.int .u64 (q:Int)) rfl (by kernel_rfl) (by kernel_rfl) (by kernel_rfl) (fun _ _ _ h=>h) (Or.inl ⟨by rfl,fun w9 hSw=>?_⟩) hHeld0 ?_
 ·(try dsimp only at hSw);go_simp
 try simp only [Act.put,List.setIfInBounds_toArray,List.set_cons_zero,List.set_cons_succ]
 refine wpAnyH_take (i:=7) (oi:={ dst:=some 12,op:=Op.fieldAddr 139 (Operand.tmp 2) 2,type:=0,pos:="steps.go:34",after:=#[],guard:=none }) (v:=.pointer (some ⟨w.heap.size,2,none⟩)) rfl (by kernel_rfl) (by kernel_rfl) (by kernel_rfl) (fun _ _ _ h=>h) (Or.inl ⟨by rfl,fun w9 hSw=>?_⟩) hHeld0 ?_
 ·(try dsimp only at hSw);go_simp
 try simp only [Act.put,List.setIfInBounds_toArray,List.set_cons_zero,List.set_cons_succ]
 refine wpAnyH_take (i:=8) (oi:={ dst:=some 13,op:=Op.load 61 (Operand.tmp 12),type:=61,pos:="steps.go:34",after:=#[{ on:=7,ground:=Ground.data }],guard:=none }) (v:=.int .u64 (c:Int)) rfl (by kernel_rfl) (by kernel_rfl) (by kernel_rfl) (fun _ _ _ h=>h) (Or.inl ⟨by rfl,fun w9 hSw=>?_⟩) hHeld0 ?_
 ·(try dsimp only at hSw);go_simp
 try simp only [Act.put,List.setIfInBounds_toArray,List.set_cons_zero,List.set_cons_succ]
 refine wpAnyH_take (i:=9) (oi:={ dst:=some 14,op:=Op.binOp BinOp.mul 61 (Operand.tmp 11) (Operand.tmp 13) 61,type:=61,pos:="steps.go:34",after:=#[{ on:=6,ground:=Ground.data },{ on:=8,ground:=Ground.data }],guard:=none }) (v:=.int .u64 (p:Int)) rfl (by kernel_rfl) (by kernel_rfl) (by kernel_rfl) (fun _ _ _ h=>h) (Or.inl ⟨by rfl,fun w9 hSw=>?_⟩) hHeld0 ?_
 ·(try dsimp only at hSw);go_simp
 try simp only [Act.put,List.setIfInBounds_toArray,List.set_cons_zero,List.set_cons_succ]
 refine wpAnyH_take (i:=10) (oi:={ dst:=some 15,op:=Op.binOp BinOp.add 61 (Operand.tmp 10) (Operand.tmp 14) 61,type:=61,pos:="steps.go:34",after:=#[{ on:=5,ground:=Ground.data },{ on:=9,ground:=Ground.data }],guard:=none }) (v:=.int .u64 (ap':Int)) rfl (by kernel_rfl) (by kernel_rfl) (by kernel_rfl) (fun _ _ _ h=>h) (Or.inl ⟨by rfl,fun w9 hSw=>?_⟩) hHeld0 ?_
 ·(try dsimp only at hSw);go_simp
 try simp only [Act.put,List.setIfInBounds_toArray,List.set_cons_zero,List.set_cons_succ]
 refine wpAnyH_take (i:=11) (oi:={ dst:=some 16,op:=Op.fieldAddr 139 (Operand.tmp 2) 1,type:=0,pos:="steps.go:34",after:=#[],guard:=none }) (v:=.pointer (some ⟨w.heap.size,1,none⟩)) rfl (by kernel_rfl) (by kernel_rfl) (by kernel_rfl) (fun _ _ _ h=>h) (Or.inl ⟨by rfl,fun w9 hSw=>?_⟩) hHeld0 ?_
 ·(try dsimp only at hSw);go_simp
 try simp only [Act.put,List.setIfInBounds_toArray,List.set_cons_zero,List.set_cons_succ]
 refine wpAnyH_take (i:=12) (oi:={ dst:=some 17,op:=Op.load 61 (Operand.tmp 16),type:=61,pos:="steps.go:34",after:=#[{ on:=11,ground:=Ground.data }],guard:=none }) (v:=.int .u64 (b:Int)) rfl (by kernel_rfl) (by kernel_rfl) (by kernel_rfl) (fun _ _ _ h=>h) (Or.inl ⟨by rfl,fun w9 hSw=>?_⟩) hHeld0 ?_
 ·(try dsimp only at hSw);go_simp
 try simp only [Act.put,List.setIfInBounds_toArray,List.set_cons_zero,List.set_cons_succ]
 refine wpAnyH_take (i:=13) (oi:={ dst:=some 18,op:=Op.move (Operand.tmp 1),type:=61,pos:="steps.go:34",after:=#[],guard:=none }) (v:=.int .u64 (q:Int)) rfl (by kernel_rfl) (by kernel_rfl) (by kernel_rfl) (fun _ _ _ h=>h) (Or.inl ⟨by rfl,fun w9 hSw=>?_⟩) hHeld0 ?_
 ·(try dsimp only at hSw);go_simp
 try simp only [Act.put,List.setIfInBounds_toArray,List.set_cons_zero,List.set_cons_succ]
 refine wpAnyH_take (i:=14) (oi:={ dst:=some 19,op:=Op.fieldAddr 139 (Operand.tmp 2) 3,type:=0,pos:="steps.go:34",after:=#[],guard:=none }) (v:=.pointer (some ⟨w.heap.size,3,none⟩)) rfl (by kernel_rfl) (by kernel_rfl) (by kernel_rfl) (fun _ _ _ h=>h) (Or.inl ⟨by rfl,fun w9 hSw=>?_⟩) hHeld0 ?_
 ·(try dsimp only at hSw);go_simp
 try simp only [Act.put,List.setIfInBounds_toArray,List.set_cons_zero,List.set_cons_succ]
 refine wpAnyH_take (i:=15) (oi:={ dst:=some 20,op:=Op.load 61 (Operand.tmp 19),type:=61,pos:="steps.go:34",after:=#[{ on:=14,ground:=Ground.data }],guard:=none }) (v:=.int .u64 (d:Int)) rfl (by kernel_rfl) (by kernel_rfl) (by kernel_rfl) (fun _ _ _ h=>h) (Or.inl ⟨by rfl,fun w9 hSw=>?_⟩) hHeld0 ?_
 ·(try dsimp only at hSw);go_simp
 try simp only [Act.put,List.setIfInBounds_toArray,List.set_cons_zero,List.set_cons_succ]
 refine wpAnyH_take (i:=16) (oi:={ dst:=some 21,op:=Op.binOp BinOp.mul 61 (Operand.tmp 18) (Operand.tmp 20) 61,type:=61,pos:="steps.go:34",after:=#[{ on:=13,ground:=Ground.data },{ on:=15,ground:=Ground.data }],guard:=none }) (v:=.int .u64 (r:Int)) rfl (by kernel_rfl) (by kernel_rfl) (by kernel_rfl) (fun _ _ _ h=>h) (Or.inl ⟨by rfl,fun w9 hSw=>?_⟩) hHeld0 ?_
 ·(try dsimp only at hSw);go_simp
 try simp only [Act.put,List.setIfInBounds_toArray,List.set_cons_zero,List.set_cons_succ]
 refine wpAnyH_take (i:=17) (oi:={ dst:=some 22,op:=Op.binOp BinOp.add 61 (Operand.tmp 17) (Operand.tmp 21) 61,type:=61,pos:="steps.go:34",after:=#[{ on:=12,ground:=Ground.data },{ on:=16,ground:=Ground.data }],guard:=none }) (v:=.int .u64 (ar':Int)) rfl (by kernel_rfl) (by kernel_rfl) (by kernel_rfl) (fun _ _ _ h=>h) (Or.inl ⟨by rfl,fun w9 hSw=>?_⟩) hHeld0 ?_
 ·(try dsimp only at hSw);go_simp
 try simp only [Act.put,List.setIfInBounds_toArray,List.set_cons_zero,List.set_cons_succ]
 refine wpAnyH_take (i:=18) (oi:={ dst:=some 23,op:=Op.fieldAddr 139 (Operand.tmp 2) 4,type:=0,pos:="steps.go:34",after:=#[],guard:=none }) (v:=.pointer (some ⟨w.heap.size,4,none⟩)) rfl (by kernel_rfl) (by kernel_rfl) (by kernel_rfl) (fun _ _ _ h=>h) (Or.inl ⟨by rfl,fun w9 hSw=>?_⟩) hHeld0 ?_
 ·(try dsimp only at hSw);go_simp
 try simp only [Act.put,List.setIfInBounds_toArray,List.set_cons_zero,List.set_cons_succ]
 refine wpAnyH_take (i:=19) (oi:={ dst:=some 24,op:=Op.load 22 (Operand.tmp 23),type:=22,pos:="steps.go:34",after:=#[{ on:=18,ground:=Ground.data }],guard:=none }) (v:=.slice (some ⟨R,0,none⟩) n 128) rfl (by kernel_rfl) (by kernel_rfl) (by kernel_rfl) (fun _ _ _ h=>h) (Or.inl ⟨by rfl,fun w9 hSw=>?_⟩) hHeld0 ?_
 ·(try dsimp only at hSw);go_simp
 try simp only [Act.put,List.setIfInBounds_toArray,List.set_cons_zero,List.set_cons_succ]
 refine wpAnyH_take (i:=20) (oi:={ dst:=some 25,op:=Op.move (Operand.tmp 1),type:=61,pos:="steps.go:34",after:=#[],guard:=none }) (v:=.int .u64 (q:Int)) rfl (by kernel_rfl) (by kernel_rfl) (by kernel_rfl) (fun _ _ _ h=>h) (Or.inl ⟨by rfl,fun w9 hSw=>?_⟩) hHeld0 ?_
 ·(try dsimp only at hSw);go_simp
 try simp only [Act.put,List.setIfInBounds_toArray,List.set_cons_zero,List.set_cons_succ]
 refine wpAnyH_ready (rs:=[21]) (by kernel_rfl) (by simp) ?_
 refine AllReadyH.cons rfl (fun K hK=>?_) AllReadyH.nil
 go_simp
 rw [HW.out]
 refine hK.out _ _ (KS.out _ HGW.out) (fun hHeld1=>?_)
 clear hK K
 try simp only [Act.put,List.setIfInBounds_toArray,List.set_cons_zero,List.set_cons_succ]
 refine wpAnyH_ready (rs:=[22]) (by kernel_rfl) (by simp) ?_
 refine AllReadyH.cons rfl (fun K hK=>?_) AllReadyH.nil
 refine step_append_room rfl (.tmp 24) (.tmp 26) 22 rfl 61 i0 1 Tryz.underlying22 hi hzb R 0 n 128 rfl ⟨w0.heap.size,0,none⟩ 1 1 [.int .u64 (q:Int)] rfl rfl HN.out HC1.out (by omega) HSP.out ?_
 rw [HW2.out]
 refine hK.out _ _ KS2.out (fun hHeld2=>?_)
 clear hK K
 try simp only [Act.put,List.setIfInBounds_toArray]
 refine wpAnyH_take (i:=23) (oi:={ dst:=some 28,op:=Op.build 139 #[(0,Operand.tmp 6),(1,Operand.tmp 8),(2,Operand.tmp 15),(3,Operand.tmp 22),(4,Operand.tmp 27)],type:=139,pos:="steps.go:34",after:=#[{ on:=1,ground:=Ground.data },{ on:=3,ground:=Ground.data },{ on:=10,ground:=Ground.data },{ on:=17,ground:=Ground.data },{ on:=22,ground:=Ground.data }],guard:=none }) (v:=.agg #[.int .u64 c,.int .u64 d,.int .u64 (ap':Int),.int .u64 (ar':Int),.slice (some ⟨R,0,none⟩) (n+1) 128]) rfl (by kernel_rfl) (by kernel_rfl) (by kernel_rfl) (fun _ _ _ h=>h) (Or.inl ⟨by rfl,fun w9 hSw=>?_⟩) hHeld2 ?_
 ·(try dsimp only at hSw);go_simp
 try simp only [Act.put]
 refine wpAnyH_ready (rs:=[24]) (by kernel_rfl) (by simp) ?_
 refine AllReadyH.cons rfl (fun K hK=>?_) AllReadyH.nil
 go_simp
 refine hK.out _ _ KS3.out (fun hHeld3=>?_)
 clear hK K
 try simp only [Act.put,List.setIfInBounds_toArray,List.set_cons_zero,List.set_cons_succ]
 refine wpAnyH_done (by kernel_rfl) ?_ _
 clear hHeld0 hHeld1 hHeld2 hHeld3
 clear KS KS2 KS3 HN HC1 HSP g0 g1 g2 g3 g4 k0 k1 k2 k3 k4 e0 e1 e2 e3 e4 ef c0 c1 c2 c3 c4
 have HR:=aa (show aD (((((W2.setCell ⟨w.heap.size+1,0,none⟩ (.int .u64 c)).setCell ⟨w.heap.size+1,1,none⟩ (.int .u64 d)).setCell ⟨w.heap.size+1,2,none⟩ (.int .u64 (ap':Int))).setCell ⟨w.heap.size+1,3,none⟩ (.int .u64 (ar':Int))).setCell ⟨w.heap.size+1,4,none⟩ (.slice (some ⟨R,0,none⟩) (n+1) 128)) R from ⟨_,HB3.out,by rw [List.length_set];exact hl⟩)
 have HF3:=aa (show Fr R w (((((W2.setCell ⟨w.heap.size+1,0,none⟩ (.int .u64 c)).setCell ⟨w.heap.size+1,1,none⟩ (.int .u64 d)).setCell ⟨w.heap.size+1,2,none⟩ (.int .u64 (ap':Int))).setCell ⟨w.heap.size+1,3,none⟩ (.int .u64 (ar':Int))).setCell ⟨w.heap.size+1,4,none⟩ (.slice (some ⟨R,0,none⟩) (n+1) 128)) from cD HF2.out (by omega))
 obtain⟨q0,q1,q2,q3,q4⟩:=aw HX3.out
 clear HB2 HB3 HX2 HX3 HF2
 generalize ((((W2.setCell ⟨w.heap.size+1,0,none⟩ (.int .u64 c)).setCell ⟨w.heap.size+1,1,none⟩ (.int .u64 d)).setCell ⟨w.heap.size+1,2,none⟩ (.int .u64 (ap':Int))).setCell ⟨w.heap.size+1,3,none⟩ (.int .u64 (ar':Int))).setCell ⟨w.heap.size+1,4,none⟩ (.slice (some ⟨R,0,none⟩) (n+1) 128)=w5 at *
 go_wp2
 refine bodyPost_ret (v:=stw c d ap' ar' (some ⟨R,0,none⟩) (n+1) 128) (by simp [stw,results,Tryz.results162,go_sem,q0,q1,q2,q3,q4]) rfl ?_
 exact⟨rfl,HR.out,HF3.out⟩

theorem aD.fr {R:Nat}{w w':World}(h:aD w R)(hb:Below w.heap.size w w'):aD w' R:=by
 obtain⟨xs,h1,h2⟩:=h
 exact⟨xs,h1.below' hb,h2⟩

theorem aD.lt {R:Nat}{w:World}(h:aD w R):R<w.heap.size:=by
 obtain⟨xs,h1,_⟩:=h
 exact h1.lt

theorem aD.set {R g o:Nat}{w:World}{u:Value}(h:aD w R)(hne:R≠g):aD (w.setCell ⟨g,o,none⟩ u) R:=by
 obtain⟨xs,h1,h2⟩:=h
 exact⟨xs,aC h1 hne,h2⟩

theorem ie (R:Nat)(w:World) :
  Calls Tryz.prog 161 #[.slice (some ⟨R,0,none⟩) 0 128] w fun e w'=>e=.returned (.agg #[.int .u64 1,.int .u64 0,.int .u64 0,.int .u64 1,.slice (some ⟨R,0,none⟩) 0 128])∧Below w.heap.size w w':=by
 have hb:Below w.heap.size w (w.alloc (.cells #[.int .u64 1,.int .u64 0,.int .u64 0,.int .u64 1,.slice (some ⟨R,0,none⟩) 0 128] 139)):=(Below.refl _ _).alloc (Nat.le_refl _) _
 have HB:=aa hb
 clear hb
 go_enter Tryz.func161,Tryz.ntmps161
 go_wp2
 go_returns
 exact⟨rfl,HB.out⟩

theorem kA {wr w2 W0:World}{R B0 G1:Nat}(h0:Below wr.heap.size wr W0)(hf:Fr R W0 w2)(hR:aD w2 R)(hR0:R<wr.heap.size)(hB:B0<wr.heap.size)(hG:G1<wr.heap.size)(o:Obj) :
  ∃g:Nat,Value.pointer (some ⟨w2.heap.size,0,none⟩)=Value.pointer (some ⟨g,0,none⟩)∧g≠B0∧g≠G1∧g≠R∧(w2.alloc o).heap[g]?=some o∧aD (w2.alloc o) R∧Fr R wr (w2.alloc o):=by
 have h1:Fr R wr w2:=(Fr.of_below h0).trans hf
 have h2:=h1.size
 exact⟨w2.heap.size,rfl,by omega,by omega,by omega,heap_alloc_new ..,hR.fr ((Below.refl _ _).alloc (Nat.le_refl _) o),h1.trans (Fr.alloc R w2 o)⟩

theorem kB {wr w2 W0:World}{R B0 G1:Nat}(h0:Below wr.heap.size wr W0)(hf:Fr R W0 w2)(hR:aD w2 R)(hR0:R<wr.heap.size)(hB:B0<wr.heap.size)(hG:G1<wr.heap.size){a b c d f a' b' c' d' f':Value}{t:TypeId}(hk:w2.heap[wr.heap.size]?=some (.cells #[a,b,c,d,f] t)) :
  ∃g:Nat,Value.pointer (some ⟨wr.heap.size,0,none⟩)=Value.pointer (some ⟨g,0,none⟩)∧g≠B0∧g≠G1∧g≠R∧(((((w2.setCell ⟨wr.heap.size,0,none⟩ a').setCell ⟨wr.heap.size,1,none⟩ b').setCell ⟨wr.heap.size,2,none⟩ c').setCell ⟨wr.heap.size,3,none⟩ d').setCell ⟨wr.heap.size,4,none⟩ f').heap[g]?=some (.cells #[a',b',c',d',f'] t) ∧
   aD (((((w2.setCell ⟨wr.heap.size,0,none⟩ a').setCell ⟨wr.heap.size,1,none⟩ b').setCell ⟨wr.heap.size,2,none⟩ c').setCell ⟨wr.heap.size,3,none⟩ d').setCell ⟨wr.heap.size,4,none⟩ f') R ∧
   Fr R wr (((((w2.setCell ⟨wr.heap.size,0,none⟩ a').setCell ⟨wr.heap.size,1,none⟩ b').setCell ⟨wr.heap.size,2,none⟩ c').setCell ⟨wr.heap.size,3,none⟩ d').setCell ⟨wr.heap.size,4,none⟩ f'):=by
 have h1:Fr R wr w2:=(Fr.of_below h0).trans hf
 have hne:R≠wr.heap.size:=by omega
 exact⟨wr.heap.size,rfl,by omega,by omega,by omega,bE hk,((((hR.set hne).set hne).set hne).set hne).set hne,cD h1 (Nat.le_refl _)⟩

theorem ae {W0 W t:World}(h:Below W0.heap.size W0 W)(h2:Below W.heap.size W t):Below W0.heap.size W0 t:=h.trans (h2.mono h.size)

def o7 (xh yh R:Nat)(w:World)(e:Ending)(w':World):Prop:=
 (∃a b c d n x y:Nat,e=.returned (stw a b c d (some ⟨R,0,none⟩) n 128)∧bN n xh yh x y a b c d∧n<128∧(1≤n→d<4294967296))∧aD w' R∧Fr R w w'

theorem nF (xh yh R:Nat)(w:World)(hx:xh<18446744073709551616)(hyx:yh≤xh)(hx0:0<xh)(hR:aD w R) :
  Calls Tryz.prog 119 #[.int .u64 xh,.int .u64 yh,.slice (some ⟨R,0,none⟩) 0 128] w (o7 xh yh R w):=by
 obtain⟨w0,hw0,hb0,h0⟩:=aI w (.cells #[.int .u64 0,.int .u64 0,.int .u64 0,.int .u64 0,.slice none 0 0] 139)
 have NS:=ie R w0
 have HB0:=aa hb0
 have H0:=aa h0
 have HR:=aa hR
 have HX:=aa (And.intro hx hx0)
 have HYX:=aa hyx
 have hs0:w0.heap.size=w.heap.size+1:=by rw [←hw0];exact World.size_alloc _ _
 have HS0:=aa hs0
 have hRw:=hR.lt
 clear hb0 h0 hR hs0
 go_enter Tryz.func119,Tryz.ntmps119
 go_wp2_with fail
 refine NS.mono ?_
 rintro e w1 ⟨rfl,hb1⟩
 obtain⟨w2,hw2,hb2,h2⟩:=aI w1 (.cells #[.int .u64 1,.int .u64 0,.int .u64 0,.int .u64 1,.slice (some ⟨R,0,none⟩) 0 128] 139)
 have HS1:=aa hb1.size
 have HRM:=aa (((HR.out.fr HB0.out).fr hb1).fr hb2)
 have HFR:=aa (Fr.of_below (bz:=R) ((ae HB0.out hb1).trans (hb2.mono (ae HB0.out hb1).size)))
 have H02:=aa (ac hb2 (ac hb1 H0.out))
 have H12:=aa h2
 have HTOP0:=aa (bN.start HYX.out)
 obtain⟨G1,hG1⟩:∃G1,w1.heap.size=G1:=⟨_,rfl⟩
 rw [hG1] at H12
 have hG:w.heap.size+1≤G1:=by have:=HS1.out;have:=HS0.out;omega
 have HG:=aa hG
 clear hb1 hb2 h2 NS
 go_wp2
 clear hG1 HS1
 go_loopw [0,1] (fun X Y wr=>∃(x y a b c d n:Nat),X=.int .u64 x∧Y=.int .u64 y∧x<18446744073709551616∧y<18446744073709551616∧0<x∧bN n xh yh x y a b c d∧wr.heap[w.heap.size]?=some (.cells #[.int .u64 0,.int .u64 0,.int .u64 0,.int .u64 0,.slice none 0 0] 139)∧wr.heap[G1]?=some (.cells #[.int .u64 (a:Int),.int .u64 (b:Int),.int .u64 (c:Int),.int .u64 (d:Int),.slice (some ⟨R,0,none⟩) n 128] 139)∧aD wr R∧Fr R w wr) (fun _ Y _=>(intOf Y).toNat)
 case atStart=>exact⟨xh,yh,1,0,0,1,0,rfl,rfl,HX.out.1,by have:=HX.out.1;have:=HYX.out;omega,HX.out.2,HTOP0.out,H02.out,H12.out,HRM.out,HFR.out⟩
 case round=>
  obtain⟨x,y,a,b,c,d,n,rfl,rfl,hxl,hyl,hxp,htop,r0,r1,hrm,hfr⟩:=hrel
  have HTOP:=aa htop
  have R0:=aa r0
  have R1:=aa r1
  have RM:=aa hrm
  have FR:=aa hfr
  have hn:=htop.few hxp HX.out.1
  have HLN:=aa hn
  have HRB:=aa (show R≠w.heap.size by omega)
  obtain⟨sa,sb,sc,sd⟩:=htop.top.small HX.out.1
  obtain⟨hr0,hr1,hr2,hr3,hr4⟩:=aw r1
  obtain⟨hq0,hq1,hq2,hq3,hq4⟩:=aw r0
  have hqf:=bh r0
  have hrf:=bh r1
  clear H02 H12 HRM HFR HTOP0
  by_cases hy0:y=0
  ·subst hy0
   clear htop r0 r1 hrm hfr
   replace HX:=aa HX.out.1
   go_wp2
   have HE:=aa (show ∃x y:Nat,bN n xh yh x y a b c d∧n<128∧(1≤n→d<4294967296) from ⟨_,_,HTOP.out,HLN.out,fun h1=>HTOP.out.top.1.half (by have h2:=(HTOP.out.acc h1).1;have:=h2.xy;have:=h2.dy;omega) HX.out⟩)
   have R5:=bE R0.out (a':=.int .u64 a) (b':=.int .u64 b) (c':=.int .u64 c) (d':=.int .u64 d) (f':=.slice (some ⟨R,0,none⟩) n 128)
   have W5:=aa (And.intro ((((((RM.out.set HRB.out).set HRB.out).set HRB.out).set HRB.out).set HRB.out:aD (((((wr.setCell ⟨w.heap.size,0,none⟩ (.int .u64 a)).setCell ⟨w.heap.size,1,none⟩ (.int .u64 b)).setCell ⟨w.heap.size,2,none⟩ (.int .u64 c)).setCell ⟨w.heap.size,3,none⟩ (.int .u64 d)).setCell ⟨w.heap.size,4,none⟩ (.slice (some ⟨R,0,none⟩) n 128)) R)) (cD (g:=w.heap.size) (u0:=.int .u64 a) (u1:=.int .u64 b) (u2:=.int .u64 c) (u3:=.int .u64 d) (u4:=.slice (some ⟨R,0,none⟩) n 128) FR.out (Nat.le_refl _)))
   generalize ((((wr.setCell ⟨w.heap.size,0,none⟩ (.int .u64 a)).setCell ⟨w.heap.size,1,none⟩ (.int .u64 b)).setCell ⟨w.heap.size,2,none⟩ (.int .u64 c)).setCell ⟨w.heap.size,3,none⟩ (.int .u64 d)).setCell ⟨w.heap.size,4,none⟩ (.slice (some ⟨R,0,none⟩) n 128)=w5 at *
   obtain⟨hk0,hk1,hk2,hk3,hk4⟩:=aw R5
   refine bodyPost_ret (v:=stw a b c d (some ⟨R,0,none⟩) n 128) (by simp [stw,results,Tryz.results119,go_sem,hk0,hk1,hk2,hk3,hk4]) rfl ?_
   obtain⟨x9,y9,q1,q2,q3⟩:=HE.out
   exact⟨⟨a,b,c,d,n,x9,y9,rfl,q1,q2,q3⟩,W5.out.1,W5.out.2⟩
  ·have hy:0<y:=by omega
   have hypos:(0:Int)<(y:Int):=by omega
   have hz:((y:Int) == 0)=false:=by rw [beq_eq_false_iff_ne];omega
   obtain⟨n1,n2,n3,n4,n5,n6,n7⟩:=htop.top.next hy
   have hdiv:(x:Int) / (y:Int)=((x / y:Nat):Int):=by omega
   have hmod:(x:Int) % (y:Int)=((x % y:Nat):Int):=by omega
   have hml:x % y<y:=Nat.mod_lt _ hy
   have hdl:=n1.d_le hy
   have hql:x / y≤x:=Nat.div_le_self _ _
   have HNX:=fun W hR=>g9 a b c d (x / y) R n W (by have:=HX.out.1;omega) (by have:=HX.out.1;omega) hR hn
   have HNE:=aa (fun h1 h2=>htop.next hy h1 h2)
   generalize x / y=q at *
   generalize x % y=r at *
   generalize a+q*c=c' at *
   generalize b+q*d=d' at *
   unfold stw at HNX
   have hlt0:w.heap.size<wr.heap.size:=aY R0.out
   have hlt1:G1<wr.heap.size:=aY R1.out
   have hRlt:=RM.out.lt
   have hRG:R≠G1:=by have:=HG.out;omega
   have HRG:=aa hRG
   have hne1:¬(G1=wr.heap.size):=by omega
   have hne2:¬(wr.heap.size=G1):=by omega
   obtain⟨ha0,ha1,ha2,ha3,ha4⟩:=aw (gp (o:=.cells #[.int .u64 0,.int .u64 0,.int .u64 0,.int .u64 0,.slice none 0 0] 139) R1.out)
   have wq:IntKind.u64.wrap (q:Int)=(q:Int):=by rw [IntKind.wrap_u64];omega
   have wr':IntKind.u64.wrap (r:Int)=(r:Int):=by rw [IntKind.wrap_u64];omega
   have RW1:=aa (RM.out.fr (dZ (Below.refl _ _)))
   have RW2:=aa (RM.out.fr (dZ (jS (Below.refl _ _) (.cells #[.int .u64 0,.int .u64 0,.int .u64 0,.int .u64 0,.slice none 0 0] 139))))
   have HN1:=aa n1
   clear htop r0 r1 hrm hfr n1 hy0 hRG hn
   go_upto_region 3 with fail
   go_cut [8] from 13 to 18 (fun s wx=>∃g:Nat,s=.pointer (some ⟨g,0,none⟩)∧g≠w.heap.size∧g≠G1∧g≠R∧wx.heap[g]?=some (.cells #[.int .u64 (c:Int),.int .u64 (d:Int),.int .u64 (c':Int),.int .u64 (d':Int),.slice (some ⟨R,0,none⟩) (n+1) 128] 139)∧aD wx R∧Fr R wr wx)
   case first=>
    go_region_with (first | (go_at_call 162;refine (HNX _ (by first|exact RW1.out|exact RW2.out)).mono ?_;rintro e w3 ⟨rfl,hR3,hF3⟩;first | (have hz3:=(hF3.block wr.heap.size (by simp [World.size_alloc]) (by omega)).trans (show (wr.alloc (.cells #[.int .u64 0,.int .u64 0,.int .u64 0,.int .u64 0,.slice none 0 0] 139)).drew.heap[wr.heap.size]?=_ from heap_alloc_new ..);obtain⟨hl0,hl1,hl2,hl3,hl4⟩:=aw hz3;have hlf:=bh hz3) | skip))
    all_goals (go_wp2_with fail;go_meet;first|exact kA (Below.refl _ _).drew hF3 hR3 hRlt hlt0 hlt1 _|exact kB ((Below.refl _ _).alloc (Nat.le_refl _) _).drew hF3 hR3 hRlt hlt0 hlt1 hz3)
   case rest=>
    obtain⟨g,rfl,hg1,hg2,hg3,hgc,hrm,hbx⟩:=hcut
    have S0:=aa ((hbx.block w.heap.size hlt0 (by omega)).trans R0.out)
    have S1:=aa ((hbx.block G1 hlt1 (fun e=>HRG.out e.symm)).trans R1.out)
    have SR:=aa hrm
    have SF:=aa (FR.out.trans hbx)
    obtain⟨k0,k1,k2,k3,k4⟩:=aw hgc
    obtain⟨m0,m1,m2,m3,m4⟩:=aw S1.out
    have mf:=bh S1.out
    obtain⟨z0,z1,z2,z3,z4⟩:=aw S0.out
    have zf:=bh S0.out
    clear hbx hgc hrm hr0 hr1 hr2 hr3 hr4 hq0 hq1 hq2 hq3 hq4 hqf hrf R0 R1 RM FR ha0 ha1 ha2 ha3 ha4 HNX RW1 RW2
    go_wp2
    go_quiet (fail)
    by_cases t1:r<d'
    ·have t1':(r:Int)<(d':Int):=by omega
     replace HX:=aa HX.out.1
     clear HNE HN1
     go_wp2
     obtain⟨wd,hwd⟩:∃wd,wd=wc.drewN nq:=⟨_,rfl⟩
     rw [←hwd]
     have R0:=S0
     rw [show wc.heap=wd.heap by rw [hwd];rfl] at R0
     have hbd:Below wc.heap.size wc wd:=by rw [hwd];exact (((ak.refl _).drewN _).below _)
     have RM:=aa (SR.out.fr hbd)
     have FR:=aa (SF.out.trans (Fr.of_below hbd))
     clear hwd
     have HE:=aa (show ∃x y:Nat,bN n xh yh x y a b c d∧n<128∧(1≤n→d<4294967296) from ⟨_,_,HTOP.out,HLN.out,fun h1=>HTOP.out.top.1.half (by have h2:=(HTOP.out.acc h1).1;have:=h2.xy;have:=h2.dy;omega) HX.out⟩)
     have R5:=bE R0.out (a':=.int .u64 a) (b':=.int .u64 b) (c':=.int .u64 c) (d':=.int .u64 d) (f':=.slice (some ⟨R,0,none⟩) n 128)
     have W5:=aa (And.intro ((((((RM.out.set HRB.out).set HRB.out).set HRB.out).set HRB.out).set HRB.out:aD (((((wd.setCell ⟨w.heap.size,0,none⟩ (.int .u64 a)).setCell ⟨w.heap.size,1,none⟩ (.int .u64 b)).setCell ⟨w.heap.size,2,none⟩ (.int .u64 c)).setCell ⟨w.heap.size,3,none⟩ (.int .u64 d)).setCell ⟨w.heap.size,4,none⟩ (.slice (some ⟨R,0,none⟩) n 128)) R)) (cD (g:=w.heap.size) (u0:=.int .u64 a) (u1:=.int .u64 b) (u2:=.int .u64 c) (u3:=.int .u64 d) (u4:=.slice (some ⟨R,0,none⟩) n 128) FR.out (Nat.le_refl _)))
     generalize ((((wd.setCell ⟨w.heap.size,0,none⟩ (.int .u64 a)).setCell ⟨w.heap.size,1,none⟩ (.int .u64 b)).setCell ⟨w.heap.size,2,none⟩ (.int .u64 c)).setCell ⟨w.heap.size,3,none⟩ (.int .u64 d)).setCell ⟨w.heap.size,4,none⟩ (.slice (some ⟨R,0,none⟩) n 128)=w5 at *
     obtain⟨hk0,hk1,hk2,hk3,hk4⟩:=aw R5
     refine bodyPost_ret (v:=stw a b c d (some ⟨R,0,none⟩) n 128) (by simp [stw,results,Tryz.results119,go_sem,hk0,hk1,hk2,hk3,hk4]) rfl ?_
     obtain⟨x9,y9,q1,q2,q3⟩:=HE.out
     exact⟨⟨a,b,c,d,n,x9,y9,rfl,q1,q2,q3⟩,W5.out.1,W5.out.2⟩
    ·have t1':¬((r:Int)<(d':Int)):=by omega
     have hsum:=HN1.out.sum_le hy (show 0<r by omega)
     obtain⟨e1,he1,hf1⟩:∃e1:Nat,(y:Int) - (r:Int)=(e1:Int)∧e1+r=y:=⟨y - r,by omega,by omega⟩
     obtain⟨e2,he2,hf2⟩:∃e2:Nat,(d:Int)+(d':Int)=(e2:Int)∧d+d'=e2:=⟨d+d',by omega,rfl⟩
     have hl1:e1<18446744073709551616:=by omega
     have hl2:e2<18446744073709551616:=by have:=HX.out.1;omega
     by_cases t2:e1<e2
     ·have t2':(e1:Int)<(e2:Int):=by omega
      replace HX:=aa HX.out.1
      clear hf1 hf2 HNE HN1
      go_wp2
      obtain⟨wd,hwd⟩:∃wd,wd=wc.drewN nq:=⟨_,rfl⟩
      rw [←hwd]
      have R0:=S0
      rw [show wc.heap=wd.heap by rw [hwd];rfl] at R0
      have hbd:Below wc.heap.size wc wd:=by rw [hwd];exact (((ak.refl _).drewN _).below _)
      have RM:=aa (SR.out.fr hbd)
      have FR:=aa (SF.out.trans (Fr.of_below hbd))
      clear hwd
      have HE:=aa (show ∃x y:Nat,bN n xh yh x y a b c d∧n<128∧(1≤n→d<4294967296) from ⟨_,_,HTOP.out,HLN.out,fun h1=>HTOP.out.top.1.half (by have h2:=(HTOP.out.acc h1).1;have:=h2.xy;have:=h2.dy;omega) HX.out⟩)
      have R5:=bE R0.out (a':=.int .u64 a) (b':=.int .u64 b) (c':=.int .u64 c) (d':=.int .u64 d) (f':=.slice (some ⟨R,0,none⟩) n 128)
      have W5:=aa (And.intro ((((((RM.out.set HRB.out).set HRB.out).set HRB.out).set HRB.out).set HRB.out:aD (((((wd.setCell ⟨w.heap.size,0,none⟩ (.int .u64 a)).setCell ⟨w.heap.size,1,none⟩ (.int .u64 b)).setCell ⟨w.heap.size,2,none⟩ (.int .u64 c)).setCell ⟨w.heap.size,3,none⟩ (.int .u64 d)).setCell ⟨w.heap.size,4,none⟩ (.slice (some ⟨R,0,none⟩) n 128)) R)) (cD (g:=w.heap.size) (u0:=.int .u64 a) (u1:=.int .u64 b) (u2:=.int .u64 c) (u3:=.int .u64 d) (u4:=.slice (some ⟨R,0,none⟩) n 128) FR.out (Nat.le_refl _)))
      generalize ((((wd.setCell ⟨w.heap.size,0,none⟩ (.int .u64 a)).setCell ⟨w.heap.size,1,none⟩ (.int .u64 b)).setCell ⟨w.heap.size,2,none⟩ (.int .u64 c)).setCell ⟨w.heap.size,3,none⟩ (.int .u64 d)).setCell ⟨w.heap.size,4,none⟩ (.slice (some ⟨R,0,none⟩) n 128)=w5 at *
      obtain⟨hk0,hk1,hk2,hk3,hk4⟩:=aw R5
      refine bodyPost_ret (v:=stw a b c d (some ⟨R,0,none⟩) n 128) (by simp [stw,results,Tryz.results119,go_sem,hk0,hk1,hk2,hk3,hk4]) rfl ?_
      obtain⟨x9,y9,q1,q2,q3⟩:=HE.out
      exact⟨⟨a,b,c,d,n,x9,y9,rfl,q1,q2,q3⟩,W5.out.1,W5.out.2⟩
     ·have t2':¬((e1:Int)<(e2:Int)):=by omega
      have HNT:=aa (HNE.out (by omega) (by omega))
      have hrp:0<r:=by omega
      clear hf1 hf2 HNE HN1
      go_wp2
      go_roundw
      case rel=>
       have hdr:Below wc.heap.size wc (wc.drewN nq):=((ak.refl _).drewN _).below _
       have hwG:w.heap.size≤G1:=by have:=HG.out;omega
       refine⟨y,r,c,d,c',d',n+1,rfl,by rw [hmod],hyl,by omega,hy,HNT.out,?_,?_,?_,?_⟩
       ·exact aC (aC (aC (aC (aC S0.out (by omega)) (by omega)) (by omega)) (by omega)) (by omega)
       ·exact bE S1.out
       ·exact (((((SR.out.fr hdr).set HRG.out).set HRG.out).set HRG.out).set HRG.out).set HRG.out
       ·exact cD (SF.out.trans (Fr.of_below hdr)) hwG
      case measure=>simp [intOf];omega

structure LTo (n xh yh x y a b c d:Nat):Prop where
 steps:LSteps xh yh x y a b c d (aO n)
 yx:y≤x
 zero:n=0→a=1∧b=0∧c=0∧d=1
 pos:1≤n→a≤b∧c≤d∧1≤c∧b≤d∧a≤c∧1≤b∧c+d≤18446744073709551616
 grow:2 ^ (n / 2)≤d
 grow1:1≤n→2 ^ ((n - 1) / 2)≤b
 lt:1≤n→y<x

theorem LTo.start {x y:Nat}(h:y≤x):LTo 0 x y x y 1 0 0 1:=
 ⟨LSteps.start _ _,h,fun _=>⟨rfl,rfl,rfl,rfl⟩,fun h=>by omega,by simp,fun h=>by omega,fun h=>by omega⟩

theorem LTo.parts {n xh yh x y a b c d:Nat}(h:LTo n xh yh x y a b c d)(hy:0<y) :
  c≤d∧a+x / y*c≤b+x / y*d∧1≤a+x / y*c∧d≤b+x / y*d∧c≤a+x / y*c∧1≤d∧b+d≤b+x / y*d∧a≤d:=by
 have hq:1≤x / y:=(Nat.le_div_iff_mul_le hy).2 (by have:=h.yx;omega)
 have p2:c≤x / y*c:=Nat.le_mul_of_pos_left _ hq
 have p3:d≤x / y*d:=Nat.le_mul_of_pos_left _ hq
 rcases Nat.eq_zero_or_pos n with h0|h0
 ·obtain⟨rfl,rfl,rfl,rfl⟩:=h.zero h0
  generalize x / y=q at *
  refine⟨by omega,by omega,by omega,by omega,by omega,by omega,by omega,by omega⟩
 ·obtain⟨k1,k2,k3,k4,k5,k6,k7⟩:=h.pos h0
  have p1:x / y*c≤x / y*d:=Nat.mul_le_mul_left _ k2
  generalize x / y*c=u at *
  generalize x / y*d=v at *
  refine⟨by omega,by omega,by omega,by omega,by omega,by omega,by omega,by omega⟩

theorem LTo.next {n xh yh x y a b c d:Nat}(h:LTo n xh yh x y a b c d)(hy:0<y)(h2:a+x / y*c+(b+x / y*d)≤18446744073709551616) :
  LTo (n+1) xh yh y (x % y) c d (a+x / y*c) (b+x / y*d):=by
 obtain⟨p1,p2,p3,p4,p5,p6,p7,_⟩:=h.parts hy
 have hm:=Nat.mod_lt x hy
 refine⟨by rw [iE];exact h.steps.next hy,by omega,fun h=>by omega,fun _=>⟨p1,p2,p3,p4,p5,p6,h2⟩,?_,fun _=>?_,fun _=>hm⟩
 ·rcases Nat.eq_zero_or_pos n with h0|h0
  ·subst h0
   simp
   omega
  ·have g:=h.grow
   have g1:=h.grow1 h0
   rcases Nat.mod_two_eq_zero_or_one n with hm|hm
   ·have e:(n+1) / 2=n / 2:=by omega
    rw [e];omega
   ·have e:(n+1) / 2=n / 2+1:=by omega
    have e1:(n - 1) / 2=n / 2:=by omega
    rw [e1] at g1
    rw [e,Nat.pow_succ];omega
 ·rw [show n+1 - 1=n by omega];exact h.grow

theorem LTo.few {n xh yh x y a b c d:Nat}(h:LTo n xh yh x y a b c d)(hx:0<x)(hl:xh<18446744073709551616):n<128:=by
 have h1:=h.steps.d_le hx
 have h2:=h.grow
 rcases Nat.lt_or_ge n 128 with h3|h3
 ·exact h3
 ·exfalso
  have h4:2 ^ 64≤2 ^ (n / 2):=Nat.pow_le_pow_right (by omega) (by omega)
  have h5:(2:Nat) ^ 64=18446744073709551616:=rfl
  omega

theorem LTo.small {n xh yh x y a b c d:Nat}(h:LTo n xh yh x y a b c d)(hx:0<x)(hl:xh<18446744073709551616):a<18446744073709551616∧b<18446744073709551616∧c<18446744073709551616∧d<18446744073709551616:=by
 have h1:=h.steps.d_le hx
 rcases Nat.eq_zero_or_pos n with h0|h0
 ·obtain⟨rfl,rfl,rfl,rfl⟩:=h.zero h0
  omega
 ·obtain⟨k1,k2,k3,k4,k5,k6,k7⟩:=h.pos h0
  omega

theorem LTo.many {n xh yh x y a b c d:Nat}(h:LTo n xh yh x y a b c d)(hn:1≤n):Many a b c d (aO n) xh yh x y∧y<yh:=by
 obtain⟨k1,k2,k3,k4,k5,k6,k7⟩:=h.pos hn
 have hl:=h.lt hn
 have ex:=h.steps.hx
 have ey:=h.steps.hy
 have hxy:x≤yh:=by
  rw [ey]
  have:=Nat.le_mul_of_pos_left x k3
  omega
 have e1:(x:Int)=fsg (aO n)*((a:Int)*xh - (b:Int)*yh)∧(y:Int)=fsg (aO n)*((d:Int)*yh - (c:Int)*xh):=by
  rw [ex,ey,Int.natCast_add,Int.natCast_mul,Int.natCast_mul,Int.natCast_add,Int.natCast_mul,Int.natCast_mul]
  cases ho:aO n with
  | false=>
   have hd:((a*d:Nat):Int)=((b*c+1:Nat):Int):=by rw [h.steps.even ho]
   rw [Int.natCast_mul,Int.natCast_add,Int.natCast_mul] at hd
   simp only [fsg,Bool.false_eq_true,if_false]
   constructor <;> grind
  | true=>
   have hd:((b*c:Nat):Int)=((a*d+1:Nat):Int):=by rw [h.steps.odd ho]
   rw [Int.natCast_mul,Int.natCast_add,Int.natCast_mul] at hd
   simp only [fsg,if_true]
   constructor <;> grind
 refine⟨⟨ex,ey,e1.1,e1.2,?_,⟨k5,k4⟩,by omega⟩,by omega⟩
 refine Nat.dvd_antisymm (Nat.dvd_gcd ?_ ?_) (Nat.dvd_gcd ?_ ?_)
 ·rw [ex]
  exact Nat.dvd_add (Nat.dvd_trans (Nat.gcd_dvd_left x y) (Nat.dvd_mul_left _ _)) (Nat.dvd_trans (Nat.gcd_dvd_right x y) (Nat.dvd_mul_left _ _))
 ·rw [ey]
  exact Nat.dvd_add (Nat.dvd_trans (Nat.gcd_dvd_left x y) (Nat.dvd_mul_left _ _)) (Nat.dvd_trans (Nat.gcd_dvd_right x y) (Nat.dvd_mul_left _ _))
 ·have g1:((Nat.gcd xh yh:Nat):Int) ∣ (xh:Int):=Int.natCast_dvd_natCast.2 (Nat.gcd_dvd_left xh yh)
  have g2:((Nat.gcd xh yh:Nat):Int) ∣ (yh:Int):=Int.natCast_dvd_natCast.2 (Nat.gcd_dvd_right xh yh)
  refine Int.natCast_dvd_natCast.1 ?_
  rw [e1.1]
  exact Int.dvd_trans (Int.dvd_sub (Int.dvd_trans g1 (Int.dvd_mul_left _ _)) (Int.dvd_trans g2 (Int.dvd_mul_left _ _))) (Int.dvd_mul_left _ _)
 ·have g1:((Nat.gcd xh yh:Nat):Int) ∣ (xh:Int):=Int.natCast_dvd_natCast.2 (Nat.gcd_dvd_left xh yh)
  have g2:((Nat.gcd xh yh:Nat):Int) ∣ (yh:Int):=Int.natCast_dvd_natCast.2 (Nat.gcd_dvd_right xh yh)
  refine Int.natCast_dvd_natCast.1 ?_
  rw [e1.2]
  exact Int.dvd_trans (Int.dvd_sub (Int.dvd_trans g2 (Int.dvd_mul_left _ _)) (Int.dvd_trans g1 (Int.dvd_mul_left _ _))) (Int.dvd_mul_left _ _)

theorem LTo.first {xh yh x y a b c d:Nat}(h:LTo 0 xh yh x y a b c d)(hx:x<18446744073709551616):a+x / y*c+(b+x / y*d)≤18446744073709551616:=by
 obtain⟨rfl,rfl,rfl,rfl⟩:=h.zero rfl
 have:=Nat.div_le_self x y
 generalize x / y=q at *
 omega

def rE (xh yh R:Nat)(w:World)(e:Ending)(w':World):Prop:=
 (∃a b c d n x y:Nat,e=.returned (.tuple #[stw a b c d (some ⟨R,0,none⟩) n 128,.int .u64 (x:Int),.int .u64 (y:Int)])∧LTo n xh yh x y a b c d∧0<x∧n<128∧(0<yh→1≤n))∧aD w' R∧Fr R w w'

theorem na (xh yh R:Nat)(w:World)(hx:xh<18446744073709551616)(hyx:yh≤xh)(hx0:0<xh)(hR:aD w R) :
  Calls Tryz.prog 123 #[.int .u64 xh,.int .u64 yh,.slice (some ⟨R,0,none⟩) 0 128] w (rE xh yh R w):=by
 obtain⟨w0,hw0,hb0,h0⟩:=aI w (.cells #[.int .u64 0,.int .u64 0,.int .u64 0,.int .u64 0,.slice none 0 0] 139)
 have NS:=ie R w0
 have HB0:=aa hb0
 have H0:=aa h0
 have HR:=aa hR
 have HX:=aa (And.intro hx hx0)
 have HYX:=aa hyx
 have hs0:w0.heap.size=w.heap.size+1:=by rw [←hw0];exact World.size_alloc _ _
 have HS0:=aa hs0
 have hRw:=hR.lt
 clear hb0 h0 hR hs0
 go_enter Tryz.func123,Tryz.ntmps123
 go_wp2_with fail
 refine NS.mono ?_
 rintro e w1 ⟨rfl,hb1⟩
 obtain⟨w2,hw2,hb2,h2⟩:=aI w1 (.cells #[.int .u64 1,.int .u64 0,.int .u64 0,.int .u64 1,.slice (some ⟨R,0,none⟩) 0 128] 139)
 have HS1:=aa hb1.size
 have HRM:=aa (((HR.out.fr HB0.out).fr hb1).fr hb2)
 have HFR:=aa (Fr.of_below (bz:=R) ((ae HB0.out hb1).trans (hb2.mono (ae HB0.out hb1).size)))
 have H02:=aa (ac hb2 (ac hb1 H0.out))
 have H12:=aa h2
 have HTOP0:=aa (LTo.start HYX.out)
 obtain⟨G1,hG1⟩:∃G1,w1.heap.size=G1:=⟨_,rfl⟩
 rw [hG1] at H12
 have hG:w.heap.size+1≤G1:=by have:=HS1.out;have:=HS0.out;omega
 have HG:=aa hG
 clear hb1 hb2 h2 NS
 go_wp2
 clear hG1 HS1
 go_loopw [0,1] (fun X Y wr=>∃(x y a b c d n:Nat),X=.int .u64 x∧Y=.int .u64 y∧x<18446744073709551616∧y<18446744073709551616∧0<x∧(n=0→x=xh∧y=yh)∧LTo n xh yh x y a b c d∧wr.heap[w.heap.size]?=some (.cells #[.int .u64 0,.int .u64 0,.int .u64 0,.int .u64 0,.slice none 0 0] 139)∧wr.heap[G1]?=some (.cells #[.int .u64 (a:Int),.int .u64 (b:Int),.int .u64 (c:Int),.int .u64 (d:Int),.slice (some ⟨R,0,none⟩) n 128] 139)∧aD wr R∧Fr R w wr) (fun _ Y _=>(intOf Y).toNat)
 case atStart=>exact⟨xh,yh,1,0,0,1,0,rfl,rfl,HX.out.1,by have:=HX.out.1;have:=HYX.out;omega,HX.out.2,fun _=>⟨rfl,rfl⟩,HTOP0.out,H02.out,H12.out,HRM.out,HFR.out⟩
 case round=>
  obtain⟨x,y,a,b,c,d,n,rfl,rfl,hxl,hyl,hxp,hn0,htop,r0,r1,hrm,hfr⟩:=hrel
  have HTOP:=aa htop
  have R0:=aa r0
  have R1:=aa r1
  have RM:=aa hrm
  have FR:=aa hfr
  have hn:=htop.few hxp HX.out.1
  have HLN:=aa hn
  have HXP:=aa hxp
  have HZ0:=aa hn0
  clear hn0
  have HRB:=aa (show R≠w.heap.size by omega)
  obtain⟨sa,sb,sc,sd⟩:=htop.small hxp HX.out.1
  obtain⟨hr0,hr1,hr2,hr3,hr4⟩:=aw r1
  obtain⟨hq0,hq1,hq2,hq3,hq4⟩:=aw r0
  have hqf:=bh r0
  have hrf:=bh r1
  clear H02 H12 HRM HFR HTOP0
  by_cases hy0:y=0
  ·subst hy0
   clear htop r0 r1 hrm hfr
   have HN0:Hid (0<yh→1≤n):=aa (fun h=>Nat.pos_of_ne_zero (fun h0=>by have:=(HZ0.out h0).2;omega))
   go_wp2
   have HE:=aa (And.intro HTOP.out (And.intro HXP.out (And.intro HLN.out HN0.out)))
   have R5:=bE R0.out (a':=.int .u64 a) (b':=.int .u64 b) (c':=.int .u64 c) (d':=.int .u64 d) (f':=.slice (some ⟨R,0,none⟩) n 128)
   have W5:=aa (And.intro ((((((RM.out.set HRB.out).set HRB.out).set HRB.out).set HRB.out).set HRB.out:aD (((((wr.setCell ⟨w.heap.size,0,none⟩ (.int .u64 a)).setCell ⟨w.heap.size,1,none⟩ (.int .u64 b)).setCell ⟨w.heap.size,2,none⟩ (.int .u64 c)).setCell ⟨w.heap.size,3,none⟩ (.int .u64 d)).setCell ⟨w.heap.size,4,none⟩ (.slice (some ⟨R,0,none⟩) n 128)) R)) (cD (g:=w.heap.size) (u0:=.int .u64 a) (u1:=.int .u64 b) (u2:=.int .u64 c) (u3:=.int .u64 d) (u4:=.slice (some ⟨R,0,none⟩) n 128) FR.out (Nat.le_refl _)))
   generalize ((((wr.setCell ⟨w.heap.size,0,none⟩ (.int .u64 a)).setCell ⟨w.heap.size,1,none⟩ (.int .u64 b)).setCell ⟨w.heap.size,2,none⟩ (.int .u64 c)).setCell ⟨w.heap.size,3,none⟩ (.int .u64 d)).setCell ⟨w.heap.size,4,none⟩ (.slice (some ⟨R,0,none⟩) n 128)=w5 at *
   obtain⟨hk0,hk1,hk2,hk3,hk4⟩:=aw R5
   refine bodyPost_ret (v:=.tuple #[stw a b c d (some ⟨R,0,none⟩) n 128,.int .u64 (x:Int),.int .u64 ((0:Nat):Int)]) (by simp [stw,results,Tryz.results123,go_sem,hk0,hk1,hk2,hk3,hk4]) rfl ?_
   exact⟨⟨a,b,c,d,n,x,(0:Nat),rfl,HE.out⟩,W5.out.1,W5.out.2⟩
  ·have hy:0<y:=by omega
   have hypos:(0:Int)<(y:Int):=by omega
   have hz:((y:Int) == 0)=false:=by rw [beq_eq_false_iff_ne];omega
   have n1:=htop.steps.next hy
   obtain⟨n2,n3,n4,n5,n6,n7,n8,n9⟩:=htop.parts hy
   have hdiv:(x:Int) / (y:Int)=((x / y:Nat):Int):=by omega
   have hmod:(x:Int) % (y:Int)=((x % y:Nat):Int):=by omega
   have hml:x % y<y:=Nat.mod_lt _ hy
   have hdl:=n1.d_le hy
   have hql:x / y≤x:=Nat.div_le_self _ _
   have HNX:=fun W hR=>g9 a b c d (x / y) R n W (by have:=HX.out.1;omega) (by have:=HX.out.1;omega) hR hn
   have HNE:=aa (fun h2=>htop.next hy h2)
   have HFI:=aa (fun h0:n=0=>LTo.first (h0 ▸ htop) hxl)
   generalize x / y=q at *
   generalize x % y=r at *
   generalize a+q*c=c' at *
   generalize b+q*d=d' at *
   unfold stw at HNX
   have hlt0:w.heap.size<wr.heap.size:=aY R0.out
   have hlt1:G1<wr.heap.size:=aY R1.out
   have hRlt:=RM.out.lt
   have hRG:R≠G1:=by have:=HG.out;omega
   have HRG:=aa hRG
   have hne1:¬(G1=wr.heap.size):=by omega
   have hne2:¬(wr.heap.size=G1):=by omega
   obtain⟨ha0,ha1,ha2,ha3,ha4⟩:=aw (gp (o:=.cells #[.int .u64 0,.int .u64 0,.int .u64 0,.int .u64 0,.slice none 0 0] 139) R1.out)
   have wq:IntKind.u64.wrap (q:Int)=(q:Int):=by rw [IntKind.wrap_u64];omega
   have wr':IntKind.u64.wrap (r:Int)=(r:Int):=by rw [IntKind.wrap_u64];omega
   have RW1:=aa (RM.out.fr (dZ (Below.refl _ _)))
   have RW2:=aa (RM.out.fr (dZ (jS (Below.refl _ _) (.cells #[.int .u64 0,.int .u64 0,.int .u64 0,.int .u64 0,.slice none 0 0] 139))))
   have HN1:=aa n1
   clear htop r0 r1 hrm hfr n1 hy0 hRG hn
   go_upto_region 3 with fail
   go_cut [10] from 15 to 20 (fun s wx=>∃g:Nat,s=.pointer (some ⟨g,0,none⟩)∧g≠w.heap.size∧g≠G1∧g≠R∧wx.heap[g]?=some (.cells #[.int .u64 (c:Int),.int .u64 (d:Int),.int .u64 (c':Int),.int .u64 (d':Int),.slice (some ⟨R,0,none⟩) (n+1) 128] 139)∧aD wx R∧Fr R wr wx)
   case first=>
    go_region_with (first | (go_at_call 162;refine (HNX _ (by first|exact RW1.out|exact RW2.out)).mono ?_;rintro e w3 ⟨rfl,hR3,hF3⟩;first | (have hz3:=(hF3.block wr.heap.size (by simp [World.size_alloc]) (by omega)).trans (show (wr.alloc (.cells #[.int .u64 0,.int .u64 0,.int .u64 0,.int .u64 0,.slice none 0 0] 139)).drew.heap[wr.heap.size]?=_ from heap_alloc_new ..);obtain⟨hl0,hl1,hl2,hl3,hl4⟩:=aw hz3;have hlf:=bh hz3) | skip))
    all_goals (go_wp2_with fail;go_meet;first|exact kA (Below.refl _ _).drew hF3 hR3 hRlt hlt0 hlt1 _|exact kB ((Below.refl _ _).alloc (Nat.le_refl _) _).drew hF3 hR3 hRlt hlt0 hlt1 hz3)
   case rest=>
    obtain⟨g,rfl,hg1,hg2,hg3,hgc,hrm,hbx⟩:=hcut
    have S0:=aa ((hbx.block w.heap.size hlt0 (by omega)).trans R0.out)
    have S1:=aa ((hbx.block G1 hlt1 (fun e=>HRG.out e.symm)).trans R1.out)
    have SR:=aa hrm
    have SF:=aa (FR.out.trans hbx)
    obtain⟨k0,k1,k2,k3,k4⟩:=aw hgc
    obtain⟨m0,m1,m2,m3,m4⟩:=aw S1.out
    have mf:=bh S1.out
    obtain⟨z0,z1,z2,z3,z4⟩:=aw S0.out
    have zf:=bh S0.out
    clear hbx hgc hrm hr0 hr1 hr2 hr3 hr4 hq0 hq1 hq2 hq3 hq4 hqf hrf R0 R1 RM FR ha0 ha1 ha2 ha3 ha4 HNX RW1 RW2
    have MB:=pF c' d' wc (by have:=HX.out.1;omega) (by have:=HX.out.1;omega) (by omega)
    by_cases t1:c'+d'≤18446744073709551616
    ·rw [decide_eq_true t1] at MB
     have HNT:=aa (HNE.out t1)
     have HRP:=aa hy
     clear HNE HN1 HFI
     go_wp2_with fail
     refine MB.mono ?_
     rintro e wn ⟨rfl,hw⟩;rw [hw];clear hw wn MB
     go_wp2
     go_quiet (fail)
     go_wp2
     go_roundw
     case rel=>
      obtain⟨wd,hwd⟩:∃wd,wd=((((((wc.setCell ⟨G1,0,none⟩ (.int .u64 (c:Int))).setCell ⟨G1,1,none⟩ (.int .u64 (d:Int))).setCell ⟨G1,2,none⟩ (.int .u64 (c':Int))).setCell ⟨G1,3,none⟩ (.int .u64 (d':Int))).setCell ⟨G1,4,none⟩ (.slice (some ⟨R,0,none⟩) (n+1) 128))):=⟨_,rfl⟩
      have hwG:w.heap.size≤G1:=by have:=HG.out;omega
      have q1:wd.heap[w.heap.size]?=some (.cells #[.int .u64 0,.int .u64 0,.int .u64 0,.int .u64 0,.slice none 0 0] 139):=by rw [hwd];exact aC (aC (aC (aC (aC S0.out (by omega)) (by omega)) (by omega)) (by omega)) (by omega)
      have q2:wd.heap[G1]?=some (.cells #[.int .u64 (c:Int),.int .u64 (d:Int),.int .u64 (c':Int),.int .u64 (d':Int),.slice (some ⟨R,0,none⟩) (n+1) 128] 139):=by rw [hwd];exact bE S1.out
      have q3:aD wd R:=by rw [hwd];exact ((((SR.out.set HRG.out).set HRG.out).set HRG.out).set HRG.out).set HRG.out
      have q4:Fr R w wd:=by rw [hwd];exact cD SF.out hwG
      rw [←hwd]
      have hdr:Below wd.heap.size wd (wd.drewN nq):=((ak.refl _).drewN _).below _
      exact⟨y,r,c,d,c',d',n+1,rfl,by rw [hmod],hyl,by omega,HRP.out,fun h=>by omega,HNT.out,q1,q2,q3.fr hdr,q4.trans (Fr.of_below hdr)⟩
     case measure=>simp [intOf];omega
    ·rw [decide_eq_false t1] at MB
     have HN0:Hid (0<yh→1≤n):=aa (fun _=>Nat.pos_of_ne_zero (fun h0=>t1 (HFI.out h0)))
     clear HNE HN1 HFI
     go_wp2_with fail
     refine MB.mono ?_
     rintro e wn ⟨rfl,hw⟩;rw [hw];clear hw wn MB
     go_wp2
     have R0:=S0
     have RM:=SR
     have FR:=SF
     have HE:=aa (And.intro HTOP.out (And.intro HXP.out (And.intro HLN.out HN0.out)))
     have R5:=bE R0.out (a':=.int .u64 a) (b':=.int .u64 b) (c':=.int .u64 c) (d':=.int .u64 d) (f':=.slice (some ⟨R,0,none⟩) n 128)
     have W5:=aa (And.intro ((((((RM.out.set HRB.out).set HRB.out).set HRB.out).set HRB.out).set HRB.out:aD (((((wc.setCell ⟨w.heap.size,0,none⟩ (.int .u64 a)).setCell ⟨w.heap.size,1,none⟩ (.int .u64 b)).setCell ⟨w.heap.size,2,none⟩ (.int .u64 c)).setCell ⟨w.heap.size,3,none⟩ (.int .u64 d)).setCell ⟨w.heap.size,4,none⟩ (.slice (some ⟨R,0,none⟩) n 128)) R)) (cD (g:=w.heap.size) (u0:=.int .u64 a) (u1:=.int .u64 b) (u2:=.int .u64 c) (u3:=.int .u64 d) (u4:=.slice (some ⟨R,0,none⟩) n 128) FR.out (Nat.le_refl _)))
     generalize ((((wc.setCell ⟨w.heap.size,0,none⟩ (.int .u64 a)).setCell ⟨w.heap.size,1,none⟩ (.int .u64 b)).setCell ⟨w.heap.size,2,none⟩ (.int .u64 c)).setCell ⟨w.heap.size,3,none⟩ (.int .u64 d)).setCell ⟨w.heap.size,4,none⟩ (.slice (some ⟨R,0,none⟩) n 128)=w5 at *
     obtain⟨hk0,hk1,hk2,hk3,hk4⟩:=aw R5
     refine bodyPost_ret (v:=.tuple #[stw a b c d (some ⟨R,0,none⟩) n 128,.int .u64 (x:Int),.int .u64 (y:Int)]) (by simp [stw,results,Tryz.results123,go_sem,hk0,hk1,hk2,hk3,hk4]) rfl ?_
     exact⟨⟨a,b,c,d,n,x,y,rfl,HE.out⟩,W5.out.1,W5.out.2⟩

theorem iW {x t u:Nat}(h:bf x t)(k:bf x u):t=u:=by
 have key:∀t u,t<u→bf x t→bf x u→False:=by
  intro t u hlt h k
  have e:=fc k
  obtain⟨d,rfl⟩:∃d,u=t+(d+1):=⟨u - t - 1,by omega⟩
  have h2:=h.2
  generalize x / 2 ^ (t+(d+1)) / 2=m at e
  rw [e,Nat.pow_add,Nat.mul_assoc,Nat.mul_div_cancel_left _ (Nat.two_pow_pos t),Nat.pow_succ,Nat.mul_assoc,Nat.mul_left_comm] at h2
  omega
 rcases Nat.lt_trichotomy t u with h1|h1|h1
 ·exact (key t u h1 h k).elim
 ·exact h1
 ·exact (key u t h1 k h).elim

theorem kP (T:List Nat)(hT:Limbs T)(n:Nat)(hn:n≤T.length):val (T.drop n)=val T / 18446744073709551616 ^ n:=by
 have h1:=bI T n hn
 have h2:=cf hT n hn
 rw [h1,Nat.add_comm,Nat.mul_add_div (Nat.pow_pos (by omega)),Nat.div_eq_of_lt h2,Nat.add_zero]

def jN (w:World)(x:Nat)(k:Nat)(e:Ending)(w':World):Prop:=
 (∃(g t:Nat) (Z:List Nat),e=.returned (.slice (some ⟨g,0,none⟩) (tr Z).length Z.length)∧w.heap.size≤g∧Blk w' g Z∧Limbs Z∧bf x t∧val Z*2 ^ t=x∧val Z % 2=1∧Z.length≤k)∧Below w.heap.size w w'

theorem ja (vb:Value)(X:List Nat)(w:World)(hA:Arg w vb X)(hT:Tab w)(hX0:val X≠0)(hfew:X.length≤35184372088000) :
  Calls Tryz.prog 75 #[vb] w (jN w (val X) X.length):=by
 obtain⟨a0,cap,rfl,hcc,hcm,hl⟩:=hA.form
 obtain⟨b,off,rfl⟩:∃b off,a0=some ⟨b,off,none⟩:=by
  rcases hl with h0|⟨b,off,e,_⟩
  ·subst h0;exact absurd rfl hX0
  ·exact⟨b,off,e⟩
 have hle:=tr_length_le X
 have H1:=aZ _ cap X w hcc hcm hl
 have A0:=hA.trim
 have H2:=fi _ (tr X) w A0 hT
 rw [←val_tr X] at hX0 ⊢
 have hbw:b<w.heap.size:=hA.block (by
  rcases Nat.eq_zero_or_pos X.length with h|h
  ·rw [List.length_eq_zero_iff.1 h] at hX0;exact absurd rfl hX0
  ·exact h)
 generalize tr X=T at *
 have HX0:=aa hX0
 have HA0:=aa A0
 obtain⟨i0,hi,hz0,hz1,hz2⟩:=info_parts Tryz.infoU
 clear hl hA A0 hT hX0
 go_enter Tryz.func75,Tryz.ntmps75
 go_wp2_with fail
 refine H1.mono ?_
 rintro e wn ⟨rfl,hw⟩;rw [hw];clear hw wn H1
 go_wp2_with fail
 refine H2.mono ?_
 rintro e wn ⟨⟨t,ht,rfl,_,hit⟩,hw⟩;rw [hw];clear hw wn H2
 have HIT:=aa (hit HX0.out)
 have htl:t<64*T.length:=ft HIT.out (by have:=val_lt HA0.out.limbs;rw [Nat.pow_mul];exact this)
 obtain⟨nn,s,en,es,hts,hs64,hts2⟩:∃nn s:Nat,(t:Int) / 64=(nn:Int)∧(t:Int) % 64=(s:Int)∧nn*64+s≤t∧s<64∧t≤nn*64+s:=⟨t / 64,t % 64,by omega,by omega,by omega,by omega,by omega⟩
 have hlow:nn<T.length:=by omega
 obtain⟨R,hR1,hR2,hR3⟩:∃R:Nat,T.length - nn=R∧R≤T.length∧0<R:=⟨_,rfl,by omega,by omega⟩
 have AD:=HA0.out.drop nn (by omega)
 have lD:(T.drop nn).length=R:=by rw [List.length_drop];exact hR1
 rw [hR1] at AD
 have hcne:¬cap=nn:=by omega
 have k0:(0:Int)≤(nn:Int):=by omega
 have k1:(nn:Int)≤(T.length:Int):=by omega
 have k2:(nn:Int)≤(cap:Int):=by omega
 have HAD:=aa (And.intro AD lD)
 clear AD lD hit
 go_wp2_with (at_make;refine wpList_make_full _ rfl _ _ 25 rfl w.heap.size 61 i0 (.int .u64 0) 1 Tryz.underlying25 hi hz0 hz1 .i64 .i64 _ _ R rfl rfl (by omega) (by omega) (by rw [hz2];omega) (by unfold maxLen;omega) (Nat.le_refl _) ?_;intro w3 hown hgrow)
 have hm3:Blk w3 w.heap.size (List.replicate R 0):=Blk.made hown
 have hbel3:Below w.heap.size w w3:=(Below.refl _ _).grown hgrow (Nat.le_refl _) (fun k hk=>by cases hk)
 have HB3:=aa hbel3
 have HSD:=jd w.heap.size 0 R R (List.replicate R 0) _ (T.drop nn) s w3 hm3 (limbs_replicate _) (HAD.out.1.below hbel3) (fun b' off' n' c' e=>by cases e;exact .inl (by omega)) (by simp) (Nat.le_refl _) (by omega) (by rw [HAD.out.2];exact Nat.le_refl _) (by rw [HAD.out.2];exact Nat.le_refl _) hs64
 clear hown hgrow hi hz0 hz1 hz2 hbel3 hm3
 refine HSD.mono ?_
 rintro e w4 ⟨he,Z4,O4,L4,B4,F4,S4⟩;subst he
 have l4:Z4.length=R:=by rw [O4.len,List.length_replicate]
 have HTR:=aZ (some ⟨w.heap.size,0,none⟩) R Z4 w4 (by omega) (by omega) (.inr ⟨_,0,rfl,fun j hj=>by rw [Nat.zero_add];exact B4.cell j hj⟩)
 rw [l4] at HTR
 have HEND:Hid (jN w (val T) X.length (.returned (.slice (some ⟨w.heap.size,0,none⟩) (tr Z4).length R)) w4):=by
  rw [bj l4,kP T HA0.out.limbs nn (by omega),Nat.div_div_eq_div_mul,show (18446744073709551616:Nat) ^ nn*2 ^ s=2 ^ t by rw [show (18446744073709551616:Nat)=2 ^ 64 from rfl,←Nat.pow_mul,←Nat.pow_add];congr 1;omega] at S4
  refine aa ⟨⟨w.heap.size,t,Z4,by rw [l4],Nat.le_refl _,B4,L4,HIT.out,?_,?_,by omega⟩,HB3.out.trans (F4.below (Nat.le_refl _) HB3.out.size)⟩
  ·rw [S4]
   have h1:=Nat.div_add_mod (val T) (2 ^ t)
   rw [HIT.out.1,Nat.add_zero,Nat.mul_comm] at h1
   exact h1
  ·rw [S4];exact HIT.out.2
 clear O4 L4 B4 F4 S4 HSD l4
 go_wp2_with fail
 refine HTR.mono ?_
 rintro e wn ⟨rfl,hw⟩;subst hw
 clear HTR
 go_wp2
 go_ret
 exact HEND.out

theorem rI (vb:Value)(X:List Nat)(t:Nat)(w:World)(hA:Arg w vb X)(hX:0<X.length)(hf1:t / 64+X.length≤35184372088000) :
  Calls Tryz.prog 73 #[vb,.int .i64 t] w fun e w'=>(∃v rs,e=.returned v∧Ans w' w.heap.size v rs∧tr rs=rs∧val rs=val X*2 ^ t)∧Below w.heap.size w w':=by
 obtain⟨a0,cap,rfl,hcc,hcm,hl⟩:=hA.form
 obtain⟨nn,s,en,es,hts,hs64,hts2⟩:∃nn s:Nat,(t:Int) / 64=(nn:Int)∧(t:Int) % 64=(s:Int)∧nn*64+s≤t∧s<64∧t≤nn*64+s:=⟨t / 64,t % 64,by omega,by omega,by omega,by omega,by omega⟩
 obtain⟨K,eK,hK1,hK2⟩:∃K:Nat,(nn:Int)+(X.length:Int)=(K:Int)∧K≤nn+X.length∧nn+X.length≤K:=⟨_,rfl,Nat.le_refl _,Nat.le_refl _⟩
 obtain⟨R,eR,hR1,hR2⟩:∃R:Nat,(K:Int)+1=(R:Int)∧R≤K+1∧K+1≤R:=⟨K+1,by omega,by omega,by omega⟩
 have hnn:nn≤t / 64:=by omega
 have wK:IntKind.i64.wrap (K:Int)=(K:Int):=by rw [IntKind.wrap_i64];omega
 have HA:=aa hA
 obtain⟨i0,hi,hz0,hz1,hz2⟩:=info_parts Tryz.infoU
 have hcne:¬R=nn:=by omega
 have k0:(0:Int)≤(nn:Int):=by omega
 have k1:(nn:Int)≤(R:Int):=by omega
 have k2:(0:Int)≤(K:Int):=by omega
 have k3:(K:Int)<(R:Int):=by omega
 clear hl hA
 go_enter Tryz.func73,Tryz.ntmps73
 go_wp2_with (at_make;refine wpList_make_full _ rfl _ _ 25 rfl w.heap.size 61 i0 (.int .u64 0) 1 Tryz.underlying25 hi hz0 hz1 .i64 .i64 _ _ R rfl rfl (by omega) (by omega) (by rw [hz2];omega) (by unfold maxLen;omega) (Nat.le_refl _) ?_;intro w3 hown hgrow)
 have hm3:Blk w3 w.heap.size (List.replicate R 0):=Blk.made hown
 have hbel3:Below w.heap.size w w3:=(Below.refl _ _).grown hgrow (Nat.le_refl _) (fun k hk=>by cases hk)
 have HB3:=aa hbel3
 have HAD:=HA.out.below hbel3
 have HSU:=gA w.heap.size nn (R - nn) (R - nn) (List.replicate R 0) _ X s w3 hm3 (limbs_replicate _) HAD (fun b' off' n' c' e=>by cases e;exact .inl (by have:=HA.out.block hX;omega)) (by simp;omega) (Nat.le_refl _) (by omega) (by omega) hs64
 clear hown hgrow hi hz0 hz1 hz2 hbel3 hm3 HAD
 refine HSU.mono ?_
 rintro e w4 ⟨cy,Z4,hcy,rfl,O4,L4,B4,F4,S4⟩
 have hcy2:cy<18446744073709551616:=by
  have:=Nat.pow_le_pow_right (n:=2) (by omega) (Nat.le_of_lt hs64)
  omega
 have l4:Z4.length=R:=by rw [O4.len,List.length_replicate]
 have fr4:=B4.free K
 have cl4:=B4.cell K (by omega)
 have B5:=B4.set K cy
 have F5:=F4.setCell K (.int .u64 (cy:Int))
 have l5:(Z4.set K cy).length=R:=by rw [List.length_set];exact l4
 have HV5:Hid (val (Z4.set K cy)=val X*2 ^ t):=by
  refine aa ?_
  have e1:=cM Z4 nn X.length cy (by omega)
  rw [show nn+X.length=K by omega] at e1
  have e2:=au (Z4.set K cy) 0 nn (X.length+1) (by omega)
  rw [show nn+(X.length+1)=R by omega,bj l5,Nat.zero_add,e1] at e2
  have o5:Out Z4 (Z4.set K cy) K (K+1):=(Out.refl _ _ _).set _ _ (by omega) (by omega)
  rw [o5.sv 0 nn (by omega),O4.sv 0 nn (by omega),bn,Nat.zero_add,Nat.mul_comm _ cy,S4] at e2
  rw [e2,Nat.mul_left_comm,show (18446744073709551616:Nat) ^ nn*2 ^ s=2 ^ t by rw [show (18446744073709551616:Nat)=2 ^ 64 from rfl,←Nat.pow_mul,←Nat.pow_add];congr 1;omega]
 obtain⟨w5,hw5⟩:∃w5,w5=w4.setCell ⟨w.heap.size,K,none⟩ (.int .u64 (cy:Int)):=⟨_,rfl⟩
 rw [←hw5] at B5 F5
 have L5:=limbs_set L4 K cy hcy2
 generalize Z4.set K cy=Z5 at *
 generalize Z4.getD K 0=z4 at *
 have HTR:=aZ (some ⟨w.heap.size,0,none⟩) R Z5 w5 (by omega) (by omega) (.inr ⟨_,0,rfl,fun j hj=>by rw [Nat.zero_add];exact B5.cell j hj⟩)
 rw [l5] at HTR
 have HEND:Hid ((∃v rs,Ending.returned (.slice (some ⟨w.heap.size,0,none⟩) (tr Z5).length R)=.returned v∧Ans w5 w.heap.size v rs∧tr rs=rs∧val rs=val X*2 ^ t)∧Below w.heap.size w w5):=by
  have AM:=(Ans.of_blk (base:=w.heap.size) (zs:=Z5) (Nat.le_refl _) B5 List.take_length.symm (Nat.le_refl _) (by omega) L5).trim
  rw [l5] at AM
  exact aa ⟨⟨_,tr Z5,rfl,AM,tr_tr _,by rw [val_tr];exact HV5.out⟩,HB3.out.trans (F5.below (Nat.le_refl _) HB3.out.size)⟩
 rw [hw5] at HTR
 have HW5:=aa hw5
 clear O4 L4 B4 F4 S4 HSU l4 B5 F5 l5 HV5 L5 hw5
 go_wp2_with fail
 refine HTR.mono ?_
 rintro e wn ⟨rfl,hw⟩;rw [hw,←HW5.out];clear hw wn
 clear HTR
 go_wp2
 go_ret
 exact HEND.out

def jb (x y:Nat):Prop:=
 ∀(gx gy base:Nat) (Zx Zy:List Nat) (w:World),Blk w gx Zx→Limbs Zx→Blk w gy Zy→Limbs Zy→gx≠gy→base≤gx→base≤gy→Tab w→0<base→val Zx=x→val Zy=y→Zx.length≤17592186044416→Zy.length≤17592186044416 →
  Calls Tryz.prog 74 #[.slice (some ⟨gx,0,none⟩) (tr Zx).length Zx.length,.slice (some ⟨gy,0,none⟩) (tr Zy).length Zy.length] w fun e w'=>(∃v rs,e=.returned v∧Ans w' base v rs∧tr rs=rs∧val rs=Nat.gcd x y)∧Below base w w'

theorem Blk.arg_tr {w:World}{g:Nat}{Z:List Nat}(h:Blk w g Z)(hl:Limbs Z)(hf:Z.length≤1125899906842624):Arg w (.slice (some ⟨g,0,none⟩) (tr Z).length Z.length) (tr Z):=by
 have:=h.seg_arg hl 0 Z.length Z.length (by omega) (Nat.le_refl _) (by omega) hf
 rw [show seg Z 0 Z.length=Z by simp [seg]] at this
 exact this.trim

theorem jg {w:World}{base:Nat}{v:Value}{zs:List Nat}(h:Ans w base v zs)(h1:1≤zs.length):∃g cap z:Nat,v=.slice (some ⟨g,0,none⟩) zs.length cap∧base≤g∧w.cell? ⟨g,0,none⟩=some (.int .u64 (z:Int))∧Hid (zs.getD 0 0=z):=by
 rcases h.form with ⟨_,h0⟩|⟨g,cap,e,hg,_,_,_,_,hc⟩
 ·rw [h0] at h1;simp at h1
 ·exact⟨g,cap,_,e,hg,hc 0 (by omega),aa rfl⟩

theorem dw {Z:List Nat}(h:val Z<18446744073709551616)(h1:1≤Z.length):Z.getD 0 0=val Z:=by
 match Z with
 | []=>simp at h1
 | a :: r=>
  simp only [val] at h ⊢
  have:val r=0:=by omega
  rw [this]
  simp

theorem kV {x y i j:Nat}(hx:x % 2=1)(hy:y % 2=1):Nat.gcd (x*2 ^ i) (y*2 ^ j)=Nat.gcd x y*2 ^ min i j:=by
 have cop:∀(z k:Nat),z % 2=1→Nat.Coprime z (2 ^ k):=by
  intro z k hz
  refine Nat.Coprime.pow_right k ?_
  have h1:Nat.gcd z 2=Nat.gcd 2 (z % 2):=by rw [Nat.gcd_comm,Nat.gcd_rec,Nat.gcd_comm]
  show Nat.gcd z 2=1
  rw [h1,hz];decide
 rcases Nat.le_total i j with h|h
 ·obtain⟨d,rfl⟩:∃d,j=i+d:=⟨j - i,by omega⟩
  rw [Nat.min_eq_left h,Nat.pow_add,Nat.mul_comm (2 ^ i) (2 ^ d),←Nat.mul_assoc,Nat.gcd_mul_right]
  rw [Nat.Coprime.gcd_mul_right_cancel_right y (cop x d hx).symm]
 ·obtain⟨d,rfl⟩:∃d,i=j+d:=⟨i - j,by omega⟩
  rw [Nat.min_eq_right h,Nat.pow_add,Nat.mul_comm (2 ^ j) (2 ^ d),←Nat.mul_assoc,Nat.gcd_mul_right]
  rw [Nat.Coprime.gcd_mul_right_cancel x (cop y d hy).symm]

def fA (w:World)(G:Nat)(e:Ending)(w':World):Prop:=
 (∃v rs,e=.returned v∧Ans w' w.heap.size v rs∧tr rs=rs∧val rs=G)∧Below w.heap.size w w'

theorem ms (va vb:Value)(X Y:List Nat)(w:World)(hA:Arg w va X)(hA2:Arg w vb Y)(hT:Tab w)(hf1:X.length≤17592186044000)(hf2:Y.length≤17592186044000)(hX:val X≠0)(hY:val Y≠0)
  (hE:∀i j,0<val X / 2 ^ i→0<val Y / 2 ^ j→jb (val X / 2 ^ i) (val Y / 2 ^ j)) :
  Calls Tryz.prog 34 #[va,vb] w (fA w (Nat.gcd (val X) (val Y))):=by
 have Z1:=cL va X w hA
 have Z2:=cL vb Y w hA2
 rw [decide_eq_false hX] at Z1
 rw [decide_eq_false hY] at Z2
 have O1:=ja va X w hA hT hX (by omega)
 have HA1:=aa hA
 have HA2:=aa hA2
 have HT:=aa hT
 have HE:=aa hE
 have HXY:=aa (And.intro hX hY)
 obtain⟨a1,c1,rfl,_,_,_⟩:=hA.form
 obtain⟨a2,c2,rfl,_,_,_⟩:=hA2.form
 have htab:=hT.1
 clear hA hA2 hT hE hX hY
 go_enter Tryz.func34,Tryz.ntmps34
 go_wp2_with fail
 refine Z1.mono ?_
 rintro e wn ⟨rfl,hw⟩;rw [hw];clear hw wn Z1
 go_wp2_with fail
 refine Z2.mono ?_
 rintro e wn ⟨rfl,hw⟩;rw [hw];clear hw wn Z2
 go_wp2_with fail
 refine O1.mono ?_
 rintro e w1 ⟨⟨g1,t1,P,rfl,hg1,B1,L1,I1,e1,m1,l1⟩,hb1⟩
 have O2:=ja _ Y w1 (HA2.out.below hb1) (HT.out.below hb1) HXY.out.2 (by omega)
 have H1:=aa (And.intro B1 (And.intro L1 (And.intro I1 (And.intro e1 m1))))
 have HB1:=aa hb1
 clear O1 B1 L1 I1 e1 m1 hb1
 go_wp2_with fail
 refine O2.mono ?_
 rintro e w2 ⟨⟨g2,t2,R,rfl,hg2,B2,L2,I2,e2,m2,l2⟩,hb2⟩
 have HB2:=aa (HB1.out.trans (hb2.mono HB1.out.size))
 have hE:=HE.out t1 t2
 have v1:val X / 2 ^ t1=val P:=by rw [←H1.out.2.2.2.1,Nat.mul_div_cancel _ (Nat.two_pow_pos _)]
 have v2:val Y / 2 ^ t2=val R:=by rw [←e2,Nat.mul_div_cancel _ (Nat.two_pow_pos _)]
 rw [v1,v2] at hE
 have hsz1:=HB1.out.size
 have EU:=hE (by have:=H1.out.2.2.2.2;omega) (by omega) g1 g2 w.heap.size P R w2 (H1.out.1.below hb2 H1.out.1.lt) H1.out.2.1 B2 L2 (by have:=H1.out.1.lt;omega) hg1 (by omega) (HT.out.below HB2.out) htab rfl rfl (by omega) (by omega)
 have H2:=aa (And.intro I2 (And.intro e2 m2))
 clear O2 B2 L2 I2 e2 m2 hb2 hE v1 v2
 go_wp2_with fail
 refine EU.mono ?_
 rintro e w3 ⟨⟨v3,rs3,rfl,A3,t3,e3⟩,hb3⟩
 have HB3:=aa (HB2.out.trans hb3)
 have T1:=fi _ X w3 (HA1.out.below HB3.out) (HT.out.below HB3.out)
 have T2:=fi _ Y w3 (HA2.out.below HB3.out) (HT.out.below HB3.out)
 have H3:=aa (And.intro A3 (And.intro t3 e3))
 clear EU hb3 A3 t3 e3
 go_wp2_with fail
 refine T1.mono ?_
 rintro e wn ⟨⟨s1,hs1,rfl,_,i1⟩,hw⟩;rw [hw];clear hw wn T1
 go_wp2_with fail
 refine T2.mono ?_
 rintro e wn ⟨⟨s2,hs2,rfl,_,i2⟩,hw⟩;rw [hw];clear hw wn T2
 have q1:=iW (i1 HXY.out.1) H1.out.2.2.1
 have q2:=iW (i2 HXY.out.2) H2.out.1
 obtain⟨t,et,ht1,ht2,ht3⟩:∃t:Nat,min (s1:Int) (s2:Int)=(t:Int)∧t≤s1∧t≤s2∧(t=min s1 s2):=⟨min s1 s2,by omega,by omega,by omega,rfl⟩
 have HG:Hid (Nat.gcd (val P) (val R)*2 ^ t=Nat.gcd (val X) (val Y)):=by
  rw [←H1.out.2.2.2.1,←H2.out.2.1,kV H1.out.2.2.2.2 H2.out.2.2,ht3,q1,q2];exact aa rfl
 have hgp:0<Nat.gcd (val X) (val Y):=Nat.gcd_pos_of_pos_left _ (Nat.pos_of_ne_zero HXY.out.1)
 have hr3:0<rs3.length:=by
  rcases Nat.eq_zero_or_pos rs3.length with h|h
  ·have:val rs3=0:=by rw [List.length_eq_zero_iff.1 h];rfl
   rw [H3.out.2.2] at this
   rw [←HG.out,this,Nat.zero_mul] at hgp
   omega
  ·exact h
 have hlen:t / 64+rs3.length≤35184372088000:=by
  have h1:rs3.length≤P.length:=by
   have h2:=aH rs3 P.length (by
    rw [H3.out.2.2]
    have hp:0<val P:=by have:=H1.out.2.2.2.2;omega
    exact Nat.lt_of_le_of_lt (Nat.gcd_le_left _ hp) (val_lt H1.out.2.1))
   rw [H3.out.2.1] at h2
   exact h2
  have:t≤64*X.length:=by omega
  omega
 have TT:=rI v3 rs3 t w3 (H3.out.1.arg (by omega)) hr3 hlen
 rw [H3.out.2.2,HG.out] at TT
 have HQ:=aa (And.intro q1 (And.intro q2 ht3))
 clear i1 i2 q1 q2 ht3 hgp hr3 hlen
 go_wp2_with fail
 refine TT.mono ?_
 rintro e w4 ⟨⟨v4,rs4,rfl,A4,t4,e4⟩,hb4⟩
 have HX:Hid (fA w (Nat.gcd (val X) (val Y)) (.returned v4) w4):=aa ⟨⟨v4,rs4,rfl,A4.base HB3.out.size,t4,e4⟩,HB3.out.trans (hb4.mono HB3.out.size)⟩
 clear TT A4 t4 e4 hb4
 go_wp2
 go_ret
 exact HX.out

theorem fw {n V A B L:Nat}{p q c:Int}(N:Nat)(hn:N=18446744073709551616 ^ n)(hL:L<N)(hV:V<N)(h:(L:Int)+N*c=p*A - q*B)(R:Nat)(hVe:(V:Int)=p*(A+N*R) - q*B):L=V:=by
 have e:(V:Int)=L+N*(c+p*R):=by
  have:p*((A:Int)+N*R) - q*B=p*A - q*B+N*(p*R):=by grind
  rw [hVe,this,←h];grind
 generalize c+p*R=z at e
 have hz:z=0:=by
  rcases Int.lt_trichotomy z 0 with h1|h1|h1
  ·have:=Int.mul_le_mul_of_nonneg_left (show z≤-1 by omega) (show (0:Int)≤(N:Int) by omega)
   omega
  ·exact h1
  ·have:=Int.mul_le_mul_of_nonneg_left (show 1≤z by omega) (show (0:Int)≤(N:Int) by omega)
   omega
 subst hz
 omega

theorem Ans.front {w:World}{base g cap:Nat}{zs:List Nat}(h:Ans w base (.slice (some ⟨g,0,none⟩) zs.length cap) zs)(n:Nat)(hn:n≤zs.length):Ans w base (.slice (some ⟨g,0,none⟩) n cap) (zs.take n):=by
 refine⟨?_,fun z hz=>h.limbs z (List.mem_of_mem_take hz)⟩
 obtain⟨_,h2⟩:=h.own
 have e:(zs.take n).length=n:=by simp;omega
 refine⟨by simp,?_⟩
 rcases h2 with ⟨h1,_⟩|⟨g',cap',cur,hv,hg,hh,hnn,hcm,hs,ht⟩
 ·cases h1
 ·cases hv
  refine .inr ⟨g,cap,cur,by rw [e],hg,hh,by rw [e];omega,hcm,hs,?_⟩
  rw [e]
  have e2:cur.toList.take (n*1)=(cur.toList.take (zs.length*1)).take n:=by
   rw [List.take_take,Nat.mul_one,Nat.mul_one,Nat.min_eq_left hn]
  rw [e2,ht,List.map_take]

theorem jv {w w':World}{base gx cx gy cy:Nat}{X Y X' Y':List Nat}{a b c d:Nat}{o:Bool}{ov un:Int}(h:be w w' base gx cx gy cy X Y X' Y' Y.length (sgL o a) (sgL o b) (sgL o d) (sgL o c) ov un)(hY:Limbs Y)(hxy:Y.length≤X.length)
  {xh yh x y xl yl Pw:Nat} (hs:LSteps xh yh x y a b c d o) (ha:cV x y a b c d) (eX:val X=xh*Pw+xl) (eY:val Y=yh*Pw+yl) (lx:xl<Pw) (ly:yl<Pw) :
  ∃V W,LTake (val X) (val Y) V W∧val (X'.take Y.length)=V∧val Y'=W:=by
 have hYl:=val_lt hY
 have hX'l:val (X'.take Y.length)<18446744073709551616 ^ Y.length:=Nat.lt_of_lt_of_le (val_lt (fun z hz=>h.ax.limbs z (List.mem_of_mem_take hz))) (Nat.pow_le_pow_right (by omega) (by simp;omega))
 have hY'l:val Y'<18446744073709551616 ^ Y.length:=by rw [←h.ly];exact val_lt h.ay.limbs
 have eXs:val X=val (X.take Y.length)+18446744073709551616 ^ Y.length*val (X.drop Y.length):=by
  conv=>lhs;rw [←List.take_append_drop Y.length X,val_append]
  rw [List.length_take,Nat.min_eq_left hxy]
 have vx:=h.vx
 have vy:=h.vy
 rw [List.take_of_length_le (Nat.le_of_eq h.ly),List.take_length] at vy
 rw [List.take_length] at vx
 obtain⟨N,hN⟩:∃N:Nat,N=18446744073709551616 ^ Y.length:=⟨_,rfl⟩
 have hNI:(18446744073709551616:Int) ^ Y.length=(N:Int):=by rw [hN,Int.natCast_pow];rfl
 rw [hNI] at vx vy
 rw [←hN] at hYl hX'l hY'l eXs
 have key:∃V W:Nat,(sgL o a*(val X:Int) - sgL o b*(val Y:Int)=(V:Int))∧(sgL o d*(val Y:Int) - sgL o c*(val X:Int)=(W:Int))∧LTake (val X) (val Y) V W:=by
  cases o with
  | false=>
   obtain⟨V,W,f1,f2,f3⟩:=lehmer_even (hs.even rfl) hs.hx hs.hy eX eY lx ly ha.dy ha.xy ha.cd ha.c1
   refine⟨V,W,?_,?_,f3⟩
   ·simp only [sgL]
    have:((V+b*val Y:Nat):Int)=((a*val X:Nat):Int):=by rw [f1]
    rw [Int.natCast_add,Int.natCast_mul,Int.natCast_mul] at this
    omega
   ·simp only [sgL]
    have:((W+c*val X:Nat):Int)=((d*val Y:Nat):Int):=by rw [f2]
    rw [Int.natCast_add,Int.natCast_mul,Int.natCast_mul] at this
    omega
  | true=>
   obtain⟨V,W,f1,f2,f3⟩:=lehmer_odd (hs.odd rfl) hs.hx hs.hy eX eY lx ly ha.dy ha.xy ha.ab ha.cd ha.c1
   refine⟨V,W,?_,?_,f3⟩
   ·simp only [sgL]
    have:((V+a*val X:Nat):Int)=((b*val Y:Nat):Int):=by rw [f1]
    rw [Int.natCast_add,Int.natCast_mul,Int.natCast_mul] at this
    rw [Int.neg_mul,Int.neg_mul];omega
   ·simp only [sgL]
    have:((W+d*val Y:Nat):Int)=((c*val X:Nat):Int):=by rw [f2]
    rw [Int.natCast_add,Int.natCast_mul,Int.natCast_mul] at this
    rw [Int.neg_mul,Int.neg_mul];omega
 obtain⟨V,W,k1,k2,k3⟩:=key
 have hVl:V<N:=Nat.lt_of_le_of_lt k3.le hYl
 have hWl:W<N:=Nat.lt_trans k3.lt hVl
 refine⟨V,W,k3,?_,?_⟩
 ·refine fw N hN hX'l hVl vx (val (X.drop Y.length)) ?_
  rw [←k1,eXs,Int.natCast_add,Int.natCast_mul]
 ·have vy':(val Y':Int)+N*un=(-sgL o c)*(val (X.take Y.length):Int) - (-sgL o d)*(val Y:Int):=by rw [vy];grind
  refine fw N hN hY'l hWl vy' (val (X.drop Y.length)) ?_
  rw [←k2,eXs,Int.natCast_add,Int.natCast_mul];grind
end Go.Proofs.YtdbjbbdhlpfhjaaGreatDoor

