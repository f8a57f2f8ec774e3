/- Package dyadic: plus, where none is 0 and the first one's exponent is the lower. -/
import Derived.Test.YtkfbobefkbpdoaaGreatDoorB03
import Derived.Test.YtkfbobefkbpdoaaGreatDoorB02
set_option maxRecDepth 20000
set_option maxHeartbeats 2000000
namespace Go.Proofs.YtkfbobefkbpdoaaGreatDoor
open Go.RowKit
open Lm
attribute [local go_sem ↓] Go.wp_at_zero Go.wp_at_succ

theorem sO {a b:Int}(h:b≤a):decide (a<b)=false:=decide_eq_false (by omega)

theorem jR (b:Bool)(x g:Nat):zz b (x*2 ^ g)=zz b x*2 ^ g:=by
 cases b <;> simp [zz,Int.neg_mul]

theorem jq {M1 M2:Int}{g n:Nat}(h1:blen M1.natAbs≤n)(h2:blen M2.natAbs+g≤n):blen (M1+M2*2 ^ g).natAbs≤n+1:=by
 have h3:blen (M2.natAbs*2 ^ g)≤n:=by
  by_cases h0:M2.natAbs=0
  ·rw [h0,Nat.zero_mul];exact Nat.le_trans (by decide) (Nat.zero_le n)
  ·rw [blen_shl _ _ h0];exact h2
 have h4:=kl n h1 h3
 have h5:(M1+M2*2 ^ g).natAbs≤M1.natAbs+M2.natAbs*2 ^ g:=by
  have:=Int.natAbs_add_le M1 (M2*2 ^ g)
  rw [Int.natAbs_mul,Int.natAbs_pow] at this
  exact this
 have:=blen_mono h5
 omega

theorem mu (b1:Bool)(a1:Option Addr)(c1:Nat)(X:List Nat)(M1 E1:Int)(b2:Bool)(a2:Option Addr)(c2:Nat)(Y:List Nat)(M2 E2:Int)(g:Nat)(w:World)(h1:Nm w b1 (.slice a1 X.length c1) X M1)(h2:Nm w b2 (.slice a2 Y.length c2) Y M2)(f1:X.length≤17592186043904)(f2:Y.length≤17592186043904)(he1:-1152921504606846976≤E1)(he2:E2≤1152921504606846976)(hX:¬X.length=0)(hY:¬Y.length=0)(hg:E2 - E1=(g:Int))(hgap:g≤blen (val X)+1) :
  Calls Tryz.prog 85 #[.agg #[.bool b1,.slice a1 X.length c1,.int .i64 E1],.agg #[.bool b2,.slice a2 Y.length c2,.int .i64 E2]] w (di w (omz (M1+M2*2 ^ g)) (oe (M1+M2*2 ^ g) E1)):=by
 obtain⟨w0,hw0,hb0,k0,k1,k2⟩:=aM w (.cells #[.bool b1,.slice a1 X.length c1,.int .i64 E1] 125) (.cells #[.bool b2,.slice a2 Y.length c2,.int .i64 E2] 125) (.cells #[.bool false,.slice none 0 0,.int .i64 0] 125)
 obtain⟨x0,x1,x2⟩:=tri8 k0
 obtain⟨x3,x4,x5⟩:=tri8 k1
 have HZ1:=bJ b1 a1 X.length c1 w0
 have HZ2:=ab (fun (W:World)=>bJ b2 a2 Y.length c2 W)
 rw [decide_eq_false hX] at HZ1
 rw [decide_eq_false hY] at HZ2
 have HK0:=ab k0
 have HK1:=ab k1
 have HK2:=ab k2
 have HB:=ab hb0
 have HN1:=ab h1
 have HN2:=ab h2
 clear k0 k1 k2 hb0 h1 h2
 have hne:¬E2<E1:=by omega
 have wg:IntKind.i64.wrap (g:Int)=(g:Int):=by rw [IntKind.wrap_i64];omega
 have w1:IntKind.i64.wrap (((blen (val X):Nat):Int)+1)=((blen (val X):Nat):Int)+1:=by
  have:=bO HN1.out.arg.limbs
  rw [IntKind.wrap_i64];omega
 have HI1:Hid ((g:Int)≤((blen (val X):Nat):Int)+1):=ab (by omega)
 have HLE:=ab (fun (W:World) (hg:Below w.heap.size w W)=>dP b1 a1 c1 X W (HN1.out.arg.below hg))
 have HY0:Hid (val Y≠0):=ab (fun h=>by have:=val_zero HN2.out.norm h;rw [this] at hY;exact hY rfl)
 have hbx:=bO HN1.out.arg.limbs
 have hby:=bO HN2.out.arg.limbs
 have HBG:Hid (blen (val Y)+g≤2251799813631000):=ab (by omega)
 have HBS:Hid (blen (M1+M2*2 ^ g).natAbs≤2251799813631001):=ab (jq (by rw [←HN1.out.abs];omega) (by rw [←HN2.out.abs];omega))
 clear hbx hby
 generalize blen (val X)=l at *
 go_enter Tryz.func85,Tryz.ntmps85
 go_wp2_with fail
 refine HZ1.mono ?_
 rintro e t1 ⟨rfl,g1⟩
 have HG0:=ab (ae HB.out g1)
 have HL0:=ab (ac g1 HK0.out)
 have HL1:=ab (ac g1 HK1.out)
 have HL2:=ab (ac g1 HK2.out)
 obtain⟨l3,l4,l5⟩:=tri8 HL1.out
 have HZZ:=HZ2.out t1
 clear g1 HZ1 HZ2 HK0 HK1 HK2 HB x0 x1 x2 x3 x4 x5
 go_wp2_with fail
 refine HZZ.mono ?_
 rintro e t2 ⟨rfl,g2⟩
 have HG:=ab (ae HG0.out g2)
 have HM0:=ab (ac g2 HL0.out)
 have HM1:=ab (ac g2 HL1.out)
 have HM2:=ab (ac g2 HL2.out)
 obtain⟨l0,l1,l2⟩:=tri8 HM0.out
 obtain⟨l3,l4,l5⟩:=tri8 HM1.out
 clear g2 HZZ HL0 HL1 HL2 HG0
 have g0:Below t2.drew.heap.size t2.drew t2.drew:=Below.refl _ _
 have gd:Below w.heap.size w t2.drew:=HG.out.drew
 have HL:=HLE.out t2.drew gd
 have KS:=ab (fun (W:World) (hg:Below t2.drew.heap.size t2.drew W)=>show W.cell? ⟨w.heap.size,0,none⟩=some (.bool b1)∧W.cell? ⟨w.heap.size,1,none⟩=some (.slice a1 X.length c1)∧W.cell? ⟨w.heap.size,2,none⟩=some (.int .i64 E1)∧W.cell? ⟨w.heap.size+1,0,none⟩=some (.bool b2)∧W.cell? ⟨w.heap.size+1,1,none⟩=some (.slice a2 Y.length c2)∧W.cell? ⟨w.heap.size+1,2,none⟩=some (.int .i64 E2) from by
  obtain⟨y0,y1,y2⟩:=tri8 (ac hg (show t2.drew.heap[w.heap.size]?=some (.cells #[.bool b1,.slice a1 X.length c1,.int .i64 E1] 125) from HM0.out))
  obtain⟨y3,y4,y5⟩:=tri8 (ac hg (show t2.drew.heap[w.heap.size+1]?=some (.cells #[.bool b2,.slice a2 Y.length c2,.int .i64 E2] 125) from HM1.out))
  exact⟨y0,y1,y2,y3,y4,y5⟩)
 obtain⟨y0,y1,y2,y3,y4,y5⟩:=KS.out _ g0
 go_wp2
 refine wp_region_held_drew (S:=fun w'=>w'.cell? ⟨w.heap.size,0,none⟩=some (.bool b1)∧w'.cell? ⟨w.heap.size,1,none⟩=some (.slice a1 X.length c1)∧w'.cell? ⟨w.heap.size,2,none⟩=some (.int .i64 E1)∧w'.cell? ⟨w.heap.size+1,0,none⟩=some (.bool b2)∧w'.cell? ⟨w.heap.size+1,1,none⟩=some (.slice a2 Y.length c2)∧w'.cell? ⟨w.heap.size+1,2,none⟩=some (.int .i64 E2)) (by kernel_rfl) (KS.out _ g0) (fun hHeld=>?_)
 refine wpAnyH_take (i:=0) (oi:={ dst:=some 33,op:=Op.move (Operand.tmp 6),type:=3,pos:="ring.go:110",after:=#[],guard:=none }) (v:=.int .i64 (g:Int)) rfl (by kernel_rfl) (by kernel_rfl) (by kernel_rfl) (fun _ _ _ h=>h) (Or.inl ⟨by rfl,fun w9 hSw=>?_⟩) hHeld ?_
 ·(try dsimp only at hSw);go_simp
 try simp only [Act.put,List.setIfInBounds_toArray,List.set_cons_zero,List.set_cons_succ]
 refine wpAnyH_take (i:=1) (oi:={ dst:=some 34,op:=Op.fieldAddr 125 (Operand.tmp 2) 0,type:=0,pos:="ring.go:110",after:=#[],guard:=none }) (v:=.pointer (some ⟨w.heap.size,0,none⟩)) rfl (by kernel_rfl) (by kernel_rfl) (by kernel_rfl) (fun _ _ _ h=>h) (Or.inl ⟨by rfl,fun w9 hSw=>?_⟩) hHeld ?_
 ·(try dsimp only at hSw);go_simp
 try simp only [Act.put,List.setIfInBounds_toArray,List.set_cons_zero,List.set_cons_succ]
 refine wpAnyH_take (i:=2) (oi:={ dst:=some 35,op:=Op.load 122 (Operand.tmp 34),type:=122,pos:="ring.go:110",after:=#[{ on:=1,ground:=Ground.data }],guard:=none }) (v:=.agg #[.bool b1,.slice a1 X.length c1]) rfl (by kernel_rfl) (by kernel_rfl) (by kernel_rfl) (fun _ _ _ h=>h) (Or.inl ⟨by rfl,fun w9 hSw=>?_⟩) hHeld ?_
 ·(try dsimp only at hSw);go_simp
 try simp only [Act.put,List.setIfInBounds_toArray,List.set_cons_zero,List.set_cons_succ]
 refine wpAnyH_ready (rs:=[3]) (by kernel_rfl) (by simp) ?_
 refine AllReadyH.cons rfl (fun K hK=>?_) AllReadyH.nil
 go_simp
 refine HL.mono ?_
 rintro e' t3 ⟨rfl,g1⟩
 refine hK.out _ _ (KS.out _ g1) (fun hHeld2=>?_)
 clear hK
 have i2:decide ((l:Int)+1<(g:Int))=false:=sO HI1.out
 try simp only [Act.put,List.setIfInBounds_toArray,List.set_cons_zero,List.set_cons_succ]
 refine wpAnyH_take (i:=4) (oi:={ dst:=some 37,op:=Op.binOp BinOp.add 3 (Operand.tmp 36) (Operand.const (Value.int IntKind.i64 1)) 3,type:=3,pos:="ring.go:110",after:=#[{ on:=3,ground:=Ground.data }],guard:=none }) (v:=.int .i64 ((l:Int)+1)) rfl (by kernel_rfl) (by kernel_rfl) (by kernel_rfl) (fun _ _ _ h=>h) (Or.inl ⟨by rfl,fun w9 hSw=>?_⟩) hHeld2 ?_
 ·(try dsimp only at hSw);go_simp
 try simp only [Act.put,List.setIfInBounds_toArray,List.set_cons_zero,List.set_cons_succ]
 refine wpAnyH_take (i:=5) (oi:={ dst:=some 38,op:=Op.binOp BinOp.gtr 3 (Operand.tmp 33) (Operand.tmp 37) 3,type:=4,pos:="ring.go:110",after:=#[{ on:=0,ground:=Ground.data },{ on:=4,ground:=Ground.data }],guard:=none }) (v:=.bool false) rfl (by kernel_rfl) (by kernel_rfl) (by kernel_rfl) (fun _ _ _ h=>h) (Or.inl ⟨by rfl,fun w9 hSw=>?_⟩) hHeld2 ?_
 ·(try dsimp only at hSw);go_simp
 try simp only [Act.put,List.setIfInBounds_toArray,List.set_cons_zero,List.set_cons_succ]
 refine wpAnyH_take (i:=6) (oi:={ dst:=some 39,op:=Op.move (Operand.tmp 38),type:=4,pos:="ring.go:110",after:=#[{ on:=5,ground:=Ground.data },{ on:=3,ground:=Ground.chain }],guard:=none }) (v:=.bool false) rfl (by kernel_rfl) (by kernel_rfl) (by kernel_rfl) (fun _ _ _ h=>h) (Or.inl ⟨by rfl,fun w9 hSw=>?_⟩) hHeld2 ?_
 ·(try dsimp only at hSw);go_simp
 try simp only [Act.put,List.setIfInBounds_toArray,List.set_cons_zero,List.set_cons_succ]
 refine wpAnyH_take (i:=7) (oi:={ dst:=some 40,op:=Op.load 125 (Operand.tmp 3),type:=125,pos:="ring.go:110",after:=#[{ on:=6,ground:=Ground.guard }],guard:=some (6,true) }) (v:=undef) rfl (by kernel_rfl) (by kernel_rfl) (by kernel_rfl) (fun _ _ _ h=>h) (Or.inr ⟨by rfl,rfl⟩) hHeld2 ?_
 try simp only [Act.put,List.setIfInBounds_toArray,List.set_cons_zero,List.set_cons_succ]
 refine wpAnyH_take (i:=8) (oi:={ dst:=some 41,op:=Op.call { callee:=Callee.value (Operand.func 104),args:=#[Operand.tmp 40],argTypes:=#[125] },type:=3,pos:="ring.go:110",after:=#[{ on:=7,ground:=Ground.data },{ on:=6,ground:=Ground.chain },{ on:=6,ground:=Ground.guard }],guard:=some (6,true) }) (v:=undef) rfl (by kernel_rfl) (by kernel_rfl) (by kernel_rfl) (fun _ _ _ h=>h) (Or.inr ⟨by rfl,rfl⟩) hHeld2 ?_
 try simp only [Act.put,List.setIfInBounds_toArray,List.set_cons_zero,List.set_cons_succ]
 refine wpAnyH_take (i:=9) (oi:={ dst:=some 42,op:=Op.fieldAddr 125 (Operand.tmp 2) 1,type:=0,pos:="ring.go:110",after:=#[{ on:=6,ground:=Ground.guard }],guard:=some (6,true) }) (v:=undef) rfl (by kernel_rfl) (by kernel_rfl) (by kernel_rfl) (fun _ _ _ h=>h) (Or.inr ⟨by rfl,rfl⟩) hHeld2 ?_
 try simp only [Act.put,List.setIfInBounds_toArray,List.set_cons_zero,List.set_cons_succ]
 refine wpAnyH_take (i:=10) (oi:={ dst:=some 43,op:=Op.load 3 (Operand.tmp 42),type:=3,pos:="ring.go:110",after:=#[{ on:=9,ground:=Ground.data },{ on:=6,ground:=Ground.guard }],guard:=some (6,true) }) (v:=undef) rfl (by kernel_rfl) (by kernel_rfl) (by kernel_rfl) (fun _ _ _ h=>h) (Or.inr ⟨by rfl,rfl⟩) hHeld2 ?_
 try simp only [Act.put,List.setIfInBounds_toArray,List.set_cons_zero,List.set_cons_succ]
 refine wpAnyH_take (i:=11) (oi:={ dst:=some 44,op:=Op.binOp BinOp.sub 3 (Operand.tmp 41) (Operand.tmp 43) 3,type:=3,pos:="ring.go:110",after:=#[{ on:=8,ground:=Ground.data },{ on:=10,ground:=Ground.data },{ on:=6,ground:=Ground.guard }],guard:=some (6,true) }) (v:=undef) rfl (by kernel_rfl) (by kernel_rfl) (by kernel_rfl) (fun _ _ _ h=>h) (Or.inr ⟨by rfl,rfl⟩) hHeld2 ?_
 try simp only [Act.put,List.setIfInBounds_toArray,List.set_cons_zero,List.set_cons_succ]
 refine wpAnyH_take (i:=12) (oi:={ dst:=some 45,op:=Op.binOp BinOp.gtr 3 (Operand.tmp 44) (Operand.const (Value.int IntKind.i64 67108864)) 3,type:=4,pos:="ring.go:110",after:=#[{ on:=11,ground:=Ground.data },{ on:=6,ground:=Ground.guard }],guard:=some (6,true) }) (v:=undef) rfl (by kernel_rfl) (by kernel_rfl) (by kernel_rfl) (fun _ _ _ h=>h) (Or.inr ⟨by rfl,rfl⟩) hHeld2 ?_
 try simp only [Act.put,List.setIfInBounds_toArray,List.set_cons_zero,List.set_cons_succ]
 refine wpAnyH_take (i:=13) (oi:={ dst:=some 46,op:=Op.pick (Operand.tmp 39) (Operand.tmp 45) (Operand.const (Value.bool false)),type:=4,pos:="ring.go:110",after:=#[{ on:=6,ground:=Ground.data },{ on:=12,ground:=Ground.data }],guard:=none }) (v:=.bool false) rfl (by kernel_rfl) (by kernel_rfl) (by kernel_rfl) (fun _ _ _ h=>h) (Or.inl ⟨by rfl,fun w9 hSw=>?_⟩) hHeld2 ?_
 ·(try dsimp only at hSw);go_simp
 try simp only [Act.put,List.setIfInBounds_toArray,List.set_cons_zero,List.set_cons_succ]
 refine wpAnyH_done (by kernel_rfl) ?_ _
 clear hHeld hHeld2
 have G3:=ae gd g1
 have HQ0:=ab (ac g1 (show t2.drew.heap[w.heap.size]?=some (.cells #[.bool b1,.slice a1 X.length c1,.int .i64 E1] 125) from HM0.out))
 have HQ1:=ab (ac g1 (show t2.drew.heap[w.heap.size+1]?=some (.cells #[.bool b2,.slice a2 Y.length c2,.int .i64 E2] 125) from HM1.out))
 have HQ2:=ab (ac g1 (show t2.drew.heap[w.heap.size+1+1]?=some (.cells #[.bool false,.slice none 0 0,.int .i64 0] 125) from HM2.out))
 have HSH:=eZ _ Y (g:Int) t3 (HN2.out.arg.below G3) (by omega) (by omega) (by have:=HBG.out;omega) HY0.out
 rw [fl_up] at HSH
 have HG3:=ab G3
 obtain⟨l3,l4,l5⟩:=tri8 HQ1.out
 clear G3 gd g0 KS HL HM0 HM1 HM2 HG y0 y1 y2 y3 y4 y5 g1
 go_wp2_with fail
 refine HSH.mono ?_
 rintro e t4 ⟨⟨a4,n4,c4,r4,rfl,A4,hn4,v4,q4⟩,g4⟩
 have HV4:=ab (And.intro hn4 (And.intro v4 q4))
 have c1':=ac g4 HQ1.out
 have hfb:=ak c1'
 obtain⟨m3,m4,m5⟩:=tri8 c1'
 have d1:(t4.setCell ⟨w.heap.size+1,1,none⟩ (.slice a4 n4 c4)).heap[w.heap.size+1]?=some (.cells #[.bool b2,.slice a4 n4 c4,.int .i64 E2] 125):=az (k:=1) c1' (.slice a4 n4 c4)
 have d0:(t4.setCell ⟨w.heap.size+1,1,none⟩ (.slice a4 n4 c4)).heap[w.heap.size]?=some (.cells #[.bool b1,.slice a1 X.length c1,.int .i64 E1] 125):=by
  rw [Below.heap_setCell _ _ _ _ (by simp)];exact ac g4 HQ0.out
 have d2:(t4.setCell ⟨w.heap.size+1,1,none⟩ (.slice a4 n4 c4)).heap[w.heap.size+1+1]?=some (.cells #[.bool false,.slice none 0 0,.int .i64 0] 125):=by
  rw [Below.heap_setCell _ _ _ _ (by simp)];exact ac g4 HQ2.out
 have G5:Below w.heap.size w (t4.setCell ⟨w.heap.size+1,1,none⟩ (.slice a4 n4 c4)):=(ae HG3.out g4).setCell (p:=⟨w.heap.size+1,1,none⟩) (by show w.heap.size≤w.heap.size+1;omega) _
 have A5:=A4.off8 (o:=1) (u:=.slice a4 n4 c4) c1' (by decide)
 have hbr:blen (val r4)≤2251799813632000:=by
  rw [v4,blen_shl _ _ HY0.out];have:=HBG.out;omega
 have hr4:r4.length≤35184372088000:=bu q4 rfl (by omega)
 have HA5:=ab A5
 have HD:=ab (And.intro d0 (And.intro d1 d2))
 have HG5:=ab G5
 clear c1' d0 d1 d2 G5 A4 A5 g4 HSH HQ0 HQ1 HQ2 HG3 hn4 v4 q4 hbr
 go_wp2
 obtain⟨wS,hwS⟩:∃wS,t4.setCell ⟨w.heap.size+1,1,none⟩ (.slice a4 n4 c4)=wS:=⟨_,rfl⟩
 rw [hwS] at HA5 HD HG5 ⊢
 obtain⟨d0,d1,d2⟩:=HD.out
 have gdW:Below w.heap.size w wS.drew:=HG5.out.drew
 have g0:Below wS.drew.heap.size wS.drew wS.drew:=Below.refl _ _
 obtain⟨hn4,v4,q4⟩:=HV4.out
 have hnm:Nm wS.drew b2 (.slice a4 r4.length c4) r4 (M2*2 ^ g):=⟨by
  have h9:=(HA5.out.arg (by omega)).below (Below.refl _ _).drew
  rw [hn4] at h9;exact h9,q4,by rw [v4,←HN2.out.val,jR]⟩
 have HTT:=ls b1 a1 c1 X M1 b2 a4 c4 r4 (M2*2 ^ g) wS.drew (HN1.out.below gdW) hnm (by omega) (by omega)
 rw [←hn4] at HTT
 have KS:=ab (fun (W:World) (hg:Below wS.drew.heap.size wS.drew W)=>show W.cell? ⟨w.heap.size,0,none⟩=some (.bool b1)∧W.cell? ⟨w.heap.size,1,none⟩=some (.slice a1 X.length c1)∧W.cell? ⟨w.heap.size,2,none⟩=some (.int .i64 E1)∧W.cell? ⟨w.heap.size+1,0,none⟩=some (.bool b2)∧W.cell? ⟨w.heap.size+1,1,none⟩=some (.slice a4 n4 c4) from by
  obtain⟨y0,y1,y2⟩:=tri8 (ac hg (show wS.drew.heap[w.heap.size]?=some (.cells #[.bool b1,.slice a1 X.length c1,.int .i64 E1] 125) from d0))
  obtain⟨y3,y4,y5⟩:=tri8 (ac hg (show wS.drew.heap[w.heap.size+1]?=some (.cells #[.bool b2,.slice a4 n4 c4,.int .i64 E2] 125) from d1))
  exact⟨y0,y1,y2,y3,y4⟩)
 have so:∀(W:World) (k:Nat) (u:Value) (k':Nat),(W.setCell ⟨w.heap.size+1+1,k,none⟩ u).cell? ⟨w.heap.size,k',none⟩=W.cell? ⟨w.heap.size,k',none⟩:=fun W k u k'=>aZ (by omega)
 have so2:∀(W:World) (k:Nat) (u:Value) (k':Nat),(W.setCell ⟨w.heap.size+1+1,k,none⟩ u).cell? ⟨w.heap.size+1,k',none⟩=W.cell? ⟨w.heap.size+1,k',none⟩:=fun W k u k'=>aZ (by omega)
 have H1:=ab (show wS.drew.heap[w.heap.size+1+1]?=some (.cells #[.bool false,.slice none 0 0,.int .i64 0] 125) from d2)
 have HB:=ab gdW
 obtain⟨y0,y1,y2,y3,y4⟩:=KS.out _ g0
 clear d0 d1 d2 HD gdW hnm HA5 hn4 v4 q4 HG5 m3 m4 m5 hfb
 go_region_held3 (fun w'=>w'.cell? ⟨w.heap.size,0,none⟩=some (.bool b1)∧w'.cell? ⟨w.heap.size,1,none⟩=some (.slice a1 X.length c1)∧w'.cell? ⟨w.heap.size,2,none⟩=some (.int .i64 E1)∧w'.cell? ⟨w.heap.size+1,0,none⟩=some (.bool b2)∧w'.cell? ⟨w.heap.size+1,1,none⟩=some (.slice a4 n4 c4)) (first|with_reducible exact KS.out _ g1|with_reducible exact KS.out _ g0 | (refine⟨?_,?_,?_,?_,?_⟩ <;> (first|rw [so,so,so] | rw [so2,so2,so2]) <;> first|exact (KS.out _ g1).1|exact (KS.out _ g1).2.1|exact (KS.out _ g1).2.2.1|exact (KS.out _ g1).2.2.2.1|exact (KS.out _ g1).2.2.2.2)) (first
  | (go_at_call 106;refine HTT.mono ?_;rintro e' t6 ⟨⟨b6,a6,n6,c6,r6,rfl,hn6,N6⟩,g1⟩;have HN6:=ab hn6;clear hn6;have hz:=ac g1 H1.out;have hf:=ak hz;obtain⟨m0,m1,m2⟩:=tri8 hz))
 have T3:=ay hz (.bool b6) (.slice a6 n6 c6) (.int .i64 E1)
 have T4:=an (ae HB.out g1) (show w.heap.size≤w.heap.size+1+1 by omega) (.bool b6) (.slice a6 n6 c6) (.int .i64 E1)
 have T5:=N6.tri8 hz b6 a6 n6 c6 (.int .i64 E1)
 obtain⟨p0,p1,p2⟩:=tri8 T3
 have HE:=ab (And.intro T5 T4)
 clear T3 T4 T5 so so2 m0 m1 m2 hf KS g0 g1 HTT hz N6
 generalize ((t6.setCell ⟨w.heap.size+1+1,0,none⟩ (.bool b6)).setCell ⟨w.heap.size+1+1,1,none⟩ (.slice a6 n6 c6)).setCell ⟨w.heap.size+1+1,2,none⟩ (.int .i64 E1)=w5 at *
 go_wp2
 refine bodyPost_ret (v:=.tuple #[.agg #[.bool b6,.slice a6 n6 c6,.int .i64 E1],.int .i64 0]) (by simp [results,Tryz.results85,go_sem,p0,p1,p2]) rfl ?_
 exact⟨.inl ⟨_,_,_,_,r6,M1+M2*2 ^ g,_,rfl,HN6.out,HE.out.1,rfl,rfl,by omega,by omega,HE.out.1.len 35184372088800 (by have:=HBS.out;omega)⟩,HE.out.2⟩

theorem kC {a b:Int}(h:a<b):decide (a<b)=true:=decide_eq_true h

theorem rO {M1 M2:Int}{g:Nat}(h0:M2.natAbs≠0)(hg:blen M1.natAbs+1<g)(h1:M1.natAbs % 2=1):g+blen M2.natAbs - 1≤blen (omz (M1+M2*2 ^ g)).natAbs:=by
 have hodd:(M1+M2*2 ^ g).natAbs % 2=1:=by
  obtain⟨k,rfl⟩:∃k,g=k+1:=⟨g - 1,by omega⟩
  have e:M1+M2*2 ^ (k+1)=M1+2*(M2*2 ^ k):=by rw [Int.pow_succ];grind
  rw [e]
  generalize M2*2 ^ k=q
  omega
 rw [(fJ hodd 0).1]
 have l1:=(blen_le_iff M1.natAbs _).1 (Nat.le_refl _)
 have l2:¬M2.natAbs<2 ^ (blen M2.natAbs - 1):=fun h=>by
  have:=(blen_le_iff _ _).2 h
  have:blen M2.natAbs≠0:=fun h=>h0 ((eu _).1 h)
  omega
 have hb0:blen M2.natAbs≠0:=fun h=>h0 ((eu _).1 h)
 have h3:M2.natAbs*2 ^ g≤(M1+M2*2 ^ g).natAbs+M1.natAbs:=by
  have:=Int.natAbs_add_le (M1+M2*2 ^ g) (-M1)
  rw [Int.natAbs_neg,show M1+M2*2 ^ g+-M1=M2*2 ^ g by omega,Int.natAbs_mul,Int.natAbs_pow] at this
  exact this
 refine Nat.le_of_not_lt fun hlt=>?_
 have h4:=(blen_le_iff (M1+M2*2 ^ g).natAbs (g+blen M2.natAbs - 2)).1 (by omega)
 have p1:2 ^ (blen M2.natAbs - 1)*2 ^ g≤M2.natAbs*2 ^ g:=Nat.mul_le_mul_right _ (by omega)
 have e1:2 ^ (blen M2.natAbs - 1)*2 ^ g=2 ^ (g+blen M2.natAbs - 2)*2:=by
  rw [←Nat.pow_add,←Nat.pow_succ];congr 1;omega
 have p2:2 ^ blen M1.natAbs≤2 ^ (g+blen M2.natAbs - 2):=Nat.pow_le_pow_right (by omega) (by omega)
 omega

theorem rX (b1:Bool)(a1:Option Addr)(c1:Nat)(X:List Nat)(M1 E1:Int)(b2:Bool)(a2:Option Addr)(c2:Nat)(Y:List Nat)(M2 E2:Int)(g:Nat)(w:World)(h1:Nm w b1 (.slice a1 X.length c1) X M1)(h2:Nm w b2 (.slice a2 Y.length c2) Y M2)(f1:X.length≤17592186043904)(f2:Y.length≤17592186043904)(he1:-1152921504606846976≤E1)(he2:E2≤1152921504606846976)(hX:¬X.length=0)(hY:¬Y.length=0)(hg:E2 - E1=(g:Int))(hgap:blen (val X)+1<g)(hodd:M1.natAbs % 2=1) :
  Calls Tryz.prog 85 #[.agg #[.bool b1,.slice a1 X.length c1,.int .i64 E1],.agg #[.bool b2,.slice a2 Y.length c2,.int .i64 E2]] w (di w (omz (M1+M2*2 ^ g)) (oe (M1+M2*2 ^ g) E1)):=by
 obtain⟨w0,hw0,hb0,k0,k1,k2⟩:=aM w (.cells #[.bool b1,.slice a1 X.length c1,.int .i64 E1] 125) (.cells #[.bool b2,.slice a2 Y.length c2,.int .i64 E2] 125) (.cells #[.bool false,.slice none 0 0,.int .i64 0] 125)
 obtain⟨x0,x1,x2⟩:=tri8 k0
 obtain⟨x3,x4,x5⟩:=tri8 k1
 have HZ1:=bJ b1 a1 X.length c1 w0
 have HZ2:=ab (fun (W:World)=>bJ b2 a2 Y.length c2 W)
 rw [decide_eq_false hX] at HZ1
 rw [decide_eq_false hY] at HZ2
 have HK0:=ab k0
 have HK1:=ab k1
 have HK2:=ab k2
 have HB:=ab hb0
 have HN1:=ab h1
 have HN2:=ab h2
 clear k0 k1 k2 hb0 h1 h2
 have hne:¬E2<E1:=by omega
 have wg:IntKind.i64.wrap (g:Int)=(g:Int):=by rw [IntKind.wrap_i64];omega
 have hbx:=bO HN1.out.arg.limbs
 have hby:=bO HN2.out.arg.limbs
 have w1:IntKind.i64.wrap (((blen (val X):Nat):Int)+1)=((blen (val X):Nat):Int)+1:=by
  rw [IntKind.wrap_i64];omega
 have i1:((blen (val X):Nat):Int)+1<(g:Int):=by omega
 have HI1:Hid (((blen (val X):Nat):Int)+1<(g:Int)):=ab i1
 have HLE:=ab (fun (W:World) (hg:Below w.heap.size w W)=>dP b1 a1 c1 X W (HN1.out.arg.below hg))
 have HTP:=ab (fun (W:World) (hg:Below w.heap.size w W)=>iy b2 a2 c2 Y E2 W (HN2.out.arg.below hg) (by omega) (by omega))
 have HY0:Hid (val Y≠0):=ab (fun h=>by have:=val_zero HN2.out.norm h;rw [this] at hY;exact hY rfl)
 have HMO:Hid (M1.natAbs=val X∧M2.natAbs=val Y):=ab ⟨HN1.out.abs.symm,HN2.out.abs.symm⟩
 have w2:IntKind.i64.wrap (E2+((blen (val Y):Nat):Int) - 1 - E1)=E2+((blen (val Y):Nat):Int) - 1 - E1:=by rw [IntKind.wrap_i64];omega
 by_cases hbig:67108864<g+blen (val Y) - 1
 ·have HBIG:Hid (67108864<blen (omz (M1+M2*2 ^ g)).natAbs):=ab (by
   have h9:=rO (M1:=M1) (M2:=M2) (g:=g) (by rw [HMO.out.2];exact HY0.out) (by rw [HMO.out.1];exact hgap) hodd
   rw [HMO.out.2] at h9
   omega)
  have i3:(67108864:Int)<E2+((blen (val Y):Nat):Int) - 1 - E1:=by omega
  generalize hd:E2+((blen (val Y):Nat):Int) - 1 - E1=d at *
  have hd2:E2+((blen (val Y):Nat):Int) - 1 - E1=d:=hd
  clear hd hbx hby hbig hgap
  generalize hly:blen (val Y)=ly at *
  clear hly
  generalize blen (val X)=l at *
  go_enter Tryz.func85,Tryz.ntmps85
  go_wp2_with fail
  refine HZ1.mono ?_
  rintro e t1 ⟨rfl,g1⟩
  have HG0:=ab (ae HB.out g1)
  have HL0:=ab (ac g1 HK0.out)
  have HL1:=ab (ac g1 HK1.out)
  have HL2:=ab (ac g1 HK2.out)
  obtain⟨l3,l4,l5⟩:=tri8 HL1.out
  have HZZ:=HZ2.out t1
  clear g1 HZ1 HZ2 HK0 HK1 HK2 HB x0 x1 x2 x3 x4 x5
  go_wp2_with fail
  refine HZZ.mono ?_
  rintro e t2 ⟨rfl,g2⟩
  have HG:=ab (ae HG0.out g2)
  have HM0:=ab (ac g2 HL0.out)
  have HM1:=ab (ac g2 HL1.out)
  have HM2:=ab (ac g2 HL2.out)
  obtain⟨l0,l1,l2⟩:=tri8 HM0.out
  obtain⟨l3,l4,l5⟩:=tri8 HM1.out
  clear g2 HZZ HL0 HL1 HL2 HG0
  have g0:Below t2.drew.heap.size t2.drew t2.drew:=Below.refl _ _
  have gd:Below w.heap.size w t2.drew:=HG.out.drew
  have HL:=HLE.out t2.drew gd
  have HTQ:=ab (fun (W:World) (hg:Below t2.drew.heap.size t2.drew W)=>HTP.out W (ae gd hg))
  have KS:=ab (fun (W:World) (hg:Below t2.drew.heap.size t2.drew W)=>show W.cell? ⟨w.heap.size,0,none⟩=some (.bool b1)∧W.cell? ⟨w.heap.size,1,none⟩=some (.slice a1 X.length c1)∧W.cell? ⟨w.heap.size,2,none⟩=some (.int .i64 E1)∧W.cell? ⟨w.heap.size+1,0,none⟩=some (.bool b2)∧W.cell? ⟨w.heap.size+1,1,none⟩=some (.slice a2 Y.length c2)∧W.cell? ⟨w.heap.size+1,2,none⟩=some (.int .i64 E2) from by
   obtain⟨y0,y1,y2⟩:=tri8 (ac hg (show t2.drew.heap[w.heap.size]?=some (.cells #[.bool b1,.slice a1 X.length c1,.int .i64 E1] 125) from HM0.out))
   obtain⟨y3,y4,y5⟩:=tri8 (ac hg (show t2.drew.heap[w.heap.size+1]?=some (.cells #[.bool b2,.slice a2 Y.length c2,.int .i64 E2] 125) from HM1.out))
   exact⟨y0,y1,y2,y3,y4,y5⟩)
  obtain⟨y0,y1,y2,y3,y4,y5⟩:=KS.out _ g0
  go_wp2
  go_region_held3 (fun w'=>w'.cell? ⟨w.heap.size,0,none⟩=some (.bool b1)∧w'.cell? ⟨w.heap.size,1,none⟩=some (.slice a1 X.length c1)∧w'.cell? ⟨w.heap.size,2,none⟩=some (.int .i64 E1)∧w'.cell? ⟨w.heap.size+1,0,none⟩=some (.bool b2)∧w'.cell? ⟨w.heap.size+1,1,none⟩=some (.slice a2 Y.length c2)∧w'.cell? ⟨w.heap.size+1,2,none⟩=some (.int .i64 E2)) (first|with_reducible exact KS.out _ g1|with_reducible exact KS.out _ ga|with_reducible exact KS.out _ g0) (first
   | (go_at_call 103;refine HL.mono ?_;rintro e' t3 ⟨rfl,ga⟩;have i2:decide ((l:Int)+1<(g:Int))=true:=kC HI1.out)
   | (go_at_call 104;refine (HTQ.out t3 ga).mono ?_;rintro e' t3b ⟨rfl,hbt⟩;have g1:=ae ga hbt))
  have HC1:=ab (ac g1 (show t2.drew.heap[w.heap.size+1+1]?=some (.cells #[.bool false,.slice none 0 0,.int .i64 0] 125) from HM2.out))
  have HGZ:=ab (ae gd g1)
  have hf1:=ak HC1.out
  obtain⟨m0,m1,m2⟩:=tri8 HC1.out
  clear g0 gd KS HL HTQ HM0 HM1 HM2 ga hbt g1
  go_wp2
  have T3:=ay HC1.out (.bool false) (.slice none 0 0) (.int .i64 0)
  have T4:=an HGZ.out (show w.heap.size≤w.heap.size+1+1 by omega) (.bool false) (.slice none 0 0) (.int .i64 0)
  obtain⟨p0,p1,p2⟩:=tri8 T3
  have HE:=ab T4
  clear T3 T4
  generalize ((t3b.setCell ⟨w.heap.size+1+1,0,none⟩ (.bool false)).setCell ⟨w.heap.size+1+1,1,none⟩ (.slice none 0 0)).setCell ⟨w.heap.size+1+1,2,none⟩ (.int .i64 0)=w5 at *
  refine bodyPost_ret (v:=.tuple #[.agg #[.bool false,.slice none 0 0,.int .i64 0],.int .i64 3]) (by simp [results,Tryz.results85,go_sem,p0,p1,p2]) rfl ?_
  exact⟨.inr ⟨rfl,HBIG.out⟩,HE.out⟩
 ·have i3:¬(67108864:Int)<E2+((blen (val Y):Nat):Int) - 1 - E1:=by omega
  have HBG:Hid (blen (val Y)+g≤2251799813631000):=ab (by omega)
  have HBS:Hid (blen (M1+M2*2 ^ g).natAbs≤2251799813631001):=ab (jq (by rw [HMO.out.1];omega) (by rw [HMO.out.2];omega))
  have hgs:g≤67108865:=by omega
  generalize hd:E2+((blen (val Y):Nat):Int) - 1 - E1=d at *
  have hd2:E2+((blen (val Y):Nat):Int) - 1 - E1=d:=hd
  clear hd hbx hby hbig hgap
  generalize hly:blen (val Y)=ly at *
  have HLY:=ab hly
  clear hly
  generalize blen (val X)=l at *
  go_enter Tryz.func85,Tryz.ntmps85
  go_wp2_with fail
  refine HZ1.mono ?_
  rintro e t1 ⟨rfl,g1⟩
  have HG0:=ab (ae HB.out g1)
  have HL0:=ab (ac g1 HK0.out)
  have HL1:=ab (ac g1 HK1.out)
  have HL2:=ab (ac g1 HK2.out)
  obtain⟨l3,l4,l5⟩:=tri8 HL1.out
  have HZZ:=HZ2.out t1
  clear g1 HZ1 HZ2 HK0 HK1 HK2 HB x0 x1 x2 x3 x4 x5
  go_wp2_with fail
  refine HZZ.mono ?_
  rintro e t2 ⟨rfl,g2⟩
  have HG:=ab (ae HG0.out g2)
  have HM0:=ab (ac g2 HL0.out)
  have HM1:=ab (ac g2 HL1.out)
  have HM2:=ab (ac g2 HL2.out)
  obtain⟨l0,l1,l2⟩:=tri8 HM0.out
  obtain⟨l3,l4,l5⟩:=tri8 HM1.out
  clear g2 HZZ HL0 HL1 HL2 HG0
  have g0:Below t2.drew.heap.size t2.drew t2.drew:=Below.refl _ _
  have gd:Below w.heap.size w t2.drew:=HG.out.drew
  have HL:=HLE.out t2.drew gd
  have HTQ:=ab (fun (W:World) (hg:Below t2.drew.heap.size t2.drew W)=>HTP.out W (ae gd hg))
  have KS:=ab (fun (W:World) (hg:Below t2.drew.heap.size t2.drew W)=>show W.cell? ⟨w.heap.size,0,none⟩=some (.bool b1)∧W.cell? ⟨w.heap.size,1,none⟩=some (.slice a1 X.length c1)∧W.cell? ⟨w.heap.size,2,none⟩=some (.int .i64 E1)∧W.cell? ⟨w.heap.size+1,0,none⟩=some (.bool b2)∧W.cell? ⟨w.heap.size+1,1,none⟩=some (.slice a2 Y.length c2)∧W.cell? ⟨w.heap.size+1,2,none⟩=some (.int .i64 E2) from by
   obtain⟨y0,y1,y2⟩:=tri8 (ac hg (show t2.drew.heap[w.heap.size]?=some (.cells #[.bool b1,.slice a1 X.length c1,.int .i64 E1] 125) from HM0.out))
   obtain⟨y3,y4,y5⟩:=tri8 (ac hg (show t2.drew.heap[w.heap.size+1]?=some (.cells #[.bool b2,.slice a2 Y.length c2,.int .i64 E2] 125) from HM1.out))
   exact⟨y0,y1,y2,y3,y4,y5⟩)
  obtain⟨y0,y1,y2,y3,y4,y5⟩:=KS.out _ g0
  go_wp2
  go_region_held3 (fun w'=>w'.cell? ⟨w.heap.size,0,none⟩=some (.bool b1)∧w'.cell? ⟨w.heap.size,1,none⟩=some (.slice a1 X.length c1)∧w'.cell? ⟨w.heap.size,2,none⟩=some (.int .i64 E1)∧w'.cell? ⟨w.heap.size+1,0,none⟩=some (.bool b2)∧w'.cell? ⟨w.heap.size+1,1,none⟩=some (.slice a2 Y.length c2)∧w'.cell? ⟨w.heap.size+1,2,none⟩=some (.int .i64 E2)) (first|with_reducible exact KS.out _ g1|with_reducible exact KS.out _ ga|with_reducible exact KS.out _ g0) (first
   | (go_at_call 103;refine HL.mono ?_;rintro e' t3 ⟨rfl,ga⟩;have i2:decide ((l:Int)+1<(g:Int))=true:=kC HI1.out)
   | (go_at_call 104;refine (HTQ.out t3 ga).mono ?_;rintro e' t3b ⟨rfl,hbt⟩;have g1:=ae ga hbt))
  clear HTQ ga hbt
  rw [←HLY.out] at HBG
  have G3:=ae gd g1
  have HQ0:=ab (ac g1 (show t2.drew.heap[w.heap.size]?=some (.cells #[.bool b1,.slice a1 X.length c1,.int .i64 E1] 125) from HM0.out))
  have HQ1:=ab (ac g1 (show t2.drew.heap[w.heap.size+1]?=some (.cells #[.bool b2,.slice a2 Y.length c2,.int .i64 E2] 125) from HM1.out))
  have HQ2:=ab (ac g1 (show t2.drew.heap[w.heap.size+1+1]?=some (.cells #[.bool false,.slice none 0 0,.int .i64 0] 125) from HM2.out))
  have HSH:=eZ _ Y (g:Int) t3b (HN2.out.arg.below G3) (by omega) (by omega) (by have:=HBG.out;omega) HY0.out
  rw [fl_up] at HSH
  have HG3:=ab G3
  obtain⟨l3,l4,l5⟩:=tri8 HQ1.out
  clear G3 gd g0 KS HL HM0 HM1 HM2 HG y0 y1 y2 y3 y4 y5 g1
  go_wp2_with fail
  refine HSH.mono ?_
  rintro e t4 ⟨⟨a4,n4,c4,r4,rfl,A4,hn4,v4,q4⟩,g4⟩
  have HV4:=ab (And.intro hn4 (And.intro v4 q4))
  have c1':=ac g4 HQ1.out
  have hfb:=ak c1'
  obtain⟨m3,m4,m5⟩:=tri8 c1'
  have d1:(t4.setCell ⟨w.heap.size+1,1,none⟩ (.slice a4 n4 c4)).heap[w.heap.size+1]?=some (.cells #[.bool b2,.slice a4 n4 c4,.int .i64 E2] 125):=az (k:=1) c1' (.slice a4 n4 c4)
  have d0:(t4.setCell ⟨w.heap.size+1,1,none⟩ (.slice a4 n4 c4)).heap[w.heap.size]?=some (.cells #[.bool b1,.slice a1 X.length c1,.int .i64 E1] 125):=by
   rw [Below.heap_setCell _ _ _ _ (by simp)];exact ac g4 HQ0.out
  have d2:(t4.setCell ⟨w.heap.size+1,1,none⟩ (.slice a4 n4 c4)).heap[w.heap.size+1+1]?=some (.cells #[.bool false,.slice none 0 0,.int .i64 0] 125):=by
   rw [Below.heap_setCell _ _ _ _ (by simp)];exact ac g4 HQ2.out
  have G5:Below w.heap.size w (t4.setCell ⟨w.heap.size+1,1,none⟩ (.slice a4 n4 c4)):=(ae HG3.out g4).setCell (p:=⟨w.heap.size+1,1,none⟩) (by show w.heap.size≤w.heap.size+1;omega) _
  have A5:=A4.off8 (o:=1) (u:=.slice a4 n4 c4) c1' (by decide)
  have hbr:blen (val r4)≤2251799813632000:=by
   rw [v4,blen_shl _ _ HY0.out];have:=HBG.out;omega
  have hr4:r4.length≤35184372088000:=bu q4 rfl (by omega)
  have HA5:=ab A5
  have HD:=ab (And.intro d0 (And.intro d1 d2))
  have HG5:=ab G5
  clear c1' d0 d1 d2 G5 A4 A5 g4 HSH HQ0 HQ1 HQ2 HG3 hn4 v4 q4 hbr
  go_wp2
  obtain⟨wS,hwS⟩:∃wS,t4.setCell ⟨w.heap.size+1,1,none⟩ (.slice a4 n4 c4)=wS:=⟨_,rfl⟩
  rw [hwS] at HA5 HD HG5 ⊢
  obtain⟨d0,d1,d2⟩:=HD.out
  have gdW:Below w.heap.size w wS.drew:=HG5.out.drew
  have g0:Below wS.drew.heap.size wS.drew wS.drew:=Below.refl _ _
  obtain⟨hn4,v4,q4⟩:=HV4.out
  have hnm:Nm wS.drew b2 (.slice a4 r4.length c4) r4 (M2*2 ^ g):=⟨by
   have h9:=(HA5.out.arg (by omega)).below (Below.refl _ _).drew
   rw [hn4] at h9;exact h9,q4,by rw [v4,←HN2.out.val,jR]⟩
  have HTT:=ls b1 a1 c1 X M1 b2 a4 c4 r4 (M2*2 ^ g) wS.drew (HN1.out.below gdW) hnm (by omega) (by omega)
  rw [←hn4] at HTT
  have KS:=ab (fun (W:World) (hg:Below wS.drew.heap.size wS.drew W)=>show W.cell? ⟨w.heap.size,0,none⟩=some (.bool b1)∧W.cell? ⟨w.heap.size,1,none⟩=some (.slice a1 X.length c1)∧W.cell? ⟨w.heap.size,2,none⟩=some (.int .i64 E1)∧W.cell? ⟨w.heap.size+1,0,none⟩=some (.bool b2)∧W.cell? ⟨w.heap.size+1,1,none⟩=some (.slice a4 n4 c4) from by
   obtain⟨y0,y1,y2⟩:=tri8 (ac hg (show wS.drew.heap[w.heap.size]?=some (.cells #[.bool b1,.slice a1 X.length c1,.int .i64 E1] 125) from d0))
   obtain⟨y3,y4,y5⟩:=tri8 (ac hg (show wS.drew.heap[w.heap.size+1]?=some (.cells #[.bool b2,.slice a4 n4 c4,.int .i64 E2] 125) from d1))
   exact⟨y0,y1,y2,y3,y4⟩)
  have so:∀(W:World) (k:Nat) (u:Value) (k':Nat),(W.setCell ⟨w.heap.size+1+1,k,none⟩ u).cell? ⟨w.heap.size,k',none⟩=W.cell? ⟨w.heap.size,k',none⟩:=fun W k u k'=>aZ (by omega)
  have so2:∀(W:World) (k:Nat) (u:Value) (k':Nat),(W.setCell ⟨w.heap.size+1+1,k,none⟩ u).cell? ⟨w.heap.size+1,k',none⟩=W.cell? ⟨w.heap.size+1,k',none⟩:=fun W k u k'=>aZ (by omega)
  have H1:=ab (show wS.drew.heap[w.heap.size+1+1]?=some (.cells #[.bool false,.slice none 0 0,.int .i64 0] 125) from d2)
  have HB:=ab gdW
  obtain⟨y0,y1,y2,y3,y4⟩:=KS.out _ g0
  clear d0 d1 d2 HD gdW hnm HA5 hn4 v4 q4 HG5 m3 m4 m5 hfb
  go_region_held3 (fun w'=>w'.cell? ⟨w.heap.size,0,none⟩=some (.bool b1)∧w'.cell? ⟨w.heap.size,1,none⟩=some (.slice a1 X.length c1)∧w'.cell? ⟨w.heap.size,2,none⟩=some (.int .i64 E1)∧w'.cell? ⟨w.heap.size+1,0,none⟩=some (.bool b2)∧w'.cell? ⟨w.heap.size+1,1,none⟩=some (.slice a4 n4 c4)) (first|with_reducible exact KS.out _ g1|with_reducible exact KS.out _ g0 | (refine⟨?_,?_,?_,?_,?_⟩ <;> (first|rw [so,so,so] | rw [so2,so2,so2]) <;> first|exact (KS.out _ g1).1|exact (KS.out _ g1).2.1|exact (KS.out _ g1).2.2.1|exact (KS.out _ g1).2.2.2.1|exact (KS.out _ g1).2.2.2.2)) (first
   | (go_at_call 106;refine HTT.mono ?_;rintro e' t6 ⟨⟨b6,a6,n6,c6,r6,rfl,hn6,N6⟩,g1⟩;have HN6:=ab hn6;clear hn6;have hz:=ac g1 H1.out;have hf:=ak hz;obtain⟨m0,m1,m2⟩:=tri8 hz))
  have T3:=ay hz (.bool b6) (.slice a6 n6 c6) (.int .i64 E1)
  have T4:=an (ae HB.out g1) (show w.heap.size≤w.heap.size+1+1 by omega) (.bool b6) (.slice a6 n6 c6) (.int .i64 E1)
  have T5:=N6.tri8 hz b6 a6 n6 c6 (.int .i64 E1)
  obtain⟨p0,p1,p2⟩:=tri8 T3
  have HE:=ab (And.intro T5 T4)
  clear T3 T4 T5 so so2 m0 m1 m2 hf KS g0 g1 HTT hz N6
  generalize ((t6.setCell ⟨w.heap.size+1+1,0,none⟩ (.bool b6)).setCell ⟨w.heap.size+1+1,1,none⟩ (.slice a6 n6 c6)).setCell ⟨w.heap.size+1+1,2,none⟩ (.int .i64 E1)=w5 at *
  go_wp2
  refine bodyPost_ret (v:=.tuple #[.agg #[.bool b6,.slice a6 n6 c6,.int .i64 E1],.int .i64 0]) (by simp [results,Tryz.results85,go_sem,p0,p1,p2]) rfl ?_
  exact⟨.inl ⟨_,_,_,_,r6,M1+M2*2 ^ g,_,rfl,HN6.out,HE.out.1,rfl,rfl,by omega,by omega,HE.out.1.len 35184372088800 (by have:=HBS.out;omega)⟩,HE.out.2⟩

theorem lI (M1 E1 M2 E2:Int)(g:Nat)(h:E2 - E1=(g:Int)):sm M1 E1 M2 E2=M1+M2*2 ^ g∧min E1 E2=E1:=by
 have e:min E1 E2=E1:=by omega
 unfold sm
 rw [e,show (E1 - E1).toNat=0 by omega,show (E2 - E1).toNat=g by omega,Int.pow_zero,Int.mul_one]
 exact⟨rfl,rfl⟩

theorem Nm.zero_len {w:World}{b:Bool}{v:Value}{X:List Nat}{z:Int}(h:Nm w b v X z)(hX:X.length=0):z=0:=by
 have h1:=h.abs
 rw [List.eq_nil_of_length_eq_zero hX] at h1
 have h2:Lm.val []=0:=rfl
 omega

theorem Nm.odd {w:World}{b:Bool}{v:Value}{X:List Nat}{z E:Int}(h:Nm w b v X z)(hX:¬X.length=0)(n:Nr8 z E):z.natAbs % 2=1:=by
 rcases n with ⟨h0,_⟩|h1
 ·exfalso
  have h1:=h.abs
  rw [h0] at h1
  have:=val_zero h.norm h1
  rw [this] at hX;exact hX rfl
 ·exact h1

theorem kf (b1:Bool)(a1:Option Addr)(c1:Nat)(X:List Nat)(M1 E1:Int)(b2:Bool)(a2:Option Addr)(c2:Nat)(Y:List Nat)(M2 E2:Int)(w:World)(h1:Nm w b1 (.slice a1 X.length c1) X M1)(h2:Nm w b2 (.slice a2 Y.length c2) Y M2)(n1:Nr8 M1 E1)(f1:X.length≤17592186043904)(f2:Y.length≤17592186043904)(he1:-1152921504606846976≤E1)(he2:E2≤1152921504606846976)(he3:-1152921504606846976≤E2)(he4:E1≤1152921504606846976)(hle:E1≤E2∨X.length=0∨Y.length=0) :
  Calls Tryz.prog 85 #[.agg #[.bool b1,.slice a1 X.length c1,.int .i64 E1],.agg #[.bool b2,.slice a2 Y.length c2,.int .i64 E2]] w (di w (omz (sm M1 E1 M2 E2)) (oe (sm M1 E1 M2 E2) (min E1 E2))):=by
 by_cases hX:X.length=0
 ·rw [h1.zero_len hX,(eX M2 E1 E2).1,(eX M2 E1 E2).2]
  exact qD b1 a1 c1 X M1 E1 b2 a2 c2 Y M2 E2 w h1 h2 f2 (by omega) (by omega) hX
 ·by_cases hY:Y.length=0
  ·rw [h2.zero_len hY,lr,Int.min_comm,(eX M1 E2 E1).1,(eX M1 E2 E1).2]
   exact qK b1 a1 c1 X M1 E1 b2 a2 c2 Y M2 E2 w h1 h2 f1 (by omega) (by omega) hX hY
  ·have hle2:E1≤E2:=by
    rcases hle with h|h|h
    ·exact h
    ·exact absurd h hX
    ·exact absurd h hY
   obtain⟨g,hg⟩:∃g:Nat,E2 - E1=(g:Int):=⟨(E2 - E1).toNat,by omega⟩
   rw [(lI M1 E1 M2 E2 g hg).1,(lI M1 E1 M2 E2 g hg).2]
   by_cases hgap:g≤blen (val X)+1
   ·exact mu b1 a1 c1 X M1 E1 b2 a2 c2 Y M2 E2 g w h1 h2 f1 f2 he1 he2 hX hY hg hgap
   ·exact rX b1 a1 c1 X M1 E1 b2 a2 c2 Y M2 E2 g w h1 h2 f1 f2 he1 he2 hX hY hg (by omega) (h1.odd hX n1)

def dq (w:World)(b:Bool)(v:Value)(n:Nat)(ex r M E:Int):Prop:=
 (r=0∧∃X z,n=X.length∧Nm w b v X z∧omz z=M∧oe z ex=E∧-2305843009213693951≤ex∧ex≤2305843009213693952∧X.length≤35184372088800)∨(r=3∧67108864<blen M.natAbs)

theorem dq.tri8 {w:World}{b:Bool}{v:Value}{n0:Nat}{ex r M E:Int}{g:Nat}{p:Bool}{a:Option Addr}{n c:Nat}{e:Int}{t:TypeId}(h:dq w b v n0 ex r M E)(hl:w.heap[g]?=some (.cells #[.bool p,.slice a n c,.int .i64 e] t))(p1:Bool)(a1:Option Addr)(n1 c1:Nat)(u2:Value):dq (((w.setCell ⟨g,0,none⟩ (.bool p1)).setCell ⟨g,1,none⟩ (.slice a1 n1 c1)).setCell ⟨g,2,none⟩ u2) b v n0 ex r M E:=by
 rcases h with ⟨h1,X,z,h2,h3,h4⟩|h
 ·exact .inl ⟨h1,X,z,h2,h3.tri8 hl p1 a1 n1 c1 u2,h4⟩
 ·exact .inr h

theorem di.vals {w w':World}{M E:Int}{e:Ending}(h:di w M E e w'):(∃b a n k ex r,e=.returned (.tuple #[.agg #[.bool b,.slice a n k,.int .i64 ex],.int .i64 r])∧dq w' b (.slice a n k) n ex r M E)∧Below w.heap.size w w':=by
 obtain⟨h|h,hb⟩:=h
 ·obtain⟨b,a,n,k,X,z,ex,h1,h2,h3,h4⟩:=h
  exact⟨⟨b,a,n,k,ex,0,h1,.inl ⟨rfl,X,z,h2,h3,h4⟩⟩,hb⟩
 ·exact⟨⟨_,_,_,_,_,_,h.1,.inr ⟨rfl,h.2⟩⟩,hb⟩

def fm (w:World)(M E:Int)(e:Ending)(w':World):Prop:=(∃b a n k ex r,e=.returned (.tuple #[.agg #[.bool b,.slice a n k,.int .i64 ex],.int .i64 r])∧dq w' b (.slice a n k) n ex r M E)∧Below w.heap.size w w'

theorem rC (b1:Bool)(a1:Option Addr)(c1:Nat)(X:List Nat)(M1 E1:Int)(b2:Bool)(a2:Option Addr)(c2:Nat)(Y:List Nat)(M2 E2:Int)(w:World)(h1:Nm w b1 (.slice a1 X.length c1) X M1)(h2:Nm w b2 (.slice a2 Y.length c2) Y M2)(n1:Nr8 M1 E1)(n2:Nr8 M2 E2)(f1:X.length≤17592186043904)(f2:Y.length≤17592186043904)(he1:-1152921504606846976≤E1)(he2:E2≤1152921504606846976)(he3:-1152921504606846976≤E2)(he4:E1≤1152921504606846976) :
  Calls Tryz.prog 85 #[.agg #[.bool b1,.slice a1 X.length c1,.int .i64 E1],.agg #[.bool b2,.slice a2 Y.length c2,.int .i64 E2]] w (fm w (omz (sm M1 E1 M2 E2)) (oe (sm M1 E1 M2 E2) (min E1 E2))):=by
 by_cases hle:E1≤E2∨X.length=0∨Y.length=0
 ·exact (kf b1 a1 c1 X M1 E1 b2 a2 c2 Y M2 E2 w h1 h2 n1 f1 f2 he1 he2 he3 he4 hle).mono fun e w' h=>h.vals
 ·have hX:¬X.length=0:=fun h=>hle (.inr (.inl h))
  have hY:¬Y.length=0:=fun h=>hle (.inr (.inr h))
  have hlt:E2<E1:=Int.lt_of_not_ge fun h=>hle (.inl h)
  obtain⟨w0,hw0,hb0,k0,k1,k2⟩:=aM w (.cells #[.bool b1,.slice a1 X.length c1,.int .i64 E1] 125) (.cells #[.bool b2,.slice a2 Y.length c2,.int .i64 E2] 125) (.cells #[.bool false,.slice none 0 0,.int .i64 0] 125)
  obtain⟨x0,x1,x2⟩:=tri8 k0
  obtain⟨x3,x4,x5⟩:=tri8 k1
  have HZ1:=bJ b1 a1 X.length c1 w0
  have HZ2:=ab (fun (W:World)=>bJ b2 a2 Y.length c2 W)
  rw [decide_eq_false hX] at HZ1
  rw [decide_eq_false hY] at HZ2
  rw [lr M1 E1 M2 E2,Int.min_comm E1 E2]
  have HPL0:=ab (fun (W:World) (hg:Below w.heap.size w W)=>kf b2 a2 c2 Y M2 E2 b1 a1 c1 X M1 E1 W (h2.below hg) (h1.below hg) n2 f2 f1 he3 he4 he1 he2 (.inl (by omega)))
  generalize oe (sm M2 E2 M1 E1) (min E2 E1)=RE at *
  generalize omz (sm M2 E2 M1 E1)=RM at *
  have HK0:=ab k0
  have HK1:=ab k1
  have HK2:=ab k2
  have HB:=ab hb0
  clear k0 k1 k2 hb0 h1 h2 hle n1 n2
  go_enter Tryz.func85,Tryz.ntmps85
  go_wp2_with fail
  refine HZ1.mono ?_
  rintro e t1 ⟨rfl,g1⟩
  have HG0:=ab (ae HB.out g1)
  have HL0:=ab (ac g1 HK0.out)
  have HL1:=ab (ac g1 HK1.out)
  have HL2:=ab (ac g1 HK2.out)
  obtain⟨l3,l4,l5⟩:=tri8 HL1.out
  have HZZ:=HZ2.out t1
  clear g1 HZ1 HZ2 HK0 HK1 HK2 HB x0 x1 x2 x3 x4 x5
  go_wp2_with fail
  refine HZZ.mono ?_
  rintro e t2 ⟨rfl,g2⟩
  have HG1:=ab (ae HG0.out g2)
  have HM0:=ab (ac g2 HL0.out)
  have HM1:=ab (ac g2 HL1.out)
  have HM2:=ab (ac g2 HL2.out)
  obtain⟨l0,l1,l2⟩:=tri8 HM0.out
  obtain⟨l3,l4,l5⟩:=tri8 HM1.out
  have HPP:=HPL0.out t2 HG1.out
  clear g2 HZZ HL0 HL1 HL2 HG0 HPL0
  go_wp2_with fail
  refine HPP.mono ?_
  intro e t3 h3
  obtain⟨⟨b3,a3,n3,c3,e3,r3,rfl,P3⟩,g3⟩:=h3.vals
  have HC1:=ab (ac g3 HM2.out)
  have HG:=ab (ae HG1.out g3)
  have HPL:=ab P3
  have hf1:=ak HC1.out
  obtain⟨m0,m1,m2⟩:=tri8 HC1.out
  clear g3 HPP P3 h3
  go_wp2
  have T3:=ay HC1.out (.bool b3) (.slice a3 n3 c3) (.int .i64 e3)
  have T4:=an HG.out (show w.heap.size≤w.heap.size+1+1 by omega) (.bool b3) (.slice a3 n3 c3) (.int .i64 e3)
  have T5:=HPL.out.tri8 HC1.out b3 a3 n3 c3 (.int .i64 e3)
  obtain⟨p0,p1,p2⟩:=tri8 T3
  have HE:=ab (And.intro T5 T4)
  clear T3 T4 T5
  generalize ((t3.setCell ⟨w.heap.size+1+1,0,none⟩ (.bool b3)).setCell ⟨w.heap.size+1+1,1,none⟩ (.slice a3 n3 c3)).setCell ⟨w.heap.size+1+1,2,none⟩ (.int .i64 e3)=w5 at *
  refine bodyPost_ret (v:=.tuple #[.agg #[.bool b3,.slice a3 n3 c3,.int .i64 e3],.int .i64 r3]) (by simp [results,Tryz.results85,go_sem,p0,p1,p2]) rfl ?_
  exact⟨⟨_,_,_,_,_,_,rfl,HE.out.1⟩,HE.out.2⟩

theorem iq.res {w:World}{base:Nat}{e:Ending}{M E:Int}(h:iq 3 e)(hb:67108864<blen M.natAbs):aT w base e M E:=
 ⟨false,none,0,0,0,3,h,[],Ans.nil _ _,.inr (.inl ⟨rfl,rfl,rfl,rfl,rfl,hb⟩)⟩

theorem je (b:Bool)(a:Option Addr)(n c:Nat)(ex r M E:Int)(w:World)(hT:Tab w)(h:dq w b (.slice a n c) n ex r M E) :
  Calls Tryz.prog 90 #[.agg #[.bool b,.slice a n c,.int .i64 ex],.int .i64 r] w fun e w'=>aT w' w.heap.size e M E∧Below w.heap.size w w':=by
 rcases h with ⟨rfl,X,z,rfl,h3,h4,h5,h6,h7,h8⟩|⟨rfl,h2⟩
 ·have:=oZ b a c X z ex w h3 hT (by omega) h7 h8
  rw [h4,h5] at this
  exact this
 ·exact (nJ b a n c ex 3 w (by decide)).mono fun e w' h=>⟨h.1.res h2,h.2⟩

theorem cr {w:World}{b:Bool}{v:Value}{X:List Nat}{ex:Int}(hA:Arg w v X)(hf:X.length≤17592186043904)(hE:ah ex=true) :
  blen (omz (zz b (val X))).natAbs≤17592186043904*64∧-1152921504606846976≤oe (zz b (val X)) ex∧oe (zz b (val X)) ex≤1152921504606846976∧Nr8 (omz (zz b (val X))) (oe (zz b (val X)) ex):=by
 have hbz:blen (zz b (val X)).natAbs≤64*X.length:=by rw [aV];exact bO hA.limbs
 have hEr:=(aH ex).1 hE
 have hOE:=dv (zz b (val X)) ex (by omega)
 have h5:=blen_mono (cJ (zz b (val X)).natAbs)
 refine⟨by rw [ct];omega,by omega,by omega,ba _ _⟩

theorem pl (b1:Bool)(a1:Option Addr)(c1:Nat)(X:List Nat)(ex1:Int)(b2:Bool)(a2:Option Addr)(c2:Nat)(Y:List Nat)(ex2:Int)(RM RE:Int)(w:World)(hT:Tab w)(hA:Arg w (.slice a1 X.length c1) X)(hB:Arg w (.slice a2 Y.length c2) Y)(hf:X.length≤17592186043904)(hg:Y.length≤17592186043904)(hE1:ah ex1=true)(hE2:ah ex2=true)
  (hW:∀(W:World) (b3:Bool) (a3:Option Addr) (c3:Nat) (X3:List Nat) (b4:Bool) (a4:Option Addr) (c4:Nat) (X4:List Nat),Tab W→Nm W b3 (.slice a3 X3.length c3) X3 (omz (zz b1 (val X)))→Nm W b4 (.slice a4 X4.length c4) X4 (omz (zz b2 (val Y)))→X3.length≤17592186043904→X4.length≤17592186043904 →
   Calls Tryz.prog 85 #[.agg #[.bool b3,.slice a3 X3.length c3,.int .i64 (oe (zz b1 (val X)) ex1)],.agg #[.bool b4,.slice a4 X4.length c4,.int .i64 (oe (zz b2 (val Y)) ex2)]] W (fm W RM RE)) :
  Calls Tryz.prog 70 #[.agg #[.bool b1,.slice a1 X.length c1,.int .i64 ex1],.agg #[.bool b2,.slice a2 Y.length c2,.int .i64 ex2],.func (Fn.func 85) #[] #[]] w fun e w'=>aT w' w.heap.size e RM RE∧Below w.heap.size w w':=by
 obtain⟨w0,hw0,hb0,k0,k1,k2⟩:=aM w (.cells #[.bool b1,.slice a1 X.length c1,.int .i64 ex1] 43) (.cells #[.bool b2,.slice a2 Y.length c2,.int .i64 ex2] 43) (.cells #[.bool false,.slice none 0 0,.int .i64 0] 43)
 obtain⟨x0,x1,x2⟩:=tri8 k0
 have HP1:=eC b1 a1 c1 X ex1 w0 (hA.below hb0) (hT.below hb0) (by omega) hE1
 have HP2:=ab (fun (W:World) (hh:Below w.heap.size w W)=>eC b2 a2 c2 Y ex2 W (hB.below hh) (hT.below hh) (by omega) hE2)
 have r1:=cr (b:=b1) hA hf hE1
 have r2:=cr (b:=b2) hB hg hE2
 have HR:=ab (And.intro r1.1 r2.1)
 have HK1:=ab k1
 have HK2:=ab k2
 have HB:=ab hb0
 have HT:=ab hT
 have HWK:=ab hW
 clear k0 k1 k2 hb0 hE1 hE2 hA hB hT r1 r2 hW
 generalize oe (zz b1 (val X)) ex1=E1 at *
 generalize omz (zz b1 (val X))=M1 at *
 generalize oe (zz b2 (val Y)) ex2=E2 at *
 generalize omz (zz b2 (val Y))=M2 at *
 go_enter Tryz.func70,Tryz.ntmps70
 go_wp2_with fail
 refine HP1.mono ?_
 rintro e t1 ⟨⟨b3,a3,n3,c3,X3,rfl,rfl,N3,_⟩,g1⟩
 obtain⟨w4,hw4,hb4,h4⟩:=ag t1 (.cells #[.bool b3,.slice a3 X3.length c3,.int .i64 E1] 125)
 have HC0:=ab (ac hb4 (ac g1 HK2.out))
 have HG0:=ab (ae (ae HB.out g1) hb4)
 obtain⟨l0,l1,l2⟩:=tri8 (ac hb4 (ac g1 HK1.out))
 have HPP:=HP2.out w4 HG0.out
 have HN3:=ab (N3.below hb4)
 have HH4:=ab h4
 clear g1 hb4 h4 HP1 HP2 HK1 HK2 HB N3
 go_wp2_with fail
 refine HPP.mono ?_
 rintro e t5 ⟨⟨b6,a6,n6,c6,X6,rfl,rfl,N6,_⟩,g5⟩
 obtain⟨w6,hw6,hb6,h6⟩:=ag t5 (.cells #[.bool b6,.slice a6 X6.length c6,.int .i64 E2] 125)
 have HC2:=ab (ac hb6 (ac g5 HC0.out))
 have HG2:=ab (ae (ae HG0.out g5) hb6)
 obtain⟨u0,u1,u2⟩:=tri8 h6
 obtain⟨u3,u4,u5⟩:=tri8 (ac hb6 (ac g5 HH4.out))
 have N3':=(HN3.out.below g5).below hb6
 have N6':=N6.below hb6
 have HWW:=HWK.out w6 b3 a3 c3 X3 b6 a6 c6 X6 (HT.out.below HG2.out) N3' N6' (N3'.len 17592186043904 HR.out.1) (N6'.len 17592186043904 HR.out.2)
 clear g5 hb6 h6 HPP N3' N6' N6 HN3 HH4 HC0 HG0 HWK
 go_wp2_with fail
 refine HWW.mono ?_
 rintro e t7 ⟨⟨b7,a7,n7,c7,e7,r7,rfl,P7⟩,g7⟩
 have HC3:=ab (ac g7 HC2.out)
 have HG3:=ab (ae HG2.out g7)
 have HAN:=je b7 a7 n7 c7 e7 r7 RM RE t7 (HT.out.below HG3.out) P7
 clear g7 HWW P7 HC2 HG2
 go_wp2_with fail
 refine HAN.mono ?_
 rintro e t8 ⟨⟨b8,a8,n8,c8,e8,r8,rfl,D8⟩,g8⟩
 have HC1:=ab (ac g8 HC3.out)
 have HG:=ab (ae HG3.out g8)
 have HDR:=ab (D8.base HG3.out.size)
 have hf1:=ak HC1.out
 obtain⟨m0,m1,m2⟩:=tri8 HC1.out
 clear g8 HAN D8 HC3 HG3
 go_wp2
 have T3:=ay HC1.out (.bool b8) (.slice a8 n8 c8) (.int .i64 e8)
 have T4:=an HG.out (show w.heap.size≤w.heap.size+1+1 by omega) (.bool b8) (.slice a8 n8 c8) (.int .i64 e8)
 have T5:=HDR.out.tri8 HC1.out (by decide) (.bool b8) (.slice a8 n8 c8) (.int .i64 e8)
 obtain⟨p0,p1,p2⟩:=tri8 T3
 have HE:=ab (And.intro T5 T4)
 clear T3 T4 T5
 generalize ((t8.setCell ⟨w.heap.size+1+1,0,none⟩ (.bool b8)).setCell ⟨w.heap.size+1+1,1,none⟩ (.slice a8 n8 c8)).setCell ⟨w.heap.size+1+1,2,none⟩ (.int .i64 e8)=w5 at *
 refine bodyPost_ret (v:=.tuple #[.agg #[.bool b8,.slice a8 n8 c8,.int .i64 e8],.int .i64 r8]) (by simp [results,Tryz.results70,go_sem,p0,p1,p2]) rfl ?_
 exact⟨⟨_,_,_,_,_,_,rfl,HE.out.1⟩,HE.out.2⟩

theorem sn (b1:Bool)(a1:Option Addr)(c1:Nat)(X:List Nat)(ex1:Int)(b2:Bool)(a2:Option Addr)(c2:Nat)(Y:List Nat)(ex2:Int)(RM RE:Int)(w:World)(hT:Tab w)(hA:Arg w (.slice a1 X.length c1) X)(hB:Arg w (.slice a2 Y.length c2) Y)(hf:X.length≤17592186043904)(hg:Y.length≤17592186043904)(hE1:ah ex1=true)(hE2:ah ex2=true)
  (hW:∀(W:World) (b3:Bool) (a3:Option Addr) (c3:Nat) (X3:List Nat) (b4:Bool) (a4:Option Addr) (c4:Nat) (X4:List Nat),Tab W→Nm W b3 (.slice a3 X3.length c3) X3 (omz (zz b1 (val X)))→Nm W b4 (.slice a4 X4.length c4) X4 (omz (zz b2 (val Y)))→X3.length≤17592186043904→X4.length≤17592186043904 →
   Calls Tryz.prog 71 #[.agg #[.bool b3,.slice a3 X3.length c3,.int .i64 (oe (zz b1 (val X)) ex1)],.agg #[.bool b4,.slice a4 X4.length c4,.int .i64 (oe (zz b2 (val Y)) ex2)]] W (fm W RM RE)) :
  Calls Tryz.prog 70 #[.agg #[.bool b1,.slice a1 X.length c1,.int .i64 ex1],.agg #[.bool b2,.slice a2 Y.length c2,.int .i64 ex2],.func (Fn.func 71) #[] #[]] w fun e w'=>aT w' w.heap.size e RM RE∧Below w.heap.size w w':=by
 obtain⟨w0,hw0,hb0,k0,k1,k2⟩:=aM w (.cells #[.bool b1,.slice a1 X.length c1,.int .i64 ex1] 43) (.cells #[.bool b2,.slice a2 Y.length c2,.int .i64 ex2] 43) (.cells #[.bool false,.slice none 0 0,.int .i64 0] 43)
 obtain⟨x0,x1,x2⟩:=tri8 k0
 have HP1:=eC b1 a1 c1 X ex1 w0 (hA.below hb0) (hT.below hb0) (by omega) hE1
 have HP2:=ab (fun (W:World) (hh:Below w.heap.size w W)=>eC b2 a2 c2 Y ex2 W (hB.below hh) (hT.below hh) (by omega) hE2)
 have r1:=cr (b:=b1) hA hf hE1
 have r2:=cr (b:=b2) hB hg hE2
 have HR:=ab (And.intro r1.1 r2.1)
 have HK1:=ab k1
 have HK2:=ab k2
 have HB:=ab hb0
 have HT:=ab hT
 have HWK:=ab hW
 clear k0 k1 k2 hb0 hE1 hE2 hA hB hT r1 r2 hW
 generalize oe (zz b1 (val X)) ex1=E1 at *
 generalize omz (zz b1 (val X))=M1 at *
 generalize oe (zz b2 (val Y)) ex2=E2 at *
 generalize omz (zz b2 (val Y))=M2 at *
 go_enter Tryz.func70,Tryz.ntmps70
 go_wp2_with fail
 refine HP1.mono ?_
 rintro e t1 ⟨⟨b3,a3,n3,c3,X3,rfl,rfl,N3,_⟩,g1⟩
 obtain⟨w4,hw4,hb4,h4⟩:=ag t1 (.cells #[.bool b3,.slice a3 X3.length c3,.int .i64 E1] 125)
 have HC0:=ab (ac hb4 (ac g1 HK2.out))
 have HG0:=ab (ae (ae HB.out g1) hb4)
 obtain⟨l0,l1,l2⟩:=tri8 (ac hb4 (ac g1 HK1.out))
 have HPP:=HP2.out w4 HG0.out
 have HN3:=ab (N3.below hb4)
 have HH4:=ab h4
 clear g1 hb4 h4 HP1 HP2 HK1 HK2 HB N3
 go_wp2_with fail
 refine HPP.mono ?_
 rintro e t5 ⟨⟨b6,a6,n6,c6,X6,rfl,rfl,N6,_⟩,g5⟩
 obtain⟨w6,hw6,hb6,h6⟩:=ag t5 (.cells #[.bool b6,.slice a6 X6.length c6,.int .i64 E2] 125)
 have HC2:=ab (ac hb6 (ac g5 HC0.out))
 have HG2:=ab (ae (ae HG0.out g5) hb6)
 obtain⟨u0,u1,u2⟩:=tri8 h6
 obtain⟨u3,u4,u5⟩:=tri8 (ac hb6 (ac g5 HH4.out))
 have N3':=(HN3.out.below g5).below hb6
 have N6':=N6.below hb6
 have HWW:=HWK.out w6 b3 a3 c3 X3 b6 a6 c6 X6 (HT.out.below HG2.out) N3' N6' (N3'.len 17592186043904 HR.out.1) (N6'.len 17592186043904 HR.out.2)
 clear g5 hb6 h6 HPP N3' N6' N6 HN3 HH4 HC0 HG0 HWK
 go_wp2_with fail
 refine HWW.mono ?_
 rintro e t7 ⟨⟨b7,a7,n7,c7,e7,r7,rfl,P7⟩,g7⟩
 have HC3:=ab (ac g7 HC2.out)
 have HG3:=ab (ae HG2.out g7)
 have HAN:=je b7 a7 n7 c7 e7 r7 RM RE t7 (HT.out.below HG3.out) P7
 clear g7 HWW P7 HC2 HG2
 go_wp2_with fail
 refine HAN.mono ?_
 rintro e t8 ⟨⟨b8,a8,n8,c8,e8,r8,rfl,D8⟩,g8⟩
 have HC1:=ab (ac g8 HC3.out)
 have HG:=ab (ae HG3.out g8)
 have HDR:=ab (D8.base HG3.out.size)
 have hf1:=ak HC1.out
 obtain⟨m0,m1,m2⟩:=tri8 HC1.out
 clear g8 HAN D8 HC3 HG3
 go_wp2
 have T3:=ay HC1.out (.bool b8) (.slice a8 n8 c8) (.int .i64 e8)
 have T4:=an HG.out (show w.heap.size≤w.heap.size+1+1 by omega) (.bool b8) (.slice a8 n8 c8) (.int .i64 e8)
 have T5:=HDR.out.tri8 HC1.out (by decide) (.bool b8) (.slice a8 n8 c8) (.int .i64 e8)
 obtain⟨p0,p1,p2⟩:=tri8 T3
 have HE:=ab (And.intro T5 T4)
 clear T3 T4 T5
 generalize ((t8.setCell ⟨w.heap.size+1+1,0,none⟩ (.bool b8)).setCell ⟨w.heap.size+1+1,1,none⟩ (.slice a8 n8 c8)).setCell ⟨w.heap.size+1+1,2,none⟩ (.int .i64 e8)=w5 at *
 refine bodyPost_ret (v:=.tuple #[.agg #[.bool b8,.slice a8 n8 c8,.int .i64 e8],.int .i64 r8]) (by simp [results,Tryz.results70,go_sem,p0,p1,p2]) rfl ?_
 exact⟨⟨_,_,_,_,_,_,rfl,HE.out.1⟩,HE.out.2⟩

theorem mz (b1:Bool)(a1:Option Addr)(n1 c1:Nat)(ex1:Int)(b2:Bool)(a2:Option Addr)(n2 c2:Nat)(ex2:Int)(RM RE:Int)(w:World)(h:∀W,Below w.heap.size w W→Calls Tryz.prog 70 #[.agg #[.bool b1,.slice a1 n1 c1,.int .i64 ex1],.agg #[.bool b2,.slice a2 n2 c2,.int .i64 ex2],.func (Fn.func 85) #[] #[]] W fun e w'=>aT w' W.heap.size e RM RE∧Below W.heap.size W w') :
  Calls Tryz.prog 66 #[.agg #[.bool b1,.slice a1 n1 c1,.int .i64 ex1],.agg #[.bool b2,.slice a2 n2 c2,.int .i64 ex2]] w fun e w'=>aT w' w.heap.size e RM RE∧Below w.heap.size w w':=by
 obtain⟨w0,hw0,hb0,k0,k1,k2⟩:=aM w (.cells #[.bool b1,.slice a1 n1 c1,.int .i64 ex1] 43) (.cells #[.bool b2,.slice a2 n2 c2,.int .i64 ex2] 43) (.cells #[.bool false,.slice none 0 0,.int .i64 0] 43)
 obtain⟨x0,x1,x2⟩:=tri8 k0
 obtain⟨x3,x4,x5⟩:=tri8 k1
 have HJ:=h w0 hb0
 have HK2:=ab k2
 have HB:=ab hb0
 clear k0 k1 k2 hb0 h
 go_enter Tryz.func66,Tryz.ntmps66
 go_wp2_with fail
 refine HJ.mono ?_
 rintro e t8 ⟨⟨b8,a8,n8,c8,e8,r8,rfl,D8⟩,g8⟩
 have HC1:=ab (ac g8 HK2.out)
 have HG:=ab (ae HB.out g8)
 have HDR:=ab (D8.base HB.out.size)
 have hf1:=ak HC1.out
 obtain⟨m0,m1,m2⟩:=tri8 HC1.out
 clear g8 HJ D8
 go_wp2
 have T3:=ay HC1.out (.bool b8) (.slice a8 n8 c8) (.int .i64 e8)
 have T4:=an HG.out (show w.heap.size≤w.heap.size+1+1 by omega) (.bool b8) (.slice a8 n8 c8) (.int .i64 e8)
 have T5:=HDR.out.tri8 HC1.out (by decide) (.bool b8) (.slice a8 n8 c8) (.int .i64 e8)
 obtain⟨p0,p1,p2⟩:=tri8 T3
 have HE:=ab (And.intro T5 T4)
 clear T3 T4 T5
 generalize ((t8.setCell ⟨w.heap.size+1+1,0,none⟩ (.bool b8)).setCell ⟨w.heap.size+1+1,1,none⟩ (.slice a8 n8 c8)).setCell ⟨w.heap.size+1+1,2,none⟩ (.int .i64 e8)=w5 at *
 refine bodyPost_ret (v:=.tuple #[.agg #[.bool b8,.slice a8 n8 c8,.int .i64 e8],.int .i64 r8]) (by simp [results,Tryz.results66,go_sem,p0,p1,p2]) rfl ?_
 exact⟨⟨_,_,_,_,_,_,rfl,HE.out.1⟩,HE.out.2⟩

theorem oH (b1:Bool)(a1:Option Addr)(n1 c1:Nat)(ex1:Int)(b2:Bool)(a2:Option Addr)(n2 c2:Nat)(ex2:Int)(RM RE:Int)(w:World)(h:∀W,Below w.heap.size w W→Calls Tryz.prog 70 #[.agg #[.bool b1,.slice a1 n1 c1,.int .i64 ex1],.agg #[.bool b2,.slice a2 n2 c2,.int .i64 ex2],.func (Fn.func 71) #[] #[]] W fun e w'=>aT w' W.heap.size e RM RE∧Below W.heap.size W w') :
  Calls Tryz.prog 44 #[.agg #[.bool b1,.slice a1 n1 c1,.int .i64 ex1],.agg #[.bool b2,.slice a2 n2 c2,.int .i64 ex2]] w fun e w'=>aT w' w.heap.size e RM RE∧Below w.heap.size w w':=by
 obtain⟨w0,hw0,hb0,k0,k1,k2⟩:=aM w (.cells #[.bool b1,.slice a1 n1 c1,.int .i64 ex1] 43) (.cells #[.bool b2,.slice a2 n2 c2,.int .i64 ex2] 43) (.cells #[.bool false,.slice none 0 0,.int .i64 0] 43)
 obtain⟨x0,x1,x2⟩:=tri8 k0
 obtain⟨x3,x4,x5⟩:=tri8 k1
 have HJ:=h w0 hb0
 have HK2:=ab k2
 have HB:=ab hb0
 clear k0 k1 k2 hb0 h
 go_enter Tryz.func44,Tryz.ntmps44
 go_wp2_with fail
 refine HJ.mono ?_
 rintro e t8 ⟨⟨b8,a8,n8,c8,e8,r8,rfl,D8⟩,g8⟩
 have HC1:=ab (ac g8 HK2.out)
 have HG:=ab (ae HB.out g8)
 have HDR:=ab (D8.base HB.out.size)
 have hf1:=ak HC1.out
 obtain⟨m0,m1,m2⟩:=tri8 HC1.out
 clear g8 HJ D8
 go_wp2
 have T3:=ay HC1.out (.bool b8) (.slice a8 n8 c8) (.int .i64 e8)
 have T4:=an HG.out (show w.heap.size≤w.heap.size+1+1 by omega) (.bool b8) (.slice a8 n8 c8) (.int .i64 e8)
 have T5:=HDR.out.tri8 HC1.out (by decide) (.bool b8) (.slice a8 n8 c8) (.int .i64 e8)
 obtain⟨p0,p1,p2⟩:=tri8 T3
 have HE:=ab (And.intro T5 T4)
 clear T3 T4 T5
 generalize ((t8.setCell ⟨w.heap.size+1+1,0,none⟩ (.bool b8)).setCell ⟨w.heap.size+1+1,1,none⟩ (.slice a8 n8 c8)).setCell ⟨w.heap.size+1+1,2,none⟩ (.int .i64 e8)=w5 at *
 refine bodyPost_ret (v:=.tuple #[.agg #[.bool b8,.slice a8 n8 c8,.int .i64 e8],.int .i64 r8]) (by simp [results,Tryz.results44,go_sem,p0,p1,p2]) rfl ?_
 exact⟨⟨_,_,_,_,_,_,rfl,HE.out.1⟩,HE.out.2⟩

theorem dD (v1 v2:Value)(x y:Nat)(w:World)(h1:Num w v1 x)(h2:Num w v2 y) :
  Calls Tryz.prog 60 #[v1,v2] w fun e w'=>e=.returned (.int .i64 (cmpN x y))∧aR w w':=by
 obtain⟨Z,hA1,hZ,hZt,rfl,hZl⟩:=h1
 obtain⟨Y,hA2,hY,hYt,rfl,hYl⟩:=h2
 obtain⟨a1,c1,rfl,hc1,hm1,L1⟩:=hA1.form
 obtain⟨a2,c2,rfl,hc2,hm2,L2⟩:=hA2.form
 clear hA1 hA2
 by_cases hl:Z.length=Y.length
 ·have HL:=ab hl.symm
  rw [←hl] at hc2 hYl ⊢
  clear hl
  have hne:((Z.length:Int) != (Z.length:Int))=false:=by simp
  go_enter Tryz.func60,Tryz.ntmps60
  go_wp2
  go_loopw [5] (fun i wr=>∃k:Nat,k≤Z.length∧i=.int .i64 ((k:Int) - 1)∧aR w wr∧cmpN (vb 4294967296 (Z.take k)) (vb 4294967296 (Y.take k))=cmpN (vb 4294967296 Z) (vb 4294967296 Y)) (fun i _=>(intOf i+1).toNat)
  case atStart=>exact⟨Z.length,Nat.le_refl _,by go_num,aR.refl _,by rw [List.take_length,←HL.out,List.take_length]⟩
  case round=>
   obtain⟨k,hk,rfl,hs,hv⟩:=hrel
   have HV:=ab hv
   have HS:=ab hs
   clear hv
   by_cases hk0:k=0
   ·subst hk0
    have HN:Hid (cmpN (vb 4294967296 Z) (vb 4294967296 Y)=0):=ab (by rw [←HV.out];rfl)
    clear HV L1 L2 hs
    go_wp2
    go_ret
    rw [HN.out]
    exact⟨rfl,HS.out⟩
   ·obtain⟨j,rfl⟩:∃j,k=j+1:=⟨k - 1,by omega⟩
    rcases L1.below (hs.below _) with h0|⟨b,off,rfl,hcell⟩
    ·simp [h0] at hk
    ·rcases L2.below (hs.below _) with h0|⟨b',off',rfl,hcell'⟩
     ·have:=HL.out;simp [h0] at this;omega
     ·have hck:=hcell j (by omega)
      have hck':=hcell' j (by have:=HL.out;omega)
      have ej:((j+1:Nat):Int) - 1=(j:Int):=by omega
      have ej2:(j:Int)+1 - 1=(j:Int):=by omega
      rw [ej]
      have hi1:(0:Int)≤(j:Int):=by omega
      have hi2:(j:Int)<(Z.length:Int):=by omega
      rcases Nat.lt_trichotomy (Z.getD j 0) (Y.getD j 0) with hxy|hxy|hxy
      ·have HN:Hid (cmpN (vb 4294967296 Z) (vb 4294967296 Y)=-1):=ab (by rw [←HV.out,vcmp_top hZ hY _ (by omega),cmpN_lt hxy])
       generalize Z.getD j 0=a at *
       generalize Y.getD j 0=c at *
       have i1:(a:Int)<(c:Int):=by omega
       clear hcell hcell' HV L1 L2 hs
       go_wp2
       go_quiet (fail)
       go_wp2
       go_ret
       rw [HN.out]
       exact⟨rfl,HS.out.drewN _⟩
      ·have HN:Hid (cmpN (vb 4294967296 (Z.take j)) (vb 4294967296 (Y.take j))=cmpN (vb 4294967296 Z) (vb 4294967296 Y)):=ab (by rw [←HV.out,vcmp_same _ hxy])
       rw [hxy] at hck
       generalize Y.getD j 0=c at *
       have hd1:decide ((c:Int)<(c:Int))=false:=decide_eq_false (by omega)
       clear hcell hcell' HV L1 L2 hs hxy
       go_wp2
       go_quiet (fail)
       go_wp2
       go_quiet (fail)
       go_wp2
       go_roundw
       case rel=>exact⟨j,by omega,by go_num,by first|exact (HS.out.drewN _).drewN _|exact HS.out.drewN _,HN.out⟩
       case measure=>simp [intOf]
      ·have HN:Hid (cmpN (vb 4294967296 Z) (vb 4294967296 Y)=1):=ab (by rw [←HV.out,vcmp_top hZ hY _ (by omega),cmpN_gt hxy])
       generalize Z.getD j 0=a at *
       generalize Y.getD j 0=c at *
       have i1:(c:Int)<(a:Int):=by omega
       have hd1:decide ((a:Int)<(c:Int))=false:=decide_eq_false (by omega)
       clear hcell hcell' HV L1 L2 hs
       go_wp2
       go_quiet (fail)
       go_wp2
       go_quiet (fail)
       go_wp2
       go_ret
       rw [HN.out]
       exact⟨rfl,by first|exact (HS.out.drewN _).drewN _|exact HS.out.drewN _⟩
 ·have hne:((Z.length:Int) != (Y.length:Int))=true:=by rw [bne_iff_ne];omega
  rcases Nat.lt_or_gt_of_ne hl with hlt|hlt
  ·rw [cmpN_lt (vb_shorter hZ hYt hlt)]
   have i1:(Z.length:Int)<(Y.length:Int):=by omega
   clear L1 L2
   go_enter Tryz.func60,Tryz.ntmps60
   go_wp2
   go_ret
   exact⟨rfl,aR.refl _⟩
  ·rw [cmpN_gt (vb_shorter hY hZt hlt)]
   have hd1:decide ((Z.length:Int)<(Y.length:Int))=false:=decide_eq_false (by omega)
   have i1:(Y.length:Int)<(Z.length:Int):=by omega
   clear L1 L2
   go_enter Tryz.func60,Tryz.ntmps60
   go_wp2
   go_ret
   exact⟨rfl,aR.refl _⟩

theorem dY {ds:List Nat}(hd:Digs 4294967296 ds)(ht:tr ds=ds)(L:Nat)(hb:blen (vb 4294967296 ds)≤32*L):ds.length≤L:=by
 refine Nat.le_of_not_lt fun hlt=>?_
 obtain⟨n,hn⟩:∃n,ds.length=n+1:=⟨ds.length - 1,by omega⟩
 have h1:=blen_vb hd ht n hn
 have h2:=blen_half _ (tr_last' ds n ht hn)
 omega

theorem cl {ds:List Nat}(n:Nat)(h:ds.length≤n):vb 4294967296 (ds.take n)=vb 4294967296 ds:=by rw [List.take_of_length_le h]

theorem jI {X Y out:List Nat}(hX:Digs 4294967296 X)(hY:Digs 4294967296 Y)(n cy:Nat)(h1:X.length≤n)(h2:Y.length≤n)(ho:out.length=n+1)
  (h:vb 4294967296 (out.take (n+1))+cy*4294967296 ^ (n+1)=vb 4294967296 (X.take (n+1))+vb 4294967296 (Y.take (n+1))):vb 4294967296 out=vb 4294967296 X+vb 4294967296 Y:=by
 rw [cl _ (by omega),cl _ (by omega),cl _ (by omega)] at h
 have a:=vb_take_lt hX n
 have b:=vb_take_lt hY n
 rw [cl _ h1] at a
 rw [cl _ h2] at b
 rcases Nat.eq_zero_or_pos cy with h0|h0
 ·subst h0;omega
 ·exfalso
  have:=Nat.mul_le_mul_right (4294967296 ^ (n+1)) h0
  rw [Nat.pow_succ,B_pow] at this h
  omega

theorem jf (v1 v2:Value)(x y:Nat)(w:World)(h1:Num w v1 x)(h2:Num w v2 y)(f1:blen x≤1125899906840000)(f2:blen y≤1125899906840000) :
  Calls Tryz.prog 99 #[v1,v2] w fun e w'=>(∃v',e=.returned v'∧Num w' v' (x+y)∧New w.heap.size v')∧Below w.heap.size w w':=by
 obtain⟨X,A1,hX,hXt,rfl,_⟩:=h1
 obtain⟨Y,A2,hY,hYt,rfl,_⟩:=h2
 have lX:=dY hX hXt 35184372088750 (by omega)
 have lY:=dY hY hYt 35184372088750 (by omega)
 obtain⟨a1,c1,rfl,hc1,hm1,_⟩:=A1.form
 obtain⟨a2,c2,rfl,hc2,hm2,_⟩:=A2.form
 obtain⟨i0,hi,hz0,hz1,hz2⟩:=info_parts Tryz.infoU
 clear f1 f2 hXt hYt
 by_cases hl:X.length<Y.length
 ·have i1:(X.length:Int)<(Y.length:Int):=by omega
  go_enter Tryz.func99,Tryz.ntmps99
  go_wp2_with (at_make;refine wpList_make_full _ rfl _ _ 27 rfl w.heap.size 51 i0 (.int .u64 0) 1 Tryz.underlying27 hi hz0 hz1 .i64 .i64 _ _ (Y.length+1) rfl rfl (by omega) (by omega) (by rw [hz2];omega) (by unfold maxLen;omega) (Nat.le_refl _) ?_;intro w1 hown hgrow)
  have hb1:=Blk.made hown
  have hbel:Below w.heap.size w w1:=(Below.refl _ _).grown hgrow (Nat.le_refl _) (fun k hk=>by cases hk)
  clear hown hgrow hi hz0 hz1 hz2
  go_loopw [7,8] (fun c i wr=>∃(k cy:Nat) (out:List Nat),k≤Y.length+1∧i=.int .i64 k∧c=.int .u64 cy∧cy≤1∧out.length=Y.length+1∧Digs 4294967296 out∧Blk wr w.heap.size out∧Below w.heap.size w wr ∧
    vb 4294967296 (out.take k)+cy*4294967296 ^ k=vb 4294967296 (X.take k)+vb 4294967296 (Y.take k)) (fun _ i _=>Y.length+1 - (intOf i).toNat)
  case atStart=>exact⟨0,0,_,Nat.zero_le _,rfl,rfl,by omega,by simp,digs_replicate (by omega) _,hb1,hbel,by simp [vb]⟩
  case round=>
   obtain⟨k,cy,out,hk,rfl,rfl,hcy,hlen,hdo,hblk,hbl,hval⟩:=hrel
   clear hb1 hbel
   have HB:=ab hblk
   have HL:=ab hbl
   by_cases hkl:k≤Y.length
   ·have H1:=dp _ X k wr (A1.below hbl)
    have H2:=dp _ Y k wr (A2.below hbl)
    have hfr:=hblk.free k
    have hco:=hblk.cell k (by omega)
    generalize out.getD k 0=o at *
    have z1:=dig_lt (by omega) hX k
    have z2:=dig_lt (by omega) hY k
    have HV:=ab (vb_add_step X Y out k cy (by omega) hval)
    generalize X.getD k 0=x at *
    generalize Y.getD k 0=y at *
    have e0:(x:Int)+(y:Int)+(cy:Int)=((x+y+cy:Nat):Int):=by omega
    have b0:x+y+cy<18446744073709551616:=by omega
    have e1:((x+y+cy:Nat):Int) % 4294967296=(((x+y+cy) % 4294967296:Nat):Int):=by omega
    have e2:((x+y+cy:Nat):Int) / 4294967296=(((x+y+cy) / 4294967296:Nat):Int):=by omega
    have b1:(x+y+cy) % 4294967296<4294967296:=by omega
    have b2:(x+y+cy) / 4294967296≤1:=by omega
    generalize (x+y+cy) % 4294967296=m at *
    generalize (x+y+cy) / 4294967296=d at *
    generalize x+y+cy=s at *
    clear hval hblk hbl A1 A2 hX hY
    go_wp2_with fail
    refine H1.mono ?_
    rintro e w2 ⟨rfl,rfl⟩
    go_wp2_with fail
    refine H2.mono ?_
    rintro e w2 ⟨rfl,rfl⟩
    clear H1 H2
    go_wp2
    go_roundw
    case rel=>exact⟨k+1,d,out.set k m,by omega,by go_num,rfl,b2,by simp;omega,digs_set hdo _ _ b1,HB.out.set k m,HL.out.setCell (Nat.le_refl _) _,HV.out⟩
    case measure=>simp [intOf];omega
   ·have ek:k=Y.length+1:=by omega
    subst ek
    have hve:=jI hX hY Y.length cy (by omega) (by omega) hlen hval
    have hA:=Ans.of_blk (base:=w.heap.size) (zs:=out) (Nat.le_refl _) hblk List.take_length.symm (Nat.le_refl _) (by omega) (digs_limbs hdo)
    have H:=fG w.heap.size _ _ _ (hA.arg (by omega)) hdo (by omega) (New.at _ _ _ _ _ (Nat.le_refl _))
    rw [hlen,hve] at H
    clear hval hblk hbl A1 A2 hX hY hA hve HB
    have hd1:decide ((Y.length:Int)+1≤(Y.length:Int))=false:=decide_eq_false (by omega)
    go_wp2_with fail
    refine H.mono ?_
    rintro e w2 ⟨⟨v',rfl,hnum,hnw⟩,rfl⟩
    have HN:=ab (And.intro hnum hnw)
    clear hnum hnw H
    go_wp2
    go_ret
    exact⟨⟨v',rfl,HN.out.1,HN.out.2⟩,HL.out⟩
 ·have hd0:decide ((X.length:Int)<(Y.length:Int))=false:=decide_eq_false (by omega)
  go_enter Tryz.func99,Tryz.ntmps99
  go_wp2_with (at_make;refine wpList_make_full _ rfl _ _ 27 rfl w.heap.size 51 i0 (.int .u64 0) 1 Tryz.underlying27 hi hz0 hz1 .i64 .i64 _ _ (X.length+1) rfl rfl (by omega) (by omega) (by rw [hz2];omega) (by unfold maxLen;omega) (Nat.le_refl _) ?_;intro w1 hown hgrow)
  have hb1:=Blk.made hown
  have hbel:Below w.heap.size w w1:=(Below.refl _ _).grown hgrow (Nat.le_refl _) (fun k hk=>by cases hk)
  clear hown hgrow hi hz0 hz1 hz2
  go_loopw [7,8] (fun c i wr=>∃(k cy:Nat) (out:List Nat),k≤X.length+1∧i=.int .i64 k∧c=.int .u64 cy∧cy≤1∧out.length=X.length+1∧Digs 4294967296 out∧Blk wr w.heap.size out∧Below w.heap.size w wr ∧
    vb 4294967296 (out.take k)+cy*4294967296 ^ k=vb 4294967296 (X.take k)+vb 4294967296 (Y.take k)) (fun _ i _=>X.length+1 - (intOf i).toNat)
  case atStart=>exact⟨0,0,_,Nat.zero_le _,rfl,rfl,by omega,by simp,digs_replicate (by omega) _,hb1,hbel,by simp [vb]⟩
  case round=>
   obtain⟨k,cy,out,hk,rfl,rfl,hcy,hlen,hdo,hblk,hbl,hval⟩:=hrel
   clear hb1 hbel
   have HB:=ab hblk
   have HL:=ab hbl
   by_cases hkl:k≤X.length
   ·have H1:=dp _ X k wr (A1.below hbl)
    have H2:=dp _ Y k wr (A2.below hbl)
    have hfr:=hblk.free k
    have hco:=hblk.cell k (by omega)
    generalize out.getD k 0=o at *
    have z1:=dig_lt (by omega) hX k
    have z2:=dig_lt (by omega) hY k
    have HV:=ab (vb_add_step X Y out k cy (by omega) hval)
    generalize X.getD k 0=x at *
    generalize Y.getD k 0=y at *
    have e0:(x:Int)+(y:Int)+(cy:Int)=((x+y+cy:Nat):Int):=by omega
    have b0:x+y+cy<18446744073709551616:=by omega
    have e1:((x+y+cy:Nat):Int) % 4294967296=(((x+y+cy) % 4294967296:Nat):Int):=by omega
    have e2:((x+y+cy:Nat):Int) / 4294967296=(((x+y+cy) / 4294967296:Nat):Int):=by omega
    have b1:(x+y+cy) % 4294967296<4294967296:=by omega
    have b2:(x+y+cy) / 4294967296≤1:=by omega
    generalize (x+y+cy) % 4294967296=m at *
    generalize (x+y+cy) / 4294967296=d at *
    generalize x+y+cy=s at *
    clear hval hblk hbl A1 A2 hX hY
    go_wp2_with fail
    refine H1.mono ?_
    rintro e w2 ⟨rfl,rfl⟩
    go_wp2_with fail
    refine H2.mono ?_
    rintro e w2 ⟨rfl,rfl⟩
    clear H1 H2
    go_wp2
    go_roundw
    case rel=>exact⟨k+1,d,out.set k m,by omega,by go_num,rfl,b2,by simp;omega,digs_set hdo _ _ b1,HB.out.set k m,HL.out.setCell (Nat.le_refl _) _,HV.out⟩
    case measure=>simp [intOf];omega
   ·have ek:k=X.length+1:=by omega
    subst ek
    have hve:=jI hX hY X.length cy (by omega) (by omega) hlen hval
    have hA:=Ans.of_blk (base:=w.heap.size) (zs:=out) (Nat.le_refl _) hblk List.take_length.symm (Nat.le_refl _) (by omega) (digs_limbs hdo)
    have H:=fG w.heap.size _ _ _ (hA.arg (by omega)) hdo (by omega) (New.at _ _ _ _ _ (Nat.le_refl _))
    rw [hlen,hve] at H
    clear hval hblk hbl A1 A2 hX hY hA hve HB
    have hd1:decide ((X.length:Int)+1≤(X.length:Int))=false:=decide_eq_false (by omega)
    go_wp2_with fail
    refine H.mono ?_
    rintro e w2 ⟨⟨v',rfl,hnum,hnw⟩,rfl⟩
    have HN:=ab (And.intro hnum hnw)
    clear hnum hnw H
    go_wp2
    go_ret
    exact⟨⟨v',rfl,HN.out.1,HN.out.2⟩,HL.out⟩

theorem lp (v1 v2:Value)(x y:Nat)(w:World)(h1:Num w v1 x)(h2:Num w v2 y)(f1:blen x≤1125899906840000)(f2:blen y≤1125899906840000) :
  Calls Tryz.prog 99 #[v1,v2] w fun e w'=>(∃v',e=.returned v'∧Num w' v' (x+y))∧Below w.heap.size w w':=
 (jf v1 v2 x y w h1 h2 f1 f2).mono fun _ _ ⟨⟨v',h1,h2,_⟩,h3⟩=>⟨⟨v',h1,h2⟩,h3⟩

theorem rU {X Y out:List Nat}(ho:Digs 4294967296 out)(hl:out.length=X.length)(hyl:Y.length≤X.length)(hle:vb 4294967296 Y≤vb 4294967296 X)(bw:Nat)
  (h:vb 4294967296 (out.take X.length)+vb 4294967296 (Y.take X.length)=vb 4294967296 (X.take X.length)+bw*4294967296 ^ X.length):vb 4294967296 out=vb 4294967296 X - vb 4294967296 Y:=by
 rw [cl _ (by omega),cl _ hyl,List.take_length] at h
 have h1:=vb_take_lt ho X.length
 rw [cl _ (by omega)] at h1
 rcases Nat.eq_zero_or_pos bw with h0|h0
 ·subst h0;omega
 ·exfalso
  have:=Nat.mul_le_mul_right (4294967296 ^ X.length) h0
  rw [B_pow] at this h
  omega

theorem kF (v1 v2:Value)(x y:Nat)(w:World)(h1:Num w v1 x)(h2:Num w v2 y)(hle:y≤x)(f1:blen x≤1125899906840000) :
  Calls Tryz.prog 100 #[v1,v2] w fun e w'=>(∃v',e=.returned v'∧Num w' v' (x - y)∧New w.heap.size v')∧Below w.heap.size w w':=by
 obtain⟨X,A1,hX,hXt,rfl,_⟩:=h1
 obtain⟨Y,A2,hY,hYt,rfl,_⟩:=h2
 have lX:=dY hX hXt 35184372088750 (by omega)
 have hyl:Y.length≤X.length:=by
  refine Nat.le_of_not_lt fun h=>?_
  have:=vb_shorter hX hYt h
  omega
 obtain⟨a1,c1,rfl,hc1,hm1,L1⟩:=A1.form
 obtain⟨i0,hi,hz0,hz1,hz2⟩:=info_parts Tryz.infoU
 have HLE:=ab hle
 clear f1 hXt hYt hle
 go_enter Tryz.func100,Tryz.ntmps100
 go_wp2_with (at_make;refine wpList_make_full _ rfl _ _ 27 rfl w.heap.size 51 i0 (.int .u64 0) 1 Tryz.underlying27 hi hz0 hz1 .i64 .i64 _ _ X.length rfl rfl (by omega) (by omega) (by rw [hz2];omega) (by unfold maxLen;omega) (Nat.le_refl _) ?_;intro w1 hown hgrow)
 have hb1:=Blk.made hown
 have hbel:Below w.heap.size w w1:=(Below.refl _ _).grown hgrow (Nat.le_refl _) (fun k hk=>by cases hk)
 clear hown hgrow hi hz0 hz1 hz2
 go_loopw [6,14] (fun c i wr=>∃(k cy:Nat) (out:List Nat),k≤X.length∧i=.int .i64 k∧c=.int .u64 cy∧cy≤1∧out.length=X.length∧Digs 4294967296 out∧Blk wr w.heap.size out∧Below w.heap.size w wr ∧
   vb 4294967296 (out.take k)+vb 4294967296 (Y.take k)=vb 4294967296 (X.take k)+cy*4294967296 ^ k) (fun _ i _=>X.length - (intOf i).toNat)
 case atStart=>exact⟨0,0,_,Nat.zero_le _,rfl,rfl,by omega,by simp,digs_replicate (by omega) _,hb1,hbel,by simp [vb]⟩
 case round=>
  obtain⟨k,cy,out,hk,rfl,rfl,hcy,hlen,hdo,hblk,hbl,hval⟩:=hrel
  clear hb1 hbel
  have HB:=ab hblk
  have HL:=ab hbl
  by_cases hkl:k<X.length
  ·rcases L1.below hbl with h0|⟨b,off,rfl,hcell⟩
   ·simp [h0] at hkl
   ·have H2:=dp _ Y k wr.drew (A2.below hbl.drew)
    have hck:=hcell k hkl
    have hbw:=aC.block (L1:aC w (some ⟨b,off,none⟩) X) (by omega)
    have hne1:¬b=w.heap.size:=by omega
    have hne2:¬w.heap.size=b:=by omega
    have hfr:=hblk.free k
    have hco:=hblk.cell k (by omega)
    generalize out.getD k 0=o at *
    have z1:=dig_lt (by omega) hX k
    have z2:=dig_lt (by omega) hY k
    have HV:=ab (vb_sub_step X Y out k cy (by omega) z1 z2 hcy hval)
    generalize X.getD k 0=x at *
    generalize Y.getD k 0=y at *
    have w1:IntKind.u64.wrap ((x:Int)+4294967296)=((x+4294967296:Nat):Int):=by rw [IntKind.wrap_u64];omega
    have w2:IntKind.u64.wrap (((x+4294967296:Nat):Int) - (y:Int))=((x+4294967296 - y:Nat):Int):=by rw [IntKind.wrap_u64];omega
    have w3:IntKind.u64.wrap (((x+4294967296 - y:Nat):Int) - (cy:Int))=((x+4294967296 - y - cy:Nat):Int):=by rw [IntKind.wrap_u64];omega
    have e0:(x:Int)+4294967296=((x+4294967296:Nat):Int):=by omega
    have e1:((x+4294967296:Nat):Int) - (y:Int)=((x+4294967296 - y:Nat):Int):=by omega
    have e2:((x+4294967296 - y:Nat):Int) - (cy:Int)=((x+4294967296 - y - cy:Nat):Int):=by omega
    have b0:x+4294967296<18446744073709551616:=by omega
    have b1:x+4294967296 - y<18446744073709551616:=by omega
    have b2:x+4294967296 - y - cy<18446744073709551616:=by omega
    have e3:((x+4294967296 - y - cy:Nat):Int) % 4294967296=(((x+4294967296 - y - cy) % 4294967296:Nat):Int):=by omega
    have e4:((x+4294967296 - y - cy:Nat):Int) / 4294967296=(((x+4294967296 - y - cy) / 4294967296:Nat):Int):=by omega
    have b3:(x+4294967296 - y - cy) % 4294967296<4294967296:=by omega
    have b4:(x+4294967296 - y - cy) / 4294967296≤1:=by omega
    generalize (x+4294967296 - y - cy) % 4294967296=m at *
    generalize (x+4294967296 - y - cy) / 4294967296=d at *
    generalize x+4294967296 - y - cy=t3 at *
    generalize x+4294967296 - y=t2 at *
    generalize x+4294967296=t1 at *
    have e5:(1:Int) - (d:Int)=((1 - d:Nat):Int):=by omega
    have w4:IntKind.u64.wrap (t1:Int)=(t1:Int):=by rw [IntKind.wrap_u64];omega
    have w5:IntKind.u64.wrap (t2:Int)=(t2:Int):=by rw [IntKind.wrap_u64];omega
    have w6:IntKind.u64.wrap (t3:Int)=(t3:Int):=by rw [IntKind.wrap_u64];omega
    have hi1:(0:Int)≤(k:Int):=by omega
    have hi2:(k:Int)<(X.length:Int):=by omega
    clear hval hblk hbl A1 A2 hX hY hcell L1
    go_wp2
    go_region_held3 (fun w'=>w'.cell? ⟨b,off+k,none⟩=some (.int .u64 x)) (go_keep) (first | (go_at_call 81;refine H2.mono ?_;rintro e w2 ⟨rfl,rfl⟩))
    go_wp2
    go_roundw
    case rel=>exact⟨k+1,1 - d,out.set k m,by omega,by go_num,by go_num,by omega,by simp;omega,digs_set hdo _ _ b3,HB.out.set k m,(HL.out.setCell (Nat.le_refl _) _).drew,HV.out⟩
    case measure=>simp [intOf];omega
  ·have ek:k=X.length:=by omega
   subst ek
   have hve:=rU hdo hlen hyl HLE.out cy hval
   have hA:=Ans.of_blk (base:=w.heap.size) (zs:=out) (Nat.le_refl _) hblk List.take_length.symm (Nat.le_refl _) (by omega) (digs_limbs hdo)
   have H:=fG w.heap.size _ _ _ (hA.arg (by omega)) hdo (by omega) (New.at _ _ _ _ _ (Nat.le_refl _))
   rw [hlen,hve] at H
   clear hval hblk hbl A1 A2 hX hY hA hve HB L1
   go_wp2_with fail
   refine H.mono ?_
   rintro e w2 ⟨⟨v',rfl,hnum,hnw⟩,rfl⟩
   have HN:=ab (And.intro hnum hnw)
   clear hnum hnw H
   go_wp2
   go_ret
   exact⟨⟨v',rfl,HN.out.1,HN.out.2⟩,HL.out⟩

theorem fO (v1 v2:Value)(x y:Nat)(w:World)(h1:Num w v1 x)(h2:Num w v2 y)(hle:y≤x)(f1:blen x≤1125899906840000) :
  Calls Tryz.prog 100 #[v1,v2] w fun e w'=>(∃v',e=.returned v'∧Num w' v' (x - y))∧Below w.heap.size w w':=
 (kF v1 v2 x y w h1 h2 hle f1).mono fun _ _ ⟨⟨v',h1,h2,_⟩,h3⟩=>⟨⟨v',h1,h2⟩,h3⟩
end Go.Proofs.YtkfbobefkbpdoaaGreatDoor

