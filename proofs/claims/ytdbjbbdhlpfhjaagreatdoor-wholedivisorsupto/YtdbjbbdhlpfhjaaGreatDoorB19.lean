/- The walk of the law WholeDivisors. -/
import Derived.Test.YtdbjbbdhlpfhjaaGreatDoorB13
import Derived.Test.YtdbjbbdhlpfhjaaGreatDoorB17
import Derived.Test.YtdbjbbdhlpfhjaaGreatDoorB02
import Derived.Test.YtdbjbbdhlpfhjaaGreatDoorB18
import Derived.Deep.CutBlock
import Derived.Deep.DeepCutAuto
namespace Go.Proofs.YtdbjbbdhlpfhjaaGreatDoor
open Go.RowKit
open Lm
attribute [local go_sem ↓] Go.wp_at_zero Go.wp_at_succ

theorem cr {u v:Value}(h:Ap u v):(u.ownBlock=none∨u.ownBlock≠v.ownBlock)∧(v.ownBlock=none∨v.ownBlock≠u.ownBlock):=by
 cases e:u.ownBlock with
 | none=>
  refine⟨.inl rfl,?_⟩
  cases e2:v.ownBlock with
  | none=>exact .inl rfl
  | some k=>exact .inr (by simp)
 | some k=>
  have h1:=h k e
  exact⟨.inr (Ne.symm h1),.inr h1⟩

theorem gU {w:World}{base:Nat}{v1 v2 v3 v4:Value}{r1 r2 r3 r4:List Nat}(h1:Ans w base v1 r1)(h2:Ans w base v2 r2)(h3:Ans w base v3 r3)(h4:Ans w base v4 r4)(a12:Ap v1 v2)(a13:Ap v1 v3)(a23:Ap v2 v3)(a14:Ap v1 v4)(a24:Ap v2 v4)(a34:Ap v3 v4):dP w base [v1,v2,v3,v4] [r1,r2,r3,r4]:=by
 refine⟨rfl,fun i hi=>?_,fun i j hi hj hne=>?_⟩
 ·have:i=0∨i=1∨i=2∨i=3:=by simp at hi;omega
  rcases this with rfl|rfl|rfl|rfl
  ·exact h1
  ·exact h2
  ·exact h3
  ·exact h4
 ·have e1:i=0∨i=1∨i=2∨i=3:=by simp at hi;omega
  have e2:j=0∨j=1∨j=2∨j=3:=by simp at hj;omega
  rcases e1 with rfl|rfl|rfl|rfl <;> rcases e2 with rfl|rfl|rfl|rfl <;> first|exact absurd rfl hne|exact (cr a12).1|exact (cr a12).2|exact (cr a13).1|exact (cr a13).2|exact (cr a23).1|exact (cr a23).2|exact (cr a14).1|exact (cr a14).2|exact (cr a24).1|exact (cr a24).2|exact (cr a34).1|exact (cr a34).2

theorem fT {w:World}{base:Nat}{b:Bool}{v:Value}{z:Int}(h:ZA w base b v z)(hz:blen z.natAbs≤67108864):ZR w base b v 0 z:=by
 obtain⟨rs,h1,h2,h3,h4⟩:=h
 exact⟨rs,h1,.inl ⟨rfl,h2,h3,h4,hz⟩⟩

theorem fz {w:World}{b:Bool}{u:Value}{z:Int}(h:Zn w (.agg #[.bool b,u]) z):Num w u z.natAbs:=by
 obtain⟨u',h1,h2⟩:=h
 simp only [Value.agg.injEq,Array.mk.injEq,List.cons.injEq,Value.bool.injEq,and_true] at h1
 obtain⟨_,rfl⟩:=h1
 exact h2

theorem gI (base:Nat)(v1 v2 v3 v4:Value)(r1 r2 r3 r4:List Nat)(w:World)(h:dP w base [v1,v2,v3,v4] [r1,r2,r3,r4])(hl:r1.length≤1048576∧r2.length≤1048576∧r3.length≤1048576∧r4.length≤1048576)(hb:base≤w.heap.size) :
  Calls Tryz.prog 16 #[.slice (some ⟨w.heap.size,0,none⟩) 4 4] (w.alloc (.cells #[v1,v2,v3,v4] 22)) fun e w'=>e=.returned (.bool true)∧BK base w w':=
 rM base [v1,v2,v3,v4] [r1,r2,r3,r4] w h (by simp) (by intro r hr;simp at hr;rcases hr with rfl|rfl|rfl|rfl <;> omega) hb

set_option maxRecDepth 20000 in
set_option maxHeartbeats 32000000 in
theorem nA (b0:Bool)(v0:Value)(z0:List Nat)(b1:Bool)(v1:Value)(z1:List Nat)(w:World)(hT:Tab w)(A0:Arg w v0 z0)(s0:z0.length≤1048576)(A1:Arg w v1 z1)(s1:z1.length≤1048576) :
  Calls Tryz.prog 3 #[.agg #[.bool b0,v0],.agg #[.bool b1,v1]] w fun e w'=>e=.returned (.bool true)∧Below w.heap.size w w':=by
 obtain⟨a0,n0,rfl,_,_,_⟩:=A0.form
 obtain⟨a1,n1,rfl,_,_,_⟩:=A1.form
 obtain⟨w0,hw0,hb0,h0,h1⟩:=bD w (.cells #[.bool b0,.slice a0 z0.length n0] 24) (.cells #[.bool b1,.slice a1 z1.length n1] 24)
 have bX:blen (val z0)≤67108864:=by
  have:=dw z0 A0.limbs
  omega
 have bY:blen (val z1)≤67108864:=by
  have:=dw z1 A1.limbs
  omega
 have HS:=ac (And.intro s0 (And.intro s1 (And.intro bX bY)))
 have BA:=ac h0
 have BB:=ac h1
 have HA0:=ac (A0.below hb0)
 have HA1:=ac (A1.below hb0)
 have TB:=ac (hT.below hb0)
 have HWW:=ac hb0
 obtain⟨az,haz⟩:∃az,zz b0 (val z0)=az:=⟨_,rfl⟩
 obtain⟨bz,hbz⟩:∃bz,zz b1 (val z1)=bz:=⟨_,rfl⟩
 have HAZ:=ac haz
 have HBZ:=ac hbz
 obtain⟨k0,k1⟩:=duo h0
 have C:=kc b0 _ z0 w0 HA0.out (by omega)
 clear A0 A1 hT hb0 h0 h1 s0 s1 bX bY haz hbz
 go_enter Tryz.func3,Tryz.ntmps3
 go_wp2_with fail
 clear hw0 k0 k1
 refine C.mono ?_
 rintro e t1 ⟨⟨aw,mw,nw,a6,m6,n6,rfl,hL,hA⟩,hb1⟩
 clear C
 obtain⟨e6,he6,hbz,hxz⟩:=aL t1 (.cells #[.bool false,.slice none 0 0] 27)
 obtain⟨za,zb⟩:=duo hxz
 have zf:=av hxz
 have RX:=aH (a':=.bool b0) (b':=.slice a6 m6 n6) hxz
 have hbn:Below t1.heap.size t1 ((e6.setCell ⟨t1.heap.size,0,none⟩ (.bool b0)).setCell ⟨t1.heap.size,1,none⟩ (.slice a6 m6 n6)):=aC hbz (Nat.le_refl _)
 obtain⟨e7,he7⟩:∃e7,(e6.setCell ⟨t1.heap.size,0,none⟩ (.bool b0)).setCell ⟨t1.heap.size,1,none⟩ (.slice a6 m6 n6)=e7:=⟨_,rfl⟩
 rw [he7] at RX hbn
 have hb:=aA hb1 hbn
 replace BA:=ac (ae hb BA.out)
 replace BB:=ac (ae hb BB.out)
 replace HA0:=ac (HA0.out.below hb)
 replace HA1:=ac (HA1.out.below hb)
 replace TB:=ac (TB.out.below hb)
 replace HWW:=ac (aA HWW.out hb)
 have X6:=ac RX
 have A6:=ac (hA.below hbn)
 have L1:=ac (hL.below hbn)
 clear hb hb1 hbn hbz hxz RX hA hL
 obtain⟨k0,k1⟩:=duo BB.out
 have C:=kc b1 _ z1 e7 HA1.out (by have:=HS.out;omega)
 go_wp2_with fail
 clear k0 k1
 clear he6 he7 za zb zf
 refine C.mono ?_
 rintro e t2 ⟨⟨bw,mv,nv,a8,m8,n8,rfl,hL,hA⟩,hb1⟩
 clear C
 obtain⟨f6,hf6,hbz,hxz⟩:=aL t2 (.cells #[.bool false,.slice none 0 0] 27)
 obtain⟨za,zb⟩:=duo hxz
 have zf:=av hxz
 have RX:=aH (a':=.bool b1) (b':=.slice a8 m8 n8) hxz
 have hbn:Below t2.heap.size t2 ((f6.setCell ⟨t2.heap.size,0,none⟩ (.bool b1)).setCell ⟨t2.heap.size,1,none⟩ (.slice a8 m8 n8)):=aC hbz (Nat.le_refl _)
 obtain⟨f7,hf7⟩:∃f7,(f6.setCell ⟨t2.heap.size,0,none⟩ (.bool b1)).setCell ⟨t2.heap.size,1,none⟩ (.slice a8 m8 n8)=f7:=⟨_,rfl⟩
 rw [hf7] at RX hbn
 have hb:=aA hb1 hbn
 replace BA:=ac (ae hb BA.out)
 replace BB:=ac (ae hb BB.out)
 replace X6:=ac (ae hb X6.out)
 replace HA0:=ac (HA0.out.below hb)
 replace HA1:=ac (HA1.out.below hb)
 replace TB:=ac (TB.out.below hb)
 replace A6:=ac (A6.out.below hb)
 replace L1:=ac (L1.out.below hb)
 replace HWW:=ac (aA HWW.out hb)
 have X8:=ac RX
 have A8:=ac (hA.below hbn)
 have L2:=ac (hL.below hbn)
 clear hb hb1 hbn hbz hxz RX hA hL
 go_upto_region 3 with fail
 clear hf6 hf7 za zb zf
 go_cut [9,10] from 32 to 36 (fun s t wx=>di wx s az f7.heap.size∧di wx t bz f7.heap.size∧Below f7.heap.size f7 wx)
 case first=>
  have KS:=ac (fun (W:World) (hg:Below f7.heap.size f7 W)=>show W.cell? ⟨w.heap.size,0,none⟩=some (.bool b0)∧W.cell? ⟨w.heap.size,1,none⟩=some (.slice a0 z0.length n0)∧W.cell? ⟨w.heap.size+1,0,none⟩=some (.bool b1)∧W.cell? ⟨w.heap.size+1,1,none⟩=some (.slice a1 z1.length n1) from ⟨(duo (ae hg BA.out)).1,(duo (ae hg BA.out)).2,(duo (ae hg BB.out)).1,(duo (ae hg BB.out)).2⟩)
  have IN1:=ac (fun (W:World) (hg:Below f7.heap.size f7 W)=>show Calls Tryz.prog 7 #[.agg #[.bool b0,.slice a0 z0.length n0]] W (bE W az) by
   have h:=je b0 _ z0 W (HA0.out.below hg) (by have:=HS.out;omega)
   rw [HAZ.out] at h
   exact h)
  have IN2:=ac (fun (W:World) (hg:Below f7.heap.size f7 W)=>show Calls Tryz.prog 7 #[.agg #[.bool b1,.slice a1 z1.length n1]] W (bE W bz) by
   have h:=je b1 _ z1 W (HA1.out.below hg) (by have:=HS.out;omega)
   rw [HBZ.out] at h
   exact h)
  refine wp_region_held_drew (S:=fun w'=>w'.cell? ⟨w.heap.size,0,none⟩=some (.bool b0)∧w'.cell? ⟨w.heap.size,1,none⟩=some (.slice a0 z0.length n0)∧w'.cell? ⟨w.heap.size+1,0,none⟩=some (.bool b1)∧w'.cell? ⟨w.heap.size+1,1,none⟩=some (.slice a1 z1.length n1)) (by kernel_rfl) (KS.out _ ((Below.refl _ _).drew)) (fun hHeld=>?_)
  refine wpAnyH_take (i:=0) (oi:={ dst:=some 32,op:=Op.load 24 (Operand.tmp 2),type:=24,pos:="law.go:141",after:=#[],guard:=none }) (v:=.agg #[.bool b0,.slice a0 z0.length n0]) rfl (by kernel_rfl) (by kernel_rfl) (by kernel_rfl) (fun _ _ _ h=>h) (Or.inl ⟨by rfl,fun w9 hSw=>?_⟩) hHeld ?_
  ·(try dsimp only at hSw);go_simp
  simp only [Act.put,List.setIfInBounds_toArray,List.set_cons_zero,List.set_cons_succ]
  refine wpAnyH_take (i:=2) (oi:={ dst:=some 34,op:=Op.load 24 (Operand.tmp 3),type:=24,pos:="law.go:141",after:=#[],guard:=none }) (v:=.agg #[.bool b1,.slice a1 z1.length n1]) rfl (by kernel_rfl) (by kernel_rfl) (by kernel_rfl) (fun _ _ _ h=>h) (Or.inl ⟨by rfl,fun w9 hSw=>?_⟩) hHeld ?_
  ·(try dsimp only at hSw);go_simp
  simp only [Act.put,List.setIfInBounds_toArray,List.set_cons_zero,List.set_cons_succ]
  refine qg f7 (aV az) (aV bz) (aV.up _) (aV.up _) 33 35 9 10 2 (fun c1 c2 k1 k2=>#[true,c1,true,c2,k1,k2,false,false]) (by kernel_rfl) (by kernel_rfl) (by simp only [Act.put,List.setIfInBounds_toArray,List.set_cons_zero,List.set_cons_succ]) ((Below.refl _ _).drew) ?_
  clear hHeld
  intro n
  simp only [Act.put,List.setIfInBounds_toArray,List.set_cons_zero,List.set_cons_succ]
  induction n with
  | zero=>
   intro c1 c2 k1 k2 x1 x2 y1 y2 W hf J
   obtain⟨rfl,rfl,rfl,rfl⟩:=mj c1 c2 k1 k2 hf
   clear hf
   have HU:=ac J.up
   obtain⟨b1',a1',n1',k1',rfl,Z1⟩:=J.q1 rfl
   obtain⟨b2',a2',n2',k2',rfl,Z2⟩:=J.q2 rfl
   obtain⟨g1,rfl,l1,e1⟩:=J.r1 rfl
   obtain⟨g2,rfl,l2,e2⟩:=J.r2 rfl
   have D12:=J.d12 rfl rfl
   have G12:g1≠g2:=fun e=>D12 (by rw [e])
   have hf1:=av e1
   have hf2:=av e2
   obtain⟨m10,m11⟩:=duo e1
   obtain⟨m20,m21⟩:=duo e2
   have B1_1:=eT e1 Z1 l1
   have E2_1:=bJ (u0:=.bool b1') (u1:=.slice a1' n1' k1') e2 (Ne.symm G12)
   have Z2_1:=Z2.duo (p1:=b1') (r1:=.slice a1' n1' k1') e1
   have HB1:=ac (aC (u0:=.bool b1') (u1:=.slice a1' n1' k1') HU.out l1)
   have B1_2:=B1_1.other (b':=b2') (r':=.slice a2' n2' k2') E2_1 (fun e=>D12 (by rw [e]))
   have B2_2:=eT E2_1 Z2_1 l2
   have HB2:=ac (aC (u0:=.bool b2') (u1:=.slice a2' n2' k2') HB1.out l2)
   have HFIN:=ac (And.intro B1_2 ( And.intro B2_2 (HB2.out)))
   clear J B1_1 B1_2 B2_2 E2_1 Z2_1 Z1 Z2 e1 e2 D12
   refine wpAnyH_ready (rs:=[6]) (by kernel_rfl) (by simp) ?_
   refine AllReadyH.cons rfl (fun K hK=>?_) AllReadyH.nil
   go_simp
   refine hK.out _ _ (KS.out _ HB1.out) (fun _=>?_)
   clear hK K
   simp only [List.setIfInBounds_toArray,List.set_cons_zero,List.set_cons_succ]
   refine wpAnyH_ready (rs:=[7]) (by kernel_rfl) (by simp) ?_
   refine AllReadyH.cons rfl (fun K hK=>?_) AllReadyH.nil
   go_simp
   refine hK.out _ _ (KS.out _ HB2.out) (fun _=>?_)
   clear hK K
   simp only [List.setIfInBounds_toArray,List.set_cons_zero,List.set_cons_succ]
   refine wpAnyH_done (by kernel_rfl) ?_ _
   go_wp2_with fail
   go_meet
   exact HFIN.out
  | succ n ih=>
   intro c1 c2 k1 k2 x1 x2 y1 y2 W hf J
   cases c1
   ·skip
    cases c2
    ·skip
     cases k1
     ·skip
      cases k2
      ·skip
       refine wpAnyH_ready (rs:=[1,4,5]) (by kernel_rfl) (by simp) ?_
       refine AllReadyH.cons rfl (fun K hK=>?_) ?_
       ·go_simp
        refine (IN1.out W J.up).mono ?_
        rintro e' W2 ⟨⟨p,q,r,s,rfl,hz⟩,hb⟩
        refine hK.out _ _ (KS.out _ (J.up.trans (hb.mono J.up.size))) (fun hS2=>?_)
        simp only [List.setIfInBounds_toArray,List.set_cons_zero,List.set_cons_succ]
        exact ih _ _ _ _ _ _ _ _ _ (by simp [bf] at hf ⊢;omega) (J.call1 hb ⟨p,q,r,s,rfl,hz⟩)
       refine AllReadyH.cons rfl (fun K hK=>?_) ?_
       ·go_simp
        refine hK.out _ _ (KS.out _ (J.up.alloc J.up.size _)) (fun _=>?_)
        simp only [List.setIfInBounds_toArray,List.set_cons_zero,List.set_cons_succ]
        exact ih _ _ _ _ _ _ _ _ _ (by simp [bf] at hf ⊢;omega) J.make1
       refine AllReadyH.cons rfl (fun K hK=>?_) ?_
       ·go_simp
        refine hK.out _ _ (KS.out _ (J.up.alloc J.up.size _)) (fun _=>?_)
        simp only [List.setIfInBounds_toArray,List.set_cons_zero,List.set_cons_succ]
        exact ih _ _ _ _ _ _ _ _ _ (by simp [bf] at hf ⊢;omega) J.make2
       exact AllReadyH.nil
      ·skip
       refine wpAnyH_ready (rs:=[1,4]) (by kernel_rfl) (by simp) ?_
       refine AllReadyH.cons rfl (fun K hK=>?_) ?_
       ·go_simp
        refine (IN1.out W J.up).mono ?_
        rintro e' W2 ⟨⟨p,q,r,s,rfl,hz⟩,hb⟩
        refine hK.out _ _ (KS.out _ (J.up.trans (hb.mono J.up.size))) (fun hS2=>?_)
        simp only [List.setIfInBounds_toArray,List.set_cons_zero,List.set_cons_succ]
        exact ih _ _ _ _ _ _ _ _ _ (by simp [bf] at hf ⊢;omega) (J.call1 hb ⟨p,q,r,s,rfl,hz⟩)
       refine AllReadyH.cons rfl (fun K hK=>?_) ?_
       ·go_simp
        refine hK.out _ _ (KS.out _ (J.up.alloc J.up.size _)) (fun _=>?_)
        simp only [List.setIfInBounds_toArray,List.set_cons_zero,List.set_cons_succ]
        exact ih _ _ _ _ _ _ _ _ _ (by simp [bf] at hf ⊢;omega) J.make1
       exact AllReadyH.nil
     ·skip
      cases k2
      ·skip
       refine wpAnyH_ready (rs:=[1,5]) (by kernel_rfl) (by simp) ?_
       refine AllReadyH.cons rfl (fun K hK=>?_) ?_
       ·go_simp
        refine (IN1.out W J.up).mono ?_
        rintro e' W2 ⟨⟨p,q,r,s,rfl,hz⟩,hb⟩
        refine hK.out _ _ (KS.out _ (J.up.trans (hb.mono J.up.size))) (fun hS2=>?_)
        simp only [List.setIfInBounds_toArray,List.set_cons_zero,List.set_cons_succ]
        exact ih _ _ _ _ _ _ _ _ _ (by simp [bf] at hf ⊢;omega) (J.call1 hb ⟨p,q,r,s,rfl,hz⟩)
       refine AllReadyH.cons rfl (fun K hK=>?_) ?_
       ·go_simp
        refine hK.out _ _ (KS.out _ (J.up.alloc J.up.size _)) (fun _=>?_)
        simp only [List.setIfInBounds_toArray,List.set_cons_zero,List.set_cons_succ]
        exact ih _ _ _ _ _ _ _ _ _ (by simp [bf] at hf ⊢;omega) J.make2
       exact AllReadyH.nil
      ·skip
       refine wpAnyH_ready (rs:=[1]) (by kernel_rfl) (by simp) ?_
       refine AllReadyH.cons rfl (fun K hK=>?_) ?_
       ·go_simp
        refine (IN1.out W J.up).mono ?_
        rintro e' W2 ⟨⟨p,q,r,s,rfl,hz⟩,hb⟩
        refine hK.out _ _ (KS.out _ (J.up.trans (hb.mono J.up.size))) (fun hS2=>?_)
        simp only [List.setIfInBounds_toArray,List.set_cons_zero,List.set_cons_succ]
        exact ih _ _ _ _ _ _ _ _ _ (by simp [bf] at hf ⊢;omega) (J.call1 hb ⟨p,q,r,s,rfl,hz⟩)
       exact AllReadyH.nil
    ·skip
     exact absurd (J.h2 rfl) (by decide)
   ·skip
    cases c2
    ·skip
     cases k1
     ·skip
      cases k2
      ·skip
       refine wpAnyH_ready (rs:=[3,4,5]) (by kernel_rfl) (by simp) ?_
       refine AllReadyH.cons rfl (fun K hK=>?_) ?_
       ·go_simp
        refine (IN2.out W J.up).mono ?_
        rintro e' W2 ⟨⟨p,q,r,s,rfl,hz⟩,hb⟩
        refine hK.out _ _ (KS.out _ (J.up.trans (hb.mono J.up.size))) (fun hS2=>?_)
        simp only [List.setIfInBounds_toArray,List.set_cons_zero,List.set_cons_succ]
        exact ih _ _ _ _ _ _ _ _ _ (by simp [bf] at hf ⊢;omega) (J.call2 hb ⟨p,q,r,s,rfl,hz⟩)
       refine AllReadyH.cons rfl (fun K hK=>?_) ?_
       ·go_simp
        refine hK.out _ _ (KS.out _ (J.up.alloc J.up.size _)) (fun _=>?_)
        simp only [List.setIfInBounds_toArray,List.set_cons_zero,List.set_cons_succ]
        exact ih _ _ _ _ _ _ _ _ _ (by simp [bf] at hf ⊢;omega) J.make1
       refine AllReadyH.cons rfl (fun K hK=>?_) ?_
       ·go_simp
        refine hK.out _ _ (KS.out _ (J.up.alloc J.up.size _)) (fun _=>?_)
        simp only [List.setIfInBounds_toArray,List.set_cons_zero,List.set_cons_succ]
        exact ih _ _ _ _ _ _ _ _ _ (by simp [bf] at hf ⊢;omega) J.make2
       exact AllReadyH.nil
      ·skip
       refine wpAnyH_ready (rs:=[3,4]) (by kernel_rfl) (by simp) ?_
       refine AllReadyH.cons rfl (fun K hK=>?_) ?_
       ·go_simp
        refine (IN2.out W J.up).mono ?_
        rintro e' W2 ⟨⟨p,q,r,s,rfl,hz⟩,hb⟩
        refine hK.out _ _ (KS.out _ (J.up.trans (hb.mono J.up.size))) (fun hS2=>?_)
        simp only [List.setIfInBounds_toArray,List.set_cons_zero,List.set_cons_succ]
        exact ih _ _ _ _ _ _ _ _ _ (by simp [bf] at hf ⊢;omega) (J.call2 hb ⟨p,q,r,s,rfl,hz⟩)
       refine AllReadyH.cons rfl (fun K hK=>?_) ?_
       ·go_simp
        refine hK.out _ _ (KS.out _ (J.up.alloc J.up.size _)) (fun _=>?_)
        simp only [List.setIfInBounds_toArray,List.set_cons_zero,List.set_cons_succ]
        exact ih _ _ _ _ _ _ _ _ _ (by simp [bf] at hf ⊢;omega) J.make1
       exact AllReadyH.nil
     ·skip
      cases k2
      ·skip
       refine wpAnyH_ready (rs:=[3,5]) (by kernel_rfl) (by simp) ?_
       refine AllReadyH.cons rfl (fun K hK=>?_) ?_
       ·go_simp
        refine (IN2.out W J.up).mono ?_
        rintro e' W2 ⟨⟨p,q,r,s,rfl,hz⟩,hb⟩
        refine hK.out _ _ (KS.out _ (J.up.trans (hb.mono J.up.size))) (fun hS2=>?_)
        simp only [List.setIfInBounds_toArray,List.set_cons_zero,List.set_cons_succ]
        exact ih _ _ _ _ _ _ _ _ _ (by simp [bf] at hf ⊢;omega) (J.call2 hb ⟨p,q,r,s,rfl,hz⟩)
       refine AllReadyH.cons rfl (fun K hK=>?_) ?_
       ·go_simp
        refine hK.out _ _ (KS.out _ (J.up.alloc J.up.size _)) (fun _=>?_)
        simp only [List.setIfInBounds_toArray,List.set_cons_zero,List.set_cons_succ]
        exact ih _ _ _ _ _ _ _ _ _ (by simp [bf] at hf ⊢;omega) J.make2
       exact AllReadyH.nil
      ·skip
       refine wpAnyH_ready (rs:=[3]) (by kernel_rfl) (by simp) ?_
       refine AllReadyH.cons rfl (fun K hK=>?_) ?_
       ·go_simp
        refine (IN2.out W J.up).mono ?_
        rintro e' W2 ⟨⟨p,q,r,s,rfl,hz⟩,hb⟩
        refine hK.out _ _ (KS.out _ (J.up.trans (hb.mono J.up.size))) (fun hS2=>?_)
        simp only [List.setIfInBounds_toArray,List.set_cons_zero,List.set_cons_succ]
        exact ih _ _ _ _ _ _ _ _ _ (by simp [bf] at hf ⊢;omega) (J.call2 hb ⟨p,q,r,s,rfl,hz⟩)
       exact AllReadyH.nil
    ·skip
     cases k1
     ·skip
      cases k2
      ·skip
       refine wpAnyH_ready (rs:=[4,5]) (by kernel_rfl) (by simp) ?_
       refine AllReadyH.cons rfl (fun K hK=>?_) ?_
       ·go_simp
        refine hK.out _ _ (KS.out _ (J.up.alloc J.up.size _)) (fun _=>?_)
        simp only [List.setIfInBounds_toArray,List.set_cons_zero,List.set_cons_succ]
        exact ih _ _ _ _ _ _ _ _ _ (by simp [bf] at hf ⊢;omega) J.make1
       refine AllReadyH.cons rfl (fun K hK=>?_) ?_
       ·go_simp
        refine hK.out _ _ (KS.out _ (J.up.alloc J.up.size _)) (fun _=>?_)
        simp only [List.setIfInBounds_toArray,List.set_cons_zero,List.set_cons_succ]
        exact ih _ _ _ _ _ _ _ _ _ (by simp [bf] at hf ⊢;omega) J.make2
       exact AllReadyH.nil
      ·skip
       refine wpAnyH_ready (rs:=[4]) (by kernel_rfl) (by simp) ?_
       refine AllReadyH.cons rfl (fun K hK=>?_) ?_
       ·go_simp
        refine hK.out _ _ (KS.out _ (J.up.alloc J.up.size _)) (fun _=>?_)
        simp only [List.setIfInBounds_toArray,List.set_cons_zero,List.set_cons_succ]
        exact ih _ _ _ _ _ _ _ _ _ (by simp [bf] at hf ⊢;omega) J.make1
       exact AllReadyH.nil
     ·skip
      cases k2
      ·skip
       refine wpAnyH_ready (rs:=[5]) (by kernel_rfl) (by simp) ?_
       refine AllReadyH.cons rfl (fun K hK=>?_) ?_
       ·go_simp
        refine hK.out _ _ (KS.out _ (J.up.alloc J.up.size _)) (fun _=>?_)
        simp only [List.setIfInBounds_toArray,List.set_cons_zero,List.set_cons_succ]
        exact ih _ _ _ _ _ _ _ _ _ (by simp [bf] at hf ⊢;omega) J.make2
       exact AllReadyH.nil
      ·skip
       exact absurd hf (by simp [bf])
 case rest=>
  rename World=>u1
  obtain⟨⟨gm,bm,am,nm,km,rfl,lm,em,zm⟩,⟨gn,bn,an,nn,kn,rfl,ln,en,zn⟩,hb⟩:=hcut
  replace BA:=ac (ae hb BA.out)
  replace BB:=ac (ae hb BB.out)
  replace X6:=ac (ae hb X6.out)
  replace X8:=ac (ae hb X8.out)
  replace HA0:=ac (HA0.out.below hb)
  replace HA1:=ac (HA1.out.below hb)
  replace TB:=ac (TB.out.below hb)
  replace A6:=ac (A6.out.below hb)
  replace L1:=ac (L1.out.below hb)
  replace A8:=ac (A8.out.below hb)
  replace L2:=ac (L2.out.below hb)
  replace HWW:=ac (aA HWW.out hb)
  have EM:=ac em
  have EN:=ac en
  have ZM:=ac zm
  have ZN:=ac zn
  clear hb em en zm zn lm ln
  obtain⟨k0,k1⟩:=duo EM.out
  obtain⟨k2,k3⟩:=duo EN.out
  have C:=nY b0 b1 (val z0) (val z1) (.agg #[.bool bm,.slice am nm km]) (.agg #[.bool bn,.slice an nn kn]) u1 (by rw [HAZ.out];exact ZM.out) (by rw [HBZ.out];exact ZN.out) HS.out.2.2.1 HS.out.2.2.2
  rw [HAZ.out,HBZ.out] at C
  go_wp2_with fail
  clear k0 k1 k2 k3
  refine C.mono ?_
  rintro e t3 ⟨⟨g,x,y,bg,ag,ng,kg,bx,ax,nx,kx,by',ay,ny,ky,rfl,hzg,hzx,hzy,hnum⟩,hb3⟩
  clear C
  obtain⟨t4,ht4,hb4,hx6,hx7,hx8⟩:=cO t3 (.cells #[.bool false,.slice none 0 0] 32) (.cells #[.bool false,.slice none 0 0] 32) (.cells #[.bool false,.slice none 0 0] 32)
  have hx9:t4.heap[t3.heap.size+1+1]?=some (.cells #[.bool false,.slice none 0 0] 32):=hx8
  obtain⟨z0',z1'⟩:=duo hx6
  obtain⟨z2',z3'⟩:=duo hx7
  obtain⟨z4',z5'⟩:=duo hx9
  have zf1:=av hx6
  have zf2:=av hx7
  have zf3:=av hx9
  obtain⟨R1,R2,R3,q4,q5⟩:=g9 (p0:=bg) (u1:=.slice ag ng kg) (p2:=bx) (u3:=.slice ax nx kx) (p4:=by') (u5:=.slice ay ny ky) hx6 hx7 hx9
  have hbn:=q5 t3.heap.size t3 (Nat.le_refl _) hb4
  have y1:=q4 _ _ (hzg.below hb4)
  have y2:=q4 _ _ (hzx.below hb4)
  have y3:=q4 _ _ (hzy.below hb4)
  obtain⟨t5,ht5⟩:∃t5,(((((t4.setCell ⟨t3.heap.size,0,none⟩ (.bool bg)).setCell ⟨t3.heap.size,1,none⟩ (.slice ag ng kg)).setCell ⟨t3.heap.size+1,0,none⟩ (.bool bx)).setCell ⟨t3.heap.size+1,1,none⟩ (.slice ax nx kx)).setCell ⟨t3.heap.size+1+1,0,none⟩ (.bool by')).setCell ⟨t3.heap.size+1+1,1,none⟩ (.slice ay ny ky)=t5:=⟨_,rfl⟩
  rw [ht5] at R1 R2 R3 hbn y1 y2 y3
  have hb:=aA hb3 hbn
  replace BA:=ac (ae hb BA.out)
  replace BB:=ac (ae hb BB.out)
  replace X6:=ac (ae hb X6.out)
  replace X8:=ac (ae hb X8.out)
  replace EM:=ac (ae hb EM.out)
  replace EN:=ac (ae hb EN.out)
  replace HA0:=ac (HA0.out.below hb)
  replace HA1:=ac (HA1.out.below hb)
  replace TB:=ac (TB.out.below hb)
  replace A6:=ac (A6.out.below hb)
  replace L1:=ac (L1.out.below hb)
  replace A8:=ac (A8.out.below hb)
  replace L2:=ac (L2.out.below hb)
  replace ZM:=ac (ZM.out.below hb)
  replace ZN:=ac (ZN.out.below hb)
  replace HWW:=ac (aA HWW.out hb)
  have EG:=ac R1
  have EX:=ac R2
  have EY:=ac R3
  have ZG:=ac y1
  have ZX:=ac y2
  have ZY:=ac y3
  have HNUM:=ac hnum
  clear hb hb3 hb4 hbn hx6 hx7 hx8 hx9 R1 R2 R3 q4 q5 y1 y2 y3 hzg hzx hzy hnum
  obtain⟨k0,k1⟩:=duo X6.out
  obtain⟨k2,k3⟩:=duo X8.out
  have C:=oO b0 b1 _ _ z0 z1 t5 A6.out A8.out TB.out (by have:=HS.out;omega) (by have:=HS.out;omega) HS.out.2.2.1 HS.out.2.2.2
  rw [HAZ.out,HBZ.out] at C
  have HXY:=ac (show blen az.natAbs≤67108864∧blen bz.natAbs≤67108864 from ⟨by rw [←HAZ.out,aB];exact HS.out.2.2.1,by rw [←HBZ.out,aB];exact HS.out.2.2.2⟩)
  go_wp2_with fail
  clear k0 k1 k2 k3 ht4 ht5 z0' z1' z2' z3' z4' z5' zf1 zf2 zf3
  refine C.mono ?_
  rintro e t6 ⟨⟨g',x',y',bp,ap,np,kp,bq,aq,nq,kq,br,ar,nr,kr,rfl,hzp,hzq,hzr,hp1,hp2,hp3,hnum⟩,hb6⟩
  clear C
  obtain⟨e1,e2,e3⟩:=nI hnum HNUM.out
  subst e1 e2 e3
  obtain⟨sx,sy,sg⟩:=lE hnum HXY.out.1 HXY.out.2 (by omega)
  have HSM:=ac (And.intro sx (And.intro sy sg))
  have HC0:=ac (Below.refl t5.heap.size t5)
  have OBA:=BA
  have OBB:=BB
  have OA0:=HA0
  have OA1:=HA1
  have OL1:=L1
  have OL2:=L2
  have OTB:=TB
  have OWW:=HWW
  obtain⟨t7,ht7,hb7,hx6,hx7,hx8⟩:=cO t6 (.cells #[.bool false,.slice none 0 0] 27) (.cells #[.bool false,.slice none 0 0] 27) (.cells #[.bool false,.slice none 0 0] 27)
  have hx9:t7.heap[t6.heap.size+1+1]?=some (.cells #[.bool false,.slice none 0 0] 27):=hx8
  obtain⟨z0',z1'⟩:=duo hx6
  obtain⟨z2',z3'⟩:=duo hx7
  obtain⟨z4',z5'⟩:=duo hx9
  have zf1:=av hx6
  have zf2:=av hx7
  have zf3:=av hx9
  obtain⟨R1,R2,R3,q4,q5⟩:=gO (u0:=.bool bp) (u1:=.slice ap np kp) (u2:=.bool bq) (u3:=.slice aq nq kq) (u4:=.bool br) (u5:=.slice ar nr kr) hx6 hx7 hx9
  have hbn:=q5 t6.heap.size t6 (Nat.le_refl _) hb7
  obtain⟨rp,hrp,cp1,cp2,cp3⟩:=hzp
  obtain⟨rq,hrq,cq1,cq2,cq3⟩:=hzq
  obtain⟨rr,hrr,cr1,cr2,cr3⟩:=hzr
  have y1:=q4 _ _ _ (hrp.below hb7)
  have y2:=q4 _ _ _ (hrq.below hb7)
  have y3:=q4 _ _ _ (hrr.below hb7)
  obtain⟨t8,ht8⟩:∃t8,(((((t7.setCell ⟨t6.heap.size,0,none⟩ (.bool bp)).setCell ⟨t6.heap.size,1,none⟩ (.slice ap np kp)).setCell ⟨t6.heap.size+1,0,none⟩ (.bool bq)).setCell ⟨t6.heap.size+1,1,none⟩ (.slice aq nq kq)).setCell ⟨t6.heap.size+1+1,0,none⟩ (.bool br)).setCell ⟨t6.heap.size+1+1,1,none⟩ (.slice ar nr kr)=t8:=⟨_,rfl⟩
  rw [ht8] at R1 R2 R3 hbn y1 y2 y3
  have hb:=aA hb6 hbn
  have lp:=cX cp3 (by rw [cp2,Int.natAbs_natCast];exact sg)
  have lq:=cX cq3 (by rw [cq2];exact sx)
  have lr:=cX cr3 (by rw [cr2];exact sy)
  have HV:=ac (And.intro (And.intro cp1 (And.intro cp2 cp3)) (And.intro (And.intro cq1 (And.intro cq2 cq3)) (And.intro cr1 (And.intro cr2 cr3))))
  have HL3:=ac (And.intro lp (And.intro lq lr))
  have HAP:=ac (And.intro hp1 (And.intro hp2 hp3))
  replace BA:=ac (ae hb BA.out)
  replace BB:=ac (ae hb BB.out)
  replace X6:=ac (ae hb X6.out)
  replace X8:=ac (ae hb X8.out)
  replace EM:=ac (ae hb EM.out)
  replace EN:=ac (ae hb EN.out)
  replace EG:=ac (ae hb EG.out)
  replace EX:=ac (ae hb EX.out)
  replace EY:=ac (ae hb EY.out)
  replace HA0:=ac (HA0.out.below hb)
  replace HA1:=ac (HA1.out.below hb)
  replace TB:=ac (TB.out.below hb)
  replace A6:=ac (A6.out.below hb)
  replace L1:=ac (L1.out.below hb)
  replace A8:=ac (A8.out.below hb)
  replace L2:=ac (L2.out.below hb)
  replace ZM:=ac (ZM.out.below hb)
  replace ZN:=ac (ZN.out.below hb)
  replace ZG:=ac (ZG.out.below hb)
  replace ZX:=ac (ZX.out.below hb)
  replace ZY:=ac (ZY.out.below hb)
  replace HWW:=ac (aA HWW.out hb)
  replace HC0:=ac (aA HC0.out hb)
  have EP:=ac R1
  have EQ:=ac R2
  have ER:=ac R3
  have AP:=ac y1
  have AQ:=ac y2
  have AR:=ac y3
  clear hb hb6 hb7 hbn hx6 hx7 hx8 hx9 R1 R2 R3 q4 q5 y1 y2 y3 hrp hrq hrr cp1 cp2 cp3 cq1 cq2 cq3 cr1 cr2 cr3 lp lq lr hp1 hp2 hp3 hnum sx sy sg
  have L0:=fh _ _ t8 (fz ZG.out)
  rw [Int.natAbs_natCast] at L0
  have L5:=fh _ _ t8 (fz ZX.out)
  have L6:=fh _ _ t8 (fz ZY.out)
  obtain⟨n1',hn1⟩:∃n,blen g'=n:=⟨_,rfl⟩
  obtain⟨n2',hn2⟩:∃n,blen x'.natAbs=n:=⟨_,rfl⟩
  obtain⟨n3',hn3⟩:∃n,blen y'.natAbs=n:=⟨_,rfl⟩
  rw [hn1] at L0
  rw [hn2] at L5
  rw [hn3] at L6
  have i1:¬(67108864:Int)<(n1':Int):=by have:=HSM.out.2.2;omega
  have i2:¬(67108864:Int)<(n2':Int):=by have:=HSM.out.1;omega
  have i3:¬(67108864:Int)<(n3':Int):=by have:=HSM.out.2.1;omega
  have i4:decide ((67108864:Int)<(n3':Int))=false:=decide_eq_false i3
  have HN1:=ac hn1
  obtain⟨k0,k1⟩:=duo EG.out
  obtain⟨k2,k3⟩:=duo EX.out
  obtain⟨k4,k5⟩:=duo EY.out
  clear hn1 hn2 hn3
  go_wp2_with fail
  clear ht7 ht8 z0' z1' z2' z3' z4' z5' zf1 zf2 zf3
  refine L0.mono ?_
  rintro e wn ⟨rfl,hw⟩;rw [hw];clear hw wn L0
  go_wp2_with fail
  refine L5.mono ?_
  rintro e wn ⟨rfl,hw⟩;rw [hw];clear hw wn L5
  go_wp2_with fail
  refine L6.mono ?_
  rintro e wn ⟨rfl,hw⟩;rw [hw];clear hw wn L6
  have C:=gi bp ap np kp 0 (.agg #[.bool bg,.slice ag ng kg]) ((g':Nat):Int) t5.heap.size t8 (fT ⟨_,AP.out,HV.out.1⟩ (by rw [Int.natAbs_natCast];exact HSM.out.2.2)) ZG.out
  obtain⟨p0,p1⟩:=duo EP.out
  obtain⟨p2,p3⟩:=duo EG.out
  go_wp2_with fail
  refine C.mono ?_
  rintro e s1 ⟨rfl,hb⟩
  clear C p0 p1 p2 p3
  clear i1 i2 i3 i4 k0 k1 k2 k3 k4 k5
  replace BA:=ac (ae hb BA.out)
  replace BB:=ac (ae hb BB.out)
  replace X6:=ac (ae hb X6.out)
  replace X8:=ac (ae hb X8.out)
  replace EM:=ac (ae hb EM.out)
  replace EN:=ac (ae hb EN.out)
  replace EG:=ac (ae hb EG.out)
  replace EX:=ac (ae hb EX.out)
  replace EY:=ac (ae hb EY.out)
  replace EP:=ac (ae hb EP.out)
  replace EQ:=ac (ae hb EQ.out)
  replace ER:=ac (ae hb ER.out)
  replace HA0:=ac (HA0.out.below hb)
  replace HA1:=ac (HA1.out.below hb)
  replace TB:=ac (TB.out.below hb)
  replace A6:=ac (A6.out.below hb)
  replace L1:=ac (L1.out.below hb)
  replace A8:=ac (A8.out.below hb)
  replace L2:=ac (L2.out.below hb)
  replace ZM:=ac (ZM.out.below hb)
  replace ZN:=ac (ZN.out.below hb)
  replace ZG:=ac (ZG.out.below hb)
  replace ZX:=ac (ZX.out.below hb)
  replace ZY:=ac (ZY.out.below hb)
  replace AP:=ac (AP.out.below hb)
  replace AQ:=ac (AQ.out.below hb)
  replace AR:=ac (AR.out.below hb)
  replace HWW:=ac (aA HWW.out hb)
  replace HC0:=ac (aA HC0.out hb)
  clear hb
  have C:=gi bq aq nq kq 0 (.agg #[.bool bx,.slice ax nx kx]) x' t5.heap.size s1 (fT ⟨_,AQ.out,HV.out.2.1⟩ (HSM.out.1)) ZX.out
  obtain⟨p0,p1⟩:=duo EQ.out
  obtain⟨p2,p3⟩:=duo EX.out
  go_wp2_with fail
  refine C.mono ?_
  rintro e s2 ⟨rfl,hb⟩
  clear C p0 p1 p2 p3
  replace BA:=ac (ae hb BA.out)
  replace BB:=ac (ae hb BB.out)
  replace X6:=ac (ae hb X6.out)
  replace X8:=ac (ae hb X8.out)
  replace EM:=ac (ae hb EM.out)
  replace EN:=ac (ae hb EN.out)
  replace EG:=ac (ae hb EG.out)
  replace EX:=ac (ae hb EX.out)
  replace EY:=ac (ae hb EY.out)
  replace EP:=ac (ae hb EP.out)
  replace EQ:=ac (ae hb EQ.out)
  replace ER:=ac (ae hb ER.out)
  replace HA0:=ac (HA0.out.below hb)
  replace HA1:=ac (HA1.out.below hb)
  replace TB:=ac (TB.out.below hb)
  replace A6:=ac (A6.out.below hb)
  replace L1:=ac (L1.out.below hb)
  replace A8:=ac (A8.out.below hb)
  replace L2:=ac (L2.out.below hb)
  replace ZM:=ac (ZM.out.below hb)
  replace ZN:=ac (ZN.out.below hb)
  replace ZG:=ac (ZG.out.below hb)
  replace ZX:=ac (ZX.out.below hb)
  replace ZY:=ac (ZY.out.below hb)
  replace AP:=ac (AP.out.below hb)
  replace AQ:=ac (AQ.out.below hb)
  replace AR:=ac (AR.out.below hb)
  replace HWW:=ac (aA HWW.out hb)
  replace HC0:=ac (aA HC0.out hb)
  clear hb
  have C:=gi br ar nr kr 0 (.agg #[.bool by',.slice ay ny ky]) y' t5.heap.size s2 (fT ⟨_,AR.out,HV.out.2.2⟩ (HSM.out.2.1)) ZY.out
  obtain⟨p0,p1⟩:=duo ER.out
  obtain⟨p2,p3⟩:=duo EY.out
  go_wp2_with fail
  refine C.mono ?_
  rintro e s3 ⟨rfl,hb⟩
  clear C p0 p1 p2 p3
  replace BA:=ac (ae hb BA.out)
  replace BB:=ac (ae hb BB.out)
  replace X6:=ac (ae hb X6.out)
  replace X8:=ac (ae hb X8.out)
  replace EM:=ac (ae hb EM.out)
  replace EN:=ac (ae hb EN.out)
  replace EG:=ac (ae hb EG.out)
  replace EX:=ac (ae hb EX.out)
  replace EY:=ac (ae hb EY.out)
  replace EP:=ac (ae hb EP.out)
  replace EQ:=ac (ae hb EQ.out)
  replace ER:=ac (ae hb ER.out)
  replace HA0:=ac (HA0.out.below hb)
  replace HA1:=ac (HA1.out.below hb)
  replace TB:=ac (TB.out.below hb)
  replace A6:=ac (A6.out.below hb)
  replace L1:=ac (L1.out.below hb)
  replace A8:=ac (A8.out.below hb)
  replace L2:=ac (L2.out.below hb)
  replace ZM:=ac (ZM.out.below hb)
  replace ZN:=ac (ZN.out.below hb)
  replace ZG:=ac (ZG.out.below hb)
  replace ZX:=ac (ZX.out.below hb)
  replace ZY:=ac (ZY.out.below hb)
  replace AP:=ac (AP.out.below hb)
  replace AQ:=ac (AQ.out.below hb)
  replace AR:=ac (AR.out.below hb)
  replace HWW:=ac (aA HWW.out hb)
  replace HC0:=ac (aA HC0.out hb)
  clear hb
  have SX6:=X6
  have SX8:=X8
  have SA6:=A6
  have SA8:=A8
  have STB:=TB
  have SEP:=EP
  have SEQ:=EQ
  have SER:=ER
  have SAP:=AP
  have SAQ:=AQ
  have SAR:=AR
  have SHC0:=HC0
  have SEM:=EM
  have SEN:=EN
  have SEG:=EG
  have HSJ:=ac (Below.refl s3.heap.size s3)
  obtain⟨h6,hh6,hbz,hxz⟩:=aL s3 (.cells #[.bool false,.slice none 0 0] 32)
  obtain⟨za,zb⟩:=duo hxz
  have zf:=av hxz
  have RX:=aH (a':=.bool false) (b':=.slice none 0 0) hxz
  have hbn:Below s3.heap.size s3 ((h6.setCell ⟨s3.heap.size,0,none⟩ (.bool false)).setCell ⟨s3.heap.size,1,none⟩ (.slice none 0 0)):=aC hbz (Nat.le_refl _)
  obtain⟨h7,hh7⟩:∃h7,(h6.setCell ⟨s3.heap.size,0,none⟩ (.bool false)).setCell ⟨s3.heap.size,1,none⟩ (.slice none 0 0)=h7:=⟨_,rfl⟩
  rw [hh7] at RX hbn
  replace BA:=ac (ae hbn BA.out)
  replace BB:=ac (ae hbn BB.out)
  replace X6:=ac (ae hbn X6.out)
  replace X8:=ac (ae hbn X8.out)
  replace EM:=ac (ae hbn EM.out)
  replace EN:=ac (ae hbn EN.out)
  replace EG:=ac (ae hbn EG.out)
  replace EX:=ac (ae hbn EX.out)
  replace EY:=ac (ae hbn EY.out)
  replace EP:=ac (ae hbn EP.out)
  replace EQ:=ac (ae hbn EQ.out)
  replace ER:=ac (ae hbn ER.out)
  replace HA0:=ac (HA0.out.below hbn)
  replace HA1:=ac (HA1.out.below hbn)
  replace TB:=ac (TB.out.below hbn)
  replace A6:=ac (A6.out.below hbn)
  replace L1:=ac (L1.out.below hbn)
  replace A8:=ac (A8.out.below hbn)
  replace L2:=ac (L2.out.below hbn)
  replace ZM:=ac (ZM.out.below hbn)
  replace ZN:=ac (ZN.out.below hbn)
  replace ZG:=ac (ZG.out.below hbn)
  replace ZX:=ac (ZX.out.below hbn)
  replace ZY:=ac (ZY.out.below hbn)
  replace AP:=ac (AP.out.below hbn)
  replace AQ:=ac (AQ.out.below hbn)
  replace AR:=ac (AR.out.below hbn)
  replace HWW:=ac (aA HWW.out hbn)
  replace HC0:=ac (aA HC0.out hbn)
  replace HSJ:=ac (aA HSJ.out hbn)
  have EW:=ac RX
  have ZWW:=ac (gT h7)
  clear hbn hbz hxz RX
  by_cases hb0:bz=0
  ·have sb0:bz.sign=0:=by rw [hb0];rfl
   have C:=dp (.agg #[.bool bn,.slice an nn kn]) bz h7 ZN.out
   rw [sb0] at C
   obtain⟨p0,p1⟩:=duo EN.out
   clear sb0
   go_wp2_with fail
   clear hh6 hh7 za zb zf
   refine C.mono ?_
   rintro e j1 ⟨rfl,hb⟩
   clear C p0 p1
   replace BA:=ac (ae hb BA.out)
   replace BB:=ac (ae hb BB.out)
   replace X6:=ac (ae hb X6.out)
   replace X8:=ac (ae hb X8.out)
   replace EM:=ac (ae hb EM.out)
   replace EN:=ac (ae hb EN.out)
   replace EG:=ac (ae hb EG.out)
   replace EX:=ac (ae hb EX.out)
   replace EY:=ac (ae hb EY.out)
   replace EP:=ac (ae hb EP.out)
   replace EQ:=ac (ae hb EQ.out)
   replace ER:=ac (ae hb ER.out)
   replace EW:=ac (ae hb EW.out)
   replace HA0:=ac (HA0.out.below hb)
   replace HA1:=ac (HA1.out.below hb)
   replace TB:=ac (TB.out.below hb)
   replace A6:=ac (A6.out.below hb)
   replace L1:=ac (L1.out.below hb)
   replace A8:=ac (A8.out.below hb)
   replace L2:=ac (L2.out.below hb)
   replace ZM:=ac (ZM.out.below hb)
   replace ZN:=ac (ZN.out.below hb)
   replace ZG:=ac (ZG.out.below hb)
   replace ZX:=ac (ZX.out.below hb)
   replace ZY:=ac (ZY.out.below hb)
   replace AP:=ac (AP.out.below hb)
   replace AQ:=ac (AQ.out.below hb)
   replace AR:=ac (AR.out.below hb)
   replace ZWW:=ac (ZWW.out.below hb)
   replace HWW:=ac (aA HWW.out hb)
   replace HC0:=ac (aA HC0.out hb)
   replace HSJ:=ac (aA HSJ.out hb)
   clear hb
   obtain⟨p0,p1⟩:=duo X6.out
   obtain⟨p2,p3⟩:=duo X8.out
   have C:=gY b0 b1 _ _ z0 z1 j1 A6.out A8.out TB.out (by have:=HS.out;omega) (by have:=HS.out;omega) HS.out.2.2.2
   rw [HAZ.out,HBZ.out] at C
   go_wp2_with fail
   clear p0 p1 p2 p3
   refine C.mono ?_
   rintro e i1 ⟨⟨bi,ai,ni,ki,ci,rfl,hout⟩,hb1⟩
   clear C
   obtain⟨rfl,rfl,rfl,rfl,rfl⟩:ci=30∧bi=false∧ai=none∧ni=0∧ki=0:=by
    rcases hout with ⟨_,h2⟩|⟨h1,_⟩|⟨h1,_⟩
    ·exact h2
    ·exact absurd hb0 h1
    ·exact absurd hb0 h1
   clear hout hb0
   obtain⟨m6,hm6,hbz,hxz⟩:=aL i1 (.cells #[.bool false,.slice none 0 0] 27)
   obtain⟨za,zb⟩:=duo hxz
   have zf:=av hxz
   have RX:=aH (a':=.bool false) (b':=.slice none 0 0) hxz
   have hbn:Below i1.heap.size i1 ((m6.setCell ⟨i1.heap.size,0,none⟩ (.bool false)).setCell ⟨i1.heap.size,1,none⟩ (.slice none 0 0)):=aC hbz (Nat.le_refl _)
   obtain⟨m7,hm7⟩:∃m7,(m6.setCell ⟨i1.heap.size,0,none⟩ (.bool false)).setCell ⟨i1.heap.size,1,none⟩ (.slice none 0 0)=m7:=⟨_,rfl⟩
   rw [hm7] at RX hbn
   have hb:=aA hb1 hbn
   replace BA:=ac (ae hb BA.out)
   replace BB:=ac (ae hb BB.out)
   replace X6:=ac (ae hb X6.out)
   replace X8:=ac (ae hb X8.out)
   replace EM:=ac (ae hb EM.out)
   replace EN:=ac (ae hb EN.out)
   replace EG:=ac (ae hb EG.out)
   replace EX:=ac (ae hb EX.out)
   replace EY:=ac (ae hb EY.out)
   replace EP:=ac (ae hb EP.out)
   replace EQ:=ac (ae hb EQ.out)
   replace ER:=ac (ae hb ER.out)
   replace EW:=ac (ae hb EW.out)
   replace HA0:=ac (HA0.out.below hb)
   replace HA1:=ac (HA1.out.below hb)
   replace TB:=ac (TB.out.below hb)
   replace A6:=ac (A6.out.below hb)
   replace L1:=ac (L1.out.below hb)
   replace A8:=ac (A8.out.below hb)
   replace L2:=ac (L2.out.below hb)
   replace ZM:=ac (ZM.out.below hb)
   replace ZN:=ac (ZN.out.below hb)
   replace ZG:=ac (ZG.out.below hb)
   replace ZX:=ac (ZX.out.below hb)
   replace ZY:=ac (ZY.out.below hb)
   replace AP:=ac (AP.out.below hb)
   replace AQ:=ac (AQ.out.below hb)
   replace AR:=ac (AR.out.below hb)
   replace ZWW:=ac (ZWW.out.below hb)
   replace HWW:=ac (aA HWW.out hb)
   replace HC0:=ac (aA HC0.out hb)
   replace HSJ:=ac (aA HSJ.out hb)
   have EI:=ac RX
   have HLI:Hid (([]:List Nat).length≤1048576):=ac (by simp)
   clear hb hb1 hbn hbz hxz RX
   have C:=iX 30 (.agg #[.bool false,.slice none 0 0]) 0 m7 ZWW.out (by omega)
   obtain⟨p0,p1⟩:=duo EI.out
   obtain⟨p2,p3⟩:=duo EW.out
   go_wp2_with fail
   clear hm6 hm7 za zb zf
   refine C.mono ?_
   rintro e v1 ⟨rfl,hb⟩
   clear C p0 p1 p2 p3
   replace BA:=ac (ae hb BA.out)
   replace BB:=ac (ae hb BB.out)
   replace X6:=ac (ae hb X6.out)
   replace X8:=ac (ae hb X8.out)
   replace EM:=ac (ae hb EM.out)
   replace EN:=ac (ae hb EN.out)
   replace EG:=ac (ae hb EG.out)
   replace EX:=ac (ae hb EX.out)
   replace EY:=ac (ae hb EY.out)
   replace EP:=ac (ae hb EP.out)
   replace EQ:=ac (ae hb EQ.out)
   replace ER:=ac (ae hb ER.out)
   replace EW:=ac (ae hb EW.out)
   replace EI:=ac (ae hb EI.out)
   replace HA0:=ac (HA0.out.below hb)
   replace HA1:=ac (HA1.out.below hb)
   replace TB:=ac (TB.out.below hb)
   replace A6:=ac (A6.out.below hb)
   replace L1:=ac (L1.out.below hb)
   replace A8:=ac (A8.out.below hb)
   replace L2:=ac (L2.out.below hb)
   replace ZM:=ac (ZM.out.below hb)
   replace ZN:=ac (ZN.out.below hb)
   replace ZG:=ac (ZG.out.below hb)
   replace ZX:=ac (ZX.out.below hb)
   replace ZY:=ac (ZY.out.below hb)
   replace AP:=ac (AP.out.below hb)
   replace AQ:=ac (AQ.out.below hb)
   replace AR:=ac (AR.out.below hb)
   replace ZWW:=ac (ZWW.out.below hb)
   replace HWW:=ac (aA HWW.out hb)
   replace HC0:=ac (aA HC0.out hb)
   replace HSJ:=ac (aA HSJ.out hb)
   clear hb
   have HPP:=ac (gU AP.out AQ.out AR.out (Ans.nil _ _) HAP.out.1 HAP.out.2.1 HAP.out.2.2 (fun k e=>by simp [Value.ownBlock]) (fun k e=>by simp [Value.ownBlock]) (fun k e=>by simp [Value.ownBlock]))
   have C:=gI t5.heap.size _ _ _ _ rp rq rr [] v1 HPP.out ⟨HL3.out.1,HL3.out.2.1,HL3.out.2.2,HLI.out⟩ HC0.out.size
   obtain⟨p0,p1⟩:=duo EP.out
   obtain⟨p2,p3⟩:=duo EQ.out
   obtain⟨p4,p5⟩:=duo ER.out
   obtain⟨p6,p7⟩:=duo EI.out
   go_wp2_with fail
   refine C.mono ?_
   rintro e v2 ⟨rfl,hbk⟩
   clear C p0 p1 p2 p3 p4 p5 p6 p7
   have HBK:=ac (HC0.out.trans (hbk.below))
   have oba:=ae HBK.out OBA.out
   have obb:=ae HBK.out OBB.out
   obtain⟨p0,p1⟩:=duo oba
   obtain⟨p2,p3⟩:=duo obb
   have C1:=dW _ _ z0 v2 (OL1.out.below HBK.out) (OA0.out.below HBK.out) (by have:=HS.out;omega)
   have C2:=dW _ _ z1 v2 (OL2.out.below HBK.out) (OA1.out.below HBK.out) (by have:=HS.out;omega)
   have C3:=iv v2 (OTB.out.below HBK.out)
   have HFW:=ac (aA OWW.out HBK.out)
   clear hbk oba obb
   go_wp2_with fail
   refine C1.mono ?_
   rintro e wn ⟨rfl,hw⟩;rw [hw];clear hw wn C1
   go_wp2_with fail
   refine C2.mono ?_
   rintro e wn ⟨rfl,hw⟩;rw [hw];clear hw wn C2
   go_wp2_with fail
   refine C3.mono ?_
   rintro e v3 ⟨rfl,hb⟩
   have HFIN:=ac (aA HFW.out hb)
   clear hb C3 p0 p1 p2 p3
   go_wp2
   go_ret
   exact⟨rfl,HFIN.out⟩
  ·obtain⟨sb,hsb,hs1⟩:∃sb,bz.sign=sb∧sb≠0:=⟨_,rfl,fun e=>hb0 (Int.sign_eq_zero_iff_zero.1 e)⟩
   have hs2:(sb == 0)=false:=by rw [beq_eq_false_iff_ne];exact hs1
   have C:=dp (.agg #[.bool bn,.slice an nn kn]) bz h7 ZN.out
   rw [hsb] at C
   obtain⟨p0,p1⟩:=duo EN.out
   clear hsb
   go_wp2_with fail
   clear hh6 hh7 za zb zf
   refine C.mono ?_
   rintro e j1 ⟨rfl,hb⟩
   clear C p0 p1
   replace BA:=ac (ae hb BA.out)
   replace BB:=ac (ae hb BB.out)
   replace X6:=ac (ae hb X6.out)
   replace X8:=ac (ae hb X8.out)
   replace EM:=ac (ae hb EM.out)
   replace EN:=ac (ae hb EN.out)
   replace EG:=ac (ae hb EG.out)
   replace EX:=ac (ae hb EX.out)
   replace EY:=ac (ae hb EY.out)
   replace EP:=ac (ae hb EP.out)
   replace EQ:=ac (ae hb EQ.out)
   replace ER:=ac (ae hb ER.out)
   replace EW:=ac (ae hb EW.out)
   replace HA0:=ac (HA0.out.below hb)
   replace HA1:=ac (HA1.out.below hb)
   replace TB:=ac (TB.out.below hb)
   replace A6:=ac (A6.out.below hb)
   replace L1:=ac (L1.out.below hb)
   replace A8:=ac (A8.out.below hb)
   replace L2:=ac (L2.out.below hb)
   replace ZM:=ac (ZM.out.below hb)
   replace ZN:=ac (ZN.out.below hb)
   replace ZG:=ac (ZG.out.below hb)
   replace ZX:=ac (ZX.out.below hb)
   replace ZY:=ac (ZY.out.below hb)
   replace AP:=ac (AP.out.below hb)
   replace AQ:=ac (AQ.out.below hb)
   replace AR:=ac (AR.out.below hb)
   replace ZWW:=ac (ZWW.out.below hb)
   replace HWW:=ac (aA HWW.out hb)
   replace HC0:=ac (aA HC0.out hb)
   replace HSJ:=ac (aA HSJ.out hb)
   clear hb
   have C:=fh _ _ j1 (fz ZG.out)
   rw [Int.natAbs_natCast,HN1.out] at C
   obtain⟨p0,p1⟩:=duo EG.out
   by_cases hg1:g'=1
   ·have i1:¬(1:Int)<(n1':Int):=by
     have:blen g'≤1:=(blen_le_iff g' 1).2 (by rw [hg1];decide)
     have:=HN1.out
     omega
    go_wp2_with fail
    refine C.mono ?_
    rintro e wn ⟨rfl,hw⟩;rw [hw];clear hw wn
    have HI1:=ac (And.intro hb0 hg1)
    clear hb0 hg1
    obtain⟨Bz,hBz⟩:∃Bz,bz.natAbs=Bz:=⟨_,rfl⟩
    have HBZ2:=ac hBz
    obtain⟨aa,haa⟩:∃aa,er b0 (val z0) Bz=aa:=⟨_,rfl⟩
    have HER:=ac haa
    clear hBz haa
    go_upto_region 17 with fail
    clear C p0 p1 hs1 hs2 i1
    go_cut [18] from 97 to 101 (fun s wx=>s=.int .i64 0∧∃x:Nat,IsInv Bz aa 1 x∧ZB wx s3.heap.size (x:Int)∧Below s3.heap.size s3 wx)
    case first=>
     have KS2:=ac (fun (W:World) (hg:Below s3.heap.size s3 W)=>show W.cell? ⟨gm,0,none⟩=some (.bool bm)∧W.cell? ⟨gm,1,none⟩=some (.slice am nm km)∧W.cell? ⟨gn,0,none⟩=some (.bool bn)∧W.cell? ⟨gn,1,none⟩=some (.slice an nn kn)∧W.cell? ⟨t3.heap.size,0,none⟩=some (.bool bg)∧W.cell? ⟨t3.heap.size,1,none⟩=some (.slice ag ng kg) from ⟨(duo (ae hg SEM.out)).1,(duo (ae hg SEM.out)).2,(duo (ae hg SEN.out)).1,(duo (ae hg SEN.out)).2,(duo (ae hg SEG.out)).1,(duo (ae hg SEG.out)).2⟩)
     have KS:=ac (fun (W:World) (hg:Below j1.heap.size j1 W)=>KS2.out W (aA HSJ.out hg))
     have hgB:g'=Nat.gcd Bz aa:=by rw [←HER.out,dI _ _ _ (by rw [←HBZ2.out];have:=HI1.out.1;omega),HNUM.out.gcd,HBZ2.out,←HAZ.out,aB]
     have HGB:=ac hgB
     clear hgB
     have IN1:=ac (fun (W:World) (hg:Below j1.heap.size j1 W)=>show Calls Tryz.prog 14 #[.agg #[.bool bn,.slice an nn kn]] W (bE W ((Bz:Nat):Int)) by
      have h:=iZ (.agg #[.bool bn,.slice an nn kn]) bz W (ZN.out.below hg)
      rw [HBZ2.out] at h
      exact h)
     have IN2:=ac (fun (W:World) (v:Value) (hg:Below j1.heap.size j1 W) (h:Zn W v ((Bz:Nat):Int))=>show Calls Tryz.prog 13 #[.agg #[.bool bm,.slice am nm km],v,.agg #[.bool bg,.slice ag ng kg]] W (fun e w'=>∃x:Nat,IsInv Bz aa 1 x∧bE W (x:Int) e w') by
      have h2:=iA b0 (val z0) Bz g' (.agg #[.bool bm,.slice am nm km]) v (.agg #[.bool bg,.slice ag ng kg]) W (by rw [HAZ.out];exact ZM.out.below hg) h (ZG.out.below hg) (by rw [←HBZ2.out];have:=HI1.out.1;omega) (by rw [HER.out];exact HGB.out) HS.out.2.2.1 (by rw [←HBZ2.out];exact HXY.out.2)
      rw [HER.out,←HGB.out,HI1.out.2] at h2
      exact h2)
     refine wp_region_held_drew (S:=fun w'=>w'.cell? ⟨gm,0,none⟩=some (.bool bm)∧w'.cell? ⟨gm,1,none⟩=some (.slice am nm km)∧w'.cell? ⟨gn,0,none⟩=some (.bool bn)∧w'.cell? ⟨gn,1,none⟩=some (.slice an nn kn)∧w'.cell? ⟨t3.heap.size,0,none⟩=some (.bool bg)∧w'.cell? ⟨t3.heap.size,1,none⟩=some (.slice ag ng kg)) (by kernel_rfl) (KS.out _ ((Below.refl _ _).drew)) (fun hHeld=>?_)
     refine wpAnyH_take (i:=0) (oi:={ dst:=some 97,op:=Op.load 32 (Operand.tmp 9),type:=32,pos:="law.go:158",after:=#[],guard:=none }) (v:=.agg #[.bool bm,.slice am nm km]) rfl (by kernel_rfl) (by kernel_rfl) (by kernel_rfl) (fun _ _ _ h=>h) (Or.inl ⟨by rfl,fun w9 hSw=>?_⟩) hHeld ?_
     ·(try dsimp only at hSw);go_simp
     simp only [Act.put,List.setIfInBounds_toArray,List.set_cons_zero,List.set_cons_succ]
     refine wpAnyH_take (i:=1) (oi:={ dst:=some 98,op:=Op.load 32 (Operand.tmp 10),type:=32,pos:="law.go:158",after:=#[],guard:=none }) (v:=.agg #[.bool bn,.slice an nn kn]) rfl (by kernel_rfl) (by kernel_rfl) (by kernel_rfl) (fun _ _ _ h=>h) (Or.inl ⟨by rfl,fun w9 hSw=>?_⟩) hHeld ?_
     ·(try dsimp only at hSw);go_simp
     simp only [Act.put,List.setIfInBounds_toArray,List.set_cons_zero,List.set_cons_succ]
     refine wpAnyH_take (i:=3) (oi:={ dst:=some 100,op:=Op.load 32 (Operand.tmp 11),type:=32,pos:="law.go:158",after:=#[],guard:=none }) (v:=.agg #[.bool bg,.slice ag ng kg]) rfl (by kernel_rfl) (by kernel_rfl) (by kernel_rfl) (fun _ _ _ h=>h) (Or.inl ⟨by rfl,fun w9 hSw=>?_⟩) hHeld ?_
     ·(try dsimp only at hSw);go_simp
     simp only [Act.put,List.setIfInBounds_toArray,List.set_cons_zero,List.set_cons_succ]
     refine q8 j1 (aV ((Bz:Nat):Int)) (fun W v=>∃x:Nat,IsInv Bz aa 1 x∧aV (x:Int) W v) (aV.up _) (fun W W' v hb ⟨x,h1,h2⟩=>⟨x,h1,aV.up _ _ _ _ hb h2⟩) 99 101 1 (fun c1 c2=>#[true,true,c1,true,c2,false]) (by kernel_rfl) (by kernel_rfl) (by simp only [Act.put,List.setIfInBounds_toArray,List.set_cons_zero,List.set_cons_succ]) ((Below.refl _ _).drew) ?_
     clear hHeld
     intro n
     simp only [Act.put,List.setIfInBounds_toArray,List.set_cons_zero,List.set_cons_succ]
     induction n with
     | zero=>
      intro c1 c2 x1 x2 W hf J
      obtain⟨rfl,rfl⟩:=o8 c1 c2 hf
      clear hf
      have HU:=ac J.up
      obtain⟨xi,hinv,b1',a1',n1',k1',rfl,Z1⟩:=J.q2 rfl
      have ew:=ae HU.out EW.out
      have hf1:=av ew
      obtain⟨m0,m1⟩:=duo ew
      have HFIN:=ac (And.intro (show ZB ((W.setCell ⟨s3.heap.size,0,none⟩ (.bool b1')).setCell ⟨s3.heap.size,1,none⟩ (.slice a1' n1' k1')) s3.heap.size (xi:Int) from ⟨_,_,_,_,aH ew,Z1.duo ew⟩) (aC (g:=s3.heap.size) (u0:=.bool b1') (u1:=.slice a1' n1' k1') (aA HSJ.out HU.out) (Nat.le_refl _)))
      clear J Z1 ew
      refine wpAnyH_ready (rs:=[5]) (by kernel_rfl) (by simp) ?_
      refine AllReadyH.cons rfl (fun K hK=>?_) AllReadyH.nil
      go_simp
      refine hK.out _ _ (KS2.out _ HFIN.out.2) (fun _=>?_)
      clear hK K
      simp only [List.setIfInBounds_toArray,List.set_cons_zero,List.set_cons_succ]
      refine wpAnyH_done (by kernel_rfl) ?_ _
      go_wp2_with fail
      go_meet
      exact⟨rfl,xi,hinv,HFIN.out.1,HFIN.out.2⟩
     | succ n ih=>
      intro c1 c2 x1 x2 W hf J
      cases c1
      ·skip
       cases c2
       ·skip
        refine wpAnyH_ready (rs:=[2]) (by kernel_rfl) (by simp) ?_
        refine AllReadyH.cons rfl (fun K hK=>?_) ?_
        ·go_simp
         refine (IN1.out W J.up).mono ?_
         rintro e' W2 ⟨⟨p,q,r,s,rfl,hz⟩,hb⟩
         refine hK.out _ _ (KS.out _ (J.up.trans (hb.mono J.up.size))) (fun hS2=>?_)
         simp only [List.setIfInBounds_toArray,List.set_cons_zero,List.set_cons_succ]
         exact ih _ _ _ _ _ (by simp [dB] at hf ⊢;omega) (J.call1 hb ⟨p,q,r,s,rfl,hz⟩)
        exact AllReadyH.nil
       ·skip
        exact absurd (J.h2 rfl) (by decide)
      ·skip
       cases c2
       ·skip
        refine wpAnyH_ready (rs:=[4]) (by kernel_rfl) (by simp) ?_
        refine AllReadyH.cons rfl (fun K hK=>?_) ?_
        ·go_simp
         refine (IN2.out W x1 J.up (J.q1 rfl).zn).mono ?_
         rintro e' W2 ⟨xi,hinv,⟨p,q,r,s,rfl,hz⟩,hb⟩
         refine hK.out _ _ (KS.out _ (J.up.trans (hb.mono J.up.size))) (fun hS2=>?_)
         simp only [List.setIfInBounds_toArray,List.set_cons_zero,List.set_cons_succ]
         exact ih _ _ _ _ _ (by simp [dB] at hf ⊢;omega) (J.call2 hb ⟨xi,hinv,p,q,r,s,rfl,hz⟩)
        exact AllReadyH.nil
       ·skip
        exact absurd hf (by simp [dB])
    case rest=>
     rename World=>u2
     obtain⟨rfl,x,hinv,⟨bw',aw',nw',kw',ew,zw⟩,hbs⟩:=hcut
     replace X6:=ac (ae hbs SX6.out)
     replace X8:=ac (ae hbs SX8.out)
     replace EP:=ac (ae hbs SEP.out)
     replace EQ:=ac (ae hbs SEQ.out)
     replace ER:=ac (ae hbs SER.out)
     replace A6:=ac (SA6.out.below hbs)
     replace A8:=ac (SA8.out.below hbs)
     replace TB:=ac (STB.out.below hbs)
     replace AP:=ac (SAP.out.below hbs)
     replace AQ:=ac (SAQ.out.below hbs)
     replace AR:=ac (SAR.out.below hbs)
     replace HC0:=ac (aA SHC0.out hbs)
     replace EW:=ac ew
     replace ZWW:=ac zw
     have HIV:=ac hinv
     clear hbs ew zw hinv BA BB HA0 HA1 L1 L2 EM EN ZM ZN EG EX EY ZG ZX ZY HWW HSJ
     obtain⟨p0,p1⟩:=duo X6.out
     obtain⟨p2,p3⟩:=duo X8.out
     have C:=gY b0 b1 _ _ z0 z1 u2 A6.out A8.out TB.out (by have:=HS.out;omega) (by have:=HS.out;omega) HS.out.2.2.2
     rw [HAZ.out,HBZ.out] at C
     go_wp2_with fail
     clear p0 p1 p2 p3
     refine C.mono ?_
     rintro e i1 ⟨⟨bi,ai,ni,ki,ci,rfl,hout⟩,hb1⟩
     clear C
     obtain⟨rfl,x',hz,hxl,q,hq⟩:ci=0∧∃x:Nat,ZA i1 u2.heap.size bi (.slice ai ni ki) (x:Int)∧x<bz.natAbs∧∃q:Int,az*(x:Int)=1+q*bz:=by
      rcases hout with ⟨h1,_⟩|⟨_,h2,_⟩|⟨_,_,h3,h4⟩
      ·exact absurd h1 HI1.out.1
      ·exact absurd (HNUM.out.gcd.symm.trans HI1.out.2) h2
      ·exact⟨h3,h4⟩
     have hxx:x'=x:=by
      have hBp:0<Bz:=by rw [←HBZ2.out];have:=HI1.out.1;omega
      have hgc:1=Nat.gcd Bz aa:=by rw [←HER.out,dI _ _ _ hBp,←HBZ2.out,←HI1.out.2,HNUM.out.gcd,←HAZ.out,aB]
      refine kM hBp hgc ⟨.inl (by rw [Nat.mul_one,←HBZ2.out];exact hxl),?_⟩ HIV.out
      obtain⟨l,hl⟩:=eW b0 (val z0) Bz hBp
      rw [HAZ.out,HER.out] at hl
      rw [hl] at hq
      have hb2:bz=(Bz:Int)∨bz=-(Bz:Int):=by have:=HBZ2.out;omega
      rcases hb2 with hb2|hb2
      ·rw [hb2] at hq
       exact⟨q - l*(x':Int),by grind⟩
      ·rw [hb2] at hq
       exact⟨-q - l*(x':Int),by grind⟩
     subst hxx
     have hsz:blen ((x':Nat):Int).natAbs≤67108864:=by rw [Int.natAbs_natCast];exact Nat.le_trans (bA (Nat.le_of_lt hxl)) HXY.out.2
     obtain⟨ri,hri,ci1,ci2,ci3⟩:=hz
     have li:=cX ci3 (by rw [ci2];exact hsz)
     have HLI:=ac li
     have HPI:=ac (And.intro (dz AP.out hri) (And.intro (dz AQ.out hri) (dz AR.out hri)))
     clear hout hq hxl q li
     obtain⟨m6,hm6,hbz,hxz⟩:=aL i1 (.cells #[.bool false,.slice none 0 0] 27)
     obtain⟨za,zb⟩:=duo hxz
     have zf:=av hxz
     have RX:=aH (a':=.bool bi) (b':=.slice ai ni ki) hxz
     have hbn:Below i1.heap.size i1 ((m6.setCell ⟨i1.heap.size,0,none⟩ (.bool bi)).setCell ⟨i1.heap.size,1,none⟩ (.slice ai ni ki)):=aC hbz (Nat.le_refl _)
     obtain⟨m7,hm7⟩:∃m7,(m6.setCell ⟨i1.heap.size,0,none⟩ (.bool bi)).setCell ⟨i1.heap.size,1,none⟩ (.slice ai ni ki)=m7:=⟨_,rfl⟩
     rw [hm7] at RX hbn
     have hb:=aA hb1 hbn
     have ai1:=(hri.below hbz).duo (u0:=.bool bi) (u1:=.slice ai ni ki) hxz
     rw [hm7] at ai1
     have AI:=ac (ai1.base HC0.out.size)
     have HVI:=ac (And.intro ci1 (And.intro ci2 ci3))
     have HSZ:=ac hsz
     replace X6:=ac (ae hb X6.out)
     replace X8:=ac (ae hb X8.out)
     replace EP:=ac (ae hb EP.out)
     replace EQ:=ac (ae hb EQ.out)
     replace ER:=ac (ae hb ER.out)
     replace EW:=ac (ae hb EW.out)
     replace A6:=ac (A6.out.below hb)
     replace A8:=ac (A8.out.below hb)
     replace TB:=ac (TB.out.below hb)
     replace AP:=ac (AP.out.below hb)
     replace AQ:=ac (AQ.out.below hb)
     replace AR:=ac (AR.out.below hb)
     replace ZWW:=ac (ZWW.out.below hb)
     replace HC0:=ac (aA HC0.out hb)
     have EI:=ac RX
     clear hb hb1 hbn hbz hxz RX hri ci1 ci2 ci3 ai1 hsz
     have C:=gi bi ai ni ki 0 (.agg #[.bool bw',.slice aw' nw' kw']) (((x':Nat):Int)) t5.heap.size m7 (fT ⟨_,AI.out,HVI.out⟩ HSZ.out) ZWW.out
     obtain⟨p0,p1⟩:=duo EI.out
     obtain⟨p2,p3⟩:=duo EW.out
     go_wp2_with fail
     clear hm6 hm7 za zb zf
     refine C.mono ?_
     rintro e v1 ⟨rfl,hb⟩
     clear C p0 p1 p2 p3
     replace X6:=ac (ae hb X6.out)
     replace X8:=ac (ae hb X8.out)
     replace EP:=ac (ae hb EP.out)
     replace EQ:=ac (ae hb EQ.out)
     replace ER:=ac (ae hb ER.out)
     replace EW:=ac (ae hb EW.out)
     replace EI:=ac (ae hb EI.out)
     replace A6:=ac (A6.out.below hb)
     replace A8:=ac (A8.out.below hb)
     replace TB:=ac (TB.out.below hb)
     replace AP:=ac (AP.out.below hb)
     replace AQ:=ac (AQ.out.below hb)
     replace AR:=ac (AR.out.below hb)
     replace ZWW:=ac (ZWW.out.below hb)
     replace AI:=ac (AI.out.below hb)
     replace HC0:=ac (aA HC0.out hb)
     clear hb
     have HPP:=ac (gU AP.out AQ.out AR.out AI.out HAP.out.1 HAP.out.2.1 HAP.out.2.2 HPI.out.1 HPI.out.2.1 HPI.out.2.2)
     have C:=gI t5.heap.size _ _ _ _ rp rq rr ri v1 HPP.out ⟨HL3.out.1,HL3.out.2.1,HL3.out.2.2,HLI.out⟩ HC0.out.size
     obtain⟨p0,p1⟩:=duo EP.out
     obtain⟨p2,p3⟩:=duo EQ.out
     obtain⟨p4,p5⟩:=duo ER.out
     obtain⟨p6,p7⟩:=duo EI.out
     go_wp2_with fail
     refine C.mono ?_
     rintro e v2 ⟨rfl,hbk⟩
     clear C p0 p1 p2 p3 p4 p5 p6 p7
     have HBK:=ac (HC0.out.trans (hbk.below))
     have oba:=ae HBK.out OBA.out
     have obb:=ae HBK.out OBB.out
     obtain⟨p0,p1⟩:=duo oba
     obtain⟨p2,p3⟩:=duo obb
     have C1:=dW _ _ z0 v2 (OL1.out.below HBK.out) (OA0.out.below HBK.out) (by have:=HS.out;omega)
     have C2:=dW _ _ z1 v2 (OL2.out.below HBK.out) (OA1.out.below HBK.out) (by have:=HS.out;omega)
     have C3:=iv v2 (OTB.out.below HBK.out)
     have HFW:=ac (aA OWW.out HBK.out)
     clear hbk oba obb
     go_wp2_with fail
     refine C1.mono ?_
     rintro e wn ⟨rfl,hw⟩;rw [hw];clear hw wn C1
     go_wp2_with fail
     refine C2.mono ?_
     rintro e wn ⟨rfl,hw⟩;rw [hw];clear hw wn C2
     go_wp2_with fail
     refine C3.mono ?_
     rintro e v3 ⟨rfl,hb⟩
     have HFIN:=ac (aA HFW.out hb)
     clear hb C3 p0 p1 p2 p3
     go_wp2
     go_ret
     exact⟨rfl,HFIN.out⟩
   ·have i9:(1:Int)<(n1':Int):=by
     have h2:0<g':=by rw [HNUM.out.gcd];exact Nat.gcd_pos_of_pos_right _ (by omega)
     have:¬blen g'≤1:=fun h=>by have h1:=(blen_le_iff g' 1).1 h;omega
     have:=HN1.out
     omega
    have HI1:=ac (And.intro hb0 hg1)
    clear hb0 hg1
    go_wp2_with fail
    refine C.mono ?_
    rintro e wn ⟨rfl,hw⟩;rw [hw];clear hw wn C p0 p1 hs1 hs2
    obtain⟨p0,p1⟩:=duo X6.out
    obtain⟨p2,p3⟩:=duo X8.out
    have C:=gY b0 b1 _ _ z0 z1 j1 A6.out A8.out TB.out (by have:=HS.out;omega) (by have:=HS.out;omega) HS.out.2.2.2
    rw [HAZ.out,HBZ.out] at C
    go_wp2_with fail
    clear p0 p1 p2 p3
    refine C.mono ?_
    rintro e i1 ⟨⟨bi,ai,ni,ki,ci,rfl,hout⟩,hb1⟩
    clear C
    obtain⟨rfl,rfl,rfl,rfl,rfl⟩:ci=61∧bi=false∧ai=none∧ni=0∧ki=0:=by
     rcases hout with ⟨h1,_⟩|⟨_,_,h2⟩|⟨_,h1,_⟩
     ·exact absurd h1 HI1.out.1
     ·exact h2
     ·exact absurd (HNUM.out.gcd.trans h1) HI1.out.2
    clear hout i9
    obtain⟨m6,hm6,hbz,hxz⟩:=aL i1 (.cells #[.bool false,.slice none 0 0] 27)
    obtain⟨za,zb⟩:=duo hxz
    have zf:=av hxz
    have RX:=aH (a':=.bool false) (b':=.slice none 0 0) hxz
    have hbn:Below i1.heap.size i1 ((m6.setCell ⟨i1.heap.size,0,none⟩ (.bool false)).setCell ⟨i1.heap.size,1,none⟩ (.slice none 0 0)):=aC hbz (Nat.le_refl _)
    obtain⟨m7,hm7⟩:∃m7,(m6.setCell ⟨i1.heap.size,0,none⟩ (.bool false)).setCell ⟨i1.heap.size,1,none⟩ (.slice none 0 0)=m7:=⟨_,rfl⟩
    rw [hm7] at RX hbn
    have hb:=aA hb1 hbn
    replace BA:=ac (ae hb BA.out)
    replace BB:=ac (ae hb BB.out)
    replace X6:=ac (ae hb X6.out)
    replace X8:=ac (ae hb X8.out)
    replace EM:=ac (ae hb EM.out)
    replace EN:=ac (ae hb EN.out)
    replace EG:=ac (ae hb EG.out)
    replace EX:=ac (ae hb EX.out)
    replace EY:=ac (ae hb EY.out)
    replace EP:=ac (ae hb EP.out)
    replace EQ:=ac (ae hb EQ.out)
    replace ER:=ac (ae hb ER.out)
    replace EW:=ac (ae hb EW.out)
    replace HA0:=ac (HA0.out.below hb)
    replace HA1:=ac (HA1.out.below hb)
    replace TB:=ac (TB.out.below hb)
    replace A6:=ac (A6.out.below hb)
    replace L1:=ac (L1.out.below hb)
    replace A8:=ac (A8.out.below hb)
    replace L2:=ac (L2.out.below hb)
    replace ZM:=ac (ZM.out.below hb)
    replace ZN:=ac (ZN.out.below hb)
    replace ZG:=ac (ZG.out.below hb)
    replace ZX:=ac (ZX.out.below hb)
    replace ZY:=ac (ZY.out.below hb)
    replace AP:=ac (AP.out.below hb)
    replace AQ:=ac (AQ.out.below hb)
    replace AR:=ac (AR.out.below hb)
    replace ZWW:=ac (ZWW.out.below hb)
    replace HWW:=ac (aA HWW.out hb)
    replace HC0:=ac (aA HC0.out hb)
    replace HSJ:=ac (aA HSJ.out hb)
    have EI:=ac RX
    have HLI:Hid (([]:List Nat).length≤1048576):=ac (by simp)
    clear hb hb1 hbn hbz hxz RX
    have C:=iX 61 (.agg #[.bool false,.slice none 0 0]) 0 m7 ZWW.out (by omega)
    obtain⟨p0,p1⟩:=duo EI.out
    obtain⟨p2,p3⟩:=duo EW.out
    go_wp2_with fail
    clear hm6 hm7 za zb zf
    refine C.mono ?_
    rintro e v1 ⟨rfl,hb⟩
    clear C p0 p1 p2 p3
    replace BA:=ac (ae hb BA.out)
    replace BB:=ac (ae hb BB.out)
    replace X6:=ac (ae hb X6.out)
    replace X8:=ac (ae hb X8.out)
    replace EM:=ac (ae hb EM.out)
    replace EN:=ac (ae hb EN.out)
    replace EG:=ac (ae hb EG.out)
    replace EX:=ac (ae hb EX.out)
    replace EY:=ac (ae hb EY.out)
    replace EP:=ac (ae hb EP.out)
    replace EQ:=ac (ae hb EQ.out)
    replace ER:=ac (ae hb ER.out)
    replace EW:=ac (ae hb EW.out)
    replace EI:=ac (ae hb EI.out)
    replace HA0:=ac (HA0.out.below hb)
    replace HA1:=ac (HA1.out.below hb)
    replace TB:=ac (TB.out.below hb)
    replace A6:=ac (A6.out.below hb)
    replace L1:=ac (L1.out.below hb)
    replace A8:=ac (A8.out.below hb)
    replace L2:=ac (L2.out.below hb)
    replace ZM:=ac (ZM.out.below hb)
    replace ZN:=ac (ZN.out.below hb)
    replace ZG:=ac (ZG.out.below hb)
    replace ZX:=ac (ZX.out.below hb)
    replace ZY:=ac (ZY.out.below hb)
    replace AP:=ac (AP.out.below hb)
    replace AQ:=ac (AQ.out.below hb)
    replace AR:=ac (AR.out.below hb)
    replace ZWW:=ac (ZWW.out.below hb)
    replace HWW:=ac (aA HWW.out hb)
    replace HC0:=ac (aA HC0.out hb)
    replace HSJ:=ac (aA HSJ.out hb)
    clear hb
    have HPP:=ac (gU AP.out AQ.out AR.out (Ans.nil _ _) HAP.out.1 HAP.out.2.1 HAP.out.2.2 (fun k e=>by simp [Value.ownBlock]) (fun k e=>by simp [Value.ownBlock]) (fun k e=>by simp [Value.ownBlock]))
    have C:=gI t5.heap.size _ _ _ _ rp rq rr [] v1 HPP.out ⟨HL3.out.1,HL3.out.2.1,HL3.out.2.2,HLI.out⟩ HC0.out.size
    obtain⟨p0,p1⟩:=duo EP.out
    obtain⟨p2,p3⟩:=duo EQ.out
    obtain⟨p4,p5⟩:=duo ER.out
    obtain⟨p6,p7⟩:=duo EI.out
    go_wp2_with fail
    refine C.mono ?_
    rintro e v2 ⟨rfl,hbk⟩
    clear C p0 p1 p2 p3 p4 p5 p6 p7
    have HBK:=ac (HC0.out.trans (hbk.below))
    have oba:=ae HBK.out OBA.out
    have obb:=ae HBK.out OBB.out
    obtain⟨p0,p1⟩:=duo oba
    obtain⟨p2,p3⟩:=duo obb
    have C1:=dW _ _ z0 v2 (OL1.out.below HBK.out) (OA0.out.below HBK.out) (by have:=HS.out;omega)
    have C2:=dW _ _ z1 v2 (OL2.out.below HBK.out) (OA1.out.below HBK.out) (by have:=HS.out;omega)
    have C3:=iv v2 (OTB.out.below HBK.out)
    have HFW:=ac (aA OWW.out HBK.out)
    clear hbk oba obb
    go_wp2_with fail
    refine C1.mono ?_
    rintro e wn ⟨rfl,hw⟩;rw [hw];clear hw wn C1
    go_wp2_with fail
    refine C2.mono ?_
    rintro e wn ⟨rfl,hw⟩;rw [hw];clear hw wn C2
    go_wp2_with fail
    refine C3.mono ?_
    rintro e v3 ⟨rfl,hb⟩
    have HFIN:=ac (aA HFW.out hb)
    clear hb C3 p0 p1 p2 p3
    go_wp2
    go_ret
    exact⟨rfl,HFIN.out⟩

end Go.Proofs.YtdbjbbdhlpfhjaaGreatDoor
