/- The law SpanSums: a case of its walk. -/
import Derived.Test.YteflkojglmleaaaGreatDoorB18
import Derived.Test.YteflkojglmleaaaGreatDoorB21
import Derived.Deep.CutBlock
import Derived.Deep.DeepCutAuto
namespace Go.Proofs.YteflkojglmleaaaGreatDoor
open Go.RowKit
open Lm
attribute [local go_sem ↓] Go.wp_at_zero Go.wp_at_succ

set_option maxRecDepth 20000 in
set_option maxHeartbeats 16000000 in
theorem tG (b0:Bool)(a0:Option Addr)(k0:Nat)(z0:List Nat)(e0:Int)(b1:Bool)(a1:Option Addr)(k1:Nat)(z1:List Nat)(e1:Int)(b2:Bool)(a2:Option Addr)(k2:Nat)(z2:List Nat)(e2:Int)(b3:Bool)(a3:Option Addr)(k3:Nat)(z3:List Nat)(e3:Int)(pos:Int)(L:Nat)(V0 V1 V2 V3:Int)(F G H:Int)(w:World)(hT:Tab w)(A0:Arg w (.slice a0 z0.length k0) z0)(s0:z0.length≤1048576)(A1:Arg w (.slice a1 z1.length k1) z1)(s1:z1.length≤1048576)(A2:Arg w (.slice a2 z2.length k2) z2)(s2:z2.length≤1048576)(A3:Arg w (.slice a3 z3.length k3) z3)(s3:z3.length≤1048576)(hL:4611686018427387904≤L)(hV0:vof b0 z0 e0 L=V0)(hV1:vof b1 z1 e1 L=V1)(hV2:vof b2 z2 e2 L=V2)(hV3:vof b3 z3 e3 L=V3)(hF:flt e0 e1 V0 V1=F)(hG:flt e2 e3 V2 V3=G)(hH:aY (wst F G) pos=H)(h0:H≠0) :
  Calls Tryz.prog 3 #[.agg #[.bool b0,.slice a0 z0.length k0,.int .i64 e0,.bool b1,.slice a1 z1.length k1,.int .i64 e1],.agg #[.bool b2,.slice a2 z2.length k2,.int .i64 e2,.bool b3,.slice a3 z3.length k3,.int .i64 e3],.int .i64 pos] w fun e w'=>e=.returned (.bool true)∧Below w.heap.size w w':=by
 obtain⟨w0,hw0,hb0,q0,q1⟩:=aA w (.cells #[.bool b0,.slice a0 z0.length k0,.int .i64 e0,.bool b1,.slice a1 z1.length k1,.int .i64 e1] 26) (.cells #[.bool b2,.slice a2 z2.length k2,.int .i64 e2,.bool b3,.slice a3 z3.length k3,.int .i64 e3] 26)
 have HT:=ab (hT.below hb0)
 have HA0:=ab (A0.below hb0)
 have EV0:=ab hV0
 have HA1:=ab (A1.below hb0)
 have EV1:=ab hV1
 have HA2:=ab (A2.below hb0)
 have EV2:=ab hV2
 have HA3:=ab (A3.below hb0)
 have EV3:=ab hV3
 have HS:=ab q0
 have HR:=ab q1
 have HW:=ab hb0
 have LL:Hid (4611686018427387904≤L):=ab hL
 clear A0 hV0 A1 hV1 A2 hV2 A3 hV3 hT q0 q1 hb0 hL
 have EF:=ab hF
 have EG:=ab hG
 have EH:=ab hH
 have H0:=ab h0
 have i9:(H != 0)=true:=by simpa using h0
 clear hF hG hH h0
 go_enter Tryz.func3,Tryz.ntmps3
 have LN1:=ab (fun (W:World) (hg:Below w0.heap.size w0 W)=>fL b0 a0 k0 z0 e0 b1 a1 k1 z1 e1 W (HA0.out.below hg) (HA1.out.below hg) (by omega) (by omega))
 have LN2:=ab (fun (W:World) (hg:Below w0.heap.size w0 W)=>fL b2 a2 k2 z2 e2 b3 a3 k3 z3 e3 W (HA2.out.below hg) (HA3.out.below hg) (by omega) (by omega))
 have KS:=ab (fun (W:World) (hg:Below w0.heap.size w0 W)=>show W.cell? ⟨w.heap.size,0,none⟩=some (.bool b0)∧W.cell? ⟨w.heap.size,1,none⟩=some (.slice a0 z0.length k0)∧W.cell? ⟨w.heap.size,2,none⟩=some (.int .i64 e0)∧W.cell? ⟨w.heap.size,3,none⟩=some (.bool b1)∧W.cell? ⟨w.heap.size,4,none⟩=some (.slice a1 z1.length k1)∧W.cell? ⟨w.heap.size,5,none⟩=some (.int .i64 e1)∧W.cell? ⟨w.heap.size+1,0,none⟩=some (.bool b2)∧W.cell? ⟨w.heap.size+1,1,none⟩=some (.slice a2 z2.length k2)∧W.cell? ⟨w.heap.size+1,2,none⟩=some (.int .i64 e2)∧W.cell? ⟨w.heap.size+1,3,none⟩=some (.bool b3)∧W.cell? ⟨w.heap.size+1,4,none⟩=some (.slice a3 z3.length k3)∧W.cell? ⟨w.heap.size+1,5,none⟩=some (.int .i64 e3) from (by
  obtain⟨x0,x1,x2,x3,x4,x5⟩:=hexa (ac hg HS.out)
  obtain⟨y0,y1,y2,y3,y4,y5⟩:=hexa (ac hg HR.out)
  exact⟨x0,x1,x2,x3,x4,x5,y0,y1,y2,y3,y4,y5⟩))
 go_upto_region 1 with fail
 go_cut [7,8] from 26 to 29 (fun s t wx=>ix w0 b0 z0 e0 b1 z1 e1 b2 z2 e2 b3 z3 e3 s t wx)
 case first=>
  refine wp_region_held_drew (S:=fun w'=>w'.cell? ⟨w.heap.size,0,none⟩=some (.bool b0)∧w'.cell? ⟨w.heap.size,1,none⟩=some (.slice a0 z0.length k0)∧w'.cell? ⟨w.heap.size,2,none⟩=some (.int .i64 e0)∧w'.cell? ⟨w.heap.size,3,none⟩=some (.bool b1)∧w'.cell? ⟨w.heap.size,4,none⟩=some (.slice a1 z1.length k1)∧w'.cell? ⟨w.heap.size,5,none⟩=some (.int .i64 e1)∧w'.cell? ⟨w.heap.size+1,0,none⟩=some (.bool b2)∧w'.cell? ⟨w.heap.size+1,1,none⟩=some (.slice a2 z2.length k2)∧w'.cell? ⟨w.heap.size+1,2,none⟩=some (.int .i64 e2)∧w'.cell? ⟨w.heap.size+1,3,none⟩=some (.bool b3)∧w'.cell? ⟨w.heap.size+1,4,none⟩=some (.slice a3 z3.length k3)∧w'.cell? ⟨w.heap.size+1,5,none⟩=some (.int .i64 e3)) (by kernel_rfl) (KS.out _ (bE (Below.refl _ _))) (fun hHeld=>?_)
  refine wpAnyH_take (i:=0) (oi:={ dst:=some 26,op:=Op.load 26 (Operand.tmp 3),type:=26,pos:="law.go:188",after:=#[],guard:=none }) (v:=.agg #[.bool b0,.slice a0 z0.length k0,.int .i64 e0,.bool b1,.slice a1 z1.length k1,.int .i64 e1]) rfl (by kernel_rfl) (by kernel_rfl) (by kernel_rfl) (fun _ _ _ h=>h) (Or.inl ⟨by rfl,fun w9 hSw=>?_⟩) hHeld ?_
  ·(try dsimp only at hSw);go_simp
  simp only [Act.put,List.setIfInBounds_toArray,List.set_cons_zero,List.set_cons_succ]
  refine wpAnyH_take (i:=2) (oi:={ dst:=some 28,op:=Op.load 26 (Operand.tmp 4),type:=26,pos:="law.go:188",after:=#[],guard:=none }) (v:=.agg #[.bool b2,.slice a2 z2.length k2,.int .i64 e2,.bool b3,.slice a3 z3.length k3,.int .i64 e3]) rfl (by kernel_rfl) (by kernel_rfl) (by kernel_rfl) (fun _ _ _ h=>h) (Or.inl ⟨by rfl,fun w9 hSw=>?_⟩) hHeld ?_
  ·(try dsimp only at hSw);go_simp
  simp only [Act.put,List.setIfInBounds_toArray,List.set_cons_zero,List.set_cons_succ]
  refine mz w0 (LA b0 z0 e0 b1 z1 e1) (LA b2 z2 e2 b3 z3 e3) (LA.keep b0 z0 e0 b1 z1 e1) (LA.keep b2 z2 e2 b3 z3 e3) 27 29 7 8 (fun c1 c2 k1 k2=>#[true,c1,true,c2,k1,k2,false,false]) (by kernel_rfl) (by kernel_rfl) (by simp only [Act.put,List.setIfInBounds_toArray,List.set_cons_zero,List.set_cons_succ]) (bE (Below.refl _ _)) ?_
  clear hHeld
  intro n
  simp only [Act.put,List.setIfInBounds_toArray,List.set_cons_zero,List.set_cons_succ]
  induction n with
  | zero=>
   intro c1 c2 k1 k2 x1 x2 y1 y2 W hf J
   exact absurd hf (by unfold aN;omega)
  | succ n ih=>
   intro c1 c2 k1 k2 x1 x2 y1 y2 W hf J
   cases c1
   ·skip
    cases c2
    ·skip
     cases k1
     ·skip
      cases k2
      ·skip
       refine wpAnyH_ready (rs:=[1,4,5]) (by kernel_rfl) (by simp) ?_
       refine AllReadyH.cons rfl (fun K hK=>?_) ?_
       ·go_simp
        refine (LN1.out W J.up).mono ?_
        rintro e' W2 ⟨⟨fu,fmu,fnu,fv,fmv,fnv,fx,fcx,fy,fcy,rfl,f9⟩,hb⟩
        refine hK.out _ _ (KS.out _ (ae J.up hb)) (fun _=>?_)
        simp only [List.setIfInBounds_toArray,List.set_cons_zero,List.set_cons_succ]
        exact ih _ _ _ _ _ _ _ _ _ (by simp [aN] at hf ⊢;omega) (J.call1 hb ⟨fu,fmu,fnu,fv,fmv,fnv,fx,fcx,fy,fcy,rfl,f9⟩)
       refine AllReadyH.cons rfl (fun K hK=>?_) ?_
       ·go_simp
        refine hK.out _ _ (KS.out _ (aJ J.up _)) (fun _=>?_)
        simp only [List.setIfInBounds_toArray,List.set_cons_zero,List.set_cons_succ]
        exact ih _ _ _ _ _ _ _ _ _ (by simp [aN] at hf ⊢;omega) J.make1
       refine AllReadyH.cons rfl (fun K hK=>?_) ?_
       ·go_simp
        refine hK.out _ _ (KS.out _ (aJ J.up _)) (fun _=>?_)
        simp only [List.setIfInBounds_toArray,List.set_cons_zero,List.set_cons_succ]
        exact ih _ _ _ _ _ _ _ _ _ (by simp [aN] at hf ⊢;omega) J.make2
       exact AllReadyH.nil
      ·skip
       refine wpAnyH_ready (rs:=[1,4]) (by kernel_rfl) (by simp) ?_
       refine AllReadyH.cons rfl (fun K hK=>?_) ?_
       ·go_simp
        refine (LN1.out W J.up).mono ?_
        rintro e' W2 ⟨⟨fu,fmu,fnu,fv,fmv,fnv,fx,fcx,fy,fcy,rfl,f9⟩,hb⟩
        refine hK.out _ _ (KS.out _ (ae J.up hb)) (fun _=>?_)
        simp only [List.setIfInBounds_toArray,List.set_cons_zero,List.set_cons_succ]
        exact ih _ _ _ _ _ _ _ _ _ (by simp [aN] at hf ⊢;omega) (J.call1 hb ⟨fu,fmu,fnu,fv,fmv,fnv,fx,fcx,fy,fcy,rfl,f9⟩)
       refine AllReadyH.cons rfl (fun K hK=>?_) ?_
       ·go_simp
        refine hK.out _ _ (KS.out _ (aJ J.up _)) (fun _=>?_)
        simp only [List.setIfInBounds_toArray,List.set_cons_zero,List.set_cons_succ]
        exact ih _ _ _ _ _ _ _ _ _ (by simp [aN] at hf ⊢;omega) J.make1
       exact AllReadyH.nil
     ·skip
      cases k2
      ·skip
       refine wpAnyH_ready (rs:=[1,5]) (by kernel_rfl) (by simp) ?_
       refine AllReadyH.cons rfl (fun K hK=>?_) ?_
       ·go_simp
        refine (LN1.out W J.up).mono ?_
        rintro e' W2 ⟨⟨fu,fmu,fnu,fv,fmv,fnv,fx,fcx,fy,fcy,rfl,f9⟩,hb⟩
        refine hK.out _ _ (KS.out _ (ae J.up hb)) (fun _=>?_)
        simp only [List.setIfInBounds_toArray,List.set_cons_zero,List.set_cons_succ]
        exact ih _ _ _ _ _ _ _ _ _ (by simp [aN] at hf ⊢;omega) (J.call1 hb ⟨fu,fmu,fnu,fv,fmv,fnv,fx,fcx,fy,fcy,rfl,f9⟩)
       refine AllReadyH.cons rfl (fun K hK=>?_) ?_
       ·go_simp
        refine hK.out _ _ (KS.out _ (aJ J.up _)) (fun _=>?_)
        simp only [List.setIfInBounds_toArray,List.set_cons_zero,List.set_cons_succ]
        exact ih _ _ _ _ _ _ _ _ _ (by simp [aN] at hf ⊢;omega) J.make2
       exact AllReadyH.nil
      ·skip
       refine wpAnyH_ready (rs:=[1]) (by kernel_rfl) (by simp) ?_
       refine AllReadyH.cons rfl (fun K hK=>?_) ?_
       ·go_simp
        refine (LN1.out W J.up).mono ?_
        rintro e' W2 ⟨⟨fu,fmu,fnu,fv,fmv,fnv,fx,fcx,fy,fcy,rfl,f9⟩,hb⟩
        refine hK.out _ _ (KS.out _ (ae J.up hb)) (fun _=>?_)
        simp only [List.setIfInBounds_toArray,List.set_cons_zero,List.set_cons_succ]
        exact ih _ _ _ _ _ _ _ _ _ (by simp [aN] at hf ⊢;omega) (J.call1 hb ⟨fu,fmu,fnu,fv,fmv,fnv,fx,fcx,fy,fcy,rfl,f9⟩)
       exact AllReadyH.nil
    ·skip
     exact absurd (J.ch rfl) (by decide)
   ·skip
    cases c2
    ·skip
     cases k1
     ·skip
      cases k2
      ·skip
       refine wpAnyH_ready (rs:=[3,4,5]) (by kernel_rfl) (by simp) ?_
       refine AllReadyH.cons rfl (fun K hK=>?_) ?_
       ·go_simp
        refine (LN2.out W J.up).mono ?_
        rintro e' W2 ⟨⟨fu,fmu,fnu,fv,fmv,fnv,fx,fcx,fy,fcy,rfl,f9⟩,hb⟩
        refine hK.out _ _ (KS.out _ (ae J.up hb)) (fun _=>?_)
        simp only [List.setIfInBounds_toArray,List.set_cons_zero,List.set_cons_succ]
        exact ih _ _ _ _ _ _ _ _ _ (by simp [aN] at hf ⊢;omega) (J.call2 hb ⟨fu,fmu,fnu,fv,fmv,fnv,fx,fcx,fy,fcy,rfl,f9⟩)
       refine AllReadyH.cons rfl (fun K hK=>?_) ?_
       ·go_simp
        refine hK.out _ _ (KS.out _ (aJ J.up _)) (fun _=>?_)
        simp only [List.setIfInBounds_toArray,List.set_cons_zero,List.set_cons_succ]
        exact ih _ _ _ _ _ _ _ _ _ (by simp [aN] at hf ⊢;omega) J.make1
       refine AllReadyH.cons rfl (fun K hK=>?_) ?_
       ·go_simp
        refine hK.out _ _ (KS.out _ (aJ J.up _)) (fun _=>?_)
        simp only [List.setIfInBounds_toArray,List.set_cons_zero,List.set_cons_succ]
        exact ih _ _ _ _ _ _ _ _ _ (by simp [aN] at hf ⊢;omega) J.make2
       exact AllReadyH.nil
      ·skip
       refine wpAnyH_ready (rs:=[3,4]) (by kernel_rfl) (by simp) ?_
       refine AllReadyH.cons rfl (fun K hK=>?_) ?_
       ·go_simp
        refine (LN2.out W J.up).mono ?_
        rintro e' W2 ⟨⟨fu,fmu,fnu,fv,fmv,fnv,fx,fcx,fy,fcy,rfl,f9⟩,hb⟩
        refine hK.out _ _ (KS.out _ (ae J.up hb)) (fun _=>?_)
        simp only [List.setIfInBounds_toArray,List.set_cons_zero,List.set_cons_succ]
        exact ih _ _ _ _ _ _ _ _ _ (by simp [aN] at hf ⊢;omega) (J.call2 hb ⟨fu,fmu,fnu,fv,fmv,fnv,fx,fcx,fy,fcy,rfl,f9⟩)
       refine AllReadyH.cons rfl (fun K hK=>?_) ?_
       ·go_simp
        refine hK.out _ _ (KS.out _ (aJ J.up _)) (fun _=>?_)
        simp only [List.setIfInBounds_toArray,List.set_cons_zero,List.set_cons_succ]
        exact ih _ _ _ _ _ _ _ _ _ (by simp [aN] at hf ⊢;omega) J.make1
       exact AllReadyH.nil
     ·skip
      cases k2
      ·skip
       refine wpAnyH_ready (rs:=[3,5]) (by kernel_rfl) (by simp) ?_
       refine AllReadyH.cons rfl (fun K hK=>?_) ?_
       ·go_simp
        refine (LN2.out W J.up).mono ?_
        rintro e' W2 ⟨⟨fu,fmu,fnu,fv,fmv,fnv,fx,fcx,fy,fcy,rfl,f9⟩,hb⟩
        refine hK.out _ _ (KS.out _ (ae J.up hb)) (fun _=>?_)
        simp only [List.setIfInBounds_toArray,List.set_cons_zero,List.set_cons_succ]
        exact ih _ _ _ _ _ _ _ _ _ (by simp [aN] at hf ⊢;omega) (J.call2 hb ⟨fu,fmu,fnu,fv,fmv,fnv,fx,fcx,fy,fcy,rfl,f9⟩)
       refine AllReadyH.cons rfl (fun K hK=>?_) ?_
       ·go_simp
        refine hK.out _ _ (KS.out _ (aJ J.up _)) (fun _=>?_)
        simp only [List.setIfInBounds_toArray,List.set_cons_zero,List.set_cons_succ]
        exact ih _ _ _ _ _ _ _ _ _ (by simp [aN] at hf ⊢;omega) J.make2
       exact AllReadyH.nil
      ·skip
       refine wpAnyH_ready (rs:=[3]) (by kernel_rfl) (by simp) ?_
       refine AllReadyH.cons rfl (fun K hK=>?_) ?_
       ·go_simp
        refine (LN2.out W J.up).mono ?_
        rintro e' W2 ⟨⟨fu,fmu,fnu,fv,fmv,fnv,fx,fcx,fy,fcy,rfl,f9⟩,hb⟩
        refine hK.out _ _ (KS.out _ (ae J.up hb)) (fun _=>?_)
        simp only [List.setIfInBounds_toArray,List.set_cons_zero,List.set_cons_succ]
        exact ih _ _ _ _ _ _ _ _ _ (by simp [aN] at hf ⊢;omega) (J.call2 hb ⟨fu,fmu,fnu,fv,fmv,fnv,fx,fcx,fy,fcy,rfl,f9⟩)
       exact AllReadyH.nil
    ·skip
     cases k1
     ·skip
      cases k2
      ·skip
       refine wpAnyH_ready (rs:=[4,5]) (by kernel_rfl) (by simp) ?_
       refine AllReadyH.cons rfl (fun K hK=>?_) ?_
       ·go_simp
        refine hK.out _ _ (KS.out _ (aJ J.up _)) (fun _=>?_)
        simp only [List.setIfInBounds_toArray,List.set_cons_zero,List.set_cons_succ]
        exact ih _ _ _ _ _ _ _ _ _ (by simp [aN] at hf ⊢;omega) J.make1
       refine AllReadyH.cons rfl (fun K hK=>?_) ?_
       ·go_simp
        refine hK.out _ _ (KS.out _ (aJ J.up _)) (fun _=>?_)
        simp only [List.setIfInBounds_toArray,List.set_cons_zero,List.set_cons_succ]
        exact ih _ _ _ _ _ _ _ _ _ (by simp [aN] at hf ⊢;omega) J.make2
       exact AllReadyH.nil
      ·skip
       refine wpAnyH_ready (rs:=[4]) (by kernel_rfl) (by simp) ?_
       refine AllReadyH.cons rfl (fun K hK=>?_) ?_
       ·go_simp
        refine hK.out _ _ (KS.out _ (aJ J.up _)) (fun _=>?_)
        simp only [List.setIfInBounds_toArray,List.set_cons_zero,List.set_cons_succ]
        exact ih _ _ _ _ _ _ _ _ _ (by simp [aN] at hf ⊢;omega) J.make1
       exact AllReadyH.nil
     ·skip
      cases k2
      ·skip
       refine wpAnyH_ready (rs:=[5]) (by kernel_rfl) (by simp) ?_
       refine AllReadyH.cons rfl (fun K hK=>?_) ?_
       ·go_simp
        refine hK.out _ _ (KS.out _ (aJ J.up _)) (fun _=>?_)
        simp only [List.setIfInBounds_toArray,List.set_cons_zero,List.set_cons_succ]
        exact ih _ _ _ _ _ _ _ _ _ (by simp [aN] at hf ⊢;omega) J.make2
       exact AllReadyH.nil
      ·skip
       obtain⟨pu,pmu,pnu,pv,pmv,pnv,px,pcx,py,pcy,rfl,fp⟩:=J.q1 rfl
       obtain⟨qu,qmu,qnu,qv,qmv,qnv,qx,qcx,qy,qcy,rfl,fq⟩:=J.q2 rfl
       have D12:=J.d12 rfl rfl
       obtain⟨g1,rfl,l1,e1z⟩:=J.r1 rfl
       obtain⟨g2,rfl,l2,e2z⟩:=J.r2 rfl
       have HU:=ab J.up
       obtain rfl:n=1:=by simp [aN] at hf;omega
       clear J ih hf
       have D12g:g1≠g2:=fun e=>D12 (by rw [e])
       have fin:=lV (b0:=b0) (e0:=e0) (b1:=b1) (e1:=e1) (b2:=b2) (e2:=e2) (b3:=b3) (e3:=e3) e1z e2z fp fq HU.out l1 l2 D12g
       unfold bD at fin
       have HFIN:=ab fin
       clear D12 fp fq fin
       obtain⟨m0,m1,m2,m3,m4,m5,m6,m7⟩:=octa e1z
       have hf1:=eH e1z
       have t2:=(dJ (w:=W) (g:=g1) (Ne.symm D12g) (.slice pu pmu pnu) (.slice pv pmv pnv) (.bool b0) (.slice px z0.length pcx) (.int .i64 e0) (.bool b1) (.slice py z1.length pcy) (.int .i64 e1)).trans e2z
       unfold bD at t2
       obtain⟨m8,m9,m10,m11,m12,m13,m14,m15⟩:=octa t2
       have hf2:=eH t2
       have b1z:=dv HU.out l1 (.slice pu pmu pnu) (.slice pv pmv pnv) (.bool b0) (.slice px z0.length pcx) (.int .i64 e0) (.bool b1) (.slice py z1.length pcy) (.int .i64 e1)
       have b2z:=dv b1z l2 (.slice qu qmu qnu) (.slice qv qmv qnv) (.bool b2) (.slice qx z2.length qcx) (.int .i64 e2) (.bool b3) (.slice qy z3.length qcy) (.int .i64 e3)
       unfold bD at b1z b2z
       have HB1:=ab b1z
       have HB2:=ab b2z
       clear t2 e1z e2z b1z b2z
       refine wpAnyH_ready (rs:=[6]) (by kernel_rfl) (by simp) ?_
       refine AllReadyH.cons rfl (fun K hK=>?_) AllReadyH.nil
       go_simp
       refine hK.out _ _ (KS.out _ HB1.out) (fun _=>?_)
       clear hK K
       try simp only [List.setIfInBounds_toArray,List.set_cons_zero,List.set_cons_succ]
       refine wpAnyH_ready (rs:=[7]) (by kernel_rfl) (by simp) ?_
       refine AllReadyH.cons rfl (fun K hK=>?_) AllReadyH.nil
       go_simp
       refine hK.out _ _ (KS.out _ HB2.out) (fun _=>?_)
       clear hK K
       try simp only [List.setIfInBounds_toArray,List.set_cons_zero,List.set_cons_succ]
       refine wpAnyH_done (by kernel_rfl) ?_ _
       clear m0 m1 m2 m3 m4 m5 m6 m7 m8 m9 m10 m11 m12 m13 m14 m15 hf1 hf2 HB1 HB2
       go_wp2_with fail
       go_meet
       exact HFIN.out
 case rest=>
  obtain⟨gp,gq,pu,pmu,pnu,pv,pmv,pnv,px,pcx,py,pcy,qu,qmu,qnu,qv,qmv,qnv,qx,qcx,qy,qcy,rfl,rfl,hX,hY,⟨l1,l2,l3,l4⟩,⟨l5,l6,l7,l8⟩,hb⟩:=hcut
  clear LN1 LN2 KS hw0
  replace HS:=ab (ac hb HS.out)
  replace HR:=ab (ac hb HR.out)
  replace HT:=ab (HT.out.below hb)
  replace HA0:=ab (HA0.out.below hb)
  replace HA1:=ab (HA1.out.below hb)
  replace HA2:=ab (HA2.out.below hb)
  replace HA3:=ab (HA3.out.below hb)
  replace HW:=aV HW hb
  clear hb
  have HP:=ab hX
  have HQ:=ab hY
  have HL1:=ab l1
  have HL2:=ab l2
  have HL3:=ab l3
  have HL4:=ab l4
  have HL5:=ab l5
  have HL6:=ab l6
  have HL7:=ab l7
  have HL8:=ab l8
  clear hX hY l1 l2 l3 l4 l5 l6 l7 l8
  obtain⟨ca0,ca1,ca2,ca3,ca4,ca5⟩:=hexa HS.out
  have C:=fV b0 a0 k0 z0 e0 b1 a1 k1 z1 e1 L wc HA0.out HA1.out (by omega) (by omega) LL.out
  rw [EV0.out,EV1.out,EF.out] at C
  go_wp2_with fail
  refine C.mono ?_
  rintro e Q1 ⟨⟨m,ma,mn,mk,me,n,na,nn,nk,ne,rfl,hv1,hv2⟩,hb⟩
  clear C ca0 ca1 ca2 ca3 ca4 ca5
  obtain⟨P2,hP2,hbP,hx⟩:=af Q1 (.cells #[.bool m,.slice ma mn mk,.int .i64 me,.bool n,.slice na nn nk,.int .i64 ne] 43)
  have stp:=ae hb hbP
  replace HS:=ab (ac stp HS.out)
  replace HR:=ab (ac stp HR.out)
  replace HP:=ab (ac stp HP.out)
  replace HQ:=ab (ac stp HQ.out)
  replace HT:=ab (HT.out.below stp)
  replace HA0:=ab (HA0.out.below stp)
  replace HA1:=ab (HA1.out.below stp)
  replace HA2:=ab (HA2.out.below stp)
  replace HA3:=ab (HA3.out.below stp)
  replace HL1:=ab (HL1.out.below stp)
  replace HL2:=ab (HL2.out.below stp)
  replace HL3:=ab (HL3.out.below stp)
  replace HL4:=ab (HL4.out.below stp)
  replace HL5:=ab (HL5.out.below stp)
  replace HL6:=ab (HL6.out.below stp)
  replace HL7:=ab (HL7.out.below stp)
  replace HL8:=ab (HL8.out.below stp)
  replace HW:=aV HW stp
  have HMv:=ab (hv1.below hbP)
  have HNv:=ab (hv2.below hbP)
  have HM:=ab hx
  clear stp hbP hx hb hv1 hv2
  obtain⟨ca0,ca1,ca2,ca3,ca4,ca5⟩:=hexa HR.out
  have C:=fV b2 a2 k2 z2 e2 b3 a3 k3 z3 e3 L P2 HA2.out HA3.out (by omega) (by omega) LL.out
  rw [EV2.out,EV3.out,EG.out] at C
  go_wp2_with fail
  refine C.mono ?_
  rintro e Q3 ⟨⟨o,oa,on,ok,oe,t,ta,tn,tk,te,rfl,hv1,hv2⟩,hb⟩
  clear C ca0 ca1 ca2 ca3 ca4 ca5 hP2
  obtain⟨P4,hP4,hbP,hx⟩:=af Q3 (.cells #[.bool o,.slice oa on ok,.int .i64 oe,.bool t,.slice ta tn tk,.int .i64 te] 43)
  have stp:=ae hb hbP
  replace HS:=ab (ac stp HS.out)
  replace HR:=ab (ac stp HR.out)
  replace HP:=ab (ac stp HP.out)
  replace HQ:=ab (ac stp HQ.out)
  replace HM:=ab (ac stp HM.out)
  replace HT:=ab (HT.out.below stp)
  replace HA0:=ab (HA0.out.below stp)
  replace HA1:=ab (HA1.out.below stp)
  replace HA2:=ab (HA2.out.below stp)
  replace HA3:=ab (HA3.out.below stp)
  replace HL1:=ab (HL1.out.below stp)
  replace HL2:=ab (HL2.out.below stp)
  replace HL3:=ab (HL3.out.below stp)
  replace HL4:=ab (HL4.out.below stp)
  replace HL5:=ab (HL5.out.below stp)
  replace HL6:=ab (HL6.out.below stp)
  replace HL7:=ab (HL7.out.below stp)
  replace HL8:=ab (HL8.out.below stp)
  replace HMv:=ab (HMv.out.below stp)
  replace HNv:=ab (HNv.out.below stp)
  replace HW:=aV HW stp
  have HOv:=ab (hv1.below hbP)
  have HTv:=ab (hv2.below hbP)
  have HN:=ab hx
  clear stp hbP hx hb hv1 hv2
  obtain⟨PW,hPW,hbP,hx⟩:=af P4 (.cells #[.int .i64 F,.int .i64 G] 3)
  have C:=mI P4.heap.size F G pos PW hx
  rw [EH.out] at C
  go_wp2_with fail
  refine C.mono ?_
  rintro e wn ⟨rfl,hw⟩;rw [hw];clear hw wn C
  have hb:=hbP
  clear hbP hx hP4
  replace HS:=ab (ac hb HS.out)
  replace HR:=ab (ac hb HR.out)
  replace HP:=ab (ac hb HP.out)
  replace HQ:=ab (ac hb HQ.out)
  replace HM:=ab (ac hb HM.out)
  replace HN:=ab (ac hb HN.out)
  replace HT:=ab (HT.out.below hb)
  replace HA0:=ab (HA0.out.below hb)
  replace HA1:=ab (HA1.out.below hb)
  replace HA2:=ab (HA2.out.below hb)
  replace HA3:=ab (HA3.out.below hb)
  replace HL1:=ab (HL1.out.below hb)
  replace HL2:=ab (HL2.out.below hb)
  replace HL3:=ab (HL3.out.below hb)
  replace HL4:=ab (HL4.out.below hb)
  replace HL5:=ab (HL5.out.below hb)
  replace HL6:=ab (HL6.out.below hb)
  replace HL7:=ab (HL7.out.below hb)
  replace HL8:=ab (HL8.out.below hb)
  replace HMv:=ab (HMv.out.below hb)
  replace HNv:=ab (HNv.out.below hb)
  replace HOv:=ab (HOv.out.below hb)
  replace HTv:=ab (HTv.out.below hb)
  replace HW:=aV HW hb
  clear hb hPW
  obtain⟨ca0,ca1,ca2,ca3,ca4,ca5,ca6,ca7⟩:=octa HP.out
  obtain⟨cb0,cb1,cb2,cb3,cb4,cb5,cb6,cb7⟩:=octa HQ.out
  have C:=lQ b0 px pcx z0 e0 b1 py pcy z1 e1 b2 qx qcx z2 e2 b3 qy qcy z3 e3 pos L H 0 PW HT.out HL3.out (by omega) HL4.out (by omega) HL7.out (by omega) HL8.out (by omega) LL.out (by rw [EV0.out,EV1.out,EV2.out,EV3.out,EF.out,EG.out];exact EH.out) (fun h=>absurd h H0.out)
  rw [EV0.out,EV1.out,EV2.out,EV3.out] at C
  rw [if_neg H0.out] at C
  go_wp2_with fail
  refine C.mono ?_
  rintro e Q5 ⟨⟨ga,gaa,gan,gak,gae,gb,gba,gbn,gbk,gbe,gac,rfl,hs⟩,hb⟩
  clear C ca0 ca1 ca2 ca3 ca4 ca5 ca6 ca7 cb0 cb1 cb2 cb3 cb4 cb5 cb6 cb7
  obtain⟨P6,hP6,hbP,hx⟩:=af Q5 (.cells #[.bool ga,.slice gaa gan gak,.int .i64 gae,.bool gb,.slice gba gbn gbk,.int .i64 gbe] 33)
  have stp:=ae hb hbP
  replace HS:=ab (ac stp HS.out)
  replace HR:=ab (ac stp HR.out)
  replace HP:=ab (ac stp HP.out)
  replace HQ:=ab (ac stp HQ.out)
  replace HM:=ab (ac stp HM.out)
  replace HN:=ab (ac stp HN.out)
  replace HT:=ab (HT.out.below stp)
  replace HA0:=ab (HA0.out.below stp)
  replace HA1:=ab (HA1.out.below stp)
  replace HA2:=ab (HA2.out.below stp)
  replace HA3:=ab (HA3.out.below stp)
  replace HL1:=ab (HL1.out.below stp)
  replace HL2:=ab (HL2.out.below stp)
  replace HL3:=ab (HL3.out.below stp)
  replace HL4:=ab (HL4.out.below stp)
  replace HL5:=ab (HL5.out.below stp)
  replace HL6:=ab (HL6.out.below stp)
  replace HL7:=ab (HL7.out.below stp)
  replace HL8:=ab (HL8.out.below stp)
  replace HMv:=ab (HMv.out.below stp)
  replace HNv:=ab (HNv.out.below stp)
  replace HOv:=ab (HOv.out.below stp)
  replace HTv:=ab (HTv.out.below stp)
  replace HW:=aV HW stp
  have HVga:=ab (hs.below hbP)
  have HGA9:=ab hx
  clear stp hbP hx hb hs
  obtain⟨ca0,ca1,ca2,ca3,ca4,ca5,ca6,ca7⟩:=octa HP.out
  obtain⟨cb0,cb1,cb2,cb3,cb4,cb5,cb6,cb7⟩:=octa HQ.out
  have C:=jy b0 px pcx z0 e0 b1 py pcy z1 e1 b2 qx qcx z2 e2 b3 qy qcy z3 e3 pos L H 0 P6 HT.out HL3.out (by omega) HL4.out (by omega) HL7.out (by omega) HL8.out (by omega) LL.out (by rw [EV0.out,EV1.out,EV2.out,EV3.out,EF.out,EG.out];exact EH.out) (fun h=>absurd h H0.out)
  rw [EV0.out,EV1.out,EV2.out,EV3.out] at C
  rw [if_neg H0.out] at C
  go_wp2_with fail
  refine C.mono ?_
  rintro e Q7 ⟨⟨gc,gca,gcn,gck,gce,gd,gda,gdn,gdk,gde,gcc,rfl,hs⟩,hb⟩
  clear C ca0 ca1 ca2 ca3 ca4 ca5 ca6 ca7 cb0 cb1 cb2 cb3 cb4 cb5 cb6 cb7 hP6
  obtain⟨P8,hP8,hbP,hx⟩:=af Q7 (.cells #[.bool gc,.slice gca gcn gck,.int .i64 gce,.bool gd,.slice gda gdn gdk,.int .i64 gde] 33)
  have stp:=ae hb hbP
  replace HS:=ab (ac stp HS.out)
  replace HR:=ab (ac stp HR.out)
  replace HP:=ab (ac stp HP.out)
  replace HQ:=ab (ac stp HQ.out)
  replace HM:=ab (ac stp HM.out)
  replace HN:=ab (ac stp HN.out)
  replace HGA9:=ab (ac stp HGA9.out)
  replace HT:=ab (HT.out.below stp)
  replace HA0:=ab (HA0.out.below stp)
  replace HA1:=ab (HA1.out.below stp)
  replace HA2:=ab (HA2.out.below stp)
  replace HA3:=ab (HA3.out.below stp)
  replace HL1:=ab (HL1.out.below stp)
  replace HL2:=ab (HL2.out.below stp)
  replace HL3:=ab (HL3.out.below stp)
  replace HL4:=ab (HL4.out.below stp)
  replace HL5:=ab (HL5.out.below stp)
  replace HL6:=ab (HL6.out.below stp)
  replace HL7:=ab (HL7.out.below stp)
  replace HL8:=ab (HL8.out.below stp)
  replace HMv:=ab (HMv.out.below stp)
  replace HNv:=ab (HNv.out.below stp)
  replace HOv:=ab (HOv.out.below stp)
  replace HTv:=ab (HTv.out.below stp)
  replace HVga:=ab (HVga.out.below stp)
  replace HW:=aV HW stp
  have HVgc:=ab (hs.below hbP)
  have HGC9:=ab hx
  clear stp hbP hx hb hs
  obtain⟨ca0,ca1,ca2,ca3,ca4,ca5,ca6,ca7⟩:=octa HP.out
  obtain⟨cb0,cb1,cb2,cb3,cb4,cb5,cb6,cb7⟩:=octa HQ.out
  have C:=jG b0 px pcx z0 e0 b1 py pcy z1 e1 b2 qx qcx z2 e2 b3 qy qcy z3 e3 pos L H 0 P8 HT.out HL3.out (by omega) HL4.out (by omega) HL7.out (by omega) HL8.out (by omega) LL.out (by rw [EV0.out,EV1.out,EV2.out,EV3.out,EF.out,EG.out];exact EH.out) (fun h=>absurd h H0.out)
  rw [EV0.out,EV1.out,EV2.out,EV3.out] at C
  rw [if_neg H0.out] at C
  go_wp2_with fail
  refine C.mono ?_
  rintro e Q9 ⟨⟨ge,gea,gen,gek,gee,gf,gfa,gfn,gfk,gfe,gec,rfl,hs⟩,hb⟩
  clear C ca0 ca1 ca2 ca3 ca4 ca5 ca6 ca7 cb0 cb1 cb2 cb3 cb4 cb5 cb6 cb7 hP8
  obtain⟨P10,hP10,hbP,hx⟩:=af Q9 (.cells #[.bool ge,.slice gea gen gek,.int .i64 gee,.bool gf,.slice gfa gfn gfk,.int .i64 gfe] 33)
  have stp:=ae hb hbP
  replace HS:=ab (ac stp HS.out)
  replace HR:=ab (ac stp HR.out)
  replace HP:=ab (ac stp HP.out)
  replace HQ:=ab (ac stp HQ.out)
  replace HM:=ab (ac stp HM.out)
  replace HN:=ab (ac stp HN.out)
  replace HGA9:=ab (ac stp HGA9.out)
  replace HGC9:=ab (ac stp HGC9.out)
  replace HT:=ab (HT.out.below stp)
  replace HA0:=ab (HA0.out.below stp)
  replace HA1:=ab (HA1.out.below stp)
  replace HA2:=ab (HA2.out.below stp)
  replace HA3:=ab (HA3.out.below stp)
  replace HL1:=ab (HL1.out.below stp)
  replace HL2:=ab (HL2.out.below stp)
  replace HL3:=ab (HL3.out.below stp)
  replace HL4:=ab (HL4.out.below stp)
  replace HL5:=ab (HL5.out.below stp)
  replace HL6:=ab (HL6.out.below stp)
  replace HL7:=ab (HL7.out.below stp)
  replace HL8:=ab (HL8.out.below stp)
  replace HMv:=ab (HMv.out.below stp)
  replace HNv:=ab (HNv.out.below stp)
  replace HOv:=ab (HOv.out.below stp)
  replace HTv:=ab (HTv.out.below stp)
  replace HVga:=ab (HVga.out.below stp)
  replace HVgc:=ab (HVgc.out.below stp)
  replace HW:=aV HW stp
  have HVge:=ab (hs.below hbP)
  have HGE9:=ab hx
  clear stp hbP hx hb hs
  obtain⟨ca0,ca1,ca2,ca3,ca4,ca5⟩:=hexa HGA9.out
  obtain⟨cb0,cb1,cb2,cb3,cb4,cb5⟩:=hexa HM.out
  have C:=dT ga gaa gan gak gae gb gba gbn gbk gbe gac H m ma mn mk me n na nn nk ne L _ _ _ P10 HVga.out (fun h=>absurd h H0.out) (fun h=>absurd h H0.out)
  go_wp2_with fail
  refine C.mono ?_
  rintro e Q11 ⟨rfl,hb⟩
  clear C ca0 ca1 ca2 ca3 ca4 ca5 cb0 cb1 cb2 cb3 cb4 cb5 hP10
  replace HS:=ab (ac hb HS.out)
  replace HR:=ab (ac hb HR.out)
  replace HP:=ab (ac hb HP.out)
  replace HQ:=ab (ac hb HQ.out)
  replace HM:=ab (ac hb HM.out)
  replace HN:=ab (ac hb HN.out)
  replace HGA9:=ab (ac hb HGA9.out)
  replace HGC9:=ab (ac hb HGC9.out)
  replace HGE9:=ab (ac hb HGE9.out)
  replace HT:=ab (HT.out.below hb)
  replace HA0:=ab (HA0.out.below hb)
  replace HA1:=ab (HA1.out.below hb)
  replace HA2:=ab (HA2.out.below hb)
  replace HA3:=ab (HA3.out.below hb)
  replace HL1:=ab (HL1.out.below hb)
  replace HL2:=ab (HL2.out.below hb)
  replace HL3:=ab (HL3.out.below hb)
  replace HL4:=ab (HL4.out.below hb)
  replace HL5:=ab (HL5.out.below hb)
  replace HL6:=ab (HL6.out.below hb)
  replace HL7:=ab (HL7.out.below hb)
  replace HL8:=ab (HL8.out.below hb)
  replace HMv:=ab (HMv.out.below hb)
  replace HNv:=ab (HNv.out.below hb)
  replace HOv:=ab (HOv.out.below hb)
  replace HTv:=ab (HTv.out.below hb)
  replace HVga:=ab (HVga.out.below hb)
  replace HVgc:=ab (HVgc.out.below hb)
  replace HVge:=ab (HVge.out.below hb)
  replace HW:=aV HW hb
  clear hb
  obtain⟨ca0,ca1,ca2,ca3,ca4,ca5⟩:=hexa HGC9.out
  obtain⟨cb0,cb1,cb2,cb3,cb4,cb5⟩:=hexa HM.out
  have C:=dT gc gca gcn gck gce gd gda gdn gdk gde gcc H m ma mn mk me n na nn nk ne L _ _ _ Q11 HVgc.out (fun h=>absurd h H0.out) (fun h=>absurd h H0.out)
  go_wp2_with fail
  refine C.mono ?_
  rintro e Q12 ⟨rfl,hb⟩
  clear C ca0 ca1 ca2 ca3 ca4 ca5 cb0 cb1 cb2 cb3 cb4 cb5
  replace HS:=ab (ac hb HS.out)
  replace HR:=ab (ac hb HR.out)
  replace HP:=ab (ac hb HP.out)
  replace HQ:=ab (ac hb HQ.out)
  replace HM:=ab (ac hb HM.out)
  replace HN:=ab (ac hb HN.out)
  replace HGA9:=ab (ac hb HGA9.out)
  replace HGC9:=ab (ac hb HGC9.out)
  replace HGE9:=ab (ac hb HGE9.out)
  replace HT:=ab (HT.out.below hb)
  replace HA0:=ab (HA0.out.below hb)
  replace HA1:=ab (HA1.out.below hb)
  replace HA2:=ab (HA2.out.below hb)
  replace HA3:=ab (HA3.out.below hb)
  replace HL1:=ab (HL1.out.below hb)
  replace HL2:=ab (HL2.out.below hb)
  replace HL3:=ab (HL3.out.below hb)
  replace HL4:=ab (HL4.out.below hb)
  replace HL5:=ab (HL5.out.below hb)
  replace HL6:=ab (HL6.out.below hb)
  replace HL7:=ab (HL7.out.below hb)
  replace HL8:=ab (HL8.out.below hb)
  replace HMv:=ab (HMv.out.below hb)
  replace HNv:=ab (HNv.out.below hb)
  replace HOv:=ab (HOv.out.below hb)
  replace HTv:=ab (HTv.out.below hb)
  replace HVga:=ab (HVga.out.below hb)
  replace HVgc:=ab (HVgc.out.below hb)
  replace HVge:=ab (HVge.out.below hb)
  replace HW:=aV HW hb
  clear hb
  obtain⟨ca0,ca1,ca2,ca3,ca4,ca5⟩:=hexa HGE9.out
  obtain⟨cb0,cb1,cb2,cb3,cb4,cb5⟩:=hexa HM.out
  have C:=dT ge gea gen gek gee gf gfa gfn gfk gfe gec H m ma mn mk me n na nn nk ne (L+L) _ _ _ Q12 HVge.out (fun h=>absurd h H0.out) (fun h=>absurd h H0.out)
  go_wp2_with fail
  refine C.mono ?_
  rintro e Q13 ⟨rfl,hb⟩
  clear C ca0 ca1 ca2 ca3 ca4 ca5 cb0 cb1 cb2 cb3 cb4 cb5
  replace HS:=ab (ac hb HS.out)
  replace HR:=ab (ac hb HR.out)
  replace HP:=ab (ac hb HP.out)
  replace HQ:=ab (ac hb HQ.out)
  replace HM:=ab (ac hb HM.out)
  replace HN:=ab (ac hb HN.out)
  replace HGA9:=ab (ac hb HGA9.out)
  replace HGC9:=ab (ac hb HGC9.out)
  replace HGE9:=ab (ac hb HGE9.out)
  replace HT:=ab (HT.out.below hb)
  replace HA0:=ab (HA0.out.below hb)
  replace HA1:=ab (HA1.out.below hb)
  replace HA2:=ab (HA2.out.below hb)
  replace HA3:=ab (HA3.out.below hb)
  replace HL1:=ab (HL1.out.below hb)
  replace HL2:=ab (HL2.out.below hb)
  replace HL3:=ab (HL3.out.below hb)
  replace HL4:=ab (HL4.out.below hb)
  replace HL5:=ab (HL5.out.below hb)
  replace HL6:=ab (HL6.out.below hb)
  replace HL7:=ab (HL7.out.below hb)
  replace HL8:=ab (HL8.out.below hb)
  replace HMv:=ab (HMv.out.below hb)
  replace HNv:=ab (HNv.out.below hb)
  replace HOv:=ab (HOv.out.below hb)
  replace HTv:=ab (HTv.out.below hb)
  replace HVga:=ab (HVga.out.below hb)
  replace HVgc:=ab (HVgc.out.below hb)
  replace HVge:=ab (HVge.out.below hb)
  replace HW:=aV HW hb
  clear hb
  have C:=jf Q13 HT.out
  go_wp2_with fail
  refine C.mono ?_
  rintro e Q14 ⟨rfl,hb⟩
  clear C
  replace HS:=ab (ac hb HS.out)
  replace HR:=ab (ac hb HR.out)
  replace HP:=ab (ac hb HP.out)
  replace HQ:=ab (ac hb HQ.out)
  replace HM:=ab (ac hb HM.out)
  replace HN:=ab (ac hb HN.out)
  replace HGA9:=ab (ac hb HGA9.out)
  replace HGC9:=ab (ac hb HGC9.out)
  replace HGE9:=ab (ac hb HGE9.out)
  replace HT:=ab (HT.out.below hb)
  replace HA0:=ab (HA0.out.below hb)
  replace HA1:=ab (HA1.out.below hb)
  replace HA2:=ab (HA2.out.below hb)
  replace HA3:=ab (HA3.out.below hb)
  replace HL1:=ab (HL1.out.below hb)
  replace HL2:=ab (HL2.out.below hb)
  replace HL3:=ab (HL3.out.below hb)
  replace HL4:=ab (HL4.out.below hb)
  replace HL5:=ab (HL5.out.below hb)
  replace HL6:=ab (HL6.out.below hb)
  replace HL7:=ab (HL7.out.below hb)
  replace HL8:=ab (HL8.out.below hb)
  replace HMv:=ab (HMv.out.below hb)
  replace HNv:=ab (HNv.out.below hb)
  replace HOv:=ab (HOv.out.below hb)
  replace HTv:=ab (HTv.out.below hb)
  replace HVga:=ab (HVga.out.below hb)
  replace HVgc:=ab (HVgc.out.below hb)
  replace HVge:=ab (HVge.out.below hb)
  replace HW:=aV HW hb
  clear hb
  go_wp2
  go_ret
  exact⟨rfl,HW.out⟩

end Go.Proofs.YteflkojglmleaaaGreatDoor
