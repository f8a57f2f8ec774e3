/- The law SpanSums: a case of its walk. -/
import Derived.Test.YteflkojglmleaaaGreatDoorB18
import Derived.Test.YteflkojglmleaaaGreatDoorB21
import Derived.Deep.CutBlock
import Derived.Deep.DeepCutAuto
namespace Go.Proofs.YteflkojglmleaaaGreatDoor
open Go.RowKit
open Lm
attribute [local go_sem ↓] Go.wp_at_zero Go.wp_at_succ

set_option maxRecDepth 20000 in
set_option maxHeartbeats 16000000 in
theorem tL (b0:Bool)(a0:Option Addr)(k0:Nat)(z0:List Nat)(e0:Int)(b1:Bool)(a1:Option Addr)(k1:Nat)(z1:List Nat)(e1:Int)(b2:Bool)(a2:Option Addr)(k2:Nat)(z2:List Nat)(e2:Int)(b3:Bool)(a3:Option Addr)(k3:Nat)(z3:List Nat)(e3:Int)(pos:Int)(L:Nat)(V0 V1 V2 V3:Int)(R0a R0b R1a R1b QA QB:Int)(c1 c2 c3 c4 c5 c6 c7 c8 d1 d2 d3 d4 d5 d6 mA mB mC I0 I1 I2:Int)(w:World)(hT:Tab w)(A0:Arg w (.slice a0 z0.length k0) z0)(s0:z0.length≤1048576)(A1:Arg w (.slice a1 z1.length k1) z1)(s1:z1.length≤1048576)(A2:Arg w (.slice a2 z2.length k2) z2)(s2:z2.length≤1048576)(A3:Arg w (.slice a3 z3.length k3) z3)(s3:z3.length≤1048576)(hL:4611686018427387904≤L)(hV0:vof b0 z0 e0 L=V0)(hV1:vof b1 z1 e1 L=V1)(hV2:vof b2 z2 e2 L=V2)(hV3:vof b3 z3 e3 L=V3)(hF:flt e0 e1 V0 V1=0)(hG:flt e2 e3 V2 V3=0)(hK:aj pos=true)(m0:Sml L V0)(m1:Sml L V1)(m2:Sml L V2)(m3:Sml L V3)(hR0a:rv 0 (V0+V2) (2 ^ (pos+(L:Nat)).toNat)=R0a)(hR0b:rv 1 (V1+V3) (2 ^ (pos+(L:Nat)).toNat)=R0b)(hR1a:rv 0 (V0+-V3) (2 ^ (pos+(L:Nat)).toNat)=R1a)(hR1b:rv 1 (V1+-V2) (2 ^ (pos+(L:Nat)).toNat)=R1b)(hQA:rv 0 (min (min (min (V0*V2) (V0*V3)) (V1*V2)) (V1*V3)) (2 ^ (pos+((L+L):Nat)).toNat)=QA)(hQB:rv 1 (max (max (max (V0*V2) (V0*V3)) (V1*V2)) (V1*V3)) (2 ^ (pos+((L+L):Nat)).toNat)=QB)(x1:ah L (V0+V2) c1)(x2:ah L (V1+V3) c2)(x3:ah L (V0+-V3) c3)(x4:ah L (V1+-V2) c4)(x5:ah (L+L) (V0*V2) c5)(x6:ah (L+L) (V0*V3) c6)(x7:ah (L+L) (V1*V2) c7)(x8:ah (L+L) (V1*V3) c8)(y1:ah L R0a d1)(y2:ah L R0b d2)(y3:ah L R1a d3)(y4:ah L R1b d4)(y5:ah (L+L) QA d5)(y6:ah (L+L) QB d6)(hA:ak c1 c2=mA)(hB:ak c3 c4=mB)(hC:bk c5 c6 c7 c8=mC)(hI0:(if mA=0 then ak d1 d2 else mA)=I0)(hI1:(if mB=0 then ak d3 d4 else mB)=I1)(hI2:(if mC=0 then ak d5 d6 else mC)=I2) :
  Calls Tryz.prog 3 #[.agg #[.bool b0,.slice a0 z0.length k0,.int .i64 e0,.bool b1,.slice a1 z1.length k1,.int .i64 e1],.agg #[.bool b2,.slice a2 z2.length k2,.int .i64 e2,.bool b3,.slice a3 z3.length k3,.int .i64 e3],.int .i64 pos] w fun e w'=>e=.returned (.bool true)∧Below w.heap.size w w':=by
 obtain⟨w0,hw0,hb0,q0,q1⟩:=aA w (.cells #[.bool b0,.slice a0 z0.length k0,.int .i64 e0,.bool b1,.slice a1 z1.length k1,.int .i64 e1] 26) (.cells #[.bool b2,.slice a2 z2.length k2,.int .i64 e2,.bool b3,.slice a3 z3.length k3,.int .i64 e3] 26)
 have HT:=ab (hT.below hb0)
 have HA0:=ab (A0.below hb0)
 have EV0:=ab hV0
 have HA1:=ab (A1.below hb0)
 have EV1:=ab hV1
 have HA2:=ab (A2.below hb0)
 have EV2:=ab hV2
 have HA3:=ab (A3.below hb0)
 have EV3:=ab hV3
 have HS:=ab q0
 have HR:=ab q1
 have HW:=ab hb0
 have LL:Hid (4611686018427387904≤L):=ab hL
 clear A0 hV0 A1 hV1 A2 hV2 A3 hV3 hT q0 q1 hb0 hL
 have EF:=ab hF
 have EG:=ab hG
 have HK:=ab hK
 have EH:Hid (aY (wst 0 0) pos=0):=ab (by rw [show wst 0 0=0 from rfl];unfold aY;rw [if_pos rfl,if_pos hK])
 have SM0:=ab m0
 have SM1:=ab m1
 have SM2:=ab m2
 have SM3:=ab m3
 have ER0a:=ab hR0a
 have ER0b:=ab hR0b
 have ER1a:=ab hR1a
 have ER1b:=ab hR1b
 have EQA:=ab hQA
 have EQB:=ab hQB
 have X1:=ab x1
 have X2:=ab x2
 have X3:=ab x3
 have X4:=ab x4
 have X5:=ab x5
 have X6:=ab x6
 have X7:=ab x7
 have X8:=ab x8
 have Y1:=ab y1
 have Y2:=ab y2
 have Y3:=ab y3
 have Y4:=ab y4
 have Y5:=ab y5
 have Y6:=ab y6
 have EA:=ab hA
 have EB:=ab hB
 have EC:=ab hC
 have EI0:=ab hI0
 have EI1:=ab hI1
 have EI2:=ab hI2
 have HM0:Hid (∃c1 c2,ah L (V0+V2) c1∧ah L (V1+V3) c2∧ak c1 c2=mA):=ab ⟨c1,c2,x1,x2,hA⟩
 have HM1:Hid (∃c1 c2,ah L (V0+-V3) c1∧ah L (V1+-V2) c2∧ak c1 c2=mB):=ab ⟨c3,c4,x3,x4,hB⟩
 have HM2:Hid (∃c1 c2 c3 c4,ah (L+L) (V0*V2) c1∧ah (L+L) (V0*V3) c2∧ah (L+L) (V1*V2) c3∧ah (L+L) (V1*V3) c4∧bk c1 c2 c3 c4=mC):=ab ⟨c5,c6,c7,c8,x5,x6,x7,x8,hC⟩
 clear hF hG hK m0 m1 m2 m3 hR0a hR0b hR1a hR1b hQA hQB x1 x2 x3 x4 x5 x6 x7 x8 y1 y2 y3 y4 y5 y6 hA hB hC hI0 hI1 hI2
 go_enter Tryz.func3,Tryz.ntmps3
 have LN1:=ab (fun (W:World) (hg:Below w0.heap.size w0 W)=>fL b0 a0 k0 z0 e0 b1 a1 k1 z1 e1 W (HA0.out.below hg) (HA1.out.below hg) (by omega) (by omega))
 have LN2:=ab (fun (W:World) (hg:Below w0.heap.size w0 W)=>fL b2 a2 k2 z2 e2 b3 a3 k3 z3 e3 W (HA2.out.below hg) (HA3.out.below hg) (by omega) (by omega))
 have KS:=ab (fun (W:World) (hg:Below w0.heap.size w0 W)=>show W.cell? ⟨w.heap.size,0,none⟩=some (.bool b0)∧W.cell? ⟨w.heap.size,1,none⟩=some (.slice a0 z0.length k0)∧W.cell? ⟨w.heap.size,2,none⟩=some (.int .i64 e0)∧W.cell? ⟨w.heap.size,3,none⟩=some (.bool b1)∧W.cell? ⟨w.heap.size,4,none⟩=some (.slice a1 z1.length k1)∧W.cell? ⟨w.heap.size,5,none⟩=some (.int .i64 e1)∧W.cell? ⟨w.heap.size+1,0,none⟩=some (.bool b2)∧W.cell? ⟨w.heap.size+1,1,none⟩=some (.slice a2 z2.length k2)∧W.cell? ⟨w.heap.size+1,2,none⟩=some (.int .i64 e2)∧W.cell? ⟨w.heap.size+1,3,none⟩=some (.bool b3)∧W.cell? ⟨w.heap.size+1,4,none⟩=some (.slice a3 z3.length k3)∧W.cell? ⟨w.heap.size+1,5,none⟩=some (.int .i64 e3) from (by
  obtain⟨x0,x1,x2,x3,x4,x5⟩:=hexa (ac hg HS.out)
  obtain⟨y0,y1,y2,y3,y4,y5⟩:=hexa (ac hg HR.out)
  exact⟨x0,x1,x2,x3,x4,x5,y0,y1,y2,y3,y4,y5⟩))
 go_upto_region 1 with fail
 go_cut [7,8] from 26 to 29 (fun s t wx=>ix w0 b0 z0 e0 b1 z1 e1 b2 z2 e2 b3 z3 e3 s t wx)
 case first=>
  refine wp_region_held_drew (S:=fun w'=>w'.cell? ⟨w.heap.size,0,none⟩=some (.bool b0)∧w'.cell? ⟨w.heap.size,1,none⟩=some (.slice a0 z0.length k0)∧w'.cell? ⟨w.heap.size,2,none⟩=some (.int .i64 e0)∧w'.cell? ⟨w.heap.size,3,none⟩=some (.bool b1)∧w'.cell? ⟨w.heap.size,4,none⟩=some (.slice a1 z1.length k1)∧w'.cell? ⟨w.heap.size,5,none⟩=some (.int .i64 e1)∧w'.cell? ⟨w.heap.size+1,0,none⟩=some (.bool b2)∧w'.cell? ⟨w.heap.size+1,1,none⟩=some (.slice a2 z2.length k2)∧w'.cell? ⟨w.heap.size+1,2,none⟩=some (.int .i64 e2)∧w'.cell? ⟨w.heap.size+1,3,none⟩=some (.bool b3)∧w'.cell? ⟨w.heap.size+1,4,none⟩=some (.slice a3 z3.length k3)∧w'.cell? ⟨w.heap.size+1,5,none⟩=some (.int .i64 e3)) (by kernel_rfl) (KS.out _ (bE (Below.refl _ _))) (fun hHeld=>?_)
  refine wpAnyH_take (i:=0) (oi:={ dst:=some 26,op:=Op.load 26 (Operand.tmp 3),type:=26,pos:="law.go:188",after:=#[],guard:=none }) (v:=.agg #[.bool b0,.slice a0 z0.length k0,.int .i64 e0,.bool b1,.slice a1 z1.length k1,.int .i64 e1]) rfl (by kernel_rfl) (by kernel_rfl) (by kernel_rfl) (fun _ _ _ h=>h) (Or.inl ⟨by rfl,fun w9 hSw=>?_⟩) hHeld ?_
  ·(try dsimp only at hSw);go_simp
  simp only [Act.put,List.setIfInBounds_toArray,List.set_cons_zero,List.set_cons_succ]
  refine wpAnyH_take (i:=2) (oi:={ dst:=some 28,op:=Op.load 26 (Operand.tmp 4),type:=26,pos:="law.go:188",after:=#[],guard:=none }) (v:=.agg #[.bool b2,.slice a2 z2.length k2,.int .i64 e2,.bool b3,.slice a3 z3.length k3,.int .i64 e3]) rfl (by kernel_rfl) (by kernel_rfl) (by kernel_rfl) (fun _ _ _ h=>h) (Or.inl ⟨by rfl,fun w9 hSw=>?_⟩) hHeld ?_
  ·(try dsimp only at hSw);go_simp
  simp only [Act.put,List.setIfInBounds_toArray,List.set_cons_zero,List.set_cons_succ]
  refine mz w0 (LA b0 z0 e0 b1 z1 e1) (LA b2 z2 e2 b3 z3 e3) (LA.keep b0 z0 e0 b1 z1 e1) (LA.keep b2 z2 e2 b3 z3 e3) 27 29 7 8 (fun c1 c2 k1 k2=>#[true,c1,true,c2,k1,k2,false,false]) (by kernel_rfl) (by kernel_rfl) (by simp only [Act.put,List.setIfInBounds_toArray,List.set_cons_zero,List.set_cons_succ]) (bE (Below.refl _ _)) ?_
  clear hHeld
  intro n
  simp only [Act.put,List.setIfInBounds_toArray,List.set_cons_zero,List.set_cons_succ]
  induction n with
  | zero=>
   intro c1 c2 k1 k2 x1 x2 y1 y2 W hf J
   exact absurd hf (by unfold aN;omega)
  | succ n ih=>
   intro c1 c2 k1 k2 x1 x2 y1 y2 W hf J
   cases c1
   ·skip
    cases c2
    ·skip
     cases k1
     ·skip
      cases k2
      ·skip
       refine wpAnyH_ready (rs:=[1,4,5]) (by kernel_rfl) (by simp) ?_
       refine AllReadyH.cons rfl (fun K hK=>?_) ?_
       ·go_simp
        refine (LN1.out W J.up).mono ?_
        rintro e' W2 ⟨⟨fu,fmu,fnu,fv,fmv,fnv,fx,fcx,fy,fcy,rfl,f9⟩,hb⟩
        refine hK.out _ _ (KS.out _ (ae J.up hb)) (fun _=>?_)
        simp only [List.setIfInBounds_toArray,List.set_cons_zero,List.set_cons_succ]
        exact ih _ _ _ _ _ _ _ _ _ (by simp [aN] at hf ⊢;omega) (J.call1 hb ⟨fu,fmu,fnu,fv,fmv,fnv,fx,fcx,fy,fcy,rfl,f9⟩)
       refine AllReadyH.cons rfl (fun K hK=>?_) ?_
       ·go_simp
        refine hK.out _ _ (KS.out _ (aJ J.up _)) (fun _=>?_)
        simp only [List.setIfInBounds_toArray,List.set_cons_zero,List.set_cons_succ]
        exact ih _ _ _ _ _ _ _ _ _ (by simp [aN] at hf ⊢;omega) J.make1
       refine AllReadyH.cons rfl (fun K hK=>?_) ?_
       ·go_simp
        refine hK.out _ _ (KS.out _ (aJ J.up _)) (fun _=>?_)
        simp only [List.setIfInBounds_toArray,List.set_cons_zero,List.set_cons_succ]
        exact ih _ _ _ _ _ _ _ _ _ (by simp [aN] at hf ⊢;omega) J.make2
       exact AllReadyH.nil
      ·skip
       refine wpAnyH_ready (rs:=[1,4]) (by kernel_rfl) (by simp) ?_
       refine AllReadyH.cons rfl (fun K hK=>?_) ?_
       ·go_simp
        refine (LN1.out W J.up).mono ?_
        rintro e' W2 ⟨⟨fu,fmu,fnu,fv,fmv,fnv,fx,fcx,fy,fcy,rfl,f9⟩,hb⟩
        refine hK.out _ _ (KS.out _ (ae J.up hb)) (fun _=>?_)
        simp only [List.setIfInBounds_toArray,List.set_cons_zero,List.set_cons_succ]
        exact ih _ _ _ _ _ _ _ _ _ (by simp [aN] at hf ⊢;omega) (J.call1 hb ⟨fu,fmu,fnu,fv,fmv,fnv,fx,fcx,fy,fcy,rfl,f9⟩)
       refine AllReadyH.cons rfl (fun K hK=>?_) ?_
       ·go_simp
        refine hK.out _ _ (KS.out _ (aJ J.up _)) (fun _=>?_)
        simp only [List.setIfInBounds_toArray,List.set_cons_zero,List.set_cons_succ]
        exact ih _ _ _ _ _ _ _ _ _ (by simp [aN] at hf ⊢;omega) J.make1
       exact AllReadyH.nil
     ·skip
      cases k2
      ·skip
       refine wpAnyH_ready (rs:=[1,5]) (by kernel_rfl) (by simp) ?_
       refine AllReadyH.cons rfl (fun K hK=>?_) ?_
       ·go_simp
        refine (LN1.out W J.up).mono ?_
        rintro e' W2 ⟨⟨fu,fmu,fnu,fv,fmv,fnv,fx,fcx,fy,fcy,rfl,f9⟩,hb⟩
        refine hK.out _ _ (KS.out _ (ae J.up hb)) (fun _=>?_)
        simp only [List.setIfInBounds_toArray,List.set_cons_zero,List.set_cons_succ]
        exact ih _ _ _ _ _ _ _ _ _ (by simp [aN] at hf ⊢;omega) (J.call1 hb ⟨fu,fmu,fnu,fv,fmv,fnv,fx,fcx,fy,fcy,rfl,f9⟩)
       refine AllReadyH.cons rfl (fun K hK=>?_) ?_
       ·go_simp
        refine hK.out _ _ (KS.out _ (aJ J.up _)) (fun _=>?_)
        simp only [List.setIfInBounds_toArray,List.set_cons_zero,List.set_cons_succ]
        exact ih _ _ _ _ _ _ _ _ _ (by simp [aN] at hf ⊢;omega) J.make2
       exact AllReadyH.nil
      ·skip
       refine wpAnyH_ready (rs:=[1]) (by kernel_rfl) (by simp) ?_
       refine AllReadyH.cons rfl (fun K hK=>?_) ?_
       ·go_simp
        refine (LN1.out W J.up).mono ?_
        rintro e' W2 ⟨⟨fu,fmu,fnu,fv,fmv,fnv,fx,fcx,fy,fcy,rfl,f9⟩,hb⟩
        refine hK.out _ _ (KS.out _ (ae J.up hb)) (fun _=>?_)
        simp only [List.setIfInBounds_toArray,List.set_cons_zero,List.set_cons_succ]
        exact ih _ _ _ _ _ _ _ _ _ (by simp [aN] at hf ⊢;omega) (J.call1 hb ⟨fu,fmu,fnu,fv,fmv,fnv,fx,fcx,fy,fcy,rfl,f9⟩)
       exact AllReadyH.nil
    ·skip
     exact absurd (J.ch rfl) (by decide)
   ·skip
    cases c2
    ·skip
     cases k1
     ·skip
      cases k2
      ·skip
       refine wpAnyH_ready (rs:=[3,4,5]) (by kernel_rfl) (by simp) ?_
       refine AllReadyH.cons rfl (fun K hK=>?_) ?_
       ·go_simp
        refine (LN2.out W J.up).mono ?_
        rintro e' W2 ⟨⟨fu,fmu,fnu,fv,fmv,fnv,fx,fcx,fy,fcy,rfl,f9⟩,hb⟩
        refine hK.out _ _ (KS.out _ (ae J.up hb)) (fun _=>?_)
        simp only [List.setIfInBounds_toArray,List.set_cons_zero,List.set_cons_succ]
        exact ih _ _ _ _ _ _ _ _ _ (by simp [aN] at hf ⊢;omega) (J.call2 hb ⟨fu,fmu,fnu,fv,fmv,fnv,fx,fcx,fy,fcy,rfl,f9⟩)
       refine AllReadyH.cons rfl (fun K hK=>?_) ?_
       ·go_simp
        refine hK.out _ _ (KS.out _ (aJ J.up _)) (fun _=>?_)
        simp only [List.setIfInBounds_toArray,List.set_cons_zero,List.set_cons_succ]
        exact ih _ _ _ _ _ _ _ _ _ (by simp [aN] at hf ⊢;omega) J.make1
       refine AllReadyH.cons rfl (fun K hK=>?_) ?_
       ·go_simp
        refine hK.out _ _ (KS.out _ (aJ J.up _)) (fun _=>?_)
        simp only [List.setIfInBounds_toArray,List.set_cons_zero,List.set_cons_succ]
        exact ih _ _ _ _ _ _ _ _ _ (by simp [aN] at hf ⊢;omega) J.make2
       exact AllReadyH.nil
      ·skip
       refine wpAnyH_ready (rs:=[3,4]) (by kernel_rfl) (by simp) ?_
       refine AllReadyH.cons rfl (fun K hK=>?_) ?_
       ·go_simp
        refine (LN2.out W J.up).mono ?_
        rintro e' W2 ⟨⟨fu,fmu,fnu,fv,fmv,fnv,fx,fcx,fy,fcy,rfl,f9⟩,hb⟩
        refine hK.out _ _ (KS.out _ (ae J.up hb)) (fun _=>?_)
        simp only [List.setIfInBounds_toArray,List.set_cons_zero,List.set_cons_succ]
        exact ih _ _ _ _ _ _ _ _ _ (by simp [aN] at hf ⊢;omega) (J.call2 hb ⟨fu,fmu,fnu,fv,fmv,fnv,fx,fcx,fy,fcy,rfl,f9⟩)
       refine AllReadyH.cons rfl (fun K hK=>?_) ?_
       ·go_simp
        refine hK.out _ _ (KS.out _ (aJ J.up _)) (fun _=>?_)
        simp only [List.setIfInBounds_toArray,List.set_cons_zero,List.set_cons_succ]
        exact ih _ _ _ _ _ _ _ _ _ (by simp [aN] at hf ⊢;omega) J.make1
       exact AllReadyH.nil
     ·skip
      cases k2
      ·skip
       refine wpAnyH_ready (rs:=[3,5]) (by kernel_rfl) (by simp) ?_
       refine AllReadyH.cons rfl (fun K hK=>?_) ?_
       ·go_simp
        refine (LN2.out W J.up).mono ?_
        rintro e' W2 ⟨⟨fu,fmu,fnu,fv,fmv,fnv,fx,fcx,fy,fcy,rfl,f9⟩,hb⟩
        refine hK.out _ _ (KS.out _ (ae J.up hb)) (fun _=>?_)
        simp only [List.setIfInBounds_toArray,List.set_cons_zero,List.set_cons_succ]
        exact ih _ _ _ _ _ _ _ _ _ (by simp [aN] at hf ⊢;omega) (J.call2 hb ⟨fu,fmu,fnu,fv,fmv,fnv,fx,fcx,fy,fcy,rfl,f9⟩)
       refine AllReadyH.cons rfl (fun K hK=>?_) ?_
       ·go_simp
        refine hK.out _ _ (KS.out _ (aJ J.up _)) (fun _=>?_)
        simp only [List.setIfInBounds_toArray,List.set_cons_zero,List.set_cons_succ]
        exact ih _ _ _ _ _ _ _ _ _ (by simp [aN] at hf ⊢;omega) J.make2
       exact AllReadyH.nil
      ·skip
       refine wpAnyH_ready (rs:=[3]) (by kernel_rfl) (by simp) ?_
       refine AllReadyH.cons rfl (fun K hK=>?_) ?_
       ·go_simp
        refine (LN2.out W J.up).mono ?_
        rintro e' W2 ⟨⟨fu,fmu,fnu,fv,fmv,fnv,fx,fcx,fy,fcy,rfl,f9⟩,hb⟩
        refine hK.out _ _ (KS.out _ (ae J.up hb)) (fun _=>?_)
        simp only [List.setIfInBounds_toArray,List.set_cons_zero,List.set_cons_succ]
        exact ih _ _ _ _ _ _ _ _ _ (by simp [aN] at hf ⊢;omega) (J.call2 hb ⟨fu,fmu,fnu,fv,fmv,fnv,fx,fcx,fy,fcy,rfl,f9⟩)
       exact AllReadyH.nil
    ·skip
     cases k1
     ·skip
      cases k2
      ·skip
       refine wpAnyH_ready (rs:=[4,5]) (by kernel_rfl) (by simp) ?_
       refine AllReadyH.cons rfl (fun K hK=>?_) ?_
       ·go_simp
        refine hK.out _ _ (KS.out _ (aJ J.up _)) (fun _=>?_)
        simp only [List.setIfInBounds_toArray,List.set_cons_zero,List.set_cons_succ]
        exact ih _ _ _ _ _ _ _ _ _ (by simp [aN] at hf ⊢;omega) J.make1
       refine AllReadyH.cons rfl (fun K hK=>?_) ?_
       ·go_simp
        refine hK.out _ _ (KS.out _ (aJ J.up _)) (fun _=>?_)
        simp only [List.setIfInBounds_toArray,List.set_cons_zero,List.set_cons_succ]
        exact ih _ _ _ _ _ _ _ _ _ (by simp [aN] at hf ⊢;omega) J.make2
       exact AllReadyH.nil
      ·skip
       refine wpAnyH_ready (rs:=[4]) (by kernel_rfl) (by simp) ?_
       refine AllReadyH.cons rfl (fun K hK=>?_) ?_
       ·go_simp
        refine hK.out _ _ (KS.out _ (aJ J.up _)) (fun _=>?_)
        simp only [List.setIfInBounds_toArray,List.set_cons_zero,List.set_cons_succ]
        exact ih _ _ _ _ _ _ _ _ _ (by simp [aN] at hf ⊢;omega) J.make1
       exact AllReadyH.nil
     ·skip
      cases k2
      ·skip
       refine wpAnyH_ready (rs:=[5]) (by kernel_rfl) (by simp) ?_
       refine AllReadyH.cons rfl (fun K hK=>?_) ?_
       ·go_simp
        refine hK.out _ _ (KS.out _ (aJ J.up _)) (fun _=>?_)
        simp only [List.setIfInBounds_toArray,List.set_cons_zero,List.set_cons_succ]
        exact ih _ _ _ _ _ _ _ _ _ (by simp [aN] at hf ⊢;omega) J.make2
       exact AllReadyH.nil
      ·skip
       obtain⟨pu,pmu,pnu,pv,pmv,pnv,px,pcx,py,pcy,rfl,fp⟩:=J.q1 rfl
       obtain⟨qu,qmu,qnu,qv,qmv,qnv,qx,qcx,qy,qcy,rfl,fq⟩:=J.q2 rfl
       have D12:=J.d12 rfl rfl
       obtain⟨g1,rfl,l1,e1z⟩:=J.r1 rfl
       obtain⟨g2,rfl,l2,e2z⟩:=J.r2 rfl
       have HU:=ab J.up
       obtain rfl:n=1:=by simp [aN] at hf;omega
       clear J ih hf
       have D12g:g1≠g2:=fun e=>D12 (by rw [e])
       have fin:=lV (b0:=b0) (e0:=e0) (b1:=b1) (e1:=e1) (b2:=b2) (e2:=e2) (b3:=b3) (e3:=e3) e1z e2z fp fq HU.out l1 l2 D12g
       unfold bD at fin
       have HFIN:=ab fin
       clear D12 fp fq fin
       obtain⟨m0,m1,m2,m3,m4,m5,m6,m7⟩:=octa e1z
       have hf1:=eH e1z
       have t2:=(dJ (w:=W) (g:=g1) (Ne.symm D12g) (.slice pu pmu pnu) (.slice pv pmv pnv) (.bool b0) (.slice px z0.length pcx) (.int .i64 e0) (.bool b1) (.slice py z1.length pcy) (.int .i64 e1)).trans e2z
       unfold bD at t2
       obtain⟨m8,m9,m10,m11,m12,m13,m14,m15⟩:=octa t2
       have hf2:=eH t2
       have b1z:=dv HU.out l1 (.slice pu pmu pnu) (.slice pv pmv pnv) (.bool b0) (.slice px z0.length pcx) (.int .i64 e0) (.bool b1) (.slice py z1.length pcy) (.int .i64 e1)
       have b2z:=dv b1z l2 (.slice qu qmu qnu) (.slice qv qmv qnv) (.bool b2) (.slice qx z2.length qcx) (.int .i64 e2) (.bool b3) (.slice qy z3.length qcy) (.int .i64 e3)
       unfold bD at b1z b2z
       have HB1:=ab b1z
       have HB2:=ab b2z
       clear t2 e1z e2z b1z b2z
       refine wpAnyH_ready (rs:=[6]) (by kernel_rfl) (by simp) ?_
       refine AllReadyH.cons rfl (fun K hK=>?_) AllReadyH.nil
       go_simp
       refine hK.out _ _ (KS.out _ HB1.out) (fun _=>?_)
       clear hK K
       try simp only [List.setIfInBounds_toArray,List.set_cons_zero,List.set_cons_succ]
       refine wpAnyH_ready (rs:=[7]) (by kernel_rfl) (by simp) ?_
       refine AllReadyH.cons rfl (fun K hK=>?_) AllReadyH.nil
       go_simp
       refine hK.out _ _ (KS.out _ HB2.out) (fun _=>?_)
       clear hK K
       try simp only [List.setIfInBounds_toArray,List.set_cons_zero,List.set_cons_succ]
       refine wpAnyH_done (by kernel_rfl) ?_ _
       clear m0 m1 m2 m3 m4 m5 m6 m7 m8 m9 m10 m11 m12 m13 m14 m15 hf1 hf2 HB1 HB2
       go_wp2_with fail
       go_meet
       exact HFIN.out
 case rest=>
  obtain⟨gp,gq,pu,pmu,pnu,pv,pmv,pnv,px,pcx,py,pcy,qu,qmu,qnu,qv,qmv,qnv,qx,qcx,qy,qcy,rfl,rfl,hX,hY,⟨l1,l2,l3,l4⟩,⟨l5,l6,l7,l8⟩,hb⟩:=hcut
  clear LN1 LN2 KS hw0
  replace HS:=ab (ac hb HS.out)
  replace HR:=ab (ac hb HR.out)
  replace HT:=ab (HT.out.below hb)
  replace HA0:=ab (HA0.out.below hb)
  replace HA1:=ab (HA1.out.below hb)
  replace HA2:=ab (HA2.out.below hb)
  replace HA3:=ab (HA3.out.below hb)
  replace HW:=aV HW hb
  clear hb
  have HP:=ab hX
  have HQ:=ab hY
  have HL1:=ab l1
  have HL2:=ab l2
  have HL3:=ab l3
  have HL4:=ab l4
  have HL5:=ab l5
  have HL6:=ab l6
  have HL7:=ab l7
  have HL8:=ab l8
  clear hX hY l1 l2 l3 l4 l5 l6 l7 l8
  obtain⟨ca0,ca1,ca2,ca3,ca4,ca5⟩:=hexa HS.out
  have C:=fV b0 a0 k0 z0 e0 b1 a1 k1 z1 e1 L wc HA0.out HA1.out (by omega) (by omega) LL.out
  rw [EV0.out,EV1.out,EF.out] at C
  go_wp2_with fail
  refine C.mono ?_
  rintro e Q1 ⟨⟨m,ma,mn,mk,me,n,na,nn,nk,ne,rfl,hv1,hv2⟩,hb⟩
  clear C ca0 ca1 ca2 ca3 ca4 ca5
  rw [if_pos rfl] at hv1 hv2
  obtain⟨P2,hP2,hbP,hx⟩:=af Q1 (.cells #[.bool m,.slice ma mn mk,.int .i64 me,.bool n,.slice na nn nk,.int .i64 ne] 43)
  have stp:=ae hb hbP
  replace HS:=ab (ac stp HS.out)
  replace HR:=ab (ac stp HR.out)
  replace HP:=ab (ac stp HP.out)
  replace HQ:=ab (ac stp HQ.out)
  replace HT:=ab (HT.out.below stp)
  replace HA0:=ab (HA0.out.below stp)
  replace HA1:=ab (HA1.out.below stp)
  replace HA2:=ab (HA2.out.below stp)
  replace HA3:=ab (HA3.out.below stp)
  replace HL1:=ab (HL1.out.below stp)
  replace HL2:=ab (HL2.out.below stp)
  replace HL3:=ab (HL3.out.below stp)
  replace HL4:=ab (HL4.out.below stp)
  replace HL5:=ab (HL5.out.below stp)
  replace HL6:=ab (HL6.out.below stp)
  replace HL7:=ab (HL7.out.below stp)
  replace HL8:=ab (HL8.out.below stp)
  replace HW:=aV HW stp
  have HMv:=ab (hv1.below hbP)
  have HNv:=ab (hv2.below hbP)
  have HM:=ab hx
  clear stp hbP hx hb hv1 hv2
  obtain⟨ca0,ca1,ca2,ca3,ca4,ca5⟩:=hexa HR.out
  have C:=fV b2 a2 k2 z2 e2 b3 a3 k3 z3 e3 L P2 HA2.out HA3.out (by omega) (by omega) LL.out
  rw [EV2.out,EV3.out,EG.out] at C
  go_wp2_with fail
  refine C.mono ?_
  rintro e Q3 ⟨⟨o,oa,on,ok,oe,t,ta,tn,tk,te,rfl,hv1,hv2⟩,hb⟩
  clear C ca0 ca1 ca2 ca3 ca4 ca5 hP2
  rw [if_pos rfl] at hv1 hv2
  obtain⟨P4,hP4,hbP,hx⟩:=af Q3 (.cells #[.bool o,.slice oa on ok,.int .i64 oe,.bool t,.slice ta tn tk,.int .i64 te] 43)
  have stp:=ae hb hbP
  replace HS:=ab (ac stp HS.out)
  replace HR:=ab (ac stp HR.out)
  replace HP:=ab (ac stp HP.out)
  replace HQ:=ab (ac stp HQ.out)
  replace HM:=ab (ac stp HM.out)
  replace HT:=ab (HT.out.below stp)
  replace HA0:=ab (HA0.out.below stp)
  replace HA1:=ab (HA1.out.below stp)
  replace HA2:=ab (HA2.out.below stp)
  replace HA3:=ab (HA3.out.below stp)
  replace HL1:=ab (HL1.out.below stp)
  replace HL2:=ab (HL2.out.below stp)
  replace HL3:=ab (HL3.out.below stp)
  replace HL4:=ab (HL4.out.below stp)
  replace HL5:=ab (HL5.out.below stp)
  replace HL6:=ab (HL6.out.below stp)
  replace HL7:=ab (HL7.out.below stp)
  replace HL8:=ab (HL8.out.below stp)
  replace HMv:=ab (HMv.out.below stp)
  replace HNv:=ab (HNv.out.below stp)
  replace HW:=aV HW stp
  have HOv:=ab (hv1.below hbP)
  have HTv:=ab (hv2.below hbP)
  have HN:=ab hx
  clear stp hbP hx hb hv1 hv2
  obtain⟨PW,hPW,hbP,hx⟩:=af P4 (.cells #[.int .i64 0,.int .i64 0] 3)
  have C:=mI P4.heap.size 0 0 pos PW hx
  rw [EH.out] at C
  go_wp2_with fail
  refine C.mono ?_
  rintro e wn ⟨rfl,hw⟩;rw [hw];clear hw wn C
  have hb:=hbP
  clear hbP hx hP4
  replace HS:=ab (ac hb HS.out)
  replace HR:=ab (ac hb HR.out)
  replace HP:=ab (ac hb HP.out)
  replace HQ:=ab (ac hb HQ.out)
  replace HM:=ab (ac hb HM.out)
  replace HN:=ab (ac hb HN.out)
  replace HT:=ab (HT.out.below hb)
  replace HA0:=ab (HA0.out.below hb)
  replace HA1:=ab (HA1.out.below hb)
  replace HA2:=ab (HA2.out.below hb)
  replace HA3:=ab (HA3.out.below hb)
  replace HL1:=ab (HL1.out.below hb)
  replace HL2:=ab (HL2.out.below hb)
  replace HL3:=ab (HL3.out.below hb)
  replace HL4:=ab (HL4.out.below hb)
  replace HL5:=ab (HL5.out.below hb)
  replace HL6:=ab (HL6.out.below hb)
  replace HL7:=ab (HL7.out.below hb)
  replace HL8:=ab (HL8.out.below hb)
  replace HMv:=ab (HMv.out.below hb)
  replace HNv:=ab (HNv.out.below hb)
  replace HOv:=ab (HOv.out.below hb)
  replace HTv:=ab (HTv.out.below hb)
  replace HW:=aV HW hb
  clear hb hPW
  have HL1B:=HL1
  have HL2B:=HL2
  have HL5B:=HL5
  have HL6B:=HL6
  have HA0B:=HA0
  have HA1B:=HA1
  have HA2B:=HA2
  have HA3B:=HA3
  have HTB:=HT
  have HWB:=HW
  have HSB:=HS
  have HRB:=HR
  have HPB:=HP
  have HQB:=HQ
  have HBB:Hid (Below PW.heap.size PW PW):=ab (Below.refl _ _)
  have HAP:=ab (cm.none10 PW PW.heap.size)
  obtain⟨ca0,ca1,ca2,ca3,ca4,ca5,ca6,ca7⟩:=octa HP.out
  obtain⟨cb0,cb1,cb2,cb3,cb4,cb5,cb6,cb7⟩:=octa HQ.out
  have C:=lQ b0 px pcx z0 e0 b1 py pcy z1 e1 b2 qx qcx z2 e2 b3 qy qcy z3 e3 pos L 0 mA PW HT.out HL3.out (by omega) HL4.out (by omega) HL7.out (by omega) HL8.out (by omega) LL.out (by rw [EV0.out,EV1.out,EV2.out,EV3.out,EF.out,EG.out];exact EH.out) (fun _=>by rw [EV0.out,EV1.out,EV2.out,EV3.out];exact HM0.out)
  rw [EV0.out,EV1.out,EV2.out,EV3.out] at C
  rw [if_pos rfl] at C
  rw [ER0a.out,ER0b.out] at C
  go_wp2_with fail
  refine C.mono ?_
  rintro e Q5 ⟨⟨ga,gaa,gan,gak,gae,gb,gba,gbn,gbk,gbe,gac,rfl,hs⟩,hb⟩
  clear C ca0 ca1 ca2 ca3 ca4 ca5 ca6 ca7 cb0 cb1 cb2 cb3 cb4 cb5 cb6 cb7
  obtain⟨r1,r2,x1,x2,j0a,j0b,iap⟩:=hs.lists
  have HAPn:=ab (HAP.out.two10 hb HBB.out.size x1 x2 iap)
  have JL0:=ab (And.intro j0a j0b)
  clear HAP x1 x2 iap j0a j0b
  have HAP:=HAPn
  clear HAPn
  obtain⟨P6,hP6,hbP,hx⟩:=af Q5 (.cells #[.bool ga,.slice gaa gan gak,.int .i64 gae,.bool gb,.slice gba gbn gbk,.int .i64 gbe] 33)
  have stp:=ae hb hbP
  replace HS:=ab (ac stp HS.out)
  replace HR:=ab (ac stp HR.out)
  replace HP:=ab (ac stp HP.out)
  replace HQ:=ab (ac stp HQ.out)
  replace HM:=ab (ac stp HM.out)
  replace HN:=ab (ac stp HN.out)
  replace HT:=ab (HT.out.below stp)
  replace HA0:=ab (HA0.out.below stp)
  replace HA1:=ab (HA1.out.below stp)
  replace HA2:=ab (HA2.out.below stp)
  replace HA3:=ab (HA3.out.below stp)
  replace HL1:=ab (HL1.out.below stp)
  replace HL2:=ab (HL2.out.below stp)
  replace HL3:=ab (HL3.out.below stp)
  replace HL4:=ab (HL4.out.below stp)
  replace HL5:=ab (HL5.out.below stp)
  replace HL6:=ab (HL6.out.below stp)
  replace HL7:=ab (HL7.out.below stp)
  replace HL8:=ab (HL8.out.below stp)
  replace HMv:=ab (HMv.out.below stp)
  replace HNv:=ab (HNv.out.below stp)
  replace HOv:=ab (HOv.out.below stp)
  replace HTv:=ab (HTv.out.below stp)
  replace HW:=aV HW stp
  replace HBB:=aV HBB stp
  have HVga:=ab (hs.below hbP)
  have HGA9:=ab hx
  replace HAP:=ab (HAP.out.below hbP)
  clear stp hbP hx hb hs
  obtain⟨ca0,ca1,ca2,ca3,ca4,ca5,ca6,ca7⟩:=octa HP.out
  obtain⟨cb0,cb1,cb2,cb3,cb4,cb5,cb6,cb7⟩:=octa HQ.out
  have C:=jy b0 px pcx z0 e0 b1 py pcy z1 e1 b2 qx qcx z2 e2 b3 qy qcy z3 e3 pos L 0 mB P6 HT.out HL3.out (by omega) HL4.out (by omega) HL7.out (by omega) HL8.out (by omega) LL.out (by rw [EV0.out,EV1.out,EV2.out,EV3.out,EF.out,EG.out];exact EH.out) (fun _=>by rw [EV0.out,EV1.out,EV2.out,EV3.out];exact HM1.out)
  rw [EV0.out,EV1.out,EV2.out,EV3.out] at C
  rw [if_pos rfl] at C
  rw [ER1a.out,ER1b.out] at C
  go_wp2_with fail
  refine C.mono ?_
  rintro e Q7 ⟨⟨gc,gca,gcn,gck,gce,gd,gda,gdn,gdk,gde,gcc,rfl,hs⟩,hb⟩
  clear C ca0 ca1 ca2 ca3 ca4 ca5 ca6 ca7 cb0 cb1 cb2 cb3 cb4 cb5 cb6 cb7 hP6
  obtain⟨r1,r2,x1,x2,j1a,j1b,iap⟩:=hs.lists
  have HAPn:=ab (HAP.out.two10 hb HBB.out.size x1 x2 iap)
  have JL1:=ab (And.intro j1a j1b)
  clear HAP x1 x2 iap j1a j1b
  have HAP:=HAPn
  clear HAPn
  obtain⟨P8,hP8,hbP,hx⟩:=af Q7 (.cells #[.bool gc,.slice gca gcn gck,.int .i64 gce,.bool gd,.slice gda gdn gdk,.int .i64 gde] 33)
  have stp:=ae hb hbP
  replace HS:=ab (ac stp HS.out)
  replace HR:=ab (ac stp HR.out)
  replace HP:=ab (ac stp HP.out)
  replace HQ:=ab (ac stp HQ.out)
  replace HM:=ab (ac stp HM.out)
  replace HN:=ab (ac stp HN.out)
  replace HGA9:=ab (ac stp HGA9.out)
  replace HT:=ab (HT.out.below stp)
  replace HA0:=ab (HA0.out.below stp)
  replace HA1:=ab (HA1.out.below stp)
  replace HA2:=ab (HA2.out.below stp)
  replace HA3:=ab (HA3.out.below stp)
  replace HL1:=ab (HL1.out.below stp)
  replace HL2:=ab (HL2.out.below stp)
  replace HL3:=ab (HL3.out.below stp)
  replace HL4:=ab (HL4.out.below stp)
  replace HL5:=ab (HL5.out.below stp)
  replace HL6:=ab (HL6.out.below stp)
  replace HL7:=ab (HL7.out.below stp)
  replace HL8:=ab (HL8.out.below stp)
  replace HMv:=ab (HMv.out.below stp)
  replace HNv:=ab (HNv.out.below stp)
  replace HOv:=ab (HOv.out.below stp)
  replace HTv:=ab (HTv.out.below stp)
  replace HVga:=ab (HVga.out.below stp)
  replace HW:=aV HW stp
  replace HBB:=aV HBB stp
  have HVgc:=ab (hs.below hbP)
  have HGC9:=ab hx
  replace HAP:=ab (HAP.out.below hbP)
  clear stp hbP hx hb hs
  obtain⟨ca0,ca1,ca2,ca3,ca4,ca5,ca6,ca7⟩:=octa HP.out
  obtain⟨cb0,cb1,cb2,cb3,cb4,cb5,cb6,cb7⟩:=octa HQ.out
  have C:=jG b0 px pcx z0 e0 b1 py pcy z1 e1 b2 qx qcx z2 e2 b3 qy qcy z3 e3 pos L 0 mC P8 HT.out HL3.out (by omega) HL4.out (by omega) HL7.out (by omega) HL8.out (by omega) LL.out (by rw [EV0.out,EV1.out,EV2.out,EV3.out,EF.out,EG.out];exact EH.out) (fun _=>by rw [EV0.out,EV1.out,EV2.out,EV3.out];exact HM2.out)
  rw [EV0.out,EV1.out,EV2.out,EV3.out] at C
  rw [if_pos rfl] at C
  rw [EQA.out,EQB.out] at C
  go_wp2_with fail
  refine C.mono ?_
  rintro e Q9 ⟨⟨ge,gea,gen,gek,gee,gf,gfa,gfn,gfk,gfe,gec,rfl,hs⟩,hb⟩
  clear C ca0 ca1 ca2 ca3 ca4 ca5 ca6 ca7 cb0 cb1 cb2 cb3 cb4 cb5 cb6 cb7 hP8
  obtain⟨r1,r2,x1,x2,j2a,j2b,iap⟩:=hs.lists
  have HAPn:=ab (HAP.out.two10 hb HBB.out.size x1 x2 iap)
  have JL2:=ab (And.intro j2a j2b)
  clear HAP x1 x2 iap j2a j2b
  have HAP:=HAPn
  clear HAPn
  obtain⟨P10,hP10,hbP,hx⟩:=af Q9 (.cells #[.bool ge,.slice gea gen gek,.int .i64 gee,.bool gf,.slice gfa gfn gfk,.int .i64 gfe] 33)
  have stp:=ae hb hbP
  replace HS:=ab (ac stp HS.out)
  replace HR:=ab (ac stp HR.out)
  replace HP:=ab (ac stp HP.out)
  replace HQ:=ab (ac stp HQ.out)
  replace HM:=ab (ac stp HM.out)
  replace HN:=ab (ac stp HN.out)
  replace HGA9:=ab (ac stp HGA9.out)
  replace HGC9:=ab (ac stp HGC9.out)
  replace HT:=ab (HT.out.below stp)
  replace HA0:=ab (HA0.out.below stp)
  replace HA1:=ab (HA1.out.below stp)
  replace HA2:=ab (HA2.out.below stp)
  replace HA3:=ab (HA3.out.below stp)
  replace HL1:=ab (HL1.out.below stp)
  replace HL2:=ab (HL2.out.below stp)
  replace HL3:=ab (HL3.out.below stp)
  replace HL4:=ab (HL4.out.below stp)
  replace HL5:=ab (HL5.out.below stp)
  replace HL6:=ab (HL6.out.below stp)
  replace HL7:=ab (HL7.out.below stp)
  replace HL8:=ab (HL8.out.below stp)
  replace HMv:=ab (HMv.out.below stp)
  replace HNv:=ab (HNv.out.below stp)
  replace HOv:=ab (HOv.out.below stp)
  replace HTv:=ab (HTv.out.below stp)
  replace HVga:=ab (HVga.out.below stp)
  replace HVgc:=ab (HVgc.out.below stp)
  replace HW:=aV HW stp
  replace HBB:=aV HBB stp
  have HVge:=ab (hs.below hbP)
  have HGE9:=ab hx
  replace HAP:=ab (HAP.out.below hbP)
  clear stp hbP hx hb hs
  obtain⟨ca0,ca1,ca2,ca3,ca4,ca5⟩:=hexa HM.out
  obtain⟨cb0,cb1,cb2,cb3,cb4,cb5⟩:=hexa HN.out
  have C:=mj m ma mn mk me n na nn nk ne o oa on ok oe t ta tn tk te pos L V0 V1 V2 V3 c1 c2 d1 d2 P10 HMv.out HNv.out HOv.out HTv.out SM0.out SM1.out SM2.out SM3.out X1.out X2.out (by rw [ER0a.out];exact Y1.out) (by rw [ER0b.out];exact Y2.out) HK.out LL.out
  rw [ER0a.out,ER0b.out,EA.out,EI0.out] at C
  go_wp2_with fail
  refine C.mono ?_
  rintro e Q11 ⟨⟨u,ua,un,uk,ue,v,va,vn,vk,ve,rfl,hs⟩,hb⟩
  clear C ca0 ca1 ca2 ca3 ca4 ca5 cb0 cb1 cb2 cb3 cb4 cb5 hP10
  replace hs:V88 I0 Q11 u ua un uk ue v va vn vk ve L R0a R0b:=hs
  obtain⟨P12,hP12,hbP,hx⟩:=af Q11 (.cells #[.bool u,.slice ua un uk,.int .i64 ue,.bool v,.slice va vn vk,.int .i64 ve] 43)
  have stp:=ae hb hbP
  replace HS:=ab (ac stp HS.out)
  replace HR:=ab (ac stp HR.out)
  replace HP:=ab (ac stp HP.out)
  replace HQ:=ab (ac stp HQ.out)
  replace HM:=ab (ac stp HM.out)
  replace HN:=ab (ac stp HN.out)
  replace HGA9:=ab (ac stp HGA9.out)
  replace HGC9:=ab (ac stp HGC9.out)
  replace HGE9:=ab (ac stp HGE9.out)
  replace HT:=ab (HT.out.below stp)
  replace HA0:=ab (HA0.out.below stp)
  replace HA1:=ab (HA1.out.below stp)
  replace HA2:=ab (HA2.out.below stp)
  replace HA3:=ab (HA3.out.below stp)
  replace HL1:=ab (HL1.out.below stp)
  replace HL2:=ab (HL2.out.below stp)
  replace HL3:=ab (HL3.out.below stp)
  replace HL4:=ab (HL4.out.below stp)
  replace HL5:=ab (HL5.out.below stp)
  replace HL6:=ab (HL6.out.below stp)
  replace HL7:=ab (HL7.out.below stp)
  replace HL8:=ab (HL8.out.below stp)
  replace HMv:=ab (HMv.out.below stp)
  replace HNv:=ab (HNv.out.below stp)
  replace HOv:=ab (HOv.out.below stp)
  replace HTv:=ab (HTv.out.below stp)
  replace HVga:=ab (HVga.out.below stp)
  replace HVgc:=ab (HVgc.out.below stp)
  replace HVge:=ab (HVge.out.below stp)
  replace HAP:=ab (HAP.out.below stp)
  replace HW:=aV HW stp
  replace HBB:=aV HBB stp
  have HUv:=ab (hs.below hbP)
  have HU:=ab hx
  clear stp hbP hx hb hs
  have NEG:=ab (fun (W:World) (hg:Below P12.heap.size P12 W)=>pU o oa on ok oe t ta tn tk te L V2 V3 W (HOv.out.below hg) (HTv.out.below hg))
  have SUM:=ab (fun (W:World) (b5:Bool) (a5:Option Addr) (n5 k5:Nat) (e5:Int) (b6:Bool) (a6:Option Addr) (n6 k6:Nat) (e6:Int) (h5:V8 W b5 a5 n5 k5 e5 L (-V3)) (h6:V8 W b6 a6 n6 k6 e6 L (-V2)) (hg:Below P12.heap.size P12 W)=>mj m ma mn mk me n na nn nk ne b5 a5 n5 k5 e5 b6 a6 n6 k6 e6 pos L V0 V1 (-V3) (-V2) c3 c4 d3 d4 W (HMv.out.below hg) (HNv.out.below hg) h5 h6 SM0.out SM1.out SM3.out.neg SM2.out.neg X3.out X4.out (by rw [ER1a.out];exact Y3.out) (by rw [ER1b.out];exact Y4.out) HK.out LL.out)
  rw [ER1a.out,ER1b.out,EB.out,EI1.out] at SUM
  have KS:=ab (fun (W:World) (hg:Below P12.heap.size P12 W)=>show W.cell? ⟨Q1.heap.size,0,none⟩=some (.bool m)∧W.cell? ⟨Q1.heap.size,1,none⟩=some (.slice ma mn mk)∧W.cell? ⟨Q1.heap.size,2,none⟩=some (.int .i64 me)∧W.cell? ⟨Q1.heap.size,3,none⟩=some (.bool n)∧W.cell? ⟨Q1.heap.size,4,none⟩=some (.slice na nn nk)∧W.cell? ⟨Q1.heap.size,5,none⟩=some (.int .i64 ne)∧W.cell? ⟨Q3.heap.size,0,none⟩=some (.bool o)∧W.cell? ⟨Q3.heap.size,1,none⟩=some (.slice oa on ok)∧W.cell? ⟨Q3.heap.size,2,none⟩=some (.int .i64 oe)∧W.cell? ⟨Q3.heap.size,3,none⟩=some (.bool t)∧W.cell? ⟨Q3.heap.size,4,none⟩=some (.slice ta tn tk)∧W.cell? ⟨Q3.heap.size,5,none⟩=some (.int .i64 te) from (by
   obtain⟨x0,x1,x2,x3,x4,x5⟩:=hexa (ac hg HM.out)
   obtain⟨y0,y1,y2,y3,y4,y5⟩:=hexa (ac hg HN.out)
   exact⟨x0,x1,x2,x3,x4,x5,y0,y1,y2,y3,y4,y5⟩))
  have g0:Below P12.heap.size P12 P12:=Below.refl _ _
  go_upto_region 11 with fail
  go_cut [22,23] from 103 to 110 (fun s t wx=>iT P12 L R1a R1b I1 s t wx)
  case first=>
   go_region_held3 (fun w'=>w'.cell? ⟨Q1.heap.size,0,none⟩=some (.bool m)∧w'.cell? ⟨Q1.heap.size,1,none⟩=some (.slice ma mn mk)∧w'.cell? ⟨Q1.heap.size,2,none⟩=some (.int .i64 me)∧w'.cell? ⟨Q1.heap.size,3,none⟩=some (.bool n)∧w'.cell? ⟨Q1.heap.size,4,none⟩=some (.slice na nn nk)∧w'.cell? ⟨Q1.heap.size,5,none⟩=some (.int .i64 ne)∧w'.cell? ⟨Q3.heap.size,0,none⟩=some (.bool o)∧w'.cell? ⟨Q3.heap.size,1,none⟩=some (.slice oa on ok)∧w'.cell? ⟨Q3.heap.size,2,none⟩=some (.int .i64 oe)∧w'.cell? ⟨Q3.heap.size,3,none⟩=some (.bool t)∧w'.cell? ⟨Q3.heap.size,4,none⟩=some (.slice ta tn tk)∧w'.cell? ⟨Q3.heap.size,5,none⟩=some (.int .i64 te)) (first | (refine KS.out _ ?_;repeat (first|with_reducible assumption|with_reducible exact Below.refl _ _|with_reducible apply aJ|with_reducible apply bE | (with_reducible refine aG ?_ (by omega) _ _ _ _ _ _)))) (first
    | (go_at_call 12;refine (SUM.out _ b5 a5 n5 k5 e5 b6 a6 n6 k6 e6 (y5.below (by repeat (first|with_reducible exact Below.refl _ _|with_reducible apply aJ))) (y6.below (by repeat (first|with_reducible exact Below.refl _ _|with_reducible apply aJ))) (by repeat (first|with_reducible exact g1|with_reducible apply aJ))).mono ?_;rintro e' t2 ⟨⟨d,da,dn,dk,de,f,fa,fn,fk,fe,rfl,hs⟩,hb2⟩;replace hs:V88 I1 t2 d da dn dk de f fa fn fk fe L R1a R1b:=hs;have g2:Below P12.heap.size P12 t2:=ae (by repeat (first|with_reducible exact g1|with_reducible apply aJ)) hb2;have hle1:=g1.size;(first | (with_reducible have hq:=eU hb2;obtain⟨z0c,z1c,z2c,z3c,z4c,z5c⟩:=hexa hq;have zf:=aD hq) | (with_reducible have hq:=ac hb2 hpA;obtain⟨z0c,z1c,z2c,z3c,z4c,z5c⟩:=hexa hq;have zf:=aD hq) | skip))
    | (go_at_call 13;refine (NEG.out _ (by repeat (first|with_reducible exact Below.refl _ _|with_reducible apply aJ|with_reducible apply bE))).mono ?_;rintro e' t1 ⟨⟨b5,a5,n5,k5,e5,b6,a6,n6,k6,e6,rfl,y5,y6⟩,hb1⟩;have g1:Below P12.heap.size P12 t1:=ae (by repeat (first|with_reducible exact Below.refl _ _|with_reducible apply aJ|with_reducible apply bE)) hb1;(first | (with_reducible have hpA:=jM hb1) | (with_reducible have hpA:=eU hb1) | skip)))
   all_goals (go_wp2_with fail;go_meet;first
    | with_reducible exact qg hs g2
    | with_reducible exact jE hq hle1 hs g2
    | with_reducible exact jE hq (Nat.le_refl _) hs g2)
  case rest=>
   obtain⟨gdx,d,da,dn,dk,de,f,fa,fn,fk,fe,rfl,rfl,hX,hS,hbx⟩:=hcut
   clear NEG SUM KS g0
   replace HS:=ab (ac hbx HS.out)
   replace HR:=ab (ac hbx HR.out)
   replace HP:=ab (ac hbx HP.out)
   replace HQ:=ab (ac hbx HQ.out)
   replace HM:=ab (ac hbx HM.out)
   replace HN:=ab (ac hbx HN.out)
   replace HGA9:=ab (ac hbx HGA9.out)
   replace HGC9:=ab (ac hbx HGC9.out)
   replace HGE9:=ab (ac hbx HGE9.out)
   replace HU:=ab (ac hbx HU.out)
   replace HT:=ab (HT.out.below hbx)
   replace HA0:=ab (HA0.out.below hbx)
   replace HA1:=ab (HA1.out.below hbx)
   replace HA2:=ab (HA2.out.below hbx)
   replace HA3:=ab (HA3.out.below hbx)
   replace HL1:=ab (HL1.out.below hbx)
   replace HL2:=ab (HL2.out.below hbx)
   replace HL3:=ab (HL3.out.below hbx)
   replace HL4:=ab (HL4.out.below hbx)
   replace HL5:=ab (HL5.out.below hbx)
   replace HL6:=ab (HL6.out.below hbx)
   replace HL7:=ab (HL7.out.below hbx)
   replace HL8:=ab (HL8.out.below hbx)
   replace HMv:=ab (HMv.out.below hbx)
   replace HNv:=ab (HNv.out.below hbx)
   replace HOv:=ab (HOv.out.below hbx)
   replace HTv:=ab (HTv.out.below hbx)
   replace HVga:=ab (HVga.out.below hbx)
   replace HVgc:=ab (HVgc.out.below hbx)
   replace HVge:=ab (HVge.out.below hbx)
   replace HAP:=ab (HAP.out.below hbx)
   replace HUv:=ab (HUv.out.below hbx)
   replace HW:=aV HW hbx
   replace HBB:=aV HBB hbx
   have HD:=ab hX
   have HDv:=ab hS
   clear hX hS hbx hP12
   obtain⟨ca0,ca1,ca2,ca3,ca4,ca5⟩:=hexa HM.out
   obtain⟨cb0,cb1,cb2,cb3,cb4,cb5⟩:=hexa HN.out
   have C:=nh m ma mn mk me n na nn nk ne o oa on ok oe t ta tn tk te pos L V0 V1 V2 V3 c5 c6 c7 c8 d5 d6 wc HMv.out HNv.out HOv.out HTv.out SM0.out SM1.out SM2.out SM3.out X5.out X6.out X7.out X8.out (by rw [EQA.out];exact Y5.out) (by rw [EQB.out];exact Y6.out) HK.out LL.out
   rw [EQA.out,EQB.out,EC.out,EI2.out] at C
   go_wp2_with fail
   refine C.mono ?_
   rintro e Q13 ⟨⟨io,ioa,ion,iok,ioe,jo,joa,jon,jok,joe,rfl,hs⟩,hb⟩
   clear C ca0 ca1 ca2 ca3 ca4 ca5 cb0 cb1 cb2 cb3 cb4 cb5
   replace hs:V88 I2 Q13 io ioa ion iok ioe jo joa jon jok joe (L+L) QA QB:=hs
   obtain⟨P14,hP14,hbP,hx⟩:=af Q13 (.cells #[.bool io,.slice ioa ion iok,.int .i64 ioe,.bool jo,.slice joa jon jok,.int .i64 joe] 43)
   have stp:=ae hb hbP
   replace HS:=ab (ac stp HS.out)
   replace HR:=ab (ac stp HR.out)
   replace HP:=ab (ac stp HP.out)
   replace HQ:=ab (ac stp HQ.out)
   replace HM:=ab (ac stp HM.out)
   replace HN:=ab (ac stp HN.out)
   replace HGA9:=ab (ac stp HGA9.out)
   replace HGC9:=ab (ac stp HGC9.out)
   replace HGE9:=ab (ac stp HGE9.out)
   replace HU:=ab (ac stp HU.out)
   replace HD:=ab (ac stp HD.out)
   replace HT:=ab (HT.out.below stp)
   replace HA0:=ab (HA0.out.below stp)
   replace HA1:=ab (HA1.out.below stp)
   replace HA2:=ab (HA2.out.below stp)
   replace HA3:=ab (HA3.out.below stp)
   replace HL1:=ab (HL1.out.below stp)
   replace HL2:=ab (HL2.out.below stp)
   replace HL3:=ab (HL3.out.below stp)
   replace HL4:=ab (HL4.out.below stp)
   replace HL5:=ab (HL5.out.below stp)
   replace HL6:=ab (HL6.out.below stp)
   replace HL7:=ab (HL7.out.below stp)
   replace HL8:=ab (HL8.out.below stp)
   replace HMv:=ab (HMv.out.below stp)
   replace HNv:=ab (HNv.out.below stp)
   replace HOv:=ab (HOv.out.below stp)
   replace HTv:=ab (HTv.out.below stp)
   replace HVga:=ab (HVga.out.below stp)
   replace HVgc:=ab (HVgc.out.below stp)
   replace HVge:=ab (HVge.out.below stp)
   replace HAP:=ab (HAP.out.below stp)
   replace HUv:=ab (HUv.out.below stp)
   replace HDv:=ab (HDv.out.below stp)
   replace HW:=aV HW stp
   replace HBB:=aV HBB stp
   have HIv:=ab (hs.below hbP)
   have HI:=ab hx
   clear stp hbP hx hb hs
   obtain⟨ca0,ca1,ca2,ca3,ca4,ca5⟩:=hexa HGA9.out
   obtain⟨cb0,cb1,cb2,cb3,cb4,cb5⟩:=hexa HU.out
   have C:=iD ga gaa gan gak gae gb gba gbn gbk gbe gac mA u ua un uk ue v va vn vk ve L R0a R0b d1 d2 I0 _ P14 HVga.out Y1.out Y2.out EI0.out HUv.out
   go_wp2_with fail
   refine C.mono ?_
   rintro e Q15 ⟨rfl,hb⟩
   clear C ca0 ca1 ca2 ca3 ca4 ca5 cb0 cb1 cb2 cb3 cb4 cb5 hP14
   replace HS:=ab (ac hb HS.out)
   replace HR:=ab (ac hb HR.out)
   replace HP:=ab (ac hb HP.out)
   replace HQ:=ab (ac hb HQ.out)
   replace HM:=ab (ac hb HM.out)
   replace HN:=ab (ac hb HN.out)
   replace HGA9:=ab (ac hb HGA9.out)
   replace HGC9:=ab (ac hb HGC9.out)
   replace HGE9:=ab (ac hb HGE9.out)
   replace HU:=ab (ac hb HU.out)
   replace HD:=ab (ac hb HD.out)
   replace HI:=ab (ac hb HI.out)
   replace HT:=ab (HT.out.below hb)
   replace HA0:=ab (HA0.out.below hb)
   replace HA1:=ab (HA1.out.below hb)
   replace HA2:=ab (HA2.out.below hb)
   replace HA3:=ab (HA3.out.below hb)
   replace HL1:=ab (HL1.out.below hb)
   replace HL2:=ab (HL2.out.below hb)
   replace HL3:=ab (HL3.out.below hb)
   replace HL4:=ab (HL4.out.below hb)
   replace HL5:=ab (HL5.out.below hb)
   replace HL6:=ab (HL6.out.below hb)
   replace HL7:=ab (HL7.out.below hb)
   replace HL8:=ab (HL8.out.below hb)
   replace HMv:=ab (HMv.out.below hb)
   replace HNv:=ab (HNv.out.below hb)
   replace HOv:=ab (HOv.out.below hb)
   replace HTv:=ab (HTv.out.below hb)
   replace HVga:=ab (HVga.out.below hb)
   replace HVgc:=ab (HVgc.out.below hb)
   replace HVge:=ab (HVge.out.below hb)
   replace HAP:=ab (HAP.out.below hb)
   replace HUv:=ab (HUv.out.below hb)
   replace HDv:=ab (HDv.out.below hb)
   replace HIv:=ab (HIv.out.below hb)
   replace HW:=aV HW hb
   replace HBB:=aV HBB hb
   clear hb
   obtain⟨ca0,ca1,ca2,ca3,ca4,ca5⟩:=hexa HGC9.out
   obtain⟨cb0,cb1,cb2,cb3,cb4,cb5⟩:=hexa HD.out
   have C:=iD gc gca gcn gck gce gd gda gdn gdk gde gcc mB d da dn dk de f fa fn fk fe L R1a R1b d3 d4 I1 _ Q15 HVgc.out Y3.out Y4.out EI1.out HDv.out
   go_wp2_with fail
   refine C.mono ?_
   rintro e Q16 ⟨rfl,hb⟩
   clear C ca0 ca1 ca2 ca3 ca4 ca5 cb0 cb1 cb2 cb3 cb4 cb5
   replace HS:=ab (ac hb HS.out)
   replace HR:=ab (ac hb HR.out)
   replace HP:=ab (ac hb HP.out)
   replace HQ:=ab (ac hb HQ.out)
   replace HM:=ab (ac hb HM.out)
   replace HN:=ab (ac hb HN.out)
   replace HGA9:=ab (ac hb HGA9.out)
   replace HGC9:=ab (ac hb HGC9.out)
   replace HGE9:=ab (ac hb HGE9.out)
   replace HU:=ab (ac hb HU.out)
   replace HD:=ab (ac hb HD.out)
   replace HI:=ab (ac hb HI.out)
   replace HT:=ab (HT.out.below hb)
   replace HA0:=ab (HA0.out.below hb)
   replace HA1:=ab (HA1.out.below hb)
   replace HA2:=ab (HA2.out.below hb)
   replace HA3:=ab (HA3.out.below hb)
   replace HL1:=ab (HL1.out.below hb)
   replace HL2:=ab (HL2.out.below hb)
   replace HL3:=ab (HL3.out.below hb)
   replace HL4:=ab (HL4.out.below hb)
   replace HL5:=ab (HL5.out.below hb)
   replace HL6:=ab (HL6.out.below hb)
   replace HL7:=ab (HL7.out.below hb)
   replace HL8:=ab (HL8.out.below hb)
   replace HMv:=ab (HMv.out.below hb)
   replace HNv:=ab (HNv.out.below hb)
   replace HOv:=ab (HOv.out.below hb)
   replace HTv:=ab (HTv.out.below hb)
   replace HVga:=ab (HVga.out.below hb)
   replace HVgc:=ab (HVgc.out.below hb)
   replace HVge:=ab (HVge.out.below hb)
   replace HAP:=ab (HAP.out.below hb)
   replace HUv:=ab (HUv.out.below hb)
   replace HDv:=ab (HDv.out.below hb)
   replace HIv:=ab (HIv.out.below hb)
   replace HW:=aV HW hb
   replace HBB:=aV HBB hb
   clear hb
   obtain⟨ca0,ca1,ca2,ca3,ca4,ca5⟩:=hexa HGE9.out
   obtain⟨cb0,cb1,cb2,cb3,cb4,cb5⟩:=hexa HI.out
   have C:=iD ge gea gen gek gee gf gfa gfn gfk gfe gec mC io ioa ion iok ioe jo joa jon jok joe (L+L) QA QB d5 d6 I2 _ Q16 HVge.out Y5.out Y6.out EI2.out HIv.out
   go_wp2_with fail
   refine C.mono ?_
   rintro e Q17 ⟨rfl,hb⟩
   clear C ca0 ca1 ca2 ca3 ca4 ca5 cb0 cb1 cb2 cb3 cb4 cb5
   replace HS:=ab (ac hb HS.out)
   replace HR:=ab (ac hb HR.out)
   replace HP:=ab (ac hb HP.out)
   replace HQ:=ab (ac hb HQ.out)
   replace HM:=ab (ac hb HM.out)
   replace HN:=ab (ac hb HN.out)
   replace HGA9:=ab (ac hb HGA9.out)
   replace HGC9:=ab (ac hb HGC9.out)
   replace HGE9:=ab (ac hb HGE9.out)
   replace HU:=ab (ac hb HU.out)
   replace HD:=ab (ac hb HD.out)
   replace HI:=ab (ac hb HI.out)
   replace HT:=ab (HT.out.below hb)
   replace HA0:=ab (HA0.out.below hb)
   replace HA1:=ab (HA1.out.below hb)
   replace HA2:=ab (HA2.out.below hb)
   replace HA3:=ab (HA3.out.below hb)
   replace HL1:=ab (HL1.out.below hb)
   replace HL2:=ab (HL2.out.below hb)
   replace HL3:=ab (HL3.out.below hb)
   replace HL4:=ab (HL4.out.below hb)
   replace HL5:=ab (HL5.out.below hb)
   replace HL6:=ab (HL6.out.below hb)
   replace HL7:=ab (HL7.out.below hb)
   replace HL8:=ab (HL8.out.below hb)
   replace HMv:=ab (HMv.out.below hb)
   replace HNv:=ab (HNv.out.below hb)
   replace HOv:=ab (HOv.out.below hb)
   replace HTv:=ab (HTv.out.below hb)
   replace HVga:=ab (HVga.out.below hb)
   replace HVgc:=ab (HVgc.out.below hb)
   replace HVge:=ab (HVge.out.below hb)
   replace HAP:=ab (HAP.out.below hb)
   replace HUv:=ab (HUv.out.below hb)
   replace HDv:=ab (HDv.out.below hb)
   replace HIv:=ab (HIv.out.below hb)
   replace HW:=aV HW hb
   replace HBB:=aV HBB hb
   clear hb
   obtain⟨ca0,ca1,ca2,ca3,ca4,ca5⟩:=hexa HGA9.out
   obtain⟨cb0,cb1,cb2,cb3,cb4,cb5⟩:=hexa HGC9.out
   obtain⟨cc0,cc1,cc2,cc3,cc4,cc5⟩:=hexa HGE9.out
   obtain⟨PO,hPO,hbP,hx⟩:=af Q17 (.cells #[.bool ga,.slice gaa gan gak,.int .i64 gae,.bool gb,.slice gba gbn gbk,.int .i64 gbe,.bool gc,.slice gca gcn gck,.int .i64 gce,.bool gd,.slice gda gdn gdk,.int .i64 gde,.bool ge,.slice gea gen gek,.int .i64 gee,.bool gf,.slice gfa gfn gfk,.int .i64 gfe] 33)
   have C:=oH Q17.heap.size ga gaa gan gak gae gb gba gbn gbk gbe gc gca gcn gck gce gd gda gdn gdk gde ge gea gen gek gee gf gfa gfn gfk gfe PW.heap.size _ PO hx (HAP.out.below hbP) (by intro rr hr;simp at hr;have q0:=JL0.out;have q1:=JL1.out;have q2:=JL2.out;rcases hr with rfl|rfl|rfl|rfl|rfl|rfl <;> omega) (ae HBB.out hbP).size
   have HBP:=ab (ae HBB.out hbP)
   clear hbP hx
   go_wp2_with fail
   refine C.mono ?_
   rintro e TP ⟨rfl,hk⟩
   have hb:Below PW.heap.size PW TP:=HBP.out.trans hk.below
   clear C hk hPO ca0 ca1 ca2 ca3 ca4 ca5 cb0 cb1 cb2 cb3 cb4 cb5 cc0 cc1 cc2 cc3 cc4 cc5
   have HL12:=ab (HL1B.out.below hb)
   have HL22:=ab (HL2B.out.below hb)
   have HL52:=ab (HL5B.out.below hb)
   have HL62:=ab (HL6B.out.below hb)
   have HA02:=ab (HA0B.out.below hb)
   have HA12:=ab (HA1B.out.below hb)
   have HA22:=ab (HA2B.out.below hb)
   have HA32:=ab (HA3B.out.below hb)
   have HT2:=ab (HTB.out.below hb)
   have HW2:=ab (ae HWB.out hb)
   have HS2:=ab (ac hb HSB.out)
   have HR2:=ab (ac hb HRB.out)
   have HP2:=ab (ac hb HPB.out)
   have HQ2:=ab (ac hb HQB.out)
   clear hb
   obtain⟨ca0,ca1,ca2,ca3,ca4,ca5,ca6,ca7⟩:=octa HP2.out
   obtain⟨cb0,cb1,cb2,cb3,cb4,cb5⟩:=hexa HS2.out
   have C:=mL pu pmu pnu pv pmv pnv b0 px z0.length pcx e0 b1 py z1.length pcy e1 b0 a0 k0 z0 e0 b1 a1 k1 z1 e1 TP HL12.out HL22.out HA02.out HA12.out (by omega) (by omega)
   go_wp2_with fail
   refine C.mono ?_
   rintro e Q18 ⟨rfl,hb⟩
   clear C ca0 ca1 ca2 ca3 ca4 ca5 ca6 ca7 cb0 cb1 cb2 cb3 cb4 cb5
   replace HS2:=ab (ac hb HS2.out)
   replace HR2:=ab (ac hb HR2.out)
   replace HP2:=ab (ac hb HP2.out)
   replace HQ2:=ab (ac hb HQ2.out)
   replace HL12:=ab (HL12.out.below hb)
   replace HL22:=ab (HL22.out.below hb)
   replace HL52:=ab (HL52.out.below hb)
   replace HL62:=ab (HL62.out.below hb)
   replace HA02:=ab (HA02.out.below hb)
   replace HA12:=ab (HA12.out.below hb)
   replace HA22:=ab (HA22.out.below hb)
   replace HA32:=ab (HA32.out.below hb)
   replace HT2:=ab (HT2.out.below hb)
   replace HW2:=aV HW2 hb
   clear hb
   obtain⟨ca0,ca1,ca2,ca3,ca4,ca5,ca6,ca7⟩:=octa HQ2.out
   obtain⟨cb0,cb1,cb2,cb3,cb4,cb5⟩:=hexa HR2.out
   have C:=mL qu qmu qnu qv qmv qnv b2 qx z2.length qcx e2 b3 qy z3.length qcy e3 b2 a2 k2 z2 e2 b3 a3 k3 z3 e3 Q18 HL52.out HL62.out HA22.out HA32.out (by omega) (by omega)
   go_wp2_with fail
   refine C.mono ?_
   rintro e Q19 ⟨rfl,hb⟩
   clear C ca0 ca1 ca2 ca3 ca4 ca5 ca6 ca7 cb0 cb1 cb2 cb3 cb4 cb5
   replace HS2:=ab (ac hb HS2.out)
   replace HR2:=ab (ac hb HR2.out)
   replace HP2:=ab (ac hb HP2.out)
   replace HQ2:=ab (ac hb HQ2.out)
   replace HL12:=ab (HL12.out.below hb)
   replace HL22:=ab (HL22.out.below hb)
   replace HL52:=ab (HL52.out.below hb)
   replace HL62:=ab (HL62.out.below hb)
   replace HA02:=ab (HA02.out.below hb)
   replace HA12:=ab (HA12.out.below hb)
   replace HA22:=ab (HA22.out.below hb)
   replace HA32:=ab (HA32.out.below hb)
   replace HT2:=ab (HT2.out.below hb)
   replace HW2:=aV HW2 hb
   clear hb
   have C:=jf Q19 HT2.out
   go_wp2_with fail
   refine C.mono ?_
   rintro e Q20 ⟨rfl,hb⟩
   clear C
   replace HS2:=ab (ac hb HS2.out)
   replace HR2:=ab (ac hb HR2.out)
   replace HP2:=ab (ac hb HP2.out)
   replace HQ2:=ab (ac hb HQ2.out)
   replace HL12:=ab (HL12.out.below hb)
   replace HL22:=ab (HL22.out.below hb)
   replace HL52:=ab (HL52.out.below hb)
   replace HL62:=ab (HL62.out.below hb)
   replace HA02:=ab (HA02.out.below hb)
   replace HA12:=ab (HA12.out.below hb)
   replace HA22:=ab (HA22.out.below hb)
   replace HA32:=ab (HA32.out.below hb)
   replace HT2:=ab (HT2.out.below hb)
   replace HW2:=aV HW2 hb
   clear hb
   go_wp2
   go_ret
   exact⟨rfl,HW2.out⟩

end Go.Proofs.YteflkojglmleaaaGreatDoor
