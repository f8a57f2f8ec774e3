/- The walk of the law WholeMasks. -/
import Derived.Test.YtcbpdngogkbndaaGreatDoorB10
import Derived.Test.YtcbpdngogkbndaaGreatDoorB13
namespace Go.Proofs.YtcbpdngogkbndaaGreatDoor
open Go.RowKit
open Lm
attribute [local go_sem ↓] Go.wp_at_zero Go.wp_at_succ

theorem jX (p:Int):-130<Int.tmod p 130∧Int.tmod p 130<130:=by
 rcases Int.lt_or_le p 0 with h|h
 ·obtain⟨a,rfl⟩:∃a:Int,p=-a:=⟨-p,by omega⟩
  rw [Int.neg_tmod,Int.tmod_eq_emod_of_nonneg (by omega)]
  omega
 ·rw [Int.tmod_eq_emod_of_nonneg h]
  omega

theorem aJ {W0 W t:World}(h:Below W0.heap.size W0 W)(h2:Below W.heap.size W t):Below W0.heap.size W0 t:=h.trans (h2.mono h.size)

theorem be {W0 W:World}(h:Below W0.heap.size W0 W)(o:Obj):Below W0.heap.size W0 (W.alloc o):=h.alloc h.size _

theorem gp {W0 W:World}(h:Below W0.heap.size W0 W):Below W0.heap.size W0 W.drew:=h.drew

theorem aG {w a b:World}(h:Hid (Below w.heap.size w a))(hb:Below a.heap.size a b):Hid (Below w.heap.size w b):=h.out.trans (hb.mono h.out.size)

theorem ZR.getM {w:World}{base:Nat}{b:Bool}{v:Value}{z:Int}(h:ZR w base b v 0 z):∃rs,Arg w v rs∧zz b (val rs)=z∧rs.length≤1048576:=by
 obtain⟨rs,hA,hc⟩:=h
 have hl:=ZR.few hc
 rcases hc with ⟨_,h2,h3,_,_⟩|⟨h,_⟩
 ·exact⟨rs,hA.arg (by omega),by rw [h2,h3];exact cY z,hl⟩
 ·cases h

set_option maxRecDepth 20000 in
set_option maxHeartbeats 16000000 in
theorem iA (b0:Bool)(v0:Value)(z0:List Nat)(b1:Bool)(v1:Value)(z1:List Nat)(p2:Int)(w:World)(hT:Tab w)(A0:Arg w v0 z0)(s0:z0.length≤17592186043904)(A1:Arg w v1 z1)(s1:z1.length≤17592186043904)(hl2:-9223372036854775808≤p2)(hh2:p2≤9223372036854775807) :
  Calls Tryz.prog 4 #[.agg #[.bool b0,v0],.agg #[.bool b1,v1],.int .i64 p2] w fun e w'=>e=.returned (.bool true)∧Below w.heap.size w w':=by
 obtain⟨a0,n0,rfl,_,_,_⟩:=A0.form
 obtain⟨a1,n1,rfl,_,_,_⟩:=A1.form
 obtain⟨w0,hw0,hb0,h0,h1⟩:=aQ w (.cells #[.bool b0,.slice a0 z0.length n0] 24) (.cells #[.bool b1,.slice a1 z1.length n1] 24)
 have HA:=aa h0
 have HBb:=aa h1
 have HA0:=aa (A0.below hb0)
 have HA1:=aa (A1.below hb0)
 have HT:=aa (hT.below hb0)
 have HW:=aa hb0
 have hm1:=jX p2
 have hm2:Int.tmod (Int.tmod p2 130+130) 130=(Int.tmod p2 130+130) % 130:=Int.tmod_eq_emod_of_nonneg (by omega)
 obtain⟨N,hN,hN1⟩:∃N:Nat,Int.tmod (wrap64 (Int.tmod p2 130+130)) 130=(N:Int)∧N<130:=by
  rw [show wrap64 (Int.tmod p2 130+130)=Int.tmod p2 130+130 by unfold wrap64;omega]
  exact⟨(Int.tmod (Int.tmod p2 130+130) 130).toNat,by omega,by omega⟩
 clear hm1 hm2
 have hP:=And.intro hl2 hh2
 have HN:=aa (And.intro hN (And.intro hN1 hP))
 clear A0 A1 hT hb0 h0 h1 hN hl2 hh2 hP
 go_enter Tryz.func4,Tryz.ntmps4
 go_upto_region 1 with fail
 go_cut [7,8] from 36 to 40 (fun s t wx=>fM w0 b0 b1 (.slice a0 z0.length n0) (.slice a1 z1.length n1) s t wx)
 case first=>
  have KS:=aa (fun (W:World) (hg:Below w0.heap.size w0 W)=>show W.cell? ⟨w.heap.size,0,none⟩=some (.bool b0)∧W.cell? ⟨w.heap.size,1,none⟩=some (.slice a0 z0.length n0)∧W.cell? ⟨w.heap.size+1,0,none⟩=some (.bool b1)∧W.cell? ⟨w.heap.size+1,1,none⟩=some (.slice a1 z1.length n1) from ⟨(duo (ab hg HA.out)).1,(duo (ab hg HA.out)).2,(duo (ab hg HBb.out)).1,(duo (ab hg HBb.out)).2⟩)
  have IN1:=aa (fun (W:World) (_:Below w0.heap.size w0 W)=>gH b0 a0 z0.length n0 W)
  have IN2:=aa (fun (W:World) (_:Below w0.heap.size w0 W)=>gH b1 a1 z1.length n1 W)
  refine wp_region_held_drew (S:=fun w'=>w'.cell? ⟨w.heap.size,0,none⟩=some (.bool b0)∧w'.cell? ⟨w.heap.size,1,none⟩=some (.slice a0 z0.length n0)∧w'.cell? ⟨w.heap.size+1,0,none⟩=some (.bool b1)∧w'.cell? ⟨w.heap.size+1,1,none⟩=some (.slice a1 z1.length n1)) (by kernel_rfl) (KS.out _ (gp (Below.refl _ _))) (fun hHeld=>?_)
  refine wpAnyH_take (i:=0) (oi:={ dst:=some 36,op:=Op.load 24 (Operand.tmp 3),type:=24,pos:="outright.go:121",after:=#[],guard:=none }) (v:=.agg #[.bool b0,.slice a0 z0.length n0]) rfl (by kernel_rfl) (by kernel_rfl) (by kernel_rfl) (fun _ _ _ h=>h) (Or.inl ⟨by rfl,fun w9 hSw=>?_⟩) hHeld ?_
  ·(try dsimp only at hSw);go_simp
  simp only [Act.put,List.setIfInBounds_toArray,List.set_cons_zero,List.set_cons_succ]
  refine wpAnyH_take (i:=2) (oi:={ dst:=some 38,op:=Op.load 24 (Operand.tmp 4),type:=24,pos:="outright.go:121",after:=#[],guard:=none }) (v:=.agg #[.bool b1,.slice a1 z1.length n1]) rfl (by kernel_rfl) (by kernel_rfl) (by kernel_rfl) (fun _ _ _ h=>h) (Or.inl ⟨by rfl,fun w9 hSw=>?_⟩) hHeld ?_
  ·(try dsimp only at hSw);go_simp
  simp only [Act.put,List.setIfInBounds_toArray,List.set_cons_zero,List.set_cons_succ]
  refine ip w0 (.agg #[.bool b0,.slice a0 z0.length n0]) (.agg #[.bool b1,.slice a1 z1.length n1]) 37 39 7 8 (fun c1 c2 k1 k2=>#[true,c1,true,c2,k1,k2,false,false]) (by kernel_rfl) (by kernel_rfl) (by simp only [Act.put,List.setIfInBounds_toArray,List.set_cons_zero,List.set_cons_succ]) (gp (Below.refl _ _)) ?_
  clear hHeld
  intro n
  simp only [Act.put,List.setIfInBounds_toArray,List.set_cons_zero,List.set_cons_succ]
  induction n with
  | zero=>
   intro c1 c2 k1 k2 x1 x2 y1 y2 W hf J
   exact absurd hf (by unfold aD;omega)
  | succ n ih=>
   intro c1 c2 k1 k2 x1 x2 y1 y2 W hf J
   cases c1
   ·skip
    cases c2
    ·skip
     cases k1
     ·skip
      cases k2
      ·skip
       refine wpAnyH_ready (rs:=[1,4,5]) (by kernel_rfl) (by simp) ?_
       refine AllReadyH.cons rfl (fun K hK=>?_) ?_
       ·go_simp
        refine (IN1.out W J.up).mono ?_
        rintro e' W2 ⟨rfl,hb⟩
        refine hK.out _ _ (KS.out _ (aJ J.up hb)) (fun _=>?_)
        simp only [List.setIfInBounds_toArray,List.set_cons_zero,List.set_cons_succ]
        exact ih _ _ _ _ _ _ _ _ _ (by simp [aD] at hf ⊢;omega) (J.call1 hb)
       refine AllReadyH.cons rfl (fun K hK=>?_) ?_
       ·go_simp
        refine hK.out _ _ (KS.out _ (be J.up _)) (fun _=>?_)
        simp only [List.setIfInBounds_toArray,List.set_cons_zero,List.set_cons_succ]
        exact ih _ _ _ _ _ _ _ _ _ (by simp [aD] at hf ⊢;omega) J.make1
       refine AllReadyH.cons rfl (fun K hK=>?_) ?_
       ·go_simp
        refine hK.out _ _ (KS.out _ (be J.up _)) (fun _=>?_)
        simp only [List.setIfInBounds_toArray,List.set_cons_zero,List.set_cons_succ]
        exact ih _ _ _ _ _ _ _ _ _ (by simp [aD] at hf ⊢;omega) J.make2
       exact AllReadyH.nil
      ·skip
       refine wpAnyH_ready (rs:=[1,4]) (by kernel_rfl) (by simp) ?_
       refine AllReadyH.cons rfl (fun K hK=>?_) ?_
       ·go_simp
        refine (IN1.out W J.up).mono ?_
        rintro e' W2 ⟨rfl,hb⟩
        refine hK.out _ _ (KS.out _ (aJ J.up hb)) (fun _=>?_)
        simp only [List.setIfInBounds_toArray,List.set_cons_zero,List.set_cons_succ]
        exact ih _ _ _ _ _ _ _ _ _ (by simp [aD] at hf ⊢;omega) (J.call1 hb)
       refine AllReadyH.cons rfl (fun K hK=>?_) ?_
       ·go_simp
        refine hK.out _ _ (KS.out _ (be J.up _)) (fun _=>?_)
        simp only [List.setIfInBounds_toArray,List.set_cons_zero,List.set_cons_succ]
        exact ih _ _ _ _ _ _ _ _ _ (by simp [aD] at hf ⊢;omega) J.make1
       exact AllReadyH.nil
     ·skip
      cases k2
      ·skip
       refine wpAnyH_ready (rs:=[1,5]) (by kernel_rfl) (by simp) ?_
       refine AllReadyH.cons rfl (fun K hK=>?_) ?_
       ·go_simp
        refine (IN1.out W J.up).mono ?_
        rintro e' W2 ⟨rfl,hb⟩
        refine hK.out _ _ (KS.out _ (aJ J.up hb)) (fun _=>?_)
        simp only [List.setIfInBounds_toArray,List.set_cons_zero,List.set_cons_succ]
        exact ih _ _ _ _ _ _ _ _ _ (by simp [aD] at hf ⊢;omega) (J.call1 hb)
       refine AllReadyH.cons rfl (fun K hK=>?_) ?_
       ·go_simp
        refine hK.out _ _ (KS.out _ (be J.up _)) (fun _=>?_)
        simp only [List.setIfInBounds_toArray,List.set_cons_zero,List.set_cons_succ]
        exact ih _ _ _ _ _ _ _ _ _ (by simp [aD] at hf ⊢;omega) J.make2
       exact AllReadyH.nil
      ·skip
       refine wpAnyH_ready (rs:=[1]) (by kernel_rfl) (by simp) ?_
       refine AllReadyH.cons rfl (fun K hK=>?_) ?_
       ·go_simp
        refine (IN1.out W J.up).mono ?_
        rintro e' W2 ⟨rfl,hb⟩
        refine hK.out _ _ (KS.out _ (aJ J.up hb)) (fun _=>?_)
        simp only [List.setIfInBounds_toArray,List.set_cons_zero,List.set_cons_succ]
        exact ih _ _ _ _ _ _ _ _ _ (by simp [aD] at hf ⊢;omega) (J.call1 hb)
       exact AllReadyH.nil
    ·skip
     exact absurd (J.ch rfl) (by decide)
   ·skip
    cases c2
    ·skip
     cases k1
     ·skip
      cases k2
      ·skip
       refine wpAnyH_ready (rs:=[3,4,5]) (by kernel_rfl) (by simp) ?_
       refine AllReadyH.cons rfl (fun K hK=>?_) ?_
       ·go_simp
        refine (IN2.out W J.up).mono ?_
        rintro e' W2 ⟨rfl,hb⟩
        refine hK.out _ _ (KS.out _ (aJ J.up hb)) (fun _=>?_)
        simp only [List.setIfInBounds_toArray,List.set_cons_zero,List.set_cons_succ]
        exact ih _ _ _ _ _ _ _ _ _ (by simp [aD] at hf ⊢;omega) (J.call2 hb)
       refine AllReadyH.cons rfl (fun K hK=>?_) ?_
       ·go_simp
        refine hK.out _ _ (KS.out _ (be J.up _)) (fun _=>?_)
        simp only [List.setIfInBounds_toArray,List.set_cons_zero,List.set_cons_succ]
        exact ih _ _ _ _ _ _ _ _ _ (by simp [aD] at hf ⊢;omega) J.make1
       refine AllReadyH.cons rfl (fun K hK=>?_) ?_
       ·go_simp
        refine hK.out _ _ (KS.out _ (be J.up _)) (fun _=>?_)
        simp only [List.setIfInBounds_toArray,List.set_cons_zero,List.set_cons_succ]
        exact ih _ _ _ _ _ _ _ _ _ (by simp [aD] at hf ⊢;omega) J.make2
       exact AllReadyH.nil
      ·skip
       refine wpAnyH_ready (rs:=[3,4]) (by kernel_rfl) (by simp) ?_
       refine AllReadyH.cons rfl (fun K hK=>?_) ?_
       ·go_simp
        refine (IN2.out W J.up).mono ?_
        rintro e' W2 ⟨rfl,hb⟩
        refine hK.out _ _ (KS.out _ (aJ J.up hb)) (fun _=>?_)
        simp only [List.setIfInBounds_toArray,List.set_cons_zero,List.set_cons_succ]
        exact ih _ _ _ _ _ _ _ _ _ (by simp [aD] at hf ⊢;omega) (J.call2 hb)
       refine AllReadyH.cons rfl (fun K hK=>?_) ?_
       ·go_simp
        refine hK.out _ _ (KS.out _ (be J.up _)) (fun _=>?_)
        simp only [List.setIfInBounds_toArray,List.set_cons_zero,List.set_cons_succ]
        exact ih _ _ _ _ _ _ _ _ _ (by simp [aD] at hf ⊢;omega) J.make1
       exact AllReadyH.nil
     ·skip
      cases k2
      ·skip
       refine wpAnyH_ready (rs:=[3,5]) (by kernel_rfl) (by simp) ?_
       refine AllReadyH.cons rfl (fun K hK=>?_) ?_
       ·go_simp
        refine (IN2.out W J.up).mono ?_
        rintro e' W2 ⟨rfl,hb⟩
        refine hK.out _ _ (KS.out _ (aJ J.up hb)) (fun _=>?_)
        simp only [List.setIfInBounds_toArray,List.set_cons_zero,List.set_cons_succ]
        exact ih _ _ _ _ _ _ _ _ _ (by simp [aD] at hf ⊢;omega) (J.call2 hb)
       refine AllReadyH.cons rfl (fun K hK=>?_) ?_
       ·go_simp
        refine hK.out _ _ (KS.out _ (be J.up _)) (fun _=>?_)
        simp only [List.setIfInBounds_toArray,List.set_cons_zero,List.set_cons_succ]
        exact ih _ _ _ _ _ _ _ _ _ (by simp [aD] at hf ⊢;omega) J.make2
       exact AllReadyH.nil
      ·skip
       refine wpAnyH_ready (rs:=[3]) (by kernel_rfl) (by simp) ?_
       refine AllReadyH.cons rfl (fun K hK=>?_) ?_
       ·go_simp
        refine (IN2.out W J.up).mono ?_
        rintro e' W2 ⟨rfl,hb⟩
        refine hK.out _ _ (KS.out _ (aJ J.up hb)) (fun _=>?_)
        simp only [List.setIfInBounds_toArray,List.set_cons_zero,List.set_cons_succ]
        exact ih _ _ _ _ _ _ _ _ _ (by simp [aD] at hf ⊢;omega) (J.call2 hb)
       exact AllReadyH.nil
    ·skip
     cases k1
     ·skip
      cases k2
      ·skip
       refine wpAnyH_ready (rs:=[4,5]) (by kernel_rfl) (by simp) ?_
       refine AllReadyH.cons rfl (fun K hK=>?_) ?_
       ·go_simp
        refine hK.out _ _ (KS.out _ (be J.up _)) (fun _=>?_)
        simp only [List.setIfInBounds_toArray,List.set_cons_zero,List.set_cons_succ]
        exact ih _ _ _ _ _ _ _ _ _ (by simp [aD] at hf ⊢;omega) J.make1
       refine AllReadyH.cons rfl (fun K hK=>?_) ?_
       ·go_simp
        refine hK.out _ _ (KS.out _ (be J.up _)) (fun _=>?_)
        simp only [List.setIfInBounds_toArray,List.set_cons_zero,List.set_cons_succ]
        exact ih _ _ _ _ _ _ _ _ _ (by simp [aD] at hf ⊢;omega) J.make2
       exact AllReadyH.nil
      ·skip
       refine wpAnyH_ready (rs:=[4]) (by kernel_rfl) (by simp) ?_
       refine AllReadyH.cons rfl (fun K hK=>?_) ?_
       ·go_simp
        refine hK.out _ _ (KS.out _ (be J.up _)) (fun _=>?_)
        simp only [List.setIfInBounds_toArray,List.set_cons_zero,List.set_cons_succ]
        exact ih _ _ _ _ _ _ _ _ _ (by simp [aD] at hf ⊢;omega) J.make1
       exact AllReadyH.nil
     ·skip
      cases k2
      ·skip
       refine wpAnyH_ready (rs:=[5]) (by kernel_rfl) (by simp) ?_
       refine AllReadyH.cons rfl (fun K hK=>?_) ?_
       ·go_simp
        refine hK.out _ _ (KS.out _ (be J.up _)) (fun _=>?_)
        simp only [List.setIfInBounds_toArray,List.set_cons_zero,List.set_cons_succ]
        exact ih _ _ _ _ _ _ _ _ _ (by simp [aD] at hf ⊢;omega) J.make2
       exact AllReadyH.nil
      ·skip
       obtain rfl:=J.q1 rfl
       obtain rfl:=J.q2 rfl
       have D12:=J.d12 rfl rfl
       obtain⟨g1,rfl,l1,e1⟩:=J.r1 rfl
       obtain⟨g2,rfl,l2,e2⟩:=J.r2 rfl
       have HU:=aa J.up
       obtain rfl:n=1:=by simp [aD] at hf;omega
       clear J ih hf
       have D12g:g1≠g2:=fun e=>D12 (by rw [e])
       have HFIN:=aa (lA (b0:=b0) (b1:=b1) (v0:=.slice a0 z0.length n0) (v1:=.slice a1 z1.length n1) e1 e2 l1 l2 D12g HU.out)
       clear D12
       obtain⟨m0,m1⟩:=duo e1
       have hf1:=ae e1
       have t2:=cJ (u0:=.bool b0) (u1:=.slice a0 z0.length n0) e2 (Ne.symm D12g)
       obtain⟨m2,m3⟩:=duo t2
       have hf2:=ae t2
       have HB1:=aa (ai (u0:=.bool b0) (u1:=.slice a0 z0.length n0) HU.out l1)
       have HB2:=aa (ai (u0:=.bool b1) (u1:=.slice a1 z1.length n1) HB1.out l2)
       clear t2 e1 e2
       refine wpAnyH_ready (rs:=[6]) (by kernel_rfl) (by simp) ?_
       refine AllReadyH.cons rfl (fun K hK=>?_) AllReadyH.nil
       go_simp
       refine hK.out _ _ (KS.out _ HB1.out) (fun _=>?_)
       clear hK K
       try simp only [List.setIfInBounds_toArray,List.set_cons_zero,List.set_cons_succ]
       refine wpAnyH_ready (rs:=[7]) (by kernel_rfl) (by simp) ?_
       refine AllReadyH.cons rfl (fun K hK=>?_) AllReadyH.nil
       go_simp
       refine hK.out _ _ (KS.out _ HB2.out) (fun _=>?_)
       clear hK K
       try simp only [List.setIfInBounds_toArray,List.set_cons_zero,List.set_cons_succ]
       refine wpAnyH_done (by kernel_rfl) ?_ _
       clear m0 m1 m2 m3 hf1 hf2 HB1 HB2
       go_wp2_with fail
       go_meet
       exact HFIN.out
 case rest=>
  obtain⟨gx,gy,rfl,rfl,hX,hY,hbx⟩:=hcut
  replace HA0:=aa (HA0.out.below hbx)
  replace HA1:=aa (HA1.out.below hbx)
  replace HT:=aa (HT.out.below hbx)
  replace HW:=aG HW hbx
  have HX:=aa hX
  have HY:=aa hY
  clear hX hY hbx hw0 HA HBb
  generalize hzA:zz b0 (val z0)=zA at *
  generalize hzB:zz b1 (val z1)=zB at *
  have EQ:=aa (And.intro hzA hzB)
  clear hzA hzB
  obtain⟨ca0,cb0⟩:=duo HX.out
  obtain⟨ca1,cb1⟩:=duo HY.out
  have C:=gf b0 b1 _ _ z0 z1 wc HA0.out HA1.out (by omega) (by omega)
  rw [EQ.out.1,EQ.out.2] at C
  go_wp2_with fail
  refine C.mono ?_
  rintro e Q1 ⟨⟨bp,ap,lp,kp,cp,rfl,hzr⟩,hq⟩
  clear ca0 cb0 ca1 cb1
  obtain⟨P1,hP1,hbP,hx⟩:=ay Q1 (.cells #[.bool bp,.slice ap lp kp] 27)
  have stp:=aJ hq hbP
  replace HX:=aa (ab stp HX.out)
  replace HY:=aa (ab stp HY.out)
  replace HA0:=aa (HA0.out.below stp)
  replace HA1:=aa (HA1.out.below stp)
  replace HT:=aa (HT.out.below stp)
  replace HW:=aG HW stp
  have HRp:=aa (hzr.below hbP)
  have HBp:=aa hx
  clear C hzr hq hbP hx stp
  obtain⟨ca0,cb0⟩:=duo HX.out
  obtain⟨ca1,cb1⟩:=duo HY.out
  have C:=gZ b0 b1 _ _ z0 z1 P1 HA0.out HA1.out (by omega) (by omega)
  rw [EQ.out.1,EQ.out.2] at C
  go_wp2_with fail
  refine C.mono ?_
  rintro e Q2 ⟨⟨bq,aq,lq,kq,cq,rfl,hzr⟩,hq⟩
  clear ca0 cb0 ca1 cb1
  obtain⟨P2,hP2,hbP,hx⟩:=ay Q2 (.cells #[.bool bq,.slice aq lq kq] 27)
  have stp:=aJ hq hbP
  replace HX:=aa (ab stp HX.out)
  replace HY:=aa (ab stp HY.out)
  replace HBp:=aa (ab stp HBp.out)
  replace HA0:=aa (HA0.out.below stp)
  replace HA1:=aa (HA1.out.below stp)
  replace HT:=aa (HT.out.below stp)
  replace HRp:=aa (HRp.out.below stp)
  replace HW:=aG HW stp
  have HRq:=aa (hzr.below hbP)
  have HBq:=aa hx
  clear C hzr hq hbP hx stp hP1
  obtain⟨ca0,cb0⟩:=duo HX.out
  obtain⟨ca1,cb1⟩:=duo HY.out
  have C:=jD b0 b1 _ _ z0 z1 P2 HA0.out HA1.out (by omega) (by omega)
  rw [EQ.out.1,EQ.out.2] at C
  go_wp2_with fail
  refine C.mono ?_
  rintro e Q3 ⟨⟨br,ar,lr,kr,cr,rfl,hzr⟩,hq⟩
  clear ca0 cb0 ca1 cb1
  obtain⟨P3,hP3,hbP,hx⟩:=ay Q3 (.cells #[.bool br,.slice ar lr kr] 27)
  have stp:=aJ hq hbP
  replace HX:=aa (ab stp HX.out)
  replace HY:=aa (ab stp HY.out)
  replace HBp:=aa (ab stp HBp.out)
  replace HBq:=aa (ab stp HBq.out)
  replace HA0:=aa (HA0.out.below stp)
  replace HA1:=aa (HA1.out.below stp)
  replace HT:=aa (HT.out.below stp)
  replace HRp:=aa (HRp.out.below stp)
  replace HRq:=aa (HRq.out.below stp)
  replace HW:=aG HW stp
  have HRr:=aa (hzr.below hbP)
  have HBr:=aa hx
  clear C hzr hq hbP hx stp hP2
  obtain⟨ca0,cb0⟩:=duo HY.out
  have C:=fE b1 _ z1 P3 HA1.out (by omega)
  rw [EQ.out.2] at C
  go_wp2_with fail
  refine C.mono ?_
  rintro e Q4 ⟨⟨bns,ans,lns,kns,cns,rfl,hzr⟩,hq⟩
  clear ca0 cb0
  obtain⟨P4,hP4,hbP,hx⟩:=ay Q4 (.cells #[.bool bns,.slice ans lns kns] 27)
  have stp:=aJ hq hbP
  replace HX:=aa (ab stp HX.out)
  replace HY:=aa (ab stp HY.out)
  replace HBp:=aa (ab stp HBp.out)
  replace HBq:=aa (ab stp HBq.out)
  replace HBr:=aa (ab stp HBr.out)
  replace HA0:=aa (HA0.out.below stp)
  replace HA1:=aa (HA1.out.below stp)
  replace HT:=aa (HT.out.below stp)
  replace HRp:=aa (HRp.out.below stp)
  replace HRq:=aa (HRq.out.below stp)
  replace HRr:=aa (HRr.out.below stp)
  replace HW:=aG HW stp
  have HRns:=aa (hzr.below hbP)
  have HBns:=aa hx
  clear C hzr hq hbP hx stp hP3
  obtain⟨ca0,cb0⟩:=duo HX.out
  obtain⟨ca1,cb1⟩:=duo HY.out
  have C:=gt b0 _ z0 b1 _ z1 P4 HA0.out HA1.out (by omega) (by omega)
  rw [EQ.out.1,EQ.out.2] at C
  go_wp2_with fail
  refine C.mono ?_
  rintro e Q5 ⟨⟨bsm,asm,lsm,ksm,csm,rfl,hzr⟩,hq⟩
  clear ca0 cb0 ca1 cb1
  obtain⟨P5,hP5,hbP,hx⟩:=ay Q5 (.cells #[.bool bsm,.slice asm lsm ksm] 27)
  have stp:=aJ hq hbP
  replace HX:=aa (ab stp HX.out)
  replace HY:=aa (ab stp HY.out)
  replace HBp:=aa (ab stp HBp.out)
  replace HBq:=aa (ab stp HBq.out)
  replace HBr:=aa (ab stp HBr.out)
  replace HBns:=aa (ab stp HBns.out)
  replace HA0:=aa (HA0.out.below stp)
  replace HA1:=aa (HA1.out.below stp)
  replace HT:=aa (HT.out.below stp)
  replace HRp:=aa (HRp.out.below stp)
  replace HRq:=aa (HRq.out.below stp)
  replace HRr:=aa (HRr.out.below stp)
  replace HRns:=aa (HRns.out.below stp)
  replace HW:=aG HW stp
  have HRsm:=aa (hzr.below hbP)
  have HBsm:=aa hx
  clear C hzr hq hbP hx stp hP4
  obtain⟨U1,hU1,hst,hLb⟩:=ay P5 (.cells #[.int .i64 cp,.int .i64 cq,.int .i64 cr,.int .i64 cns,.int .i64 csm] 34)
  have AL:=e8 P5.heap.size 5 [cp,cq,cr,cns,csm] U1 rfl (by omega) hLb
  replace HX:=aa (ab hst HX.out)
  replace HY:=aa (ab hst HY.out)
  replace HBp:=aa (ab hst HBp.out)
  replace HBq:=aa (ab hst HBq.out)
  replace HBr:=aa (ab hst HBr.out)
  replace HBns:=aa (ab hst HBns.out)
  replace HBsm:=aa (ab hst HBsm.out)
  replace HA0:=aa (HA0.out.below hst)
  replace HA1:=aa (HA1.out.below hst)
  replace HT:=aa (HT.out.below hst)
  replace HRp:=aa (HRp.out.below hst)
  replace HRq:=aa (HRq.out.below hst)
  replace HRr:=aa (HRr.out.below hst)
  replace HRns:=aa (HRns.out.below hst)
  replace HRsm:=aa (HRsm.out.below hst)
  replace HW:=aG HW hst
  clear hst hLb
  by_cases hc:cp=0∧cq=0∧cr=0∧cns=0∧csm=0
  ·skip
   obtain⟨rfl,rfl,rfl,rfl,rfl⟩:=hc
   have hyes:(([0,0,0,0,0]:List Int).all (· == 0))=true:=by decide
   rw [hyes] at AL
   clear hyes
   go_wp2_with fail
   refine AL.mono ?_
   rintro e wn ⟨rfl,hw⟩;rw [hw];clear hw wn AL
   obtain⟨rp,hr1,hr2,hr3⟩:=HRp.out.getM
   have HGp:=aa hr1
   have HEp:=aa hr2
   have HLp:=hr3
   clear hr1 hr2 hr3 HRp
   obtain⟨rq,hr1,hr2,hr3⟩:=HRq.out.getM
   have HGq:=aa hr1
   have HEq:=aa hr2
   have HLq:=hr3
   clear hr1 hr2 hr3 HRq
   obtain⟨rr,hr1,hr2,hr3⟩:=HRr.out.getM
   have HGr:=aa hr1
   have HEr:=aa hr2
   have HLr:=hr3
   clear hr1 hr2 hr3 HRr
   obtain⟨rns,hr1,hr2,hr3⟩:=HRns.out.getM
   have HGns:=aa hr1
   have HEns:=aa hr2
   have HLns:=hr3
   clear hr1 hr2 hr3 HRns
   obtain⟨rsm,hr1,hr2,hr3⟩:=HRsm.out.getM
   have HGsm:=aa hr1
   have HEsm:=aa hr2
   have HLsm:=hr3
   clear hr1 hr2 hr3 HRsm
   clear hP5
   obtain⟨ca0,cb0⟩:=duo HBns.out
   have C:=fE bns _ rns U1 HGns.out (by omega)
   rw [HEns.out] at C
   go_wp2_with fail
   refine C.mono ?_
   rintro e Q6 ⟨⟨bnt,ant,lnt,knt,cnt,rfl,hzr⟩,hq⟩
   clear ca0 cb0
   obtain⟨P6,hP6,hbP,hx⟩:=ay Q6 (.cells #[.bool bnt,.slice ant lnt knt] 27)
   have stp:=aJ hq hbP
   replace HX:=aa (ab stp HX.out)
   replace HY:=aa (ab stp HY.out)
   replace HBp:=aa (ab stp HBp.out)
   replace HBq:=aa (ab stp HBq.out)
   replace HBr:=aa (ab stp HBr.out)
   replace HBns:=aa (ab stp HBns.out)
   replace HBsm:=aa (ab stp HBsm.out)
   replace HA0:=aa (HA0.out.below stp)
   replace HA1:=aa (HA1.out.below stp)
   replace HT:=aa (HT.out.below stp)
   replace HGp:=aa (HGp.out.below stp)
   replace HGq:=aa (HGq.out.below stp)
   replace HGr:=aa (HGr.out.below stp)
   replace HGns:=aa (HGns.out.below stp)
   replace HGsm:=aa (HGsm.out.below stp)
   replace HW:=aG HW stp
   have HRnt:=aa (hzr.below hbP)
   have HBnt:=aa hx
   clear C hzr hq hbP hx stp
   obtain⟨ca0,cb0⟩:=duo HX.out
   obtain⟨ca1,cb1⟩:=duo HBns.out
   have C:=gf b0 bns _ _ z0 rns P6 HA0.out HGns.out (by omega) (by omega)
   rw [EQ.out.1,HEns.out] at C
   go_wp2_with fail
   refine C.mono ?_
   rintro e Q7 ⟨⟨bu,au,lu,ku,cu,rfl,hzr⟩,hq⟩
   clear ca0 cb0 ca1 cb1
   obtain⟨P7,hP7,hbP,hx⟩:=ay Q7 (.cells #[.bool bu,.slice au lu ku] 27)
   have stp:=aJ hq hbP
   replace HX:=aa (ab stp HX.out)
   replace HY:=aa (ab stp HY.out)
   replace HBp:=aa (ab stp HBp.out)
   replace HBq:=aa (ab stp HBq.out)
   replace HBr:=aa (ab stp HBr.out)
   replace HBns:=aa (ab stp HBns.out)
   replace HBsm:=aa (ab stp HBsm.out)
   replace HBnt:=aa (ab stp HBnt.out)
   replace HA0:=aa (HA0.out.below stp)
   replace HA1:=aa (HA1.out.below stp)
   replace HT:=aa (HT.out.below stp)
   replace HGp:=aa (HGp.out.below stp)
   replace HGq:=aa (HGq.out.below stp)
   replace HGr:=aa (HGr.out.below stp)
   replace HGns:=aa (HGns.out.below stp)
   replace HGsm:=aa (HGsm.out.below stp)
   replace HRnt:=aa (HRnt.out.below stp)
   replace HW:=aG HW stp
   have HRu:=aa (hzr.below hbP)
   have HBu:=aa hx
   clear C hzr hq hbP hx stp hP6
   obtain⟨ca0,cb0⟩:=duo HBp.out
   obtain⟨ca1,cb1⟩:=duo HBq.out
   have C:=gt bp _ rp bq _ rq P7 HGp.out HGq.out (by omega) (by omega)
   rw [HEp.out,HEq.out] at C
   go_wp2_with fail
   refine C.mono ?_
   rintro e Q8 ⟨⟨bv,av,lv,kv,cv,rfl,hzr⟩,hq⟩
   clear ca0 cb0 ca1 cb1
   obtain⟨P8,hP8,hbP,hx⟩:=ay Q8 (.cells #[.bool bv,.slice av lv kv] 27)
   have stp:=aJ hq hbP
   replace HX:=aa (ab stp HX.out)
   replace HY:=aa (ab stp HY.out)
   replace HBp:=aa (ab stp HBp.out)
   replace HBq:=aa (ab stp HBq.out)
   replace HBr:=aa (ab stp HBr.out)
   replace HBns:=aa (ab stp HBns.out)
   replace HBsm:=aa (ab stp HBsm.out)
   replace HBnt:=aa (ab stp HBnt.out)
   replace HBu:=aa (ab stp HBu.out)
   replace HA0:=aa (HA0.out.below stp)
   replace HA1:=aa (HA1.out.below stp)
   replace HT:=aa (HT.out.below stp)
   replace HGp:=aa (HGp.out.below stp)
   replace HGq:=aa (HGq.out.below stp)
   replace HGr:=aa (HGr.out.below stp)
   replace HGns:=aa (HGns.out.below stp)
   replace HGsm:=aa (HGsm.out.below stp)
   replace HRnt:=aa (HRnt.out.below stp)
   replace HRu:=aa (HRu.out.below stp)
   replace HW:=aG HW stp
   have HRv:=aa (hzr.below hbP)
   have HBv:=aa hx
   clear C hzr hq hbP hx stp hP7
   obtain⟨ca0,cb0⟩:=duo HBq.out
   obtain⟨ca1,cb1⟩:=duo HBp.out
   have C:=fV bq _ rq bp _ rp P8 HGq.out HGp.out (by omega) (by omega)
   rw [HEq.out,HEp.out] at C
   go_wp2_with fail
   refine C.mono ?_
   rintro e Q9 ⟨⟨bww,aww,lww,kww,cww,rfl,hzr⟩,hq⟩
   clear ca0 cb0 ca1 cb1
   obtain⟨P9,hP9,hbP,hx⟩:=ay Q9 (.cells #[.bool bww,.slice aww lww kww] 27)
   have stp:=aJ hq hbP
   replace HX:=aa (ab stp HX.out)
   replace HY:=aa (ab stp HY.out)
   replace HBp:=aa (ab stp HBp.out)
   replace HBq:=aa (ab stp HBq.out)
   replace HBr:=aa (ab stp HBr.out)
   replace HBns:=aa (ab stp HBns.out)
   replace HBsm:=aa (ab stp HBsm.out)
   replace HBnt:=aa (ab stp HBnt.out)
   replace HBu:=aa (ab stp HBu.out)
   replace HBv:=aa (ab stp HBv.out)
   replace HA0:=aa (HA0.out.below stp)
   replace HA1:=aa (HA1.out.below stp)
   replace HT:=aa (HT.out.below stp)
   replace HGp:=aa (HGp.out.below stp)
   replace HGq:=aa (HGq.out.below stp)
   replace HGr:=aa (HGr.out.below stp)
   replace HGns:=aa (HGns.out.below stp)
   replace HGsm:=aa (HGsm.out.below stp)
   replace HRnt:=aa (HRnt.out.below stp)
   replace HRu:=aa (HRu.out.below stp)
   replace HRv:=aa (HRv.out.below stp)
   replace HW:=aG HW stp
   have HRww:=aa (hzr.below hbP)
   have HBww:=aa hx
   clear C hzr hq hbP hx stp hP8
   obtain⟨ca0,cb0⟩:=duo HX.out
   obtain⟨ca1,cb1⟩:=duo HBp.out
   have C:=fV b0 _ z0 bp _ rp P9 HA0.out HGp.out (by omega) (by omega)
   rw [EQ.out.1,HEp.out] at C
   go_wp2_with fail
   refine C.mono ?_
   rintro e Q10 ⟨⟨bd,ad,ld,kd,cd,rfl,hzr⟩,hq⟩
   clear ca0 cb0 ca1 cb1
   obtain⟨P10,hP10,hbP,hx⟩:=ay Q10 (.cells #[.bool bd,.slice ad ld kd] 27)
   have stp:=aJ hq hbP
   replace HX:=aa (ab stp HX.out)
   replace HY:=aa (ab stp HY.out)
   replace HBp:=aa (ab stp HBp.out)
   replace HBq:=aa (ab stp HBq.out)
   replace HBr:=aa (ab stp HBr.out)
   replace HBns:=aa (ab stp HBns.out)
   replace HBsm:=aa (ab stp HBsm.out)
   replace HBnt:=aa (ab stp HBnt.out)
   replace HBu:=aa (ab stp HBu.out)
   replace HBv:=aa (ab stp HBv.out)
   replace HBww:=aa (ab stp HBww.out)
   replace HA0:=aa (HA0.out.below stp)
   replace HA1:=aa (HA1.out.below stp)
   replace HT:=aa (HT.out.below stp)
   replace HGp:=aa (HGp.out.below stp)
   replace HGq:=aa (HGq.out.below stp)
   replace HGr:=aa (HGr.out.below stp)
   replace HGns:=aa (HGns.out.below stp)
   replace HGsm:=aa (HGsm.out.below stp)
   replace HRnt:=aa (HRnt.out.below stp)
   replace HRu:=aa (HRu.out.below stp)
   replace HRv:=aa (HRv.out.below stp)
   replace HRww:=aa (HRww.out.below stp)
   replace HW:=aG HW stp
   have HRd:=aa (hzr.below hbP)
   have HBd:=aa hx
   clear C hzr hq hbP hx stp hP9
   obtain⟨U2,hU2,hst,hLb⟩:=ay P10 (.cells #[.int .i64 cnt,.int .i64 cu,.int .i64 cv,.int .i64 cww,.int .i64 cd] 34)
   have AL:=e8 P10.heap.size 5 [cnt,cu,cv,cww,cd] U2 rfl (by omega) hLb
   replace HX:=aa (ab hst HX.out)
   replace HY:=aa (ab hst HY.out)
   replace HBp:=aa (ab hst HBp.out)
   replace HBq:=aa (ab hst HBq.out)
   replace HBr:=aa (ab hst HBr.out)
   replace HBns:=aa (ab hst HBns.out)
   replace HBsm:=aa (ab hst HBsm.out)
   replace HBnt:=aa (ab hst HBnt.out)
   replace HBu:=aa (ab hst HBu.out)
   replace HBv:=aa (ab hst HBv.out)
   replace HBww:=aa (ab hst HBww.out)
   replace HBd:=aa (ab hst HBd.out)
   replace HA0:=aa (HA0.out.below hst)
   replace HA1:=aa (HA1.out.below hst)
   replace HT:=aa (HT.out.below hst)
   replace HGp:=aa (HGp.out.below hst)
   replace HGq:=aa (HGq.out.below hst)
   replace HGr:=aa (HGr.out.below hst)
   replace HGns:=aa (HGns.out.below hst)
   replace HGsm:=aa (HGsm.out.below hst)
   replace HRnt:=aa (HRnt.out.below hst)
   replace HRu:=aa (HRu.out.below hst)
   replace HRv:=aa (HRv.out.below hst)
   replace HRww:=aa (HRww.out.below hst)
   replace HRd:=aa (HRd.out.below hst)
   replace HW:=aG HW hst
   clear hst hLb
   by_cases hd:cnt=0∧cu=0∧cv=0∧cww=0∧cd=0
   ·skip
    obtain⟨rfl,rfl,rfl,rfl,rfl⟩:=hd
    have hyes:(([0,0,0,0,0]:List Int).all (· == 0))=true:=by decide
    rw [hyes] at AL
    clear hyes
    go_wp2_with fail
    refine AL.mono ?_
    rintro e wn ⟨rfl,hw⟩;rw [hw];clear hw wn AL
    obtain⟨rnt,hr1,hr2,hr3⟩:=HRnt.out.getM
    have HGnt:=aa hr1
    have HEnt:=aa hr2
    have HLnt:=hr3
    clear hr1 hr2 hr3 HRnt
    obtain⟨ru,hr1,hr2,hr3⟩:=HRu.out.getM
    have HGu:=aa hr1
    have HEu:=aa hr2
    have HLu:=hr3
    clear hr1 hr2 hr3 HRu
    obtain⟨rv,hr1,hr2,hr3⟩:=HRv.out.getM
    have HGv:=aa hr1
    have HEv:=aa hr2
    have HLv:=hr3
    clear hr1 hr2 hr3 HRv
    obtain⟨rww,hr1,hr2,hr3⟩:=HRww.out.getM
    have HGww:=aa hr1
    have HEww:=aa hr2
    have HLww:=hr3
    clear hr1 hr2 hr3 HRww
    obtain⟨rd,hr1,hr2,hr3⟩:=HRd.out.getM
    have HGd:=aa hr1
    have HEd:=aa hr2
    have HLd:=hr3
    clear hr1 hr2 hr3 HRd
    obtain⟨ca0,cb0⟩:=duo HBv.out
    obtain⟨ca1,cb1⟩:=duo HBsm.out
    have C:=dr bv _ rv bsm _ rsm U2 HGv.out HGsm.out (by rw [HEv.out,HEsm.out];exact kP zA zB)
    go_wp2_with fail
    refine C.mono ?_
    rintro e S1 ⟨rfl,hs⟩
    clear ca0 cb0 ca1 cb1
    replace HX:=aa (ab hs HX.out)
    replace HY:=aa (ab hs HY.out)
    replace HBp:=aa (ab hs HBp.out)
    replace HBq:=aa (ab hs HBq.out)
    replace HBr:=aa (ab hs HBr.out)
    replace HBns:=aa (ab hs HBns.out)
    replace HBsm:=aa (ab hs HBsm.out)
    replace HBnt:=aa (ab hs HBnt.out)
    replace HBu:=aa (ab hs HBu.out)
    replace HBv:=aa (ab hs HBv.out)
    replace HBww:=aa (ab hs HBww.out)
    replace HBd:=aa (ab hs HBd.out)
    replace HA0:=aa (HA0.out.below hs)
    replace HA1:=aa (HA1.out.below hs)
    replace HT:=aa (HT.out.below hs)
    replace HGp:=aa (HGp.out.below hs)
    replace HGq:=aa (HGq.out.below hs)
    replace HGr:=aa (HGr.out.below hs)
    replace HGns:=aa (HGns.out.below hs)
    replace HGsm:=aa (HGsm.out.below hs)
    replace HGnt:=aa (HGnt.out.below hs)
    replace HGu:=aa (HGu.out.below hs)
    replace HGv:=aa (HGv.out.below hs)
    replace HGww:=aa (HGww.out.below hs)
    replace HGd:=aa (HGd.out.below hs)
    replace HW:=aG HW hs
    clear hs C
    obtain⟨ca0,cb0⟩:=duo HBr.out
    obtain⟨ca1,cb1⟩:=duo HBww.out
    have C:=dr br _ rr bww _ rww S1 HGr.out HGww.out (by rw [HEr.out,HEww.out];exact jH zA zB)
    go_wp2_with fail
    refine C.mono ?_
    rintro e S2 ⟨rfl,hs⟩
    clear ca0 cb0 ca1 cb1
    replace HX:=aa (ab hs HX.out)
    replace HY:=aa (ab hs HY.out)
    replace HBp:=aa (ab hs HBp.out)
    replace HBr:=aa (ab hs HBr.out)
    replace HBns:=aa (ab hs HBns.out)
    replace HBnt:=aa (ab hs HBnt.out)
    replace HBu:=aa (ab hs HBu.out)
    replace HBww:=aa (ab hs HBww.out)
    replace HBd:=aa (ab hs HBd.out)
    replace HA0:=aa (HA0.out.below hs)
    replace HA1:=aa (HA1.out.below hs)
    replace HT:=aa (HT.out.below hs)
    replace HGp:=aa (HGp.out.below hs)
    replace HGq:=aa (HGq.out.below hs)
    replace HGr:=aa (HGr.out.below hs)
    replace HGns:=aa (HGns.out.below hs)
    replace HGsm:=aa (HGsm.out.below hs)
    replace HGnt:=aa (HGnt.out.below hs)
    replace HGu:=aa (HGu.out.below hs)
    replace HGv:=aa (HGv.out.below hs)
    replace HGww:=aa (HGww.out.below hs)
    replace HGd:=aa (HGd.out.below hs)
    replace HW:=aG HW hs
    clear hs C
    obtain⟨ca0,cb0⟩:=duo HBnt.out
    obtain⟨ca1,cb1⟩:=duo HY.out
    have C:=dr bnt _ rnt b1 _ z1 S2 HGnt.out HA1.out (by rw [HEnt.out,EQ.out.2];omega)
    go_wp2_with fail
    refine C.mono ?_
    rintro e S3 ⟨rfl,hs⟩
    clear ca0 cb0 ca1 cb1
    replace HX:=aa (ab hs HX.out)
    replace HY:=aa (ab hs HY.out)
    replace HBp:=aa (ab hs HBp.out)
    replace HBr:=aa (ab hs HBr.out)
    replace HBns:=aa (ab hs HBns.out)
    replace HBnt:=aa (ab hs HBnt.out)
    replace HBu:=aa (ab hs HBu.out)
    replace HBww:=aa (ab hs HBww.out)
    replace HBd:=aa (ab hs HBd.out)
    replace HA0:=aa (HA0.out.below hs)
    replace HA1:=aa (HA1.out.below hs)
    replace HT:=aa (HT.out.below hs)
    replace HGp:=aa (HGp.out.below hs)
    replace HGq:=aa (HGq.out.below hs)
    replace HGr:=aa (HGr.out.below hs)
    replace HGns:=aa (HGns.out.below hs)
    replace HGsm:=aa (HGsm.out.below hs)
    replace HGnt:=aa (HGnt.out.below hs)
    replace HGu:=aa (HGu.out.below hs)
    replace HGv:=aa (HGv.out.below hs)
    replace HGww:=aa (HGww.out.below hs)
    replace HGd:=aa (HGd.out.below hs)
    replace HW:=aG HW hs
    clear hs C
    obtain⟨ca0,cb0⟩:=duo HBu.out
    obtain⟨ca1,cb1⟩:=duo HBd.out
    have C:=dr bu _ ru bd _ rd S3 HGu.out HGd.out (by rw [HEu.out,HEd.out];exact kg zA zB)
    go_wp2_with fail
    refine C.mono ?_
    rintro e S4 ⟨rfl,hs⟩
    clear ca0 cb0 ca1 cb1
    replace HX:=aa (ab hs HX.out)
    replace HY:=aa (ab hs HY.out)
    replace HBp:=aa (ab hs HBp.out)
    replace HBr:=aa (ab hs HBr.out)
    replace HBns:=aa (ab hs HBns.out)
    replace HBnt:=aa (ab hs HBnt.out)
    replace HBu:=aa (ab hs HBu.out)
    replace HBww:=aa (ab hs HBww.out)
    replace HBd:=aa (ab hs HBd.out)
    replace HA0:=aa (HA0.out.below hs)
    replace HA1:=aa (HA1.out.below hs)
    replace HT:=aa (HT.out.below hs)
    replace HGp:=aa (HGp.out.below hs)
    replace HGq:=aa (HGq.out.below hs)
    replace HGr:=aa (HGr.out.below hs)
    replace HGns:=aa (HGns.out.below hs)
    replace HGsm:=aa (HGsm.out.below hs)
    replace HGnt:=aa (HGnt.out.below hs)
    replace HGu:=aa (HGu.out.below hs)
    replace HGv:=aa (HGv.out.below hs)
    replace HGww:=aa (HGww.out.below hs)
    replace HGd:=aa (HGd.out.below hs)
    replace HW:=aG HW hs
    clear hs C
    clear HBp HGp HEp HLp HBq HGq HEq HLq HBr HGr HEr HLr HBns HGns HEns HLns HBsm HGsm HEsm HLsm HBnt HGnt HEnt HLnt HBu HGu HEu HLu HBv HGv HEv HLv HBww HGww HEww HLww HBd HGd HEd HLd HA1 HY hP10
    obtain⟨cx0,cx1⟩:=duo HX.out
    have hN:=HN.out.1
    have hN1:=HN.out.2.1
    have hP:=HN.out.2.2
    have C:=kR b0 _ z0 N (-(N:Int)) S4 HA0.out HT.out (by omega) rfl (by omega)
    rw [EQ.out.1] at C
    have e1:IntKind.i64.wrap (-(N:Int))=-(N:Int):=by rw [IntKind.wrap_i64];omega
    go_wp2_with fail
    refine C.mono ?_
    rintro e Q11 ⟨⟨bh,ah,lh,kh,ch,rfl,hzr⟩,hq⟩
    clear cx0 cx1
    obtain⟨P11,hP11,hbP,hx⟩:=ay Q11 (.cells #[.bool bh,.slice ah lh kh] 27)
    have stp:=aJ hq hbP
    replace HX:=aa (ab stp HX.out)
    replace HA0:=aa (HA0.out.below stp)
    replace HT:=aa (HT.out.below stp)
    replace HW:=aG HW stp
    have HRh:=aa (hzr.below hbP)
    have HBh:=aa hx
    clear C hzr hq hbP hx stp
    have NM:=dg ch P11
    by_cases hch:ch=0
    ·skip
     obtain rfl:=hch
     obtain⟨rh,hr1,hr2,hr3⟩:=HRh.out.getM
     have HGh:=aa hr1
     have HEh:=aa hr2
     have HLh:=hr3
     clear hr1 hr2 hr3 HRh
     have SAME:=aa (fun i:Nat=>show bj (zz bh (val rh)) i=bj (zz b0 (val z0)) (i+N) by rw [HEh.out,EQ.out.1];exact jO zA N i)
     go_wp2_with fail
     refine NM.mono ?_
     rintro e wn ⟨rfl,hw⟩;rw [hw];clear hw wn NM
     clear hP11 hN hP HN EQ HEh
     go_wp2
     go_loopw [31] (fun i wr=>∃k:Nat,k≤70∧i=.int .i64 (k:Int)∧Below P11.heap.size P11 wr) (fun i _=>70 - (intOf i).toNat)
     case atStart=>exact⟨0,by omega,rfl,Below.refl _ _⟩
     case round=>
      obtain⟨k,hk,rfl,hbr⟩:=hrel
      have HBR:=aa hbr
      clear hbr
      by_cases hk2:k<70
      ·have i1:(k:Int)<70:=by omega
       have hsum:IntKind.i64.wrap ((k:Int)+(N:Int))=((k+N:Nat):Int):=by rw [IntKind.wrap_i64];omega
       obtain⟨cx0,cx1⟩:=duo (ab HBR.out HX.out)
       obtain⟨ch0,ch1⟩:=duo (ab HBR.out HBh.out)
       have B1:=fd bh _ rh k wr (HGh.out.below HBR.out) (HT.out.below HBR.out) (by omega)
       rw [SAME.out k] at B1
       go_wp2_with fail
       refine B1.mono ?_
       rintro e R1 ⟨rfl,hb1⟩
       clear B1 cx0 cx1 ch0 ch1
       have HB1:=aa (HBR.out.trans (hb1.mono HBR.out.size))
       obtain⟨cx0,cx1⟩:=duo (ab HB1.out HX.out)
       have B2:=fd b0 _ z0 (k+N) R1 (HA0.out.below HB1.out) (HT.out.below HB1.out) (by omega)
       clear hb1
       generalize bj (zz b0 (val z0)) (k+N)=bt at *
       go_wp2_with fail
       refine B2.mono ?_
       rintro e R2 ⟨rfl,hb2⟩
       clear B2 cx0 cx1
       have HB2:=aa (HB1.out.trans (hb2.mono HB1.out.size))
       clear hb2
       have M1:=dg 0 R2
       have hbt:(bt == bt)=true:=by simp
       go_wp2_with fail
       refine M1.mono ?_
       rintro e wn ⟨rfl,hw⟩;rw [hw];clear hw wn
       go_wp2_with fail
       refine M1.mono ?_
       rintro e wn ⟨rfl,hw⟩;rw [hw];clear hw wn M1
       go_wp2
       go_roundw
       case rel=>exact⟨k+1,by omega,by go_num,HB2.out⟩
       case measure=>simp [intOf];omega
      ·have i1:¬(k:Int)<70:=by omega
       have AW:=dv wr (HT.out.below HBR.out)
       go_wp2_with fail
       refine AW.mono ?_
       rintro e t9 ⟨rfl,hb9⟩
       have HFIN:=aa (HW.out.trans ((HBR.out.trans (hb9.mono HBR.out.size)).mono HW.out.size))
       clear AW hb9
       go_wp2
       go_ret
       exact⟨rfl,HFIN.out⟩
    ·skip
     have i1:(ch == 0)=false:=by simpa using hch
     go_wp2_with fail
     refine NM.mono ?_
     rintro e wn ⟨rfl,hw⟩;rw [hw];clear hw wn NM
     have AW:=dv P11 HT.out
     go_wp2_with fail
     refine AW.mono ?_
     rintro e t2 ⟨rfl,hb2⟩
     replace HW:=aG HW hb2
     clear AW hb2
     go_wp2
     go_ret
     exact⟨rfl,HW.out⟩
   ·skip
    have hno:([cnt,cu,cv,cww,cd].all (· == 0))=false:=by
     rw [Bool.eq_false_iff]
     intro h
     simp only [List.all_cons,List.all_nil,Bool.and_true,Bool.and_eq_true,beq_iff_eq] at h
     exact hd h
    rw [hno] at AL
    clear hno
    go_wp2_with fail
    refine AL.mono ?_
    rintro e wn ⟨rfl,hw⟩;rw [hw];clear hw wn AL
    have AW:=dv U2 HT.out
    go_wp2_with fail
    refine AW.mono ?_
    rintro e t2 ⟨rfl,hb2⟩
    replace HW:=aG HW hb2
    clear AW hb2
    go_wp2
    go_ret
    exact⟨rfl,HW.out⟩
  ·skip
   have hno:([cp,cq,cr,cns,csm].all (· == 0))=false:=by
    rw [Bool.eq_false_iff]
    intro h
    simp only [List.all_cons,List.all_nil,Bool.and_true,Bool.and_eq_true,beq_iff_eq] at h
    exact hc h
   rw [hno] at AL
   clear hno
   go_wp2_with fail
   refine AL.mono ?_
   rintro e wn ⟨rfl,hw⟩;rw [hw];clear hw wn AL
   have AW:=dv U1 HT.out
   go_wp2_with fail
   refine AW.mono ?_
   rintro e t2 ⟨rfl,hb2⟩
   replace HW:=aG HW hb2
   clear AW hb2
   go_wp2
   go_ret
   exact⟨rfl,HW.out⟩

end Go.Proofs.YtcbpdngogkbndaaGreatDoor
