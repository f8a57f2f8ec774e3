/- The walk of the law WholeCommon. -/
import Derived.Test.YtdbjbbdhlpfhjaaGreatDoorB02
import Derived.Test.YtdbjbbdhlpfhjaaGreatDoorB14
import Derived.Test.YtdbjbbdhlpfhjaaGreatDoorB15
import Derived.Deep.CutBlock
import Derived.Deep.DeepCutAuto
namespace Go.Proofs.YtdbjbbdhlpfhjaaGreatDoor
open Go.RowKit
open Lm
attribute [local go_sem ↓] Go.wp_at_zero Go.wp_at_succ

theorem fG {w:World}{b:Bool}{u:Value}{z:Int}(h:Zn w (.agg #[.bool b,u]) z):b=decide (z<0)∧Num w u z.natAbs:=by
 obtain⟨u',h1,h2⟩:=h
 simp only [Value.agg.injEq,Array.mk.injEq,List.cons.injEq,Value.bool.injEq,and_true] at h1
 obtain⟨rfl,rfl⟩:=h1
 exact⟨rfl,h2⟩

theorem gG {y z:Int}(hz:z≠0)(h:z ∣ y):y - flq y z*z=0:=by
 obtain⟨k,rfl⟩:=h
 have hz2:0<z.natAbs:=by omega
 have e1:(z*k).natAbs / z.natAbs=k.natAbs:=by rw [Int.natAbs_mul,Nat.mul_div_cancel_left _ hz2]
 have e2:(z*k).natAbs % z.natAbs=0:=by rw [Int.natAbs_mul,Nat.mul_mod_right]
 have e:flq (z*k) z=k:=by
  unfold flq
  rw [e1,e2]
  simp only [ne_eq,not_true_eq_false,decide_false,Bool.false_and,Bool.false_eq_true,if_false,Int.sub_zero]
  rcases Int.lt_trichotomy k 0 with hk|hk|hk
  ·rcases Int.lt_or_gt_of_ne hz with h1|h1
   ·have h2:¬z*k<0:=Int.not_lt.2 (Int.le_of_lt (Int.mul_pos_of_neg_of_neg h1 hk))
    simp only [h1,h2,decide_true,decide_false]
    simp [zz];omega
   ·have h2:z*k<0:=Int.mul_neg_of_pos_of_neg h1 hk
    have h3:¬z<0:=by omega
    simp only [h2,h3,decide_true,decide_false]
    simp [zz];omega
  ·subst hk
   simp [zz]
  ·rcases Int.lt_or_gt_of_ne hz with h1|h1
   ·have h2:z*k<0:=Int.mul_neg_of_neg_of_pos h1 hk
    simp only [h1,h2,decide_true]
    simp [zz];omega
   ·have h2:¬z*k<0:=Int.not_lt.2 (Int.le_of_lt (Int.mul_pos h1 hk))
    have h3:¬z<0:=by omega
    simp only [h2,h3,decide_false]
    simp [zz];omega
 rw [e,Int.mul_comm]
 omega

theorem im {az bz:Int}{g:Nat}(h:g=Nat.gcd az.natAbs bz.natAbs):((g:Nat):Int) ∣ az∧((g:Nat):Int) ∣ bz:=
 ⟨Int.dvd_natAbs.1 (Int.natCast_dvd_natCast.2 (by rw [h];exact Nat.gcd_dvd_left _ _)),Int.dvd_natAbs.1 (Int.natCast_dvd_natCast.2 (by rw [h];exact Nat.gcd_dvd_right _ _))⟩

theorem fZ {x y:Int}{n m:Nat}(hx:blen x.natAbs≤n)(hy:blen y.natAbs≤m):blen (x*y).natAbs≤n+m:=by
 rw [Int.natAbs_mul]
 have:=jw x.natAbs y.natAbs
 omega

set_option maxRecDepth 20000 in
set_option maxHeartbeats 32000000 in
theorem pN (b0:Bool)(v0:Value)(z0:List Nat)(b1:Bool)(v1:Value)(z1:List Nat)(w:World)(hT:Tab w)(A0:Arg w v0 z0)(s0:z0.length≤1048576)(A1:Arg w v1 z1)(s1:z1.length≤1048576) :
  Calls Tryz.prog 4 #[.agg #[.bool b0,v0],.agg #[.bool b1,v1]] w fun e w'=>e=.returned (.bool true)∧Below w.heap.size w w':=by
 obtain⟨a0,n0,rfl,_,_,_⟩:=A0.form
 obtain⟨a1,n1,rfl,_,_,_⟩:=A1.form
 obtain⟨w0,hw0,hb0,h0,h1⟩:=bR w (.cells #[.bool b0,.slice a0 z0.length n0] 24) (.cells #[.bool b1,.slice a1 z1.length n1] 24)
 have bX:blen (val z0)≤67108864:=by
  have:=ev z0 A0.limbs
  omega
 have bY:blen (val z1)≤67108864:=by
  have:=ev z1 A1.limbs
  omega
 have HA:=aa h0
 have HBb:=aa h1
 have HA0:=aa A0
 have HA1:=aa A1
 have HT:=aa hT
 have HB0:=aa hb0
 have HS:=aa (And.intro s0 (And.intro s1 (And.intro bX bY)))
 clear A0 A1 hT hb0 h0 h1 s0 s1 bX bY
 go_enter Tryz.func4,Tryz.ntmps4
 go_upto_region 1 with fail
 go_cut [5,6] from 23 to 27 (fun s t wx=>g7 w0 b0 b1 (.slice a0 z0.length n0) (.slice a1 z1.length n1) s t wx)
 case first=>
  have KS:=aa (fun (W:World) (hg:Below w0.heap.size w0 W)=>show W.cell? ⟨w.heap.size,0,none⟩=some (.bool b0)∧W.cell? ⟨w.heap.size,1,none⟩=some (.slice a0 z0.length n0)∧W.cell? ⟨w.heap.size+1,0,none⟩=some (.bool b1)∧W.cell? ⟨w.heap.size+1,1,none⟩=some (.slice a1 z1.length n1) from ⟨(duo (ac hg HA.out)).1,(duo (ac hg HA.out)).2,(duo (ac hg HBb.out)).1,(duo (ac hg HBb.out)).2⟩)
  have IN1:=aa (fun (W:World) (_:Below w0.heap.size w0 W)=>il b0 a0 z0.length n0 W)
  have IN2:=aa (fun (W:World) (_:Below w0.heap.size w0 W)=>il b1 a1 z1.length n1 W)
  refine wp_region_held_drew (S:=fun w'=>w'.cell? ⟨w.heap.size,0,none⟩=some (.bool b0)∧w'.cell? ⟨w.heap.size,1,none⟩=some (.slice a0 z0.length n0)∧w'.cell? ⟨w.heap.size+1,0,none⟩=some (.bool b1)∧w'.cell? ⟨w.heap.size+1,1,none⟩=some (.slice a1 z1.length n1)) (by kernel_rfl) (KS.out _ (jH (Below.refl _ _))) (fun hHeld=>?_)
  refine wpAnyH_take (i:=0) (oi:={ dst:=some 23,op:=Op.load 24 (Operand.tmp 2),type:=24,pos:="outright.go:93",after:=#[],guard:=none }) (v:=.agg #[.bool b0,.slice a0 z0.length n0]) rfl (by kernel_rfl) (by kernel_rfl) (by kernel_rfl) (fun _ _ _ h=>h) (Or.inl ⟨by rfl,fun w9 hSw=>?_⟩) hHeld ?_
  ·(try dsimp only at hSw);go_simp
  simp only [Act.put,List.setIfInBounds_toArray,List.set_cons_zero,List.set_cons_succ]
  refine wpAnyH_take (i:=2) (oi:={ dst:=some 25,op:=Op.load 24 (Operand.tmp 3),type:=24,pos:="outright.go:93",after:=#[],guard:=none }) (v:=.agg #[.bool b1,.slice a1 z1.length n1]) rfl (by kernel_rfl) (by kernel_rfl) (by kernel_rfl) (fun _ _ _ h=>h) (Or.inl ⟨by rfl,fun w9 hSw=>?_⟩) hHeld ?_
  ·(try dsimp only at hSw);go_simp
  simp only [Act.put,List.setIfInBounds_toArray,List.set_cons_zero,List.set_cons_succ]
  refine kE w0 (.agg #[.bool b0,.slice a0 z0.length n0]) (.agg #[.bool b1,.slice a1 z1.length n1]) 24 26 5 6 (fun c1 c2 k1 k2=>#[true,c1,true,c2,k1,k2,false,false]) (by kernel_rfl) (by kernel_rfl) (by simp only [Act.put,List.setIfInBounds_toArray,List.set_cons_zero,List.set_cons_succ]) (jH (Below.refl _ _)) ?_
  clear hHeld
  intro n
  simp only [Act.put,List.setIfInBounds_toArray,List.set_cons_zero,List.set_cons_succ]
  induction n with
  | zero=>
   intro c1 c2 k1 k2 x1 x2 y1 y2 W hf J
   exact absurd hf (by unfold aY;omega)
  | succ n ih=>
   intro c1 c2 k1 k2 x1 x2 y1 y2 W hf J
   cases c1
   ·skip
    cases c2
    ·skip
     cases k1
     ·skip
      cases k2
      ·skip
       refine wpAnyH_ready (rs:=[1,4,5]) (by kernel_rfl) (by simp) ?_
       refine AllReadyH.cons rfl (fun K hK=>?_) ?_
       ·go_simp
        refine (IN1.out W J.up).mono ?_
        rintro e' W2 ⟨rfl,hb⟩
        refine hK.out _ _ (KS.out _ (cO J.up hb)) (fun _=>?_)
        simp only [List.setIfInBounds_toArray,List.set_cons_zero,List.set_cons_succ]
        exact ih _ _ _ _ _ _ _ _ _ (by simp [aY] at hf ⊢;omega) (J.call1 hb)
       refine AllReadyH.cons rfl (fun K hK=>?_) ?_
       ·go_simp
        refine hK.out _ _ (KS.out _ (ca J.up _)) (fun _=>?_)
        simp only [List.setIfInBounds_toArray,List.set_cons_zero,List.set_cons_succ]
        exact ih _ _ _ _ _ _ _ _ _ (by simp [aY] at hf ⊢;omega) J.make1
       refine AllReadyH.cons rfl (fun K hK=>?_) ?_
       ·go_simp
        refine hK.out _ _ (KS.out _ (ca J.up _)) (fun _=>?_)
        simp only [List.setIfInBounds_toArray,List.set_cons_zero,List.set_cons_succ]
        exact ih _ _ _ _ _ _ _ _ _ (by simp [aY] at hf ⊢;omega) J.make2
       exact AllReadyH.nil
      ·skip
       refine wpAnyH_ready (rs:=[1,4]) (by kernel_rfl) (by simp) ?_
       refine AllReadyH.cons rfl (fun K hK=>?_) ?_
       ·go_simp
        refine (IN1.out W J.up).mono ?_
        rintro e' W2 ⟨rfl,hb⟩
        refine hK.out _ _ (KS.out _ (cO J.up hb)) (fun _=>?_)
        simp only [List.setIfInBounds_toArray,List.set_cons_zero,List.set_cons_succ]
        exact ih _ _ _ _ _ _ _ _ _ (by simp [aY] at hf ⊢;omega) (J.call1 hb)
       refine AllReadyH.cons rfl (fun K hK=>?_) ?_
       ·go_simp
        refine hK.out _ _ (KS.out _ (ca J.up _)) (fun _=>?_)
        simp only [List.setIfInBounds_toArray,List.set_cons_zero,List.set_cons_succ]
        exact ih _ _ _ _ _ _ _ _ _ (by simp [aY] at hf ⊢;omega) J.make1
       exact AllReadyH.nil
     ·skip
      cases k2
      ·skip
       refine wpAnyH_ready (rs:=[1,5]) (by kernel_rfl) (by simp) ?_
       refine AllReadyH.cons rfl (fun K hK=>?_) ?_
       ·go_simp
        refine (IN1.out W J.up).mono ?_
        rintro e' W2 ⟨rfl,hb⟩
        refine hK.out _ _ (KS.out _ (cO J.up hb)) (fun _=>?_)
        simp only [List.setIfInBounds_toArray,List.set_cons_zero,List.set_cons_succ]
        exact ih _ _ _ _ _ _ _ _ _ (by simp [aY] at hf ⊢;omega) (J.call1 hb)
       refine AllReadyH.cons rfl (fun K hK=>?_) ?_
       ·go_simp
        refine hK.out _ _ (KS.out _ (ca J.up _)) (fun _=>?_)
        simp only [List.setIfInBounds_toArray,List.set_cons_zero,List.set_cons_succ]
        exact ih _ _ _ _ _ _ _ _ _ (by simp [aY] at hf ⊢;omega) J.make2
       exact AllReadyH.nil
      ·skip
       refine wpAnyH_ready (rs:=[1]) (by kernel_rfl) (by simp) ?_
       refine AllReadyH.cons rfl (fun K hK=>?_) ?_
       ·go_simp
        refine (IN1.out W J.up).mono ?_
        rintro e' W2 ⟨rfl,hb⟩
        refine hK.out _ _ (KS.out _ (cO J.up hb)) (fun _=>?_)
        simp only [List.setIfInBounds_toArray,List.set_cons_zero,List.set_cons_succ]
        exact ih _ _ _ _ _ _ _ _ _ (by simp [aY] at hf ⊢;omega) (J.call1 hb)
       exact AllReadyH.nil
    ·skip
     exact absurd (J.ch rfl) (by decide)
   ·skip
    cases c2
    ·skip
     cases k1
     ·skip
      cases k2
      ·skip
       refine wpAnyH_ready (rs:=[3,4,5]) (by kernel_rfl) (by simp) ?_
       refine AllReadyH.cons rfl (fun K hK=>?_) ?_
       ·go_simp
        refine (IN2.out W J.up).mono ?_
        rintro e' W2 ⟨rfl,hb⟩
        refine hK.out _ _ (KS.out _ (cO J.up hb)) (fun _=>?_)
        simp only [List.setIfInBounds_toArray,List.set_cons_zero,List.set_cons_succ]
        exact ih _ _ _ _ _ _ _ _ _ (by simp [aY] at hf ⊢;omega) (J.call2 hb)
       refine AllReadyH.cons rfl (fun K hK=>?_) ?_
       ·go_simp
        refine hK.out _ _ (KS.out _ (ca J.up _)) (fun _=>?_)
        simp only [List.setIfInBounds_toArray,List.set_cons_zero,List.set_cons_succ]
        exact ih _ _ _ _ _ _ _ _ _ (by simp [aY] at hf ⊢;omega) J.make1
       refine AllReadyH.cons rfl (fun K hK=>?_) ?_
       ·go_simp
        refine hK.out _ _ (KS.out _ (ca J.up _)) (fun _=>?_)
        simp only [List.setIfInBounds_toArray,List.set_cons_zero,List.set_cons_succ]
        exact ih _ _ _ _ _ _ _ _ _ (by simp [aY] at hf ⊢;omega) J.make2
       exact AllReadyH.nil
      ·skip
       refine wpAnyH_ready (rs:=[3,4]) (by kernel_rfl) (by simp) ?_
       refine AllReadyH.cons rfl (fun K hK=>?_) ?_
       ·go_simp
        refine (IN2.out W J.up).mono ?_
        rintro e' W2 ⟨rfl,hb⟩
        refine hK.out _ _ (KS.out _ (cO J.up hb)) (fun _=>?_)
        simp only [List.setIfInBounds_toArray,List.set_cons_zero,List.set_cons_succ]
        exact ih _ _ _ _ _ _ _ _ _ (by simp [aY] at hf ⊢;omega) (J.call2 hb)
       refine AllReadyH.cons rfl (fun K hK=>?_) ?_
       ·go_simp
        refine hK.out _ _ (KS.out _ (ca J.up _)) (fun _=>?_)
        simp only [List.setIfInBounds_toArray,List.set_cons_zero,List.set_cons_succ]
        exact ih _ _ _ _ _ _ _ _ _ (by simp [aY] at hf ⊢;omega) J.make1
       exact AllReadyH.nil
     ·skip
      cases k2
      ·skip
       refine wpAnyH_ready (rs:=[3,5]) (by kernel_rfl) (by simp) ?_
       refine AllReadyH.cons rfl (fun K hK=>?_) ?_
       ·go_simp
        refine (IN2.out W J.up).mono ?_
        rintro e' W2 ⟨rfl,hb⟩
        refine hK.out _ _ (KS.out _ (cO J.up hb)) (fun _=>?_)
        simp only [List.setIfInBounds_toArray,List.set_cons_zero,List.set_cons_succ]
        exact ih _ _ _ _ _ _ _ _ _ (by simp [aY] at hf ⊢;omega) (J.call2 hb)
       refine AllReadyH.cons rfl (fun K hK=>?_) ?_
       ·go_simp
        refine hK.out _ _ (KS.out _ (ca J.up _)) (fun _=>?_)
        simp only [List.setIfInBounds_toArray,List.set_cons_zero,List.set_cons_succ]
        exact ih _ _ _ _ _ _ _ _ _ (by simp [aY] at hf ⊢;omega) J.make2
       exact AllReadyH.nil
      ·skip
       refine wpAnyH_ready (rs:=[3]) (by kernel_rfl) (by simp) ?_
       refine AllReadyH.cons rfl (fun K hK=>?_) ?_
       ·go_simp
        refine (IN2.out W J.up).mono ?_
        rintro e' W2 ⟨rfl,hb⟩
        refine hK.out _ _ (KS.out _ (cO J.up hb)) (fun _=>?_)
        simp only [List.setIfInBounds_toArray,List.set_cons_zero,List.set_cons_succ]
        exact ih _ _ _ _ _ _ _ _ _ (by simp [aY] at hf ⊢;omega) (J.call2 hb)
       exact AllReadyH.nil
    ·skip
     cases k1
     ·skip
      cases k2
      ·skip
       refine wpAnyH_ready (rs:=[4,5]) (by kernel_rfl) (by simp) ?_
       refine AllReadyH.cons rfl (fun K hK=>?_) ?_
       ·go_simp
        refine hK.out _ _ (KS.out _ (ca J.up _)) (fun _=>?_)
        simp only [List.setIfInBounds_toArray,List.set_cons_zero,List.set_cons_succ]
        exact ih _ _ _ _ _ _ _ _ _ (by simp [aY] at hf ⊢;omega) J.make1
       refine AllReadyH.cons rfl (fun K hK=>?_) ?_
       ·go_simp
        refine hK.out _ _ (KS.out _ (ca J.up _)) (fun _=>?_)
        simp only [List.setIfInBounds_toArray,List.set_cons_zero,List.set_cons_succ]
        exact ih _ _ _ _ _ _ _ _ _ (by simp [aY] at hf ⊢;omega) J.make2
       exact AllReadyH.nil
      ·skip
       refine wpAnyH_ready (rs:=[4]) (by kernel_rfl) (by simp) ?_
       refine AllReadyH.cons rfl (fun K hK=>?_) ?_
       ·go_simp
        refine hK.out _ _ (KS.out _ (ca J.up _)) (fun _=>?_)
        simp only [List.setIfInBounds_toArray,List.set_cons_zero,List.set_cons_succ]
        exact ih _ _ _ _ _ _ _ _ _ (by simp [aY] at hf ⊢;omega) J.make1
       exact AllReadyH.nil
     ·skip
      cases k2
      ·skip
       refine wpAnyH_ready (rs:=[5]) (by kernel_rfl) (by simp) ?_
       refine AllReadyH.cons rfl (fun K hK=>?_) ?_
       ·go_simp
        refine hK.out _ _ (KS.out _ (ca J.up _)) (fun _=>?_)
        simp only [List.setIfInBounds_toArray,List.set_cons_zero,List.set_cons_succ]
        exact ih _ _ _ _ _ _ _ _ _ (by simp [aY] at hf ⊢;omega) J.make2
       exact AllReadyH.nil
      ·skip
       obtain rfl:=J.q1 rfl
       obtain rfl:=J.q2 rfl
       have D12:=J.d12 rfl rfl
       obtain⟨g1,rfl,l1,e1⟩:=J.r1 rfl
       obtain⟨g2,rfl,l2,e2⟩:=J.r2 rfl
       have HU:=aa J.up
       obtain rfl:n=1:=by simp [aY] at hf;omega
       clear J ih hf
       have D12g:g1≠g2:=fun e=>D12 (by rw [e])
       have HFIN:=aa (jO (b0:=b0) (b1:=b1) (v0:=.slice a0 z0.length n0) (v1:=.slice a1 z1.length n1) e1 e2 l1 l2 D12g HU.out)
       clear D12
       obtain⟨m0,m1⟩:=duo e1
       have hf1:=av e1
       have t2:=bA (u0:=.bool b0) (u1:=.slice a0 z0.length n0) e2 (Ne.symm D12g)
       obtain⟨m2,m3⟩:=duo t2
       have hf2:=av t2
       have HB1:=aa (aC (u0:=.bool b0) (u1:=.slice a0 z0.length n0) HU.out l1)
       have HB2:=aa (aC (u0:=.bool b1) (u1:=.slice a1 z1.length n1) HB1.out l2)
       clear t2 e1 e2
       refine wpAnyH_ready (rs:=[6]) (by kernel_rfl) (by simp) ?_
       refine AllReadyH.cons rfl (fun K hK=>?_) AllReadyH.nil
       go_simp
       refine hK.out _ _ (KS.out _ HB1.out) (fun _=>?_)
       clear hK K
       try simp only [List.setIfInBounds_toArray,List.set_cons_zero,List.set_cons_succ]
       refine wpAnyH_ready (rs:=[7]) (by kernel_rfl) (by simp) ?_
       refine AllReadyH.cons rfl (fun K hK=>?_) AllReadyH.nil
       go_simp
       refine hK.out _ _ (KS.out _ HB2.out) (fun _=>?_)
       clear hK K
       try simp only [List.setIfInBounds_toArray,List.set_cons_zero,List.set_cons_succ]
       refine wpAnyH_done (by kernel_rfl) ?_ _
       clear m0 m1 m2 m3 hf1 hf2 HB1 HB2
       go_wp2_with fail
       go_meet
       exact HFIN.out
 case rest=>
  obtain⟨gx0,gy0,rfl,rfl,hX,hY,hbx⟩:=hcut
  have HW:=aa hbx
  have HX0:=aa hX
  have HY0:=aa hY
  obtain⟨k0,k1⟩:=duo hX
  obtain⟨k2,k3⟩:=duo hY
  have C:=nN b0 b1 _ _ z0 z1 wc (HA0.out.below (ak HB0.out hbx)) (HA1.out.below (ak HB0.out hbx)) (HT.out.below (ak HB0.out hbx)) (by have:=HS.out;omega) (by have:=HS.out;omega) HS.out.2.2.1 HS.out.2.2.2
  have HXY:=aa (show blen (zz b0 (val z0)).natAbs≤67108864∧blen (zz b1 (val z1)).natAbs≤67108864 from ⟨by rw [aF];exact HS.out.2.2.1,by rw [aF];exact HS.out.2.2.2⟩)
  obtain⟨az,haz⟩:∃az,zz b0 (val z0)=az:=⟨_,rfl⟩
  obtain⟨bz,hbz⟩:∃bz,zz b1 (val z1)=bz:=⟨_,rfl⟩
  have HAZ:=aa haz
  have HBZ:=aa hbz
  rw [haz,hbz] at C HXY
  clear hX hY hbx hw0 haz hbz
  go_wp2_with fail
  refine C.mono ?_
  rintro e t5 ⟨⟨g,x,y,bg,ag,ng,kg,bx,ax,nx,kx,by',ay,ny,ky,rfl,hzg,hzx,hzy,hp1,hp2,hp3,hnum⟩,hb5⟩
  clear hp1 hp2 hp3
  have hbg:bg=false:=by
   obtain⟨_,_,h,_⟩:=hzg
   rw [h]
   exact decide_eq_false (by omega)
  subst hbg
  obtain⟨sx,sy,sg⟩:=ka hnum HXY.out.1 HXY.out.2 (by omega)
  have HNUM:=aa hnum
  have HSM:=aa (And.intro sx (And.intro sy sg))
  obtain⟨t6,ht6,hb6,hx6,hx7,hx8⟩:=dh t5 (.cells #[.bool false,.slice none 0 0] 27) (.cells #[.bool false,.slice none 0 0] 27) (.cells #[.bool false,.slice none 0 0] 27)
  have hx9:t6.heap[t5.heap.size+1+1]?=some (.cells #[.bool false,.slice none 0 0] 27):=hx8
  obtain⟨z0',z1'⟩:=duo hx6
  obtain⟨z2',z3'⟩:=duo hx7
  obtain⟨z4',z5'⟩:=duo hx9
  have zf1:=av hx6
  have zf2:=av hx7
  have zf3:=av hx9
  obtain⟨R1,R2,R3,q4,q5⟩:=fO (u0:=.bool false) (u1:=.slice ag ng kg) (u2:=.bool bx) (u3:=.slice ax nx kx) (u4:=.bool by') (u5:=.slice ay ny ky) hx6 hx7 hx9
  have hb57:=q5 t5.heap.size t5 (Nat.le_refl _) hb6
  obtain⟨rg,Ag,cg,vg,tg⟩:=hzg
  obtain⟨rx,Ax,cx,vx,tx⟩:=hzx
  obtain⟨ry,Ay,cy,vy,ty⟩:=hzy
  have Ag7:=q4 _ _ _ (Ag.below hb6)
  have Ax7:=q4 _ _ _ (Ax.below hb6)
  have Ay7:=q4 _ _ _ (Ay.below hb6)
  obtain⟨t7,ht7⟩:∃t7,(((((t6.setCell ⟨t5.heap.size,0,none⟩ (.bool false)).setCell ⟨t5.heap.size,1,none⟩ (.slice ag ng kg)).setCell ⟨t5.heap.size+1,0,none⟩ (.bool bx)).setCell ⟨t5.heap.size+1,1,none⟩ (.slice ax nx kx)).setCell ⟨t5.heap.size+1+1,0,none⟩ (.bool by')).setCell ⟨t5.heap.size+1+1,1,none⟩ (.slice ay ny ky)=t7:=⟨_,rfl⟩
  rw [ht7] at R1 R2 R3 hb57 Ag7 Ax7 Ay7
  have lg:=cK tg (by rw [vg,Int.natAbs_natCast];omega)
  have lx:=cK tx (by rw [vx];omega)
  have ly:=cK ty (by rw [vy];omega)
  have hzx:zz bx (val rx)=x:=by rw [cx,vx];exact fh x
  have hzy:zz by' (val ry)=y:=by rw [cy,vy];exact fh y
  have hvg:zz false (val rg)=((g:Nat):Int):=by rw [vg,Int.natAbs_natCast];rfl
  replace HW:=aa (ak (ak HW.out hb5) hb57)
  have HG:=aa (And.intro R1 (And.intro (Ag7.arg (by omega)) (And.intro hvg lg)))
  have HX:=aa (And.intro R2 (And.intro (Ax7.arg (by omega)) (And.intro hzx lx)))
  have HY:=aa (And.intro R3 (And.intro (Ay7.arg (by omega)) (And.intro hzy ly)))
  have HX0:=aa (ac (ak hb5 hb57) HX0.out)
  have HY0:=aa (ac (ak hb5 hb57) HY0.out)
  have C:=kD b0 b1 _ _ z0 z1 t7 (HA0.out.below (ak HB0.out HW.out)) (HA1.out.below (ak HB0.out HW.out)) (HT.out.below (ak HB0.out HW.out)) (by have:=HS.out;omega) (by have:=HS.out;omega) HS.out.2.2.2
  rw [HAZ.out,HBZ.out] at C
  clear k0 k1 k2 k3
  obtain⟨k0,k1⟩:=duo HX0.out
  obtain⟨k2,k3⟩:=duo HY0.out
  clear hb5 hb6 hx6 hx7 hx8 hx9 q4 q5 hb57 Ag Ax Ay Ag7 Ax7 Ay7 cg cx cy vg vx vy tg tx ty lg lx ly hzx hzy hvg sx sy sg hnum R1 R2 R3
  go_wp2_with fail
  clear ht6 ht7 z0' z1' z2' z3' z4' z5' zf1 zf2 zf3
  refine C.mono ?_
  rintro e t8 ⟨⟨bi,ai,ni,ki,ci,rfl,hout⟩,hb8⟩
  obtain⟨t9,ht9,hb9,hx9⟩:=aO t8 (.cells #[.bool false,.slice none 0 0] 27)
  obtain⟨z0',z1'⟩:=duo hx9
  have zf:=av hx9
  have RX:=aI (a':=.bool bi) (b':=.slice ai ni ki) hx9
  have hb10:Below t8.heap.size t8 ((t9.setCell ⟨t8.heap.size,0,none⟩ (.bool bi)).setCell ⟨t8.heap.size,1,none⟩ (.slice ai ni ki)):=aC hb9 (Nat.le_refl _)
  obtain⟨t10,ht10⟩:∃t10,(t9.setCell ⟨t8.heap.size,0,none⟩ (.bool bi)).setCell ⟨t8.heap.size,1,none⟩ (.slice ai ni ki)=t10:=⟨_,rfl⟩
  rw [ht10] at RX hb10
  have hb:=ak hb8 hb10
  have HI:=aa (And.intro RX (And.intro hout hb10))
  have HG:=aa (And.intro (ac hb HG.out.1) (And.intro (HG.out.2.1.below hb) HG.out.2.2))
  have HX:=aa (And.intro (ac hb HX.out.1) (And.intro (HX.out.2.1.below hb) HX.out.2.2))
  have HY:=aa (And.intro (ac hb HY.out.1) (And.intro (HY.out.2.1.below hb) HY.out.2.2))
  have HW:=aa (ak HW.out hb)
  have HAW:=aa (ac HW.out HA.out)
  have HBW:=aa (ac HW.out HBb.out)
  have HT10:=aa (HT.out.below (ak HB0.out HW.out))
  have HA10:=aa (HA0.out.below (ak HB0.out HW.out))
  have HB10:=aa (HA1.out.below (ak HB0.out HW.out))
  have C:=dZ 0 t10
  clear k0 k1 k2 k3 hout hb8 hb9 hx9 hb10 hb RX HX0 HY0 HA HBb
  go_wp2_with fail
  clear ht9 ht10 z0' z1' zf
  refine C.mono ?_
  rintro e wn ⟨rfl,hw⟩;rw [hw];clear hw wn C
  go_upto_region 6 with fail
  go_cut [13,14,15] from 59 to 68 (fun s t r wx=>cz wx s az t10.heap.size∧cz wx t bz t10.heap.size∧cz wx r ((g:Nat):Int) t10.heap.size∧Below t10.heap.size t10 wx)
  case first=>
   have KS:=aa (fun (W:World) (hg:Below t10.heap.size t10 W)=>show W.cell? ⟨w.heap.size,0,none⟩=some (.bool b0)∧W.cell? ⟨w.heap.size,1,none⟩=some (.slice a0 z0.length n0)∧W.cell? ⟨w.heap.size+1,0,none⟩=some (.bool b1)∧W.cell? ⟨w.heap.size+1,1,none⟩=some (.slice a1 z1.length n1)∧W.cell? ⟨t5.heap.size,0,none⟩=some (.bool false)∧W.cell? ⟨t5.heap.size,1,none⟩=some (.slice ag ng kg) from ⟨(duo (ac hg HAW.out)).1,(duo (ac hg HAW.out)).2,(duo (ac hg HBW.out)).1,(duo (ac hg HBW.out)).2,(duo (ac hg HG.out.1)).1,(duo (ac hg HG.out.1)).2⟩)
   have IN1:=aa (fun (W:World) (hg:Below t10.heap.size t10 W)=>show Calls Tryz.prog 7 #[.agg #[.bool b0,.slice a0 z0.length n0]] W (bj W az) by
    have h:=jj b0 _ z0 W (HA10.out.below hg) (by have:=HS.out;omega)
    rw [HAZ.out] at h
    exact h)
   have IN2:=aa (fun (W:World) (hg:Below t10.heap.size t10 W)=>show Calls Tryz.prog 7 #[.agg #[.bool b1,.slice a1 z1.length n1]] W (bj W bz) by
    have h:=jj b1 _ z1 W (HB10.out.below hg) (by have:=HS.out;omega)
    rw [HBZ.out] at h
    exact h)
   have IN3:=aa (fun (W:World) (hg:Below t10.heap.size t10 W)=>show Calls Tryz.prog 21 #[.bool false,.slice ag ng kg] W (bj W ((g:Nat):Int)) by
    have h:=dv false _ rg W (HG.out.2.1.below hg) (by have:=HG.out.2.2.2;omega)
    rw [HG.out.2.2.1] at h
    exact h)
   refine wp_region_held_drew (S:=fun w'=>w'.cell? ⟨w.heap.size,0,none⟩=some (.bool b0)∧w'.cell? ⟨w.heap.size,1,none⟩=some (.slice a0 z0.length n0)∧w'.cell? ⟨w.heap.size+1,0,none⟩=some (.bool b1)∧w'.cell? ⟨w.heap.size+1,1,none⟩=some (.slice a1 z1.length n1)∧w'.cell? ⟨t5.heap.size,0,none⟩=some (.bool false)∧w'.cell? ⟨t5.heap.size,1,none⟩=some (.slice ag ng kg)) (by kernel_rfl) (KS.out _ ((Below.refl _ _).drew)) (fun hHeld=>?_)
   refine wpAnyH_take (i:=0) (oi:={ dst:=some 59,op:=Op.load 24 (Operand.tmp 2),type:=24,pos:="outright.go:99",after:=#[],guard:=none }) (v:=.agg #[.bool b0,.slice a0 z0.length n0]) rfl (by kernel_rfl) (by kernel_rfl) (by kernel_rfl) (fun _ _ _ h=>h) (Or.inl ⟨by rfl,fun w9 hSw=>?_⟩) hHeld ?_
   ·(try dsimp only at hSw);go_simp
   simp only [Act.put,List.setIfInBounds_toArray,List.set_cons_zero,List.set_cons_succ]
   refine wpAnyH_take (i:=2) (oi:={ dst:=some 61,op:=Op.load 24 (Operand.tmp 3),type:=24,pos:="outright.go:99",after:=#[],guard:=none }) (v:=.agg #[.bool b1,.slice a1 z1.length n1]) rfl (by kernel_rfl) (by kernel_rfl) (by kernel_rfl) (fun _ _ _ h=>h) (Or.inl ⟨by rfl,fun w9 hSw=>?_⟩) hHeld ?_
   ·(try dsimp only at hSw);go_simp
   simp only [Act.put,List.setIfInBounds_toArray,List.set_cons_zero,List.set_cons_succ]
   refine wpAnyH_take (i:=4) (oi:={ dst:=some 63,op:=Op.fieldAddr 27 (Operand.tmp 7) 0,type:=0,pos:="outright.go:99",after:=#[],guard:=none }) (v:=.pointer (some ⟨t5.heap.size,0,none⟩)) rfl (by kernel_rfl) (by kernel_rfl) (by kernel_rfl) (fun _ _ _ h=>h) (Or.inl ⟨by rfl,fun w9 hSw=>?_⟩) hHeld ?_
   ·(try dsimp only at hSw);go_simp
   simp only [Act.put,List.setIfInBounds_toArray,List.set_cons_zero,List.set_cons_succ]
   refine wpAnyH_take (i:=5) (oi:={ dst:=some 64,op:=Op.load 4 (Operand.tmp 63),type:=4,pos:="outright.go:99",after:=#[{ on:=4,ground:=Ground.data }],guard:=none }) (v:=.bool false) rfl (by kernel_rfl) (by kernel_rfl) (by kernel_rfl) (fun _ _ _ h=>h) (Or.inl ⟨by rfl,fun w9 hSw=>?_⟩) hHeld ?_
   ·(try dsimp only at hSw);go_simp
   simp only [Act.put,List.setIfInBounds_toArray,List.set_cons_zero,List.set_cons_succ]
   refine wpAnyH_take (i:=6) (oi:={ dst:=some 65,op:=Op.fieldAddr 27 (Operand.tmp 7) 1,type:=0,pos:="outright.go:99",after:=#[],guard:=none }) (v:=.pointer (some ⟨t5.heap.size,1,none⟩)) rfl (by kernel_rfl) (by kernel_rfl) (by kernel_rfl) (fun _ _ _ h=>h) (Or.inl ⟨by rfl,fun w9 hSw=>?_⟩) hHeld ?_
   ·(try dsimp only at hSw);go_simp
   simp only [Act.put,List.setIfInBounds_toArray,List.set_cons_zero,List.set_cons_succ]
   refine wpAnyH_take (i:=7) (oi:={ dst:=some 66,op:=Op.load 25 (Operand.tmp 65),type:=25,pos:="outright.go:99",after:=#[{ on:=6,ground:=Ground.data }],guard:=none }) (v:=.slice ag ng kg) rfl (by kernel_rfl) (by kernel_rfl) (by kernel_rfl) (fun _ _ _ h=>h) (Or.inl ⟨by rfl,fun w9 hSw=>?_⟩) hHeld ?_
   ·(try dsimp only at hSw);go_simp
   simp only [Act.put,List.setIfInBounds_toArray,List.set_cons_zero,List.set_cons_succ]
   refine mO t10 (aM az) (aM bz) (aM ((g:Nat):Int)) (aM.up _) (aM.up _) (aM.up _) 60 62 67 13 14 15 3 (fun c1 c2 c3 k1 k2 k3=>#[true,c1,true,c2,true,true,true,true,c3,k1,k2,k3,false,false,false]) (by kernel_rfl) (by kernel_rfl) (by simp only [Act.put,List.setIfInBounds_toArray,List.set_cons_zero,List.set_cons_succ]) ((Below.refl _ _).drew) ?_
   clear hHeld
   intro n
   simp only [Act.put,List.setIfInBounds_toArray,List.set_cons_zero,List.set_cons_succ]
   induction n with
   | zero=>
    intro c1 c2 c3 k1 k2 k3 x1 x2 x3 y1 y2 y3 W hf J
    obtain⟨rfl,rfl,rfl,rfl,rfl,rfl⟩:=lc c1 c2 c3 k1 k2 k3 hf
    clear hf
    have HU:=aa J.up
    obtain⟨b1',a1',n1',k1',rfl,Z1⟩:=J.q1 rfl
    obtain⟨b2',a2',n2',k2',rfl,Z2⟩:=J.q2 rfl
    obtain⟨b3',a3',n3',k3',rfl,Z3⟩:=J.q3 rfl
    obtain⟨g1,rfl,l1,e1⟩:=J.r1 rfl
    obtain⟨g2,rfl,l2,e2⟩:=J.r2 rfl
    obtain⟨g3,rfl,l3,e3⟩:=J.r3 rfl
    have D12:=J.d12 rfl rfl
    have G12:g1≠g2:=fun e=>D12 (by rw [e])
    have D13:=J.d13 rfl rfl
    have G13:g1≠g3:=fun e=>D13 (by rw [e])
    have D23:=J.d23 rfl rfl
    have G23:g2≠g3:=fun e=>D23 (by rw [e])
    have hf1:=av e1
    have hf2:=av e2
    have hf3:=av e3
    obtain⟨m10,m11⟩:=duo e1
    obtain⟨m20,m21⟩:=duo e2
    obtain⟨m30,m31⟩:=duo e3
    have B1_1:=dl e1 Z1 l1
    have E2_1:=bA (u0:=.bool b1') (u1:=.slice a1' n1' k1') e2 (Ne.symm G12)
    have Z2_1:=Z2.duo (p1:=b1') (r1:=.slice a1' n1' k1') e1
    have E3_1:=bA (u0:=.bool b1') (u1:=.slice a1' n1' k1') e3 (Ne.symm G13)
    have Z3_1:=Z3.duo (p1:=b1') (r1:=.slice a1' n1' k1') e1
    have HB1:=aa (aC (u0:=.bool b1') (u1:=.slice a1' n1' k1') HU.out l1)
    have B1_2:=B1_1.other (b':=b2') (r':=.slice a2' n2' k2') E2_1 (fun e=>D12 (by rw [e]))
    have B2_2:=dl E2_1 Z2_1 l2
    have E3_2:=bA (u0:=.bool b2') (u1:=.slice a2' n2' k2') E3_1 (Ne.symm G23)
    have Z3_2:=Z3_1.duo (p1:=b2') (r1:=.slice a2' n2' k2') E2_1
    have HB2:=aa (aC (u0:=.bool b2') (u1:=.slice a2' n2' k2') HB1.out l2)
    have B1_3:=B1_2.other (b':=b3') (r':=.slice a3' n3' k3') E3_2 (fun e=>D13 (by rw [e]))
    have B2_3:=B2_2.other (b':=b3') (r':=.slice a3' n3' k3') E3_2 (fun e=>D23 (by rw [e]))
    have B3_3:=dl E3_2 Z3_2 l3
    have HB3:=aa (aC (u0:=.bool b3') (u1:=.slice a3' n3' k3') HB2.out l3)
    have HFIN:=aa (And.intro B1_3 ( And.intro B2_3 ( And.intro B3_3 (HB3.out))))
    clear J B1_1 B1_2 B1_3 B2_2 B2_3 B3_3 E2_1 E3_1 E3_2 Z2_1 Z3_1 Z3_2 Z1 Z2 Z3 e1 e2 e3 D12 D13 D23
    refine wpAnyH_ready (rs:=[12]) (by kernel_rfl) (by simp) ?_
    refine AllReadyH.cons rfl (fun K hK=>?_) AllReadyH.nil
    go_simp
    refine hK.out _ _ (KS.out _ HB1.out) (fun _=>?_)
    clear hK K
    simp only [List.setIfInBounds_toArray,List.set_cons_zero,List.set_cons_succ]
    refine wpAnyH_ready (rs:=[13]) (by kernel_rfl) (by simp) ?_
    refine AllReadyH.cons rfl (fun K hK=>?_) AllReadyH.nil
    go_simp
    refine hK.out _ _ (KS.out _ HB2.out) (fun _=>?_)
    clear hK K
    simp only [List.setIfInBounds_toArray,List.set_cons_zero,List.set_cons_succ]
    refine wpAnyH_ready (rs:=[14]) (by kernel_rfl) (by simp) ?_
    refine AllReadyH.cons rfl (fun K hK=>?_) AllReadyH.nil
    go_simp
    refine hK.out _ _ (KS.out _ HB3.out) (fun _=>?_)
    clear hK K
    simp only [List.setIfInBounds_toArray,List.set_cons_zero,List.set_cons_succ]
    refine wpAnyH_done (by kernel_rfl) ?_ _
    go_wp2_with fail
    go_meet
    exact HFIN.out
   | succ n ih=>
    intro c1 c2 c3 k1 k2 k3 x1 x2 x3 y1 y2 y3 W hf J
    cases c1
    ·skip
     cases c2
     ·skip
      cases c3
      ·skip
       cases k1
       ·skip
        cases k2
        ·skip
         cases k3
         ·skip
          refine wpAnyH_ready (rs:=[1,9,10,11]) (by kernel_rfl) (by simp) ?_
          refine AllReadyH.cons rfl (fun K hK=>?_) ?_
          ·go_simp
           refine (IN1.out W J.up).mono ?_
           rintro e' W2 ⟨⟨p,q,r,s,rfl,hz⟩,hb⟩
           refine hK.out _ _ (KS.out _ (J.up.trans (hb.mono J.up.size))) (fun hS2=>?_)
           simp only [List.setIfInBounds_toArray,List.set_cons_zero,List.set_cons_succ]
           exact ih _ _ _ _ _ _ _ _ _ _ _ _ _ (by simp [au] at hf ⊢;omega) (J.call1 hb ⟨p,q,r,s,rfl,hz⟩)
          refine AllReadyH.cons rfl (fun K hK=>?_) ?_
          ·go_simp
           refine hK.out _ _ (KS.out _ (J.up.alloc J.up.size _)) (fun _=>?_)
           simp only [List.setIfInBounds_toArray,List.set_cons_zero,List.set_cons_succ]
           exact ih _ _ _ _ _ _ _ _ _ _ _ _ _ (by simp [au] at hf ⊢;omega) J.make1
          refine AllReadyH.cons rfl (fun K hK=>?_) ?_
          ·go_simp
           refine hK.out _ _ (KS.out _ (J.up.alloc J.up.size _)) (fun _=>?_)
           simp only [List.setIfInBounds_toArray,List.set_cons_zero,List.set_cons_succ]
           exact ih _ _ _ _ _ _ _ _ _ _ _ _ _ (by simp [au] at hf ⊢;omega) J.make2
          refine AllReadyH.cons rfl (fun K hK=>?_) ?_
          ·go_simp
           refine hK.out _ _ (KS.out _ (J.up.alloc J.up.size _)) (fun _=>?_)
           simp only [List.setIfInBounds_toArray,List.set_cons_zero,List.set_cons_succ]
           exact ih _ _ _ _ _ _ _ _ _ _ _ _ _ (by simp [au] at hf ⊢;omega) J.make3
          exact AllReadyH.nil
         ·skip
          refine wpAnyH_ready (rs:=[1,9,10]) (by kernel_rfl) (by simp) ?_
          refine AllReadyH.cons rfl (fun K hK=>?_) ?_
          ·go_simp
           refine (IN1.out W J.up).mono ?_
           rintro e' W2 ⟨⟨p,q,r,s,rfl,hz⟩,hb⟩
           refine hK.out _ _ (KS.out _ (J.up.trans (hb.mono J.up.size))) (fun hS2=>?_)
           simp only [List.setIfInBounds_toArray,List.set_cons_zero,List.set_cons_succ]
           exact ih _ _ _ _ _ _ _ _ _ _ _ _ _ (by simp [au] at hf ⊢;omega) (J.call1 hb ⟨p,q,r,s,rfl,hz⟩)
          refine AllReadyH.cons rfl (fun K hK=>?_) ?_
          ·go_simp
           refine hK.out _ _ (KS.out _ (J.up.alloc J.up.size _)) (fun _=>?_)
           simp only [List.setIfInBounds_toArray,List.set_cons_zero,List.set_cons_succ]
           exact ih _ _ _ _ _ _ _ _ _ _ _ _ _ (by simp [au] at hf ⊢;omega) J.make1
          refine AllReadyH.cons rfl (fun K hK=>?_) ?_
          ·go_simp
           refine hK.out _ _ (KS.out _ (J.up.alloc J.up.size _)) (fun _=>?_)
           simp only [List.setIfInBounds_toArray,List.set_cons_zero,List.set_cons_succ]
           exact ih _ _ _ _ _ _ _ _ _ _ _ _ _ (by simp [au] at hf ⊢;omega) J.make2
          exact AllReadyH.nil
        ·skip
         cases k3
         ·skip
          refine wpAnyH_ready (rs:=[1,9,11]) (by kernel_rfl) (by simp) ?_
          refine AllReadyH.cons rfl (fun K hK=>?_) ?_
          ·go_simp
           refine (IN1.out W J.up).mono ?_
           rintro e' W2 ⟨⟨p,q,r,s,rfl,hz⟩,hb⟩
           refine hK.out _ _ (KS.out _ (J.up.trans (hb.mono J.up.size))) (fun hS2=>?_)
           simp only [List.setIfInBounds_toArray,List.set_cons_zero,List.set_cons_succ]
           exact ih _ _ _ _ _ _ _ _ _ _ _ _ _ (by simp [au] at hf ⊢;omega) (J.call1 hb ⟨p,q,r,s,rfl,hz⟩)
          refine AllReadyH.cons rfl (fun K hK=>?_) ?_
          ·go_simp
           refine hK.out _ _ (KS.out _ (J.up.alloc J.up.size _)) (fun _=>?_)
           simp only [List.setIfInBounds_toArray,List.set_cons_zero,List.set_cons_succ]
           exact ih _ _ _ _ _ _ _ _ _ _ _ _ _ (by simp [au] at hf ⊢;omega) J.make1
          refine AllReadyH.cons rfl (fun K hK=>?_) ?_
          ·go_simp
           refine hK.out _ _ (KS.out _ (J.up.alloc J.up.size _)) (fun _=>?_)
           simp only [List.setIfInBounds_toArray,List.set_cons_zero,List.set_cons_succ]
           exact ih _ _ _ _ _ _ _ _ _ _ _ _ _ (by simp [au] at hf ⊢;omega) J.make3
          exact AllReadyH.nil
         ·skip
          refine wpAnyH_ready (rs:=[1,9]) (by kernel_rfl) (by simp) ?_
          refine AllReadyH.cons rfl (fun K hK=>?_) ?_
          ·go_simp
           refine (IN1.out W J.up).mono ?_
           rintro e' W2 ⟨⟨p,q,r,s,rfl,hz⟩,hb⟩
           refine hK.out _ _ (KS.out _ (J.up.trans (hb.mono J.up.size))) (fun hS2=>?_)
           simp only [List.setIfInBounds_toArray,List.set_cons_zero,List.set_cons_succ]
           exact ih _ _ _ _ _ _ _ _ _ _ _ _ _ (by simp [au] at hf ⊢;omega) (J.call1 hb ⟨p,q,r,s,rfl,hz⟩)
          refine AllReadyH.cons rfl (fun K hK=>?_) ?_
          ·go_simp
           refine hK.out _ _ (KS.out _ (J.up.alloc J.up.size _)) (fun _=>?_)
           simp only [List.setIfInBounds_toArray,List.set_cons_zero,List.set_cons_succ]
           exact ih _ _ _ _ _ _ _ _ _ _ _ _ _ (by simp [au] at hf ⊢;omega) J.make1
          exact AllReadyH.nil
       ·skip
        cases k2
        ·skip
         cases k3
         ·skip
          refine wpAnyH_ready (rs:=[1,10,11]) (by kernel_rfl) (by simp) ?_
          refine AllReadyH.cons rfl (fun K hK=>?_) ?_
          ·go_simp
           refine (IN1.out W J.up).mono ?_
           rintro e' W2 ⟨⟨p,q,r,s,rfl,hz⟩,hb⟩
           refine hK.out _ _ (KS.out _ (J.up.trans (hb.mono J.up.size))) (fun hS2=>?_)
           simp only [List.setIfInBounds_toArray,List.set_cons_zero,List.set_cons_succ]
           exact ih _ _ _ _ _ _ _ _ _ _ _ _ _ (by simp [au] at hf ⊢;omega) (J.call1 hb ⟨p,q,r,s,rfl,hz⟩)
          refine AllReadyH.cons rfl (fun K hK=>?_) ?_
          ·go_simp
           refine hK.out _ _ (KS.out _ (J.up.alloc J.up.size _)) (fun _=>?_)
           simp only [List.setIfInBounds_toArray,List.set_cons_zero,List.set_cons_succ]
           exact ih _ _ _ _ _ _ _ _ _ _ _ _ _ (by simp [au] at hf ⊢;omega) J.make2
          refine AllReadyH.cons rfl (fun K hK=>?_) ?_
          ·go_simp
           refine hK.out _ _ (KS.out _ (J.up.alloc J.up.size _)) (fun _=>?_)
           simp only [List.setIfInBounds_toArray,List.set_cons_zero,List.set_cons_succ]
           exact ih _ _ _ _ _ _ _ _ _ _ _ _ _ (by simp [au] at hf ⊢;omega) J.make3
          exact AllReadyH.nil
         ·skip
          refine wpAnyH_ready (rs:=[1,10]) (by kernel_rfl) (by simp) ?_
          refine AllReadyH.cons rfl (fun K hK=>?_) ?_
          ·go_simp
           refine (IN1.out W J.up).mono ?_
           rintro e' W2 ⟨⟨p,q,r,s,rfl,hz⟩,hb⟩
           refine hK.out _ _ (KS.out _ (J.up.trans (hb.mono J.up.size))) (fun hS2=>?_)
           simp only [List.setIfInBounds_toArray,List.set_cons_zero,List.set_cons_succ]
           exact ih _ _ _ _ _ _ _ _ _ _ _ _ _ (by simp [au] at hf ⊢;omega) (J.call1 hb ⟨p,q,r,s,rfl,hz⟩)
          refine AllReadyH.cons rfl (fun K hK=>?_) ?_
          ·go_simp
           refine hK.out _ _ (KS.out _ (J.up.alloc J.up.size _)) (fun _=>?_)
           simp only [List.setIfInBounds_toArray,List.set_cons_zero,List.set_cons_succ]
           exact ih _ _ _ _ _ _ _ _ _ _ _ _ _ (by simp [au] at hf ⊢;omega) J.make2
          exact AllReadyH.nil
        ·skip
         cases k3
         ·skip
          refine wpAnyH_ready (rs:=[1,11]) (by kernel_rfl) (by simp) ?_
          refine AllReadyH.cons rfl (fun K hK=>?_) ?_
          ·go_simp
           refine (IN1.out W J.up).mono ?_
           rintro e' W2 ⟨⟨p,q,r,s,rfl,hz⟩,hb⟩
           refine hK.out _ _ (KS.out _ (J.up.trans (hb.mono J.up.size))) (fun hS2=>?_)
           simp only [List.setIfInBounds_toArray,List.set_cons_zero,List.set_cons_succ]
           exact ih _ _ _ _ _ _ _ _ _ _ _ _ _ (by simp [au] at hf ⊢;omega) (J.call1 hb ⟨p,q,r,s,rfl,hz⟩)
          refine AllReadyH.cons rfl (fun K hK=>?_) ?_
          ·go_simp
           refine hK.out _ _ (KS.out _ (J.up.alloc J.up.size _)) (fun _=>?_)
           simp only [List.setIfInBounds_toArray,List.set_cons_zero,List.set_cons_succ]
           exact ih _ _ _ _ _ _ _ _ _ _ _ _ _ (by simp [au] at hf ⊢;omega) J.make3
          exact AllReadyH.nil
         ·skip
          refine wpAnyH_ready (rs:=[1]) (by kernel_rfl) (by simp) ?_
          refine AllReadyH.cons rfl (fun K hK=>?_) ?_
          ·go_simp
           refine (IN1.out W J.up).mono ?_
           rintro e' W2 ⟨⟨p,q,r,s,rfl,hz⟩,hb⟩
           refine hK.out _ _ (KS.out _ (J.up.trans (hb.mono J.up.size))) (fun hS2=>?_)
           simp only [List.setIfInBounds_toArray,List.set_cons_zero,List.set_cons_succ]
           exact ih _ _ _ _ _ _ _ _ _ _ _ _ _ (by simp [au] at hf ⊢;omega) (J.call1 hb ⟨p,q,r,s,rfl,hz⟩)
          exact AllReadyH.nil
      ·skip
       exact absurd (J.h3 rfl) (by decide)
     ·skip
      exact absurd (J.h2 rfl) (by decide)
    ·skip
     cases c2
     ·skip
      cases c3
      ·skip
       cases k1
       ·skip
        cases k2
        ·skip
         cases k3
         ·skip
          refine wpAnyH_ready (rs:=[3,9,10,11]) (by kernel_rfl) (by simp) ?_
          refine AllReadyH.cons rfl (fun K hK=>?_) ?_
          ·go_simp
           refine (IN2.out W J.up).mono ?_
           rintro e' W2 ⟨⟨p,q,r,s,rfl,hz⟩,hb⟩
           refine hK.out _ _ (KS.out _ (J.up.trans (hb.mono J.up.size))) (fun hS2=>?_)
           simp only [List.setIfInBounds_toArray,List.set_cons_zero,List.set_cons_succ]
           exact ih _ _ _ _ _ _ _ _ _ _ _ _ _ (by simp [au] at hf ⊢;omega) (J.call2 hb ⟨p,q,r,s,rfl,hz⟩)
          refine AllReadyH.cons rfl (fun K hK=>?_) ?_
          ·go_simp
           refine hK.out _ _ (KS.out _ (J.up.alloc J.up.size _)) (fun _=>?_)
           simp only [List.setIfInBounds_toArray,List.set_cons_zero,List.set_cons_succ]
           exact ih _ _ _ _ _ _ _ _ _ _ _ _ _ (by simp [au] at hf ⊢;omega) J.make1
          refine AllReadyH.cons rfl (fun K hK=>?_) ?_
          ·go_simp
           refine hK.out _ _ (KS.out _ (J.up.alloc J.up.size _)) (fun _=>?_)
           simp only [List.setIfInBounds_toArray,List.set_cons_zero,List.set_cons_succ]
           exact ih _ _ _ _ _ _ _ _ _ _ _ _ _ (by simp [au] at hf ⊢;omega) J.make2
          refine AllReadyH.cons rfl (fun K hK=>?_) ?_
          ·go_simp
           refine hK.out _ _ (KS.out _ (J.up.alloc J.up.size _)) (fun _=>?_)
           simp only [List.setIfInBounds_toArray,List.set_cons_zero,List.set_cons_succ]
           exact ih _ _ _ _ _ _ _ _ _ _ _ _ _ (by simp [au] at hf ⊢;omega) J.make3
          exact AllReadyH.nil
         ·skip
          refine wpAnyH_ready (rs:=[3,9,10]) (by kernel_rfl) (by simp) ?_
          refine AllReadyH.cons rfl (fun K hK=>?_) ?_
          ·go_simp
           refine (IN2.out W J.up).mono ?_
           rintro e' W2 ⟨⟨p,q,r,s,rfl,hz⟩,hb⟩
           refine hK.out _ _ (KS.out _ (J.up.trans (hb.mono J.up.size))) (fun hS2=>?_)
           simp only [List.setIfInBounds_toArray,List.set_cons_zero,List.set_cons_succ]
           exact ih _ _ _ _ _ _ _ _ _ _ _ _ _ (by simp [au] at hf ⊢;omega) (J.call2 hb ⟨p,q,r,s,rfl,hz⟩)
          refine AllReadyH.cons rfl (fun K hK=>?_) ?_
          ·go_simp
           refine hK.out _ _ (KS.out _ (J.up.alloc J.up.size _)) (fun _=>?_)
           simp only [List.setIfInBounds_toArray,List.set_cons_zero,List.set_cons_succ]
           exact ih _ _ _ _ _ _ _ _ _ _ _ _ _ (by simp [au] at hf ⊢;omega) J.make1
          refine AllReadyH.cons rfl (fun K hK=>?_) ?_
          ·go_simp
           refine hK.out _ _ (KS.out _ (J.up.alloc J.up.size _)) (fun _=>?_)
           simp only [List.setIfInBounds_toArray,List.set_cons_zero,List.set_cons_succ]
           exact ih _ _ _ _ _ _ _ _ _ _ _ _ _ (by simp [au] at hf ⊢;omega) J.make2
          exact AllReadyH.nil
        ·skip
         cases k3
         ·skip
          refine wpAnyH_ready (rs:=[3,9,11]) (by kernel_rfl) (by simp) ?_
          refine AllReadyH.cons rfl (fun K hK=>?_) ?_
          ·go_simp
           refine (IN2.out W J.up).mono ?_
           rintro e' W2 ⟨⟨p,q,r,s,rfl,hz⟩,hb⟩
           refine hK.out _ _ (KS.out _ (J.up.trans (hb.mono J.up.size))) (fun hS2=>?_)
           simp only [List.setIfInBounds_toArray,List.set_cons_zero,List.set_cons_succ]
           exact ih _ _ _ _ _ _ _ _ _ _ _ _ _ (by simp [au] at hf ⊢;omega) (J.call2 hb ⟨p,q,r,s,rfl,hz⟩)
          refine AllReadyH.cons rfl (fun K hK=>?_) ?_
          ·go_simp
           refine hK.out _ _ (KS.out _ (J.up.alloc J.up.size _)) (fun _=>?_)
           simp only [List.setIfInBounds_toArray,List.set_cons_zero,List.set_cons_succ]
           exact ih _ _ _ _ _ _ _ _ _ _ _ _ _ (by simp [au] at hf ⊢;omega) J.make1
          refine AllReadyH.cons rfl (fun K hK=>?_) ?_
          ·go_simp
           refine hK.out _ _ (KS.out _ (J.up.alloc J.up.size _)) (fun _=>?_)
           simp only [List.setIfInBounds_toArray,List.set_cons_zero,List.set_cons_succ]
           exact ih _ _ _ _ _ _ _ _ _ _ _ _ _ (by simp [au] at hf ⊢;omega) J.make3
          exact AllReadyH.nil
         ·skip
          refine wpAnyH_ready (rs:=[3,9]) (by kernel_rfl) (by simp) ?_
          refine AllReadyH.cons rfl (fun K hK=>?_) ?_
          ·go_simp
           refine (IN2.out W J.up).mono ?_
           rintro e' W2 ⟨⟨p,q,r,s,rfl,hz⟩,hb⟩
           refine hK.out _ _ (KS.out _ (J.up.trans (hb.mono J.up.size))) (fun hS2=>?_)
           simp only [List.setIfInBounds_toArray,List.set_cons_zero,List.set_cons_succ]
           exact ih _ _ _ _ _ _ _ _ _ _ _ _ _ (by simp [au] at hf ⊢;omega) (J.call2 hb ⟨p,q,r,s,rfl,hz⟩)
          refine AllReadyH.cons rfl (fun K hK=>?_) ?_
          ·go_simp
           refine hK.out _ _ (KS.out _ (J.up.alloc J.up.size _)) (fun _=>?_)
           simp only [List.setIfInBounds_toArray,List.set_cons_zero,List.set_cons_succ]
           exact ih _ _ _ _ _ _ _ _ _ _ _ _ _ (by simp [au] at hf ⊢;omega) J.make1
          exact AllReadyH.nil
       ·skip
        cases k2
        ·skip
         cases k3
         ·skip
          refine wpAnyH_ready (rs:=[3,10,11]) (by kernel_rfl) (by simp) ?_
          refine AllReadyH.cons rfl (fun K hK=>?_) ?_
          ·go_simp
           refine (IN2.out W J.up).mono ?_
           rintro e' W2 ⟨⟨p,q,r,s,rfl,hz⟩,hb⟩
           refine hK.out _ _ (KS.out _ (J.up.trans (hb.mono J.up.size))) (fun hS2=>?_)
           simp only [List.setIfInBounds_toArray,List.set_cons_zero,List.set_cons_succ]
           exact ih _ _ _ _ _ _ _ _ _ _ _ _ _ (by simp [au] at hf ⊢;omega) (J.call2 hb ⟨p,q,r,s,rfl,hz⟩)
          refine AllReadyH.cons rfl (fun K hK=>?_) ?_
          ·go_simp
           refine hK.out _ _ (KS.out _ (J.up.alloc J.up.size _)) (fun _=>?_)
           simp only [List.setIfInBounds_toArray,List.set_cons_zero,List.set_cons_succ]
           exact ih _ _ _ _ _ _ _ _ _ _ _ _ _ (by simp [au] at hf ⊢;omega) J.make2
          refine AllReadyH.cons rfl (fun K hK=>?_) ?_
          ·go_simp
           refine hK.out _ _ (KS.out _ (J.up.alloc J.up.size _)) (fun _=>?_)
           simp only [List.setIfInBounds_toArray,List.set_cons_zero,List.set_cons_succ]
           exact ih _ _ _ _ _ _ _ _ _ _ _ _ _ (by simp [au] at hf ⊢;omega) J.make3
          exact AllReadyH.nil
         ·skip
          refine wpAnyH_ready (rs:=[3,10]) (by kernel_rfl) (by simp) ?_
          refine AllReadyH.cons rfl (fun K hK=>?_) ?_
          ·go_simp
           refine (IN2.out W J.up).mono ?_
           rintro e' W2 ⟨⟨p,q,r,s,rfl,hz⟩,hb⟩
           refine hK.out _ _ (KS.out _ (J.up.trans (hb.mono J.up.size))) (fun hS2=>?_)
           simp only [List.setIfInBounds_toArray,List.set_cons_zero,List.set_cons_succ]
           exact ih _ _ _ _ _ _ _ _ _ _ _ _ _ (by simp [au] at hf ⊢;omega) (J.call2 hb ⟨p,q,r,s,rfl,hz⟩)
          refine AllReadyH.cons rfl (fun K hK=>?_) ?_
          ·go_simp
           refine hK.out _ _ (KS.out _ (J.up.alloc J.up.size _)) (fun _=>?_)
           simp only [List.setIfInBounds_toArray,List.set_cons_zero,List.set_cons_succ]
           exact ih _ _ _ _ _ _ _ _ _ _ _ _ _ (by simp [au] at hf ⊢;omega) J.make2
          exact AllReadyH.nil
        ·skip
         cases k3
         ·skip
          refine wpAnyH_ready (rs:=[3,11]) (by kernel_rfl) (by simp) ?_
          refine AllReadyH.cons rfl (fun K hK=>?_) ?_
          ·go_simp
           refine (IN2.out W J.up).mono ?_
           rintro e' W2 ⟨⟨p,q,r,s,rfl,hz⟩,hb⟩
           refine hK.out _ _ (KS.out _ (J.up.trans (hb.mono J.up.size))) (fun hS2=>?_)
           simp only [List.setIfInBounds_toArray,List.set_cons_zero,List.set_cons_succ]
           exact ih _ _ _ _ _ _ _ _ _ _ _ _ _ (by simp [au] at hf ⊢;omega) (J.call2 hb ⟨p,q,r,s,rfl,hz⟩)
          refine AllReadyH.cons rfl (fun K hK=>?_) ?_
          ·go_simp
           refine hK.out _ _ (KS.out _ (J.up.alloc J.up.size _)) (fun _=>?_)
           simp only [List.setIfInBounds_toArray,List.set_cons_zero,List.set_cons_succ]
           exact ih _ _ _ _ _ _ _ _ _ _ _ _ _ (by simp [au] at hf ⊢;omega) J.make3
          exact AllReadyH.nil
         ·skip
          refine wpAnyH_ready (rs:=[3]) (by kernel_rfl) (by simp) ?_
          refine AllReadyH.cons rfl (fun K hK=>?_) ?_
          ·go_simp
           refine (IN2.out W J.up).mono ?_
           rintro e' W2 ⟨⟨p,q,r,s,rfl,hz⟩,hb⟩
           refine hK.out _ _ (KS.out _ (J.up.trans (hb.mono J.up.size))) (fun hS2=>?_)
           simp only [List.setIfInBounds_toArray,List.set_cons_zero,List.set_cons_succ]
           exact ih _ _ _ _ _ _ _ _ _ _ _ _ _ (by simp [au] at hf ⊢;omega) (J.call2 hb ⟨p,q,r,s,rfl,hz⟩)
          exact AllReadyH.nil
      ·skip
       exact absurd (J.h3 rfl) (by decide)
     ·skip
      cases c3
      ·skip
       cases k1
       ·skip
        cases k2
        ·skip
         cases k3
         ·skip
          refine wpAnyH_ready (rs:=[8,9,10,11]) (by kernel_rfl) (by simp) ?_
          refine AllReadyH.cons rfl (fun K hK=>?_) ?_
          ·go_simp
           refine (IN3.out W J.up).mono ?_
           rintro e' W2 ⟨⟨p,q,r,s,rfl,hz⟩,hb⟩
           refine hK.out _ _ (KS.out _ (J.up.trans (hb.mono J.up.size))) (fun hS2=>?_)
           simp only [List.setIfInBounds_toArray,List.set_cons_zero,List.set_cons_succ]
           exact ih _ _ _ _ _ _ _ _ _ _ _ _ _ (by simp [au] at hf ⊢;omega) (J.call3 hb ⟨p,q,r,s,rfl,hz⟩)
          refine AllReadyH.cons rfl (fun K hK=>?_) ?_
          ·go_simp
           refine hK.out _ _ (KS.out _ (J.up.alloc J.up.size _)) (fun _=>?_)
           simp only [List.setIfInBounds_toArray,List.set_cons_zero,List.set_cons_succ]
           exact ih _ _ _ _ _ _ _ _ _ _ _ _ _ (by simp [au] at hf ⊢;omega) J.make1
          refine AllReadyH.cons rfl (fun K hK=>?_) ?_
          ·go_simp
           refine hK.out _ _ (KS.out _ (J.up.alloc J.up.size _)) (fun _=>?_)
           simp only [List.setIfInBounds_toArray,List.set_cons_zero,List.set_cons_succ]
           exact ih _ _ _ _ _ _ _ _ _ _ _ _ _ (by simp [au] at hf ⊢;omega) J.make2
          refine AllReadyH.cons rfl (fun K hK=>?_) ?_
          ·go_simp
           refine hK.out _ _ (KS.out _ (J.up.alloc J.up.size _)) (fun _=>?_)
           simp only [List.setIfInBounds_toArray,List.set_cons_zero,List.set_cons_succ]
           exact ih _ _ _ _ _ _ _ _ _ _ _ _ _ (by simp [au] at hf ⊢;omega) J.make3
          exact AllReadyH.nil
         ·skip
          refine wpAnyH_ready (rs:=[8,9,10]) (by kernel_rfl) (by simp) ?_
          refine AllReadyH.cons rfl (fun K hK=>?_) ?_
          ·go_simp
           refine (IN3.out W J.up).mono ?_
           rintro e' W2 ⟨⟨p,q,r,s,rfl,hz⟩,hb⟩
           refine hK.out _ _ (KS.out _ (J.up.trans (hb.mono J.up.size))) (fun hS2=>?_)
           simp only [List.setIfInBounds_toArray,List.set_cons_zero,List.set_cons_succ]
           exact ih _ _ _ _ _ _ _ _ _ _ _ _ _ (by simp [au] at hf ⊢;omega) (J.call3 hb ⟨p,q,r,s,rfl,hz⟩)
          refine AllReadyH.cons rfl (fun K hK=>?_) ?_
          ·go_simp
           refine hK.out _ _ (KS.out _ (J.up.alloc J.up.size _)) (fun _=>?_)
           simp only [List.setIfInBounds_toArray,List.set_cons_zero,List.set_cons_succ]
           exact ih _ _ _ _ _ _ _ _ _ _ _ _ _ (by simp [au] at hf ⊢;omega) J.make1
          refine AllReadyH.cons rfl (fun K hK=>?_) ?_
          ·go_simp
           refine hK.out _ _ (KS.out _ (J.up.alloc J.up.size _)) (fun _=>?_)
           simp only [List.setIfInBounds_toArray,List.set_cons_zero,List.set_cons_succ]
           exact ih _ _ _ _ _ _ _ _ _ _ _ _ _ (by simp [au] at hf ⊢;omega) J.make2
          exact AllReadyH.nil
        ·skip
         cases k3
         ·skip
          refine wpAnyH_ready (rs:=[8,9,11]) (by kernel_rfl) (by simp) ?_
          refine AllReadyH.cons rfl (fun K hK=>?_) ?_
          ·go_simp
           refine (IN3.out W J.up).mono ?_
           rintro e' W2 ⟨⟨p,q,r,s,rfl,hz⟩,hb⟩
           refine hK.out _ _ (KS.out _ (J.up.trans (hb.mono J.up.size))) (fun hS2=>?_)
           simp only [List.setIfInBounds_toArray,List.set_cons_zero,List.set_cons_succ]
           exact ih _ _ _ _ _ _ _ _ _ _ _ _ _ (by simp [au] at hf ⊢;omega) (J.call3 hb ⟨p,q,r,s,rfl,hz⟩)
          refine AllReadyH.cons rfl (fun K hK=>?_) ?_
          ·go_simp
           refine hK.out _ _ (KS.out _ (J.up.alloc J.up.size _)) (fun _=>?_)
           simp only [List.setIfInBounds_toArray,List.set_cons_zero,List.set_cons_succ]
           exact ih _ _ _ _ _ _ _ _ _ _ _ _ _ (by simp [au] at hf ⊢;omega) J.make1
          refine AllReadyH.cons rfl (fun K hK=>?_) ?_
          ·go_simp
           refine hK.out _ _ (KS.out _ (J.up.alloc J.up.size _)) (fun _=>?_)
           simp only [List.setIfInBounds_toArray,List.set_cons_zero,List.set_cons_succ]
           exact ih _ _ _ _ _ _ _ _ _ _ _ _ _ (by simp [au] at hf ⊢;omega) J.make3
          exact AllReadyH.nil
         ·skip
          refine wpAnyH_ready (rs:=[8,9]) (by kernel_rfl) (by simp) ?_
          refine AllReadyH.cons rfl (fun K hK=>?_) ?_
          ·go_simp
           refine (IN3.out W J.up).mono ?_
           rintro e' W2 ⟨⟨p,q,r,s,rfl,hz⟩,hb⟩
           refine hK.out _ _ (KS.out _ (J.up.trans (hb.mono J.up.size))) (fun hS2=>?_)
           simp only [List.setIfInBounds_toArray,List.set_cons_zero,List.set_cons_succ]
           exact ih _ _ _ _ _ _ _ _ _ _ _ _ _ (by simp [au] at hf ⊢;omega) (J.call3 hb ⟨p,q,r,s,rfl,hz⟩)
          refine AllReadyH.cons rfl (fun K hK=>?_) ?_
          ·go_simp
           refine hK.out _ _ (KS.out _ (J.up.alloc J.up.size _)) (fun _=>?_)
           simp only [List.setIfInBounds_toArray,List.set_cons_zero,List.set_cons_succ]
           exact ih _ _ _ _ _ _ _ _ _ _ _ _ _ (by simp [au] at hf ⊢;omega) J.make1
          exact AllReadyH.nil
       ·skip
        cases k2
        ·skip
         cases k3
         ·skip
          refine wpAnyH_ready (rs:=[8,10,11]) (by kernel_rfl) (by simp) ?_
          refine AllReadyH.cons rfl (fun K hK=>?_) ?_
          ·go_simp
           refine (IN3.out W J.up).mono ?_
           rintro e' W2 ⟨⟨p,q,r,s,rfl,hz⟩,hb⟩
           refine hK.out _ _ (KS.out _ (J.up.trans (hb.mono J.up.size))) (fun hS2=>?_)
           simp only [List.setIfInBounds_toArray,List.set_cons_zero,List.set_cons_succ]
           exact ih _ _ _ _ _ _ _ _ _ _ _ _ _ (by simp [au] at hf ⊢;omega) (J.call3 hb ⟨p,q,r,s,rfl,hz⟩)
          refine AllReadyH.cons rfl (fun K hK=>?_) ?_
          ·go_simp
           refine hK.out _ _ (KS.out _ (J.up.alloc J.up.size _)) (fun _=>?_)
           simp only [List.setIfInBounds_toArray,List.set_cons_zero,List.set_cons_succ]
           exact ih _ _ _ _ _ _ _ _ _ _ _ _ _ (by simp [au] at hf ⊢;omega) J.make2
          refine AllReadyH.cons rfl (fun K hK=>?_) ?_
          ·go_simp
           refine hK.out _ _ (KS.out _ (J.up.alloc J.up.size _)) (fun _=>?_)
           simp only [List.setIfInBounds_toArray,List.set_cons_zero,List.set_cons_succ]
           exact ih _ _ _ _ _ _ _ _ _ _ _ _ _ (by simp [au] at hf ⊢;omega) J.make3
          exact AllReadyH.nil
         ·skip
          refine wpAnyH_ready (rs:=[8,10]) (by kernel_rfl) (by simp) ?_
          refine AllReadyH.cons rfl (fun K hK=>?_) ?_
          ·go_simp
           refine (IN3.out W J.up).mono ?_
           rintro e' W2 ⟨⟨p,q,r,s,rfl,hz⟩,hb⟩
           refine hK.out _ _ (KS.out _ (J.up.trans (hb.mono J.up.size))) (fun hS2=>?_)
           simp only [List.setIfInBounds_toArray,List.set_cons_zero,List.set_cons_succ]
           exact ih _ _ _ _ _ _ _ _ _ _ _ _ _ (by simp [au] at hf ⊢;omega) (J.call3 hb ⟨p,q,r,s,rfl,hz⟩)
          refine AllReadyH.cons rfl (fun K hK=>?_) ?_
          ·go_simp
           refine hK.out _ _ (KS.out _ (J.up.alloc J.up.size _)) (fun _=>?_)
           simp only [List.setIfInBounds_toArray,List.set_cons_zero,List.set_cons_succ]
           exact ih _ _ _ _ _ _ _ _ _ _ _ _ _ (by simp [au] at hf ⊢;omega) J.make2
          exact AllReadyH.nil
        ·skip
         cases k3
         ·skip
          refine wpAnyH_ready (rs:=[8,11]) (by kernel_rfl) (by simp) ?_
          refine AllReadyH.cons rfl (fun K hK=>?_) ?_
          ·go_simp
           refine (IN3.out W J.up).mono ?_
           rintro e' W2 ⟨⟨p,q,r,s,rfl,hz⟩,hb⟩
           refine hK.out _ _ (KS.out _ (J.up.trans (hb.mono J.up.size))) (fun hS2=>?_)
           simp only [List.setIfInBounds_toArray,List.set_cons_zero,List.set_cons_succ]
           exact ih _ _ _ _ _ _ _ _ _ _ _ _ _ (by simp [au] at hf ⊢;omega) (J.call3 hb ⟨p,q,r,s,rfl,hz⟩)
          refine AllReadyH.cons rfl (fun K hK=>?_) ?_
          ·go_simp
           refine hK.out _ _ (KS.out _ (J.up.alloc J.up.size _)) (fun _=>?_)
           simp only [List.setIfInBounds_toArray,List.set_cons_zero,List.set_cons_succ]
           exact ih _ _ _ _ _ _ _ _ _ _ _ _ _ (by simp [au] at hf ⊢;omega) J.make3
          exact AllReadyH.nil
         ·skip
          refine wpAnyH_ready (rs:=[8]) (by kernel_rfl) (by simp) ?_
          refine AllReadyH.cons rfl (fun K hK=>?_) ?_
          ·go_simp
           refine (IN3.out W J.up).mono ?_
           rintro e' W2 ⟨⟨p,q,r,s,rfl,hz⟩,hb⟩
           refine hK.out _ _ (KS.out _ (J.up.trans (hb.mono J.up.size))) (fun hS2=>?_)
           simp only [List.setIfInBounds_toArray,List.set_cons_zero,List.set_cons_succ]
           exact ih _ _ _ _ _ _ _ _ _ _ _ _ _ (by simp [au] at hf ⊢;omega) (J.call3 hb ⟨p,q,r,s,rfl,hz⟩)
          exact AllReadyH.nil
      ·skip
       cases k1
       ·skip
        cases k2
        ·skip
         cases k3
         ·skip
          refine wpAnyH_ready (rs:=[9,10,11]) (by kernel_rfl) (by simp) ?_
          refine AllReadyH.cons rfl (fun K hK=>?_) ?_
          ·go_simp
           refine hK.out _ _ (KS.out _ (J.up.alloc J.up.size _)) (fun _=>?_)
           simp only [List.setIfInBounds_toArray,List.set_cons_zero,List.set_cons_succ]
           exact ih _ _ _ _ _ _ _ _ _ _ _ _ _ (by simp [au] at hf ⊢;omega) J.make1
          refine AllReadyH.cons rfl (fun K hK=>?_) ?_
          ·go_simp
           refine hK.out _ _ (KS.out _ (J.up.alloc J.up.size _)) (fun _=>?_)
           simp only [List.setIfInBounds_toArray,List.set_cons_zero,List.set_cons_succ]
           exact ih _ _ _ _ _ _ _ _ _ _ _ _ _ (by simp [au] at hf ⊢;omega) J.make2
          refine AllReadyH.cons rfl (fun K hK=>?_) ?_
          ·go_simp
           refine hK.out _ _ (KS.out _ (J.up.alloc J.up.size _)) (fun _=>?_)
           simp only [List.setIfInBounds_toArray,List.set_cons_zero,List.set_cons_succ]
           exact ih _ _ _ _ _ _ _ _ _ _ _ _ _ (by simp [au] at hf ⊢;omega) J.make3
          exact AllReadyH.nil
         ·skip
          refine wpAnyH_ready (rs:=[9,10]) (by kernel_rfl) (by simp) ?_
          refine AllReadyH.cons rfl (fun K hK=>?_) ?_
          ·go_simp
           refine hK.out _ _ (KS.out _ (J.up.alloc J.up.size _)) (fun _=>?_)
           simp only [List.setIfInBounds_toArray,List.set_cons_zero,List.set_cons_succ]
           exact ih _ _ _ _ _ _ _ _ _ _ _ _ _ (by simp [au] at hf ⊢;omega) J.make1
          refine AllReadyH.cons rfl (fun K hK=>?_) ?_
          ·go_simp
           refine hK.out _ _ (KS.out _ (J.up.alloc J.up.size _)) (fun _=>?_)
           simp only [List.setIfInBounds_toArray,List.set_cons_zero,List.set_cons_succ]
           exact ih _ _ _ _ _ _ _ _ _ _ _ _ _ (by simp [au] at hf ⊢;omega) J.make2
          exact AllReadyH.nil
        ·skip
         cases k3
         ·skip
          refine wpAnyH_ready (rs:=[9,11]) (by kernel_rfl) (by simp) ?_
          refine AllReadyH.cons rfl (fun K hK=>?_) ?_
          ·go_simp
           refine hK.out _ _ (KS.out _ (J.up.alloc J.up.size _)) (fun _=>?_)
           simp only [List.setIfInBounds_toArray,List.set_cons_zero,List.set_cons_succ]
           exact ih _ _ _ _ _ _ _ _ _ _ _ _ _ (by simp [au] at hf ⊢;omega) J.make1
          refine AllReadyH.cons rfl (fun K hK=>?_) ?_
          ·go_simp
           refine hK.out _ _ (KS.out _ (J.up.alloc J.up.size _)) (fun _=>?_)
           simp only [List.setIfInBounds_toArray,List.set_cons_zero,List.set_cons_succ]
           exact ih _ _ _ _ _ _ _ _ _ _ _ _ _ (by simp [au] at hf ⊢;omega) J.make3
          exact AllReadyH.nil
         ·skip
          refine wpAnyH_ready (rs:=[9]) (by kernel_rfl) (by simp) ?_
          refine AllReadyH.cons rfl (fun K hK=>?_) ?_
          ·go_simp
           refine hK.out _ _ (KS.out _ (J.up.alloc J.up.size _)) (fun _=>?_)
           simp only [List.setIfInBounds_toArray,List.set_cons_zero,List.set_cons_succ]
           exact ih _ _ _ _ _ _ _ _ _ _ _ _ _ (by simp [au] at hf ⊢;omega) J.make1
          exact AllReadyH.nil
       ·skip
        cases k2
        ·skip
         cases k3
         ·skip
          refine wpAnyH_ready (rs:=[10,11]) (by kernel_rfl) (by simp) ?_
          refine AllReadyH.cons rfl (fun K hK=>?_) ?_
          ·go_simp
           refine hK.out _ _ (KS.out _ (J.up.alloc J.up.size _)) (fun _=>?_)
           simp only [List.setIfInBounds_toArray,List.set_cons_zero,List.set_cons_succ]
           exact ih _ _ _ _ _ _ _ _ _ _ _ _ _ (by simp [au] at hf ⊢;omega) J.make2
          refine AllReadyH.cons rfl (fun K hK=>?_) ?_
          ·go_simp
           refine hK.out _ _ (KS.out _ (J.up.alloc J.up.size _)) (fun _=>?_)
           simp only [List.setIfInBounds_toArray,List.set_cons_zero,List.set_cons_succ]
           exact ih _ _ _ _ _ _ _ _ _ _ _ _ _ (by simp [au] at hf ⊢;omega) J.make3
          exact AllReadyH.nil
         ·skip
          refine wpAnyH_ready (rs:=[10]) (by kernel_rfl) (by simp) ?_
          refine AllReadyH.cons rfl (fun K hK=>?_) ?_
          ·go_simp
           refine hK.out _ _ (KS.out _ (J.up.alloc J.up.size _)) (fun _=>?_)
           simp only [List.setIfInBounds_toArray,List.set_cons_zero,List.set_cons_succ]
           exact ih _ _ _ _ _ _ _ _ _ _ _ _ _ (by simp [au] at hf ⊢;omega) J.make2
          exact AllReadyH.nil
        ·skip
         cases k3
         ·skip
          refine wpAnyH_ready (rs:=[11]) (by kernel_rfl) (by simp) ?_
          refine AllReadyH.cons rfl (fun K hK=>?_) ?_
          ·go_simp
           refine hK.out _ _ (KS.out _ (J.up.alloc J.up.size _)) (fun _=>?_)
           simp only [List.setIfInBounds_toArray,List.set_cons_zero,List.set_cons_succ]
           exact ih _ _ _ _ _ _ _ _ _ _ _ _ _ (by simp [au] at hf ⊢;omega) J.make3
          exact AllReadyH.nil
         ·skip
          exact absurd hf (by simp [au])
  case rest=>
   rename World=>u1
   obtain⟨hm,hn,hd,hbx⟩:=hcut
   obtain⟨gm,bm,am,nm,km,rfl,lm,em,Zm⟩:=hm
   obtain⟨gn,bn,an,nn,kn,rfl,ln,en,Zn'⟩:=hn
   obtain⟨gd,bd,ad,nd,kd,rfl,ld,ed,Zd⟩:=hd
   obtain rfl:bd=false:=(fG Zd).1.trans (decide_eq_false (by omega))
   have HX:=aa (And.intro (ac hbx HX.out.1) (And.intro (HX.out.2.1.below hbx) HX.out.2.2))
   have HY:=aa (And.intro (ac hbx HY.out.1) (And.intro (HY.out.2.1.below hbx) HY.out.2.2))
   have EI:=aa (ac hbx HI.out.1)
   have HO:=aa HI.out.2.1
   have HI8:=aa (ak HI.out.2.2 hbx)
   have TB:=aa (HT10.out.below hbx)
   have HWW:=aa (ak (ak HB0.out HW.out) hbx)
   have EM:=aa em
   have EN:=aa en
   have ED:=aa ed
   have ZM:=aa Zm
   have ZN:=aa Zn'
   have ZD:=aa Zd
   clear hbx em en ed Zm Zn' Zd lm ln ld HG HAW HBW HT10 HA10 HB10 HI HW
   go_upto_region 7 with fail
   go_cut [16] from 68 to 83 (fun s wx=>cz wx s ((g:Nat):Int) u1.heap.size∧Below u1.heap.size u1 wx)
   case first=>
    have KS:=aa (fun (W:World) (hg:Below u1.heap.size u1 W)=>show W.cell? ⟨gm,0,none⟩=some (.bool bm)∧W.cell? ⟨gm,1,none⟩=some (.slice am nm km)∧W.cell? ⟨gn,0,none⟩=some (.bool bn)∧W.cell? ⟨gn,1,none⟩=some (.slice an nn kn)∧W.cell? ⟨t5.heap.size+1,0,none⟩=some (.bool bx)∧W.cell? ⟨t5.heap.size+1,1,none⟩=some (.slice ax nx kx)∧W.cell? ⟨t5.heap.size+1+1,0,none⟩=some (.bool by')∧W.cell? ⟨t5.heap.size+1+1,1,none⟩=some (.slice ay ny ky) from ⟨(duo (ac hg EM.out)).1,(duo (ac hg EM.out)).2,(duo (ac hg EN.out)).1,(duo (ac hg EN.out)).2,(duo (ac hg HX.out.1)).1,(duo (ac hg HX.out.1)).2,(duo (ac hg HY.out.1)).1,(duo (ac hg HY.out.1)).2⟩)
    have HE:=aa HNUM.out.eq
    have IN1:=aa (fun (W:World) (hg:Below u1.heap.size u1 W)=>show Calls Tryz.prog 21 #[.bool bx,.slice ax nx kx] W (bj W x) by
     have h:=dv bx _ rx W (HX.out.2.1.below hg) (by have:=HX.out.2.2.2;omega)
     rw [HX.out.2.2.1] at h
     exact h)
    have IN2:=aa (fun (W:World) (v:Value) (hg:Below u1.heap.size u1 W) (h:Zn W v x)=>dc (.agg #[.bool bm,.slice am nm km]) v az x W (ZM.out.below hg) h (by have:=HXY.out.1;have:=HSM.out.1;omega))
    have IN3:=aa (fun (W:World) (hg:Below u1.heap.size u1 W)=>show Calls Tryz.prog 21 #[.bool by',.slice ay ny ky] W (bj W y) by
     have h:=dv by' _ ry W (HY.out.2.1.below hg) (by have:=HY.out.2.2.2;omega)
     rw [HY.out.2.2.1] at h
     exact h)
    have IN4:=aa (fun (W:World) (v:Value) (hg:Below u1.heap.size u1 W) (h:Zn W v y)=>dc (.agg #[.bool bn,.slice an nn kn]) v bz y W (ZN.out.below hg) h (by have:=HXY.out.2;have:=HSM.out.2.1;omega))
    have IN5:=aa (fun (W:World) (v u:Value) (h1:Zn W v (az*x)) (h2:Zn W u (bz*y))=>show Calls Tryz.prog 22 #[v,u] W (bj W ((g:Nat):Int)) by
     have h:=jn v u (az*x) (bz*y) W h1 h2 (by have:=fZ HXY.out.1 HSM.out.1;omega) (by have:=fZ HXY.out.2 HSM.out.2.1;omega)
     rw [HE.out] at h
     exact h)
    refine wp_region_held_drew (S:=fun w'=>w'.cell? ⟨gm,0,none⟩=some (.bool bm)∧w'.cell? ⟨gm,1,none⟩=some (.slice am nm km)∧w'.cell? ⟨gn,0,none⟩=some (.bool bn)∧w'.cell? ⟨gn,1,none⟩=some (.slice an nn kn)∧w'.cell? ⟨t5.heap.size+1,0,none⟩=some (.bool bx)∧w'.cell? ⟨t5.heap.size+1,1,none⟩=some (.slice ax nx kx)∧w'.cell? ⟨t5.heap.size+1+1,0,none⟩=some (.bool by')∧w'.cell? ⟨t5.heap.size+1+1,1,none⟩=some (.slice ay ny ky)) (by kernel_rfl) (KS.out _ ((Below.refl _ _).drew)) (fun hHeld=>?_)
    refine wpAnyH_take (i:=0) (oi:={ dst:=some 68,op:=Op.load 32 (Operand.tmp 13),type:=32,pos:="outright.go:100",after:=#[],guard:=none }) (v:=.agg #[.bool bm,.slice am nm km]) rfl (by kernel_rfl) (by kernel_rfl) (by kernel_rfl) (fun _ _ _ h=>h) (Or.inl ⟨by rfl,fun w9 hSw=>?_⟩) hHeld ?_
    ·(try dsimp only at hSw);go_simp
    simp only [Act.put,List.setIfInBounds_toArray,List.set_cons_zero,List.set_cons_succ]
    refine wpAnyH_take (i:=1) (oi:={ dst:=some 69,op:=Op.fieldAddr 27 (Operand.tmp 8) 0,type:=0,pos:="outright.go:100",after:=#[],guard:=none }) (v:=.pointer (some ⟨t5.heap.size+1,0,none⟩)) rfl (by kernel_rfl) (by kernel_rfl) (by kernel_rfl) (fun _ _ _ h=>h) (Or.inl ⟨by rfl,fun w9 hSw=>?_⟩) hHeld ?_
    ·(try dsimp only at hSw);go_simp
    simp only [Act.put,List.setIfInBounds_toArray,List.set_cons_zero,List.set_cons_succ]
    refine wpAnyH_take (i:=2) (oi:={ dst:=some 70,op:=Op.load 4 (Operand.tmp 69),type:=4,pos:="outright.go:100",after:=#[{ on:=1,ground:=Ground.data }],guard:=none }) (v:=.bool bx) rfl (by kernel_rfl) (by kernel_rfl) (by kernel_rfl) (fun _ _ _ h=>h) (Or.inl ⟨by rfl,fun w9 hSw=>?_⟩) hHeld ?_
    ·(try dsimp only at hSw);go_simp
    simp only [Act.put,List.setIfInBounds_toArray,List.set_cons_zero,List.set_cons_succ]
    refine wpAnyH_take (i:=3) (oi:={ dst:=some 71,op:=Op.fieldAddr 27 (Operand.tmp 8) 1,type:=0,pos:="outright.go:100",after:=#[],guard:=none }) (v:=.pointer (some ⟨t5.heap.size+1,1,none⟩)) rfl (by kernel_rfl) (by kernel_rfl) (by kernel_rfl) (fun _ _ _ h=>h) (Or.inl ⟨by rfl,fun w9 hSw=>?_⟩) hHeld ?_
    ·(try dsimp only at hSw);go_simp
    simp only [Act.put,List.setIfInBounds_toArray,List.set_cons_zero,List.set_cons_succ]
    refine wpAnyH_take (i:=4) (oi:={ dst:=some 72,op:=Op.load 25 (Operand.tmp 71),type:=25,pos:="outright.go:100",after:=#[{ on:=3,ground:=Ground.data }],guard:=none }) (v:=.slice ax nx kx) rfl (by kernel_rfl) (by kernel_rfl) (by kernel_rfl) (fun _ _ _ h=>h) (Or.inl ⟨by rfl,fun w9 hSw=>?_⟩) hHeld ?_
    ·(try dsimp only at hSw);go_simp
    simp only [Act.put,List.setIfInBounds_toArray,List.set_cons_zero,List.set_cons_succ]
    refine wpAnyH_take (i:=7) (oi:={ dst:=some 75,op:=Op.load 32 (Operand.tmp 14),type:=32,pos:="outright.go:100",after:=#[],guard:=none }) (v:=.agg #[.bool bn,.slice an nn kn]) rfl (by kernel_rfl) (by kernel_rfl) (by kernel_rfl) (fun _ _ _ h=>h) (Or.inl ⟨by rfl,fun w9 hSw=>?_⟩) hHeld ?_
    ·(try dsimp only at hSw);go_simp
    simp only [Act.put,List.setIfInBounds_toArray,List.set_cons_zero,List.set_cons_succ]
    refine wpAnyH_take (i:=8) (oi:={ dst:=some 76,op:=Op.fieldAddr 27 (Operand.tmp 9) 0,type:=0,pos:="outright.go:100",after:=#[],guard:=none }) (v:=.pointer (some ⟨t5.heap.size+1+1,0,none⟩)) rfl (by kernel_rfl) (by kernel_rfl) (by kernel_rfl) (fun _ _ _ h=>h) (Or.inl ⟨by rfl,fun w9 hSw=>?_⟩) hHeld ?_
    ·(try dsimp only at hSw);go_simp
    simp only [Act.put,List.setIfInBounds_toArray,List.set_cons_zero,List.set_cons_succ]
    refine wpAnyH_take (i:=9) (oi:={ dst:=some 77,op:=Op.load 4 (Operand.tmp 76),type:=4,pos:="outright.go:100",after:=#[{ on:=8,ground:=Ground.data }],guard:=none }) (v:=.bool by') rfl (by kernel_rfl) (by kernel_rfl) (by kernel_rfl) (fun _ _ _ h=>h) (Or.inl ⟨by rfl,fun w9 hSw=>?_⟩) hHeld ?_
    ·(try dsimp only at hSw);go_simp
    simp only [Act.put,List.setIfInBounds_toArray,List.set_cons_zero,List.set_cons_succ]
    refine wpAnyH_take (i:=10) (oi:={ dst:=some 78,op:=Op.fieldAddr 27 (Operand.tmp 9) 1,type:=0,pos:="outright.go:100",after:=#[],guard:=none }) (v:=.pointer (some ⟨t5.heap.size+1+1,1,none⟩)) rfl (by kernel_rfl) (by kernel_rfl) (by kernel_rfl) (fun _ _ _ h=>h) (Or.inl ⟨by rfl,fun w9 hSw=>?_⟩) hHeld ?_
    ·(try dsimp only at hSw);go_simp
    simp only [Act.put,List.setIfInBounds_toArray,List.set_cons_zero,List.set_cons_succ]
    refine wpAnyH_take (i:=11) (oi:={ dst:=some 79,op:=Op.load 25 (Operand.tmp 78),type:=25,pos:="outright.go:100",after:=#[{ on:=10,ground:=Ground.data }],guard:=none }) (v:=.slice ay ny ky) rfl (by kernel_rfl) (by kernel_rfl) (by kernel_rfl) (fun _ _ _ h=>h) (Or.inl ⟨by rfl,fun w9 hSw=>?_⟩) hHeld ?_
    ·(try dsimp only at hSw);go_simp
    simp only [Act.put,List.setIfInBounds_toArray,List.set_cons_zero,List.set_cons_succ]
    refine pO u1 (aM x) (aM (az*x)) (aM y) (aM (bz*y)) (aM ((g:Nat):Int)) (aM.up _) (aM.up _) (aM.up _) (aM.up _) (aM.up _) 73 74 80 81 82 16 1 (fun c1 c2 c3 c4 c5 k1=>#[true,true,true,true,true,c1,c2,true,true,true,true,true,c3,c4,c5,k1,false]) (by kernel_rfl) (by kernel_rfl) (by simp only [Act.put,List.setIfInBounds_toArray,List.set_cons_zero,List.set_cons_succ]) ((Below.refl _ _).drew) ?_
    clear hHeld
    intro n
    simp only [Act.put,List.setIfInBounds_toArray,List.set_cons_zero,List.set_cons_succ]
    induction n with
    | zero=>
     intro c1 c2 c3 c4 c5 k1 x1 x2 x3 x4 x5 y1 W hf J
     obtain⟨rfl,rfl,rfl,rfl,rfl,rfl⟩:=ob c1 c2 c3 c4 c5 k1 hf
     clear hf
     have HU:=aa J.up
     obtain⟨b1',a1',n1',k1',rfl,Z1⟩:=J.q5 rfl
     obtain⟨g1,rfl,l1,e1⟩:=J.r1 rfl
     have hf1:=av e1
     obtain⟨m10,m11⟩:=duo e1
     have B1_1:=dl e1 Z1 l1
     have HB1:=aa (aC (u0:=.bool b1') (u1:=.slice a1' n1' k1') HU.out l1)
     have HFIN:=aa (And.intro B1_1 (HB1.out))
     clear J B1_1 Z1 e1
     refine wpAnyH_ready (rs:=[16]) (by kernel_rfl) (by simp) ?_
     refine AllReadyH.cons rfl (fun K hK=>?_) AllReadyH.nil
     go_simp
     refine hK.out _ _ (KS.out _ HB1.out) (fun _=>?_)
     clear hK K
     simp only [List.setIfInBounds_toArray,List.set_cons_zero,List.set_cons_succ]
     refine wpAnyH_done (by kernel_rfl) ?_ _
     go_wp2_with fail
     go_meet
     exact HFIN.out
    | succ n ih=>
     intro c1 c2 c3 c4 c5 k1 x1 x2 x3 x4 x5 y1 W hf J
     cases c1
     ·skip
      cases c2
      ·skip
       cases c3
       ·skip
        cases c4
        ·skip
         cases c5
         ·skip
          cases k1
          ·skip
           refine wpAnyH_ready (rs:=[5,15]) (by kernel_rfl) (by simp) ?_
           refine AllReadyH.cons rfl (fun K hK=>?_) ?_
           ·go_simp
            refine (IN1.out W J.up).mono ?_
            rintro e' W2 ⟨⟨p,q,r,s,rfl,hz⟩,hb⟩
            refine hK.out _ _ (KS.out _ (J.up.trans (hb.mono J.up.size))) (fun hS2=>?_)
            simp only [List.setIfInBounds_toArray,List.set_cons_zero,List.set_cons_succ]
            exact ih _ _ _ _ _ _ _ _ _ _ _ _ _ (by simp [be] at hf ⊢;omega) (J.call1 hb ⟨p,q,r,s,rfl,hz⟩)
           refine AllReadyH.cons rfl (fun K hK=>?_) ?_
           ·go_simp
            refine hK.out _ _ (KS.out _ (J.up.alloc J.up.size _)) (fun _=>?_)
            simp only [List.setIfInBounds_toArray,List.set_cons_zero,List.set_cons_succ]
            exact ih _ _ _ _ _ _ _ _ _ _ _ _ _ (by simp [be] at hf ⊢;omega) J.make1
           exact AllReadyH.nil
          ·skip
           refine wpAnyH_ready (rs:=[5]) (by kernel_rfl) (by simp) ?_
           refine AllReadyH.cons rfl (fun K hK=>?_) ?_
           ·go_simp
            refine (IN1.out W J.up).mono ?_
            rintro e' W2 ⟨⟨p,q,r,s,rfl,hz⟩,hb⟩
            refine hK.out _ _ (KS.out _ (J.up.trans (hb.mono J.up.size))) (fun hS2=>?_)
            simp only [List.setIfInBounds_toArray,List.set_cons_zero,List.set_cons_succ]
            exact ih _ _ _ _ _ _ _ _ _ _ _ _ _ (by simp [be] at hf ⊢;omega) (J.call1 hb ⟨p,q,r,s,rfl,hz⟩)
           exact AllReadyH.nil
         ·skip
          exact absurd (J.h5 rfl) (by decide)
        ·skip
         exact absurd (J.h4 rfl) (by decide)
       ·skip
        exact absurd (J.h3 rfl) (by decide)
      ·skip
       exact absurd (J.h2 rfl) (by decide)
     ·skip
      cases c2
      ·skip
       cases c3
       ·skip
        cases c4
        ·skip
         cases c5
         ·skip
          cases k1
          ·skip
           refine wpAnyH_ready (rs:=[6,15]) (by kernel_rfl) (by simp) ?_
           refine AllReadyH.cons rfl (fun K hK=>?_) ?_
           ·go_simp
            refine (IN2.out W x1 J.up (J.q1 rfl).zn).mono ?_
            rintro e' W2 ⟨⟨p,q,r,s,rfl,hz⟩,hb⟩
            refine hK.out _ _ (KS.out _ (J.up.trans (hb.mono J.up.size))) (fun hS2=>?_)
            simp only [List.setIfInBounds_toArray,List.set_cons_zero,List.set_cons_succ]
            exact ih _ _ _ _ _ _ _ _ _ _ _ _ _ (by simp [be] at hf ⊢;omega) (J.call2 hb ⟨p,q,r,s,rfl,hz⟩)
           refine AllReadyH.cons rfl (fun K hK=>?_) ?_
           ·go_simp
            refine hK.out _ _ (KS.out _ (J.up.alloc J.up.size _)) (fun _=>?_)
            simp only [List.setIfInBounds_toArray,List.set_cons_zero,List.set_cons_succ]
            exact ih _ _ _ _ _ _ _ _ _ _ _ _ _ (by simp [be] at hf ⊢;omega) J.make1
           exact AllReadyH.nil
          ·skip
           refine wpAnyH_ready (rs:=[6]) (by kernel_rfl) (by simp) ?_
           refine AllReadyH.cons rfl (fun K hK=>?_) ?_
           ·go_simp
            refine (IN2.out W x1 J.up (J.q1 rfl).zn).mono ?_
            rintro e' W2 ⟨⟨p,q,r,s,rfl,hz⟩,hb⟩
            refine hK.out _ _ (KS.out _ (J.up.trans (hb.mono J.up.size))) (fun hS2=>?_)
            simp only [List.setIfInBounds_toArray,List.set_cons_zero,List.set_cons_succ]
            exact ih _ _ _ _ _ _ _ _ _ _ _ _ _ (by simp [be] at hf ⊢;omega) (J.call2 hb ⟨p,q,r,s,rfl,hz⟩)
           exact AllReadyH.nil
         ·skip
          exact absurd (J.h5 rfl) (by decide)
        ·skip
         exact absurd (J.h4 rfl) (by decide)
       ·skip
        exact absurd (J.h3 rfl) (by decide)
      ·skip
       cases c3
       ·skip
        cases c4
        ·skip
         cases c5
         ·skip
          cases k1
          ·skip
           refine wpAnyH_ready (rs:=[12,15]) (by kernel_rfl) (by simp) ?_
           refine AllReadyH.cons rfl (fun K hK=>?_) ?_
           ·go_simp
            refine (IN3.out W J.up).mono ?_
            rintro e' W2 ⟨⟨p,q,r,s,rfl,hz⟩,hb⟩
            refine hK.out _ _ (KS.out _ (J.up.trans (hb.mono J.up.size))) (fun hS2=>?_)
            simp only [List.setIfInBounds_toArray,List.set_cons_zero,List.set_cons_succ]
            exact ih _ _ _ _ _ _ _ _ _ _ _ _ _ (by simp [be] at hf ⊢;omega) (J.call3 hb ⟨p,q,r,s,rfl,hz⟩)
           refine AllReadyH.cons rfl (fun K hK=>?_) ?_
           ·go_simp
            refine hK.out _ _ (KS.out _ (J.up.alloc J.up.size _)) (fun _=>?_)
            simp only [List.setIfInBounds_toArray,List.set_cons_zero,List.set_cons_succ]
            exact ih _ _ _ _ _ _ _ _ _ _ _ _ _ (by simp [be] at hf ⊢;omega) J.make1
           exact AllReadyH.nil
          ·skip
           refine wpAnyH_ready (rs:=[12]) (by kernel_rfl) (by simp) ?_
           refine AllReadyH.cons rfl (fun K hK=>?_) ?_
           ·go_simp
            refine (IN3.out W J.up).mono ?_
            rintro e' W2 ⟨⟨p,q,r,s,rfl,hz⟩,hb⟩
            refine hK.out _ _ (KS.out _ (J.up.trans (hb.mono J.up.size))) (fun hS2=>?_)
            simp only [List.setIfInBounds_toArray,List.set_cons_zero,List.set_cons_succ]
            exact ih _ _ _ _ _ _ _ _ _ _ _ _ _ (by simp [be] at hf ⊢;omega) (J.call3 hb ⟨p,q,r,s,rfl,hz⟩)
           exact AllReadyH.nil
         ·skip
          exact absurd (J.h5 rfl) (by decide)
        ·skip
         exact absurd (J.h4 rfl) (by decide)
       ·skip
        cases c4
        ·skip
         cases c5
         ·skip
          cases k1
          ·skip
           refine wpAnyH_ready (rs:=[13,15]) (by kernel_rfl) (by simp) ?_
           refine AllReadyH.cons rfl (fun K hK=>?_) ?_
           ·go_simp
            refine (IN4.out W x3 J.up (J.q3 rfl).zn).mono ?_
            rintro e' W2 ⟨⟨p,q,r,s,rfl,hz⟩,hb⟩
            refine hK.out _ _ (KS.out _ (J.up.trans (hb.mono J.up.size))) (fun hS2=>?_)
            simp only [List.setIfInBounds_toArray,List.set_cons_zero,List.set_cons_succ]
            exact ih _ _ _ _ _ _ _ _ _ _ _ _ _ (by simp [be] at hf ⊢;omega) (J.call4 hb ⟨p,q,r,s,rfl,hz⟩)
           refine AllReadyH.cons rfl (fun K hK=>?_) ?_
           ·go_simp
            refine hK.out _ _ (KS.out _ (J.up.alloc J.up.size _)) (fun _=>?_)
            simp only [List.setIfInBounds_toArray,List.set_cons_zero,List.set_cons_succ]
            exact ih _ _ _ _ _ _ _ _ _ _ _ _ _ (by simp [be] at hf ⊢;omega) J.make1
           exact AllReadyH.nil
          ·skip
           refine wpAnyH_ready (rs:=[13]) (by kernel_rfl) (by simp) ?_
           refine AllReadyH.cons rfl (fun K hK=>?_) ?_
           ·go_simp
            refine (IN4.out W x3 J.up (J.q3 rfl).zn).mono ?_
            rintro e' W2 ⟨⟨p,q,r,s,rfl,hz⟩,hb⟩
            refine hK.out _ _ (KS.out _ (J.up.trans (hb.mono J.up.size))) (fun hS2=>?_)
            simp only [List.setIfInBounds_toArray,List.set_cons_zero,List.set_cons_succ]
            exact ih _ _ _ _ _ _ _ _ _ _ _ _ _ (by simp [be] at hf ⊢;omega) (J.call4 hb ⟨p,q,r,s,rfl,hz⟩)
           exact AllReadyH.nil
         ·skip
          exact absurd (J.h5 rfl) (by decide)
        ·skip
         cases c5
         ·skip
          cases k1
          ·skip
           refine wpAnyH_ready (rs:=[14,15]) (by kernel_rfl) (by simp) ?_
           refine AllReadyH.cons rfl (fun K hK=>?_) ?_
           ·go_simp
            refine (IN5.out W x2 x4 (J.q2 rfl).zn (J.q4 rfl).zn).mono ?_
            rintro e' W2 ⟨⟨p,q,r,s,rfl,hz⟩,hb⟩
            refine hK.out _ _ (KS.out _ (J.up.trans (hb.mono J.up.size))) (fun hS2=>?_)
            simp only [List.setIfInBounds_toArray,List.set_cons_zero,List.set_cons_succ]
            exact ih _ _ _ _ _ _ _ _ _ _ _ _ _ (by simp [be] at hf ⊢;omega) (J.call5 hb ⟨p,q,r,s,rfl,hz⟩)
           refine AllReadyH.cons rfl (fun K hK=>?_) ?_
           ·go_simp
            refine hK.out _ _ (KS.out _ (J.up.alloc J.up.size _)) (fun _=>?_)
            simp only [List.setIfInBounds_toArray,List.set_cons_zero,List.set_cons_succ]
            exact ih _ _ _ _ _ _ _ _ _ _ _ _ _ (by simp [be] at hf ⊢;omega) J.make1
           exact AllReadyH.nil
          ·skip
           refine wpAnyH_ready (rs:=[14]) (by kernel_rfl) (by simp) ?_
           refine AllReadyH.cons rfl (fun K hK=>?_) ?_
           ·go_simp
            refine (IN5.out W x2 x4 (J.q2 rfl).zn (J.q4 rfl).zn).mono ?_
            rintro e' W2 ⟨⟨p,q,r,s,rfl,hz⟩,hb⟩
            refine hK.out _ _ (KS.out _ (J.up.trans (hb.mono J.up.size))) (fun hS2=>?_)
            simp only [List.setIfInBounds_toArray,List.set_cons_zero,List.set_cons_succ]
            exact ih _ _ _ _ _ _ _ _ _ _ _ _ _ (by simp [be] at hf ⊢;omega) (J.call5 hb ⟨p,q,r,s,rfl,hz⟩)
           exact AllReadyH.nil
         ·skip
          cases k1
          ·skip
           refine wpAnyH_ready (rs:=[15]) (by kernel_rfl) (by simp) ?_
           refine AllReadyH.cons rfl (fun K hK=>?_) ?_
           ·go_simp
            refine hK.out _ _ (KS.out _ (J.up.alloc J.up.size _)) (fun _=>?_)
            simp only [List.setIfInBounds_toArray,List.set_cons_zero,List.set_cons_succ]
            exact ih _ _ _ _ _ _ _ _ _ _ _ _ _ (by simp [be] at hf ⊢;omega) J.make1
           exact AllReadyH.nil
          ·skip
           exact absurd hf (by simp [be])
   case rest=>
    rename World=>u2
    obtain⟨hs,hb⟩:=hcut
    obtain⟨gs,bs,aS,ns,ks,rfl,ls,es,Zs⟩:=hs
    have ES:=aa es
    replace EM:=aa (ac hb EM.out)
    replace EN:=aa (ac hb EN.out)
    replace ED:=aa (ac hb ED.out)
    replace EI:=aa (ac hb EI.out)
    replace ZM:=aa (ZM.out.below hb)
    replace ZN:=aa (ZN.out.below hb)
    replace ZD:=aa (ZD.out.below hb)
    replace TB:=aa (TB.out.below hb)
    replace HWW:=aa (ak HWW.out hb)
    replace HI8:=aa (ak HI8.out hb)
    clear hb es ls HX HY
    have C:=gV (.agg #[.bool bs,.slice aS ns ks]) (.agg #[.bool false,.slice ad nd kd]) ((g:Nat):Int) ((g:Nat):Int) u2 Zs ZD.out
    rw [oX] at C
    clear Zs
    obtain⟨qa0,qb0⟩:=duo ES.out
    obtain⟨qa1,qb1⟩:=duo ED.out
    go_wp2_with fail
    refine C.mono ?_
    rintro e u3 ⟨rfl,hb3⟩
    clear qa0 qb0 qa1 qb1
    replace EM:=aa (ac hb3 EM.out)
    replace EN:=aa (ac hb3 EN.out)
    replace ED:=aa (ac hb3 ED.out)
    replace EI:=aa (ac hb3 EI.out)
    replace ZM:=aa (ZM.out.below hb3)
    replace ZN:=aa (ZN.out.below hb3)
    replace ZD:=aa (ZD.out.below hb3)
    replace TB:=aa (TB.out.below hb3)
    replace HWW:=aa (ak HWW.out hb3)
    replace HI8:=aa (ak HI8.out hb3)
    clear hb3 C ES
    obtain⟨qa2,qb2⟩:=duo ED.out
    have hg0:=Nat.eq_zero_or_pos g
    rcases hg0 with hg0|hg0
    ·obtain⟨e1,e2⟩:az=0∧bz=0:=by
      have h:=HNUM.out.gcd
      rw [hg0] at h
      have h1:=Nat.eq_zero_of_gcd_eq_zero_left h.symm
      have h2:=Nat.eq_zero_of_gcd_eq_zero_right h.symm
      exact⟨by omega,by omega⟩
     have sg0:((g:Nat):Int).sign=0:=by rw [hg0];rfl
     have sa0:az.sign=0:=by rw [e1];rfl
     have sb0:bz.sign=0:=by rw [e2];rfl
     have HSG:=aa (And.intro sg0 (And.intro sa0 sb0))
     clear e1 e2 sg0 sa0 sb0 hg0
     have C:=cF (.agg #[.bool false,.slice ad nd kd]) ((g:Nat):Int) u3 ZD.out
     rw [HSG.out.1] at C
     go_wp2_with fail
     refine C.mono ?_
     rintro e u4 ⟨rfl,hb4⟩
     clear qa2 qb2
     replace EM:=aa (ac hb4 EM.out)
     replace EN:=aa (ac hb4 EN.out)
     replace ED:=aa (ac hb4 ED.out)
     replace EI:=aa (ac hb4 EI.out)
     replace ZM:=aa (ZM.out.below hb4)
     replace ZN:=aa (ZN.out.below hb4)
     replace ZD:=aa (ZD.out.below hb4)
     replace TB:=aa (TB.out.below hb4)
     replace HWW:=aa (ak HWW.out hb4)
     replace HI8:=aa (ak HI8.out hb4)
     clear C hb4
     have C:=cF (.agg #[.bool bm,.slice am nm km]) az _ ZM.out
     rw [HSG.out.2.1] at C
     obtain⟨qa3,qb3⟩:=duo EM.out
     go_wp2_with fail
     refine C.mono ?_
     rintro e u5 ⟨rfl,hb5⟩
     clear qa3 qb3
     replace EM:=aa (ac hb5 EM.out)
     replace EN:=aa (ac hb5 EN.out)
     replace ED:=aa (ac hb5 ED.out)
     replace EI:=aa (ac hb5 EI.out)
     replace ZM:=aa (ZM.out.below hb5)
     replace ZN:=aa (ZN.out.below hb5)
     replace ZD:=aa (ZD.out.below hb5)
     replace TB:=aa (TB.out.below hb5)
     replace HWW:=aa (ak HWW.out hb5)
     replace HI8:=aa (ak HI8.out hb5)
     clear C hb5
     have C:=cF (.agg #[.bool bn,.slice an nn kn]) bz _ ZN.out
     rw [HSG.out.2.2] at C
     obtain⟨qa4,qb4⟩:=duo EN.out
     go_wp2_with fail
     refine C.mono ?_
     rintro e u6 ⟨rfl,hb6⟩
     clear qa4 qb4
     replace EM:=aa (ac hb6 EM.out)
     replace EN:=aa (ac hb6 EN.out)
     replace ED:=aa (ac hb6 ED.out)
     replace EI:=aa (ac hb6 EI.out)
     replace ZM:=aa (ZM.out.below hb6)
     replace ZN:=aa (ZN.out.below hb6)
     replace ZD:=aa (ZD.out.below hb6)
     replace TB:=aa (TB.out.below hb6)
     replace HWW:=aa (ak HWW.out hb6)
     replace HI8:=aa (ak HI8.out hb6)
     clear C hb6
     have C:=fd u6 TB.out
     go_wp2_with fail
     refine C.mono ?_
     rintro e t99 ⟨rfl,hb99⟩
     have HFIN:=aa (ak HWW.out hb99)
     clear C hb99
     go_wp2
     go_ret
     exact⟨rfl,HFIN.out⟩
    ·have sg1:((g:Nat):Int).sign=1:=Int.sign_eq_one_of_pos (by omega)
     have HG0:=aa hg0
     clear hg0
     have C:=cF (.agg #[.bool false,.slice ad nd kd]) ((g:Nat):Int) u3 ZD.out
     rw [sg1] at C
     clear sg1
     go_wp2_with fail
     refine C.mono ?_
     rintro e u4 ⟨rfl,hb4⟩
     clear qa2 qb2
     replace EM:=aa (ac hb4 EM.out)
     replace EN:=aa (ac hb4 EN.out)
     replace ED:=aa (ac hb4 ED.out)
     replace EI:=aa (ac hb4 EI.out)
     replace ZM:=aa (ZM.out.below hb4)
     replace ZN:=aa (ZN.out.below hb4)
     replace ZD:=aa (ZD.out.below hb4)
     replace TB:=aa (TB.out.below hb4)
     replace HWW:=aa (ak HWW.out hb4)
     replace HI8:=aa (ak HI8.out hb4)
     clear C hb4
     obtain⟨qa5,qb5⟩:=duo EM.out
     obtain⟨qa6,qb6⟩:=duo ED.out
     have C:=fE (.agg #[.bool bm,.slice am nm km]) (.agg #[.bool false,.slice ad nd kd]) az ((g:Nat):Int) u4 ZM.out ZD.out (by have:=HG0.out;omega) (by have:=HXY.out.1;omega) (by have:=HSM.out.2.2;rw [Int.natAbs_natCast];omega)
     rw [gG (by have:=HG0.out;omega) (im HNUM.out.gcd).1] at C
     go_wp2_with fail
     refine C.mono ?_
     rintro e va5 ⟨⟨b5a,a5a,n5a,k5a,b6a,a6a,n6a,k6a,rfl,Z5a,Z6a⟩,hb5⟩
     obtain⟨va6,hva6,hb6,hx6,hx7⟩:=bR va5 (.cells #[.bool false,.slice none 0 0] 32) (.cells #[.bool false,.slice none 0 0] 32)
     obtain⟨y0,y1⟩:=duo hx6
     obtain⟨y2,y3⟩:=duo hx7
     have zf1:=av hx6
     have zf2:=av hx7
     obtain⟨R1,R2,q4⟩:=dn (b1:=b5a) (u1:=.slice a5a n5a k5a) (b2:=b6a) (u2:=.slice a6a n6a k6a) hx6 hx7
     have Z7:=q4 _ _ (Z6a.below hb6)
     have hb7:Below va5.heap.size va5 ((((va6.setCell ⟨va5.heap.size,0,none⟩ (.bool b5a)).setCell ⟨va5.heap.size,1,none⟩ (.slice a5a n5a k5a)).setCell ⟨va5.heap.size+1,0,none⟩ (.bool b6a)).setCell ⟨va5.heap.size+1,1,none⟩ (.slice a6a n6a k6a)):=aC (aC hb6 (Nat.le_refl _)) (by omega)
     obtain⟨va7,hva7⟩:∃va7,(((va6.setCell ⟨va5.heap.size,0,none⟩ (.bool b5a)).setCell ⟨va5.heap.size,1,none⟩ (.slice a5a n5a k5a)).setCell ⟨va5.heap.size+1,0,none⟩ (.bool b6a)).setCell ⟨va5.heap.size+1,1,none⟩ (.slice a6a n6a k6a)=va7:=⟨_,rfl⟩
     rw [hva7] at R2 Z7 hb7
     have hb57:=ak hb5 hb7
     clear qa5 qb5 qa6 qb6
     replace EM:=aa (ac hb57 EM.out)
     replace EN:=aa (ac hb57 EN.out)
     replace ED:=aa (ac hb57 ED.out)
     replace EI:=aa (ac hb57 EI.out)
     replace ZM:=aa (ZM.out.below hb57)
     replace ZN:=aa (ZN.out.below hb57)
     replace ZD:=aa (ZD.out.below hb57)
     replace TB:=aa (TB.out.below hb57)
     replace HWW:=aa (ak HWW.out hb57)
     replace HI8:=aa (ak HI8.out hb57)
     have ER:=aa R2
     have ZR:=aa Z7
     clear C hb5 hb6 hb7 hb57 hx6 hx7 R1 R2 q4 Z7 Z5a Z6a
     obtain⟨qa7,qb7⟩:=duo EN.out
     obtain⟨qa8,qb8⟩:=duo ED.out
     have C:=fE (.agg #[.bool bn,.slice an nn kn]) (.agg #[.bool false,.slice ad nd kd]) bz ((g:Nat):Int) va7 ZN.out ZD.out (by have:=HG0.out;omega) (by have:=HXY.out.2;omega) (by have:=HSM.out.2.2;rw [Int.natAbs_natCast];omega)
     rw [gG (by have:=HG0.out;omega) (im HNUM.out.gcd).2] at C
     go_wp2_with fail
     refine C.mono ?_
     rintro e vb5 ⟨⟨b5b,a5b,n5b,k5b,b6b,a6b,n6b,k6b,rfl,Z5b,Z6b⟩,hb5⟩
     obtain⟨vb6,hvb6,hb6,hx6,hx7⟩:=bR vb5 (.cells #[.bool false,.slice none 0 0] 32) (.cells #[.bool false,.slice none 0 0] 32)
     obtain⟨y0,y1⟩:=duo hx6
     obtain⟨y2,y3⟩:=duo hx7
     have zf1:=av hx6
     have zf2:=av hx7
     obtain⟨R1,R2,q4⟩:=dn (b1:=b5b) (u1:=.slice a5b n5b k5b) (b2:=b6b) (u2:=.slice a6b n6b k6b) hx6 hx7
     have Z7:=q4 _ _ (Z6b.below hb6)
     have hb7:Below vb5.heap.size vb5 ((((vb6.setCell ⟨vb5.heap.size,0,none⟩ (.bool b5b)).setCell ⟨vb5.heap.size,1,none⟩ (.slice a5b n5b k5b)).setCell ⟨vb5.heap.size+1,0,none⟩ (.bool b6b)).setCell ⟨vb5.heap.size+1,1,none⟩ (.slice a6b n6b k6b)):=aC (aC hb6 (Nat.le_refl _)) (by omega)
     obtain⟨vb7,hvb7⟩:∃vb7,(((vb6.setCell ⟨vb5.heap.size,0,none⟩ (.bool b5b)).setCell ⟨vb5.heap.size,1,none⟩ (.slice a5b n5b k5b)).setCell ⟨vb5.heap.size+1,0,none⟩ (.bool b6b)).setCell ⟨vb5.heap.size+1,1,none⟩ (.slice a6b n6b k6b)=vb7:=⟨_,rfl⟩
     rw [hvb7] at R2 Z7 hb7
     have hb57:=ak hb5 hb7
     clear qa7 qb7 qa8 qb8
     replace EM:=aa (ac hb57 EM.out)
     replace EN:=aa (ac hb57 EN.out)
     replace ED:=aa (ac hb57 ED.out)
     replace EI:=aa (ac hb57 EI.out)
     replace ER:=aa (ac hb57 ER.out)
     replace ZM:=aa (ZM.out.below hb57)
     replace ZN:=aa (ZN.out.below hb57)
     replace ZD:=aa (ZD.out.below hb57)
     replace TB:=aa (TB.out.below hb57)
     replace ZR:=aa (ZR.out.below hb57)
     replace HWW:=aa (ak HWW.out hb57)
     replace HI8:=aa (ak HI8.out hb57)
     have ES:=aa R2
     have ZS:=aa Z7
     clear C hb5 hb6 hb7 hb57 hx6 hx7 R1 R2 q4 Z7 Z5b Z6b
     have C:=cF (.agg #[.bool b6a,.slice a6a n6a k6a]) 0 _ ZR.out
     rw [show (0:Int).sign=0 from rfl] at C
     obtain⟨qa9,qb9⟩:=duo ER.out
     go_wp2_with fail
     refine C.mono ?_
     rintro e u8 ⟨rfl,hb⟩
     clear hvb6 hvb7 y0 y1 y2 y3 zf1 zf2 qa9 qb9
     replace EM:=aa (ac hb EM.out)
     replace EN:=aa (ac hb EN.out)
     replace ED:=aa (ac hb ED.out)
     replace EI:=aa (ac hb EI.out)
     replace ER:=aa (ac hb ER.out)
     replace ES:=aa (ac hb ES.out)
     replace ZM:=aa (ZM.out.below hb)
     replace ZN:=aa (ZN.out.below hb)
     replace ZD:=aa (ZD.out.below hb)
     replace TB:=aa (TB.out.below hb)
     replace ZR:=aa (ZR.out.below hb)
     replace ZS:=aa (ZS.out.below hb)
     replace HWW:=aa (ak HWW.out hb)
     replace HI8:=aa (ak HI8.out hb)
     clear C hb
     have C:=cF (.agg #[.bool b6b,.slice a6b n6b k6b]) 0 _ ZS.out
     rw [show (0:Int).sign=0 from rfl] at C
     obtain⟨qa10,qb10⟩:=duo ES.out
     go_wp2_with fail
     refine C.mono ?_
     rintro e u9 ⟨rfl,hb⟩
     clear qa10 qb10
     replace EM:=aa (ac hb EM.out)
     replace EN:=aa (ac hb EN.out)
     replace ED:=aa (ac hb ED.out)
     replace EI:=aa (ac hb EI.out)
     replace ER:=aa (ac hb ER.out)
     replace ES:=aa (ac hb ES.out)
     replace ZM:=aa (ZM.out.below hb)
     replace ZN:=aa (ZN.out.below hb)
     replace ZD:=aa (ZD.out.below hb)
     replace TB:=aa (TB.out.below hb)
     replace ZR:=aa (ZR.out.below hb)
     replace ZS:=aa (ZS.out.below hb)
     replace HWW:=aa (ak HWW.out hb)
     replace HI8:=aa (ak HI8.out hb)
     clear C hb
     clear ER ES ZR ZS
     rcases HO.out with ⟨e1,e2,_,_,_,_⟩|⟨e1,e2,e3,_,_,_,_⟩|⟨e1,e2,e3,x',hz,hxl,q,hq⟩
     ·have sb0:bz.sign=0:=by rw [e1];rfl
      subst e2
      clear e1 HO
      have C:=cF (.agg #[.bool bn,.slice an nn kn]) bz _ ZN.out
      rw [sb0] at C
      obtain⟨qa11,qb11⟩:=duo EN.out
      go_wp2_with fail
      refine C.mono ?_
      rintro e ua ⟨rfl,hb⟩
      clear qa11 qb11
      replace EM:=aa (ac hb EM.out)
      replace EN:=aa (ac hb EN.out)
      replace ED:=aa (ac hb ED.out)
      replace EI:=aa (ac hb EI.out)
      replace ZM:=aa (ZM.out.below hb)
      replace ZN:=aa (ZN.out.below hb)
      replace ZD:=aa (ZD.out.below hb)
      replace TB:=aa (TB.out.below hb)
      replace HWW:=aa (ak HWW.out hb)
      replace HI8:=aa (ak HI8.out hb)
      clear C hb
      clear sb0
      have C:=dZ 30 ua
      go_wp2_with fail
      refine C.mono ?_
      rintro e wn ⟨rfl,hw⟩;rw [hw];clear hw wn C
      have C:=fd ua TB.out
      go_wp2_with fail
      refine C.mono ?_
      rintro e t99 ⟨rfl,hb99⟩
      have HFIN:=aa (ak HWW.out hb99)
      clear C hb99
      go_wp2
      go_ret
      exact⟨rfl,HFIN.out⟩
     ·obtain⟨sb,hsb,hs1⟩:∃sb,bz.sign=sb∧sb≠0:=⟨_,rfl,fun e=>e1 (Int.sign_eq_zero_iff_zero.1 e)⟩
      have hs2:(sb == 0)=false:=by rw [beq_eq_false_iff_ne];exact hs1
      have hlen:1<blen g:=by
       refine Nat.lt_of_not_le fun h=>?_
       have h1:=(blen_le_iff g 1).1 h
       have h2:=HG0.out
       rw [←HNUM.out.gcd] at e2
       omega
      subst e3
      clear e1 e2 HO
      have C:=cF (.agg #[.bool bn,.slice an nn kn]) bz _ ZN.out
      rw [hsb] at C
      obtain⟨qa12,qb12⟩:=duo EN.out
      go_wp2_with fail
      refine C.mono ?_
      rintro e ua ⟨rfl,hb⟩
      clear qa12 qb12
      replace EM:=aa (ac hb EM.out)
      replace EN:=aa (ac hb EN.out)
      replace ED:=aa (ac hb ED.out)
      replace EI:=aa (ac hb EI.out)
      replace ZM:=aa (ZM.out.below hb)
      replace ZN:=aa (ZN.out.below hb)
      replace ZD:=aa (ZD.out.below hb)
      replace TB:=aa (TB.out.below hb)
      replace HWW:=aa (ak HWW.out hb)
      replace HI8:=aa (ak HI8.out hb)
      clear C hb
      have C:=jp _ _ ua (fG ZD.out).2
      rw [Int.natAbs_natCast] at C
      clear hsb
      obtain⟨lg,hlg⟩:∃lg,blen g=lg:=⟨_,rfl⟩
      rw [hlg] at C hlen
      have i1:(1:Int)<(lg:Int):=by omega
      clear hlg
      obtain⟨qa13,qb13⟩:=duo ED.out
      go_wp2_with fail
      refine C.mono ?_
      rintro e wn ⟨rfl,hw⟩;rw [hw];clear hw wn C
      clear qa13 qb13
      have C:=dZ 61 ua
      go_wp2_with fail
      refine C.mono ?_
      rintro e wn ⟨rfl,hw⟩;rw [hw];clear hw wn C
      have C:=fd ua TB.out
      go_wp2_with fail
      refine C.mono ?_
      rintro e t99 ⟨rfl,hb99⟩
      have HFIN:=aa (ak HWW.out hb99)
      clear C hb99
      go_wp2
      go_ret
      exact⟨rfl,HFIN.out⟩
     ·obtain⟨sb,hsb,hs1⟩:∃sb,bz.sign=sb∧sb≠0:=⟨_,rfl,fun e=>e1 (Int.sign_eq_zero_iff_zero.1 e)⟩
      have hs2:(sb == 0)=false:=by rw [beq_eq_false_iff_ne];exact hs1
      have hlen:blen g≤1:=(blen_le_iff g 1).2 (by rw [HNUM.out.gcd,e2];decide)
      have hx4:blen ((x':Nat):Int).natAbs≤67108864:=by
       rw [Int.natAbs_natCast]
       exact Nat.le_trans (cJ (Nat.le_of_lt hxl)) HXY.out.2
      obtain rfl:bi=false:=by
       obtain⟨_,_,h,_⟩:=hz
       rw [h]
       exact decide_eq_false (by omega)
      obtain⟨ri,Ai,ei,li,_,_⟩:=hz.getB hx4
      have HXI:=aa (And.intro Ai (And.intro ei (And.intro li (And.intro hx4 (And.intro hxl (And.intro e1 hq))))))
      subst e3
      clear e1 e2 HO hz Ai ei li hx4 hxl hq
      have C:=cF (.agg #[.bool bn,.slice an nn kn]) bz _ ZN.out
      rw [hsb] at C
      obtain⟨qa14,qb14⟩:=duo EN.out
      go_wp2_with fail
      refine C.mono ?_
      rintro e ua ⟨rfl,hb⟩
      clear qa14 qb14
      replace EM:=aa (ac hb EM.out)
      replace EN:=aa (ac hb EN.out)
      replace ED:=aa (ac hb ED.out)
      replace EI:=aa (ac hb EI.out)
      replace ZM:=aa (ZM.out.below hb)
      replace ZN:=aa (ZN.out.below hb)
      replace ZD:=aa (ZD.out.below hb)
      replace TB:=aa (TB.out.below hb)
      replace HWW:=aa (ak HWW.out hb)
      replace HI8:=aa (ak HI8.out hb)
      clear C hb
      have C:=jp _ _ ua (fG ZD.out).2
      rw [Int.natAbs_natCast] at C
      clear hsb
      obtain⟨lg,hlg⟩:∃lg,blen g=lg:=⟨_,rfl⟩
      rw [hlg] at C hlen
      have i1:¬(1:Int)<(lg:Int):=by omega
      clear hlg
      obtain⟨qa15,qb15⟩:=duo ED.out
      go_wp2_with fail
      refine C.mono ?_
      rintro e wn ⟨rfl,hw⟩;rw [hw];clear hw wn C
      clear qa15 qb15
      obtain⟨F,hF⟩:∃F,flq (az*((x':Nat):Int) - 1) bz=F:=⟨_,rfl⟩
      have HF:=aa hF
      clear hF
      go_upto_region 18 with fail
      go_cut [21,22] from 140 to 154 (fun s t wx=>cz wx s F ua.heap.size∧cz wx t 0 ua.heap.size∧Below ua.heap.size ua wx)
      case first=>
       have KS:=aa (fun (W:World) (hg:Below ua.heap.size ua W)=>show W.cell? ⟨gm,0,none⟩=some (.bool bm)∧W.cell? ⟨gm,1,none⟩=some (.slice am nm km)∧W.cell? ⟨gn,0,none⟩=some (.bool bn)∧W.cell? ⟨gn,1,none⟩=some (.slice an nn kn)∧W.cell? ⟨t8.heap.size,0,none⟩=some (.bool false)∧W.cell? ⟨t8.heap.size,1,none⟩=some (.slice ai ni ki) from ⟨(duo (ac hg EM.out)).1,(duo (ac hg EM.out)).2,(duo (ac hg EN.out)).1,(duo (ac hg EN.out)).2,(duo (ac hg EI.out)).1,(duo (ac hg EI.out)).2⟩)
       have HBL:=aa (fZ HXY.out.1 HXI.out.2.2.2.1)
       have IN1:=aa (fun (W:World) (hg:Below ua.heap.size ua W)=>show Calls Tryz.prog 21 #[.bool false,.slice ai ni ki] W (bj W ((x':Nat):Int)) by
        have h:=dv false _ ri W (HXI.out.1.below (ak HI8.out hg)) (by have:=HXI.out.2.2.1;omega)
        rw [HXI.out.2.1] at h
        exact h)
       have IN2:=aa (fun (W:World) (v:Value) (hg:Below ua.heap.size ua W) (h:Zn W v ((x':Nat):Int))=>dc (.agg #[.bool bm,.slice am nm km]) v az ((x':Nat):Int) W (ZM.out.below hg) h (by have:=HXY.out.1;have:=HXI.out.2.2.2.1;omega))
       have IN3:=aa (fun (W:World)=>fi 1 W (by omega) (by omega))
       have IN4:=aa (fun (W:World) (v u:Value) (h1:Zn W v (az*((x':Nat):Int))) (h2:Zn W u 1)=>dD v u (az*((x':Nat):Int)) 1 W h1 h2 (by have:=HBL.out;omega) (by have h:blen (1:Int).natAbs≤1:=(blen_le_iff _ _).2 (by decide);omega))
       have IN5:=aa (fun (W:World) (v:Value) (hg:Below ua.heap.size ua W) (h:Zn W v (az*((x':Nat):Int) - 1))=>show Calls Tryz.prog 25 #[v,.agg #[.bool bn,.slice an nn kn]] W (ic W F 0) by
        have hb1:=pn HBL.out
        have h:=fE v (.agg #[.bool bn,.slice an nn kn]) (az*((x':Nat):Int) - 1) bz W h (ZN.out.below hg) HXI.out.2.2.2.2.2.1 (by omega) (by have:=HXY.out.2;omega)
        rw [gG HXI.out.2.2.2.2.2.1 ⟨q,by rw [HXI.out.2.2.2.2.2.2];rw [Int.mul_comm];omega⟩,HF.out] at h
        exact h)
       refine wp_region_held_drew (S:=fun w'=>w'.cell? ⟨gm,0,none⟩=some (.bool bm)∧w'.cell? ⟨gm,1,none⟩=some (.slice am nm km)∧w'.cell? ⟨gn,0,none⟩=some (.bool bn)∧w'.cell? ⟨gn,1,none⟩=some (.slice an nn kn)∧w'.cell? ⟨t8.heap.size,0,none⟩=some (.bool false)∧w'.cell? ⟨t8.heap.size,1,none⟩=some (.slice ai ni ki)) (by kernel_rfl) (KS.out _ ((Below.refl _ _).drew)) (fun hHeld=>?_)
       refine wpAnyH_take (i:=0) (oi:={ dst:=some 141,op:=Op.load 32 (Operand.tmp 13),type:=32,pos:="outright.go:115",after:=#[],guard:=none }) (v:=.agg #[.bool bm,.slice am nm km]) rfl (by kernel_rfl) (by kernel_rfl) (by kernel_rfl) (fun _ _ _ h=>h) (Or.inl ⟨by rfl,fun w9 hSw=>?_⟩) hHeld ?_
       ·(try dsimp only at hSw);go_simp
       simp only [Act.put,List.setIfInBounds_toArray,List.set_cons_zero,List.set_cons_succ]
       refine wpAnyH_take (i:=1) (oi:={ dst:=some 142,op:=Op.fieldAddr 27 (Operand.tmp 11) 0,type:=0,pos:="outright.go:115",after:=#[],guard:=none }) (v:=.pointer (some ⟨t8.heap.size,0,none⟩)) rfl (by kernel_rfl) (by kernel_rfl) (by kernel_rfl) (fun _ _ _ h=>h) (Or.inl ⟨by rfl,fun w9 hSw=>?_⟩) hHeld ?_
       ·(try dsimp only at hSw);go_simp
       simp only [Act.put,List.setIfInBounds_toArray,List.set_cons_zero,List.set_cons_succ]
       refine wpAnyH_take (i:=2) (oi:={ dst:=some 143,op:=Op.load 4 (Operand.tmp 142),type:=4,pos:="outright.go:115",after:=#[{ on:=1,ground:=Ground.data }],guard:=none }) (v:=.bool false) rfl (by kernel_rfl) (by kernel_rfl) (by kernel_rfl) (fun _ _ _ h=>h) (Or.inl ⟨by rfl,fun w9 hSw=>?_⟩) hHeld ?_
       ·(try dsimp only at hSw);go_simp
       simp only [Act.put,List.setIfInBounds_toArray,List.set_cons_zero,List.set_cons_succ]
       refine wpAnyH_take (i:=3) (oi:={ dst:=some 144,op:=Op.fieldAddr 27 (Operand.tmp 11) 1,type:=0,pos:="outright.go:115",after:=#[],guard:=none }) (v:=.pointer (some ⟨t8.heap.size,1,none⟩)) rfl (by kernel_rfl) (by kernel_rfl) (by kernel_rfl) (fun _ _ _ h=>h) (Or.inl ⟨by rfl,fun w9 hSw=>?_⟩) hHeld ?_
       ·(try dsimp only at hSw);go_simp
       simp only [Act.put,List.setIfInBounds_toArray,List.set_cons_zero,List.set_cons_succ]
       refine wpAnyH_take (i:=4) (oi:={ dst:=some 145,op:=Op.load 25 (Operand.tmp 144),type:=25,pos:="outright.go:115",after:=#[{ on:=3,ground:=Ground.data }],guard:=none }) (v:=.slice ai ni ki) rfl (by kernel_rfl) (by kernel_rfl) (by kernel_rfl) (fun _ _ _ h=>h) (Or.inl ⟨by rfl,fun w9 hSw=>?_⟩) hHeld ?_
       ·(try dsimp only at hSw);go_simp
       simp only [Act.put,List.setIfInBounds_toArray,List.set_cons_zero,List.set_cons_succ]
       refine wpAnyH_take (i:=9) (oi:={ dst:=some 150,op:=Op.load 32 (Operand.tmp 14),type:=32,pos:="outright.go:115",after:=#[],guard:=none }) (v:=.agg #[.bool bn,.slice an nn kn]) rfl (by kernel_rfl) (by kernel_rfl) (by kernel_rfl) (fun _ _ _ h=>h) (Or.inl ⟨by rfl,fun w9 hSw=>?_⟩) hHeld ?_
       ·(try dsimp only at hSw);go_simp
       simp only [Act.put,List.setIfInBounds_toArray,List.set_cons_zero,List.set_cons_succ]
       refine oa ua (aM ((x':Nat):Int)) (aM (az*((x':Nat):Int))) (aM 1) (aM (az*((x':Nat):Int) - 1)) (dK F 0) (aM.up _) (aM.up _) (aM.up _) (aM.up _) (dK.up _ _) 146 147 148 149 151 140 152 153 21 22 2 (fun c1 c2 c3 c4 c5 k1 k2=>#[true,true,true,true,true,c1,c2,c3,c4,true,c5,c5,c5,c5,k1,k2,false,false]) (by kernel_rfl) (by kernel_rfl) (by simp only [Act.put,List.setIfInBounds_toArray,List.set_cons_zero,List.set_cons_succ]) ((Below.refl _ _).drew) ?_
       clear hHeld
       intro n
       simp only [Act.put,List.setIfInBounds_toArray,List.set_cons_zero,List.set_cons_succ]
       induction n with
       | zero=>
        intro c1 c2 c3 c4 c5 k1 k2 x1 x2 x3 x4 x5 e1 e2 e3 y1 y2 W hf J
        obtain⟨rfl,rfl,rfl,rfl,rfl,rfl,rfl⟩:=nk c1 c2 c3 c4 c5 k1 k2 hf
        clear hf
        have HU:=aa J.up
        obtain⟨rfl,rfl,⟨b1',a1',n1',k1',rfl,Z1⟩,⟨b2',a2',n2',k2',rfl,Z2⟩⟩:=J.q5 rfl
        obtain⟨g1,rfl,l1,e1⟩:=J.r1 rfl
        obtain⟨g2,rfl,l2,e2⟩:=J.r2 rfl
        have D12:=J.d12 rfl rfl
        have G12:g1≠g2:=fun e=>D12 (by rw [e])
        have hf1:=av e1
        have hf2:=av e2
        obtain⟨m10,m11⟩:=duo e1
        obtain⟨m20,m21⟩:=duo e2
        have B1_1:=dl e1 Z1 l1
        have E2_1:=bA (u0:=.bool b1') (u1:=.slice a1' n1' k1') e2 (Ne.symm G12)
        have Z2_1:=Z2.duo (p1:=b1') (r1:=.slice a1' n1' k1') e1
        have HB1:=aa (aC (u0:=.bool b1') (u1:=.slice a1' n1' k1') HU.out l1)
        have B1_2:=B1_1.other (b':=b2') (r':=.slice a2' n2' k2') E2_1 (fun e=>D12 (by rw [e]))
        have B2_2:=dl E2_1 Z2_1 l2
        have HB2:=aa (aC (u0:=.bool b2') (u1:=.slice a2' n2' k2') HB1.out l2)
        have HFIN:=aa (And.intro B1_2 ( And.intro B2_2 (HB2.out)))
        clear J B1_1 B1_2 B2_2 E2_1 Z2_1 Z1 Z2 e1 e2 D12
        refine wpAnyH_ready (rs:=[16]) (by kernel_rfl) (by simp) ?_
        refine AllReadyH.cons rfl (fun K hK=>?_) AllReadyH.nil
        go_simp
        refine hK.out _ _ (KS.out _ HB1.out) (fun _=>?_)
        clear hK K
        simp only [List.setIfInBounds_toArray,List.set_cons_zero,List.set_cons_succ]
        refine wpAnyH_ready (rs:=[17]) (by kernel_rfl) (by simp) ?_
        refine AllReadyH.cons rfl (fun K hK=>?_) AllReadyH.nil
        go_simp
        refine hK.out _ _ (KS.out _ HB2.out) (fun _=>?_)
        clear hK K
        simp only [List.setIfInBounds_toArray,List.set_cons_zero,List.set_cons_succ]
        refine wpAnyH_done (by kernel_rfl) ?_ _
        go_wp2_with fail
        go_meet
        exact HFIN.out
       | succ n ih=>
        intro c1 c2 c3 c4 c5 k1 k2 x1 x2 x3 x4 x5 e1 e2 e3 y1 y2 W hf J
        cases c1
        ·skip
         cases c2
         ·skip
          cases c3
          ·skip
           cases c4
           ·skip
            cases c5
            ·skip
             cases k1
             ·skip
              cases k2
              ·skip
               refine wpAnyH_ready (rs:=[5,14,15]) (by kernel_rfl) (by simp) ?_
               refine AllReadyH.cons rfl (fun K hK=>?_) ?_
               ·go_simp
                refine (IN1.out W J.up).mono ?_
                rintro e' W2 ⟨⟨p,q9,r,s,rfl,hz⟩,hb⟩
                refine hK.out _ _ (KS.out _ (J.up.trans (hb.mono J.up.size))) (fun hS2=>?_)
                simp only [List.setIfInBounds_toArray,List.set_cons_zero,List.set_cons_succ]
                exact ih _ _ _ _ _ _ _ _ _ _ _ _ _ _ _ _ _ _ (by simp [aE] at hf ⊢;omega) (J.call1 hb ⟨p,q9,r,s,rfl,hz⟩)
               refine AllReadyH.cons rfl (fun K hK=>?_) ?_
               ·go_simp
                refine hK.out _ _ (KS.out _ (J.up.alloc J.up.size _)) (fun _=>?_)
                simp only [List.setIfInBounds_toArray,List.set_cons_zero,List.set_cons_succ]
                exact ih _ _ _ _ _ _ _ _ _ _ _ _ _ _ _ _ _ _ (by simp [aE] at hf ⊢;omega) J.make1
               refine AllReadyH.cons rfl (fun K hK=>?_) ?_
               ·go_simp
                refine hK.out _ _ (KS.out _ (J.up.alloc J.up.size _)) (fun _=>?_)
                simp only [List.setIfInBounds_toArray,List.set_cons_zero,List.set_cons_succ]
                exact ih _ _ _ _ _ _ _ _ _ _ _ _ _ _ _ _ _ _ (by simp [aE] at hf ⊢;omega) J.make2
               exact AllReadyH.nil
              ·skip
               refine wpAnyH_ready (rs:=[5,14]) (by kernel_rfl) (by simp) ?_
               refine AllReadyH.cons rfl (fun K hK=>?_) ?_
               ·go_simp
                refine (IN1.out W J.up).mono ?_
                rintro e' W2 ⟨⟨p,q9,r,s,rfl,hz⟩,hb⟩
                refine hK.out _ _ (KS.out _ (J.up.trans (hb.mono J.up.size))) (fun hS2=>?_)
                simp only [List.setIfInBounds_toArray,List.set_cons_zero,List.set_cons_succ]
                exact ih _ _ _ _ _ _ _ _ _ _ _ _ _ _ _ _ _ _ (by simp [aE] at hf ⊢;omega) (J.call1 hb ⟨p,q9,r,s,rfl,hz⟩)
               refine AllReadyH.cons rfl (fun K hK=>?_) ?_
               ·go_simp
                refine hK.out _ _ (KS.out _ (J.up.alloc J.up.size _)) (fun _=>?_)
                simp only [List.setIfInBounds_toArray,List.set_cons_zero,List.set_cons_succ]
                exact ih _ _ _ _ _ _ _ _ _ _ _ _ _ _ _ _ _ _ (by simp [aE] at hf ⊢;omega) J.make1
               exact AllReadyH.nil
             ·skip
              cases k2
              ·skip
               refine wpAnyH_ready (rs:=[5,15]) (by kernel_rfl) (by simp) ?_
               refine AllReadyH.cons rfl (fun K hK=>?_) ?_
               ·go_simp
                refine (IN1.out W J.up).mono ?_
                rintro e' W2 ⟨⟨p,q9,r,s,rfl,hz⟩,hb⟩
                refine hK.out _ _ (KS.out _ (J.up.trans (hb.mono J.up.size))) (fun hS2=>?_)
                simp only [List.setIfInBounds_toArray,List.set_cons_zero,List.set_cons_succ]
                exact ih _ _ _ _ _ _ _ _ _ _ _ _ _ _ _ _ _ _ (by simp [aE] at hf ⊢;omega) (J.call1 hb ⟨p,q9,r,s,rfl,hz⟩)
               refine AllReadyH.cons rfl (fun K hK=>?_) ?_
               ·go_simp
                refine hK.out _ _ (KS.out _ (J.up.alloc J.up.size _)) (fun _=>?_)
                simp only [List.setIfInBounds_toArray,List.set_cons_zero,List.set_cons_succ]
                exact ih _ _ _ _ _ _ _ _ _ _ _ _ _ _ _ _ _ _ (by simp [aE] at hf ⊢;omega) J.make2
               exact AllReadyH.nil
              ·skip
               refine wpAnyH_ready (rs:=[5]) (by kernel_rfl) (by simp) ?_
               refine AllReadyH.cons rfl (fun K hK=>?_) ?_
               ·go_simp
                refine (IN1.out W J.up).mono ?_
                rintro e' W2 ⟨⟨p,q9,r,s,rfl,hz⟩,hb⟩
                refine hK.out _ _ (KS.out _ (J.up.trans (hb.mono J.up.size))) (fun hS2=>?_)
                simp only [List.setIfInBounds_toArray,List.set_cons_zero,List.set_cons_succ]
                exact ih _ _ _ _ _ _ _ _ _ _ _ _ _ _ _ _ _ _ (by simp [aE] at hf ⊢;omega) (J.call1 hb ⟨p,q9,r,s,rfl,hz⟩)
               exact AllReadyH.nil
            ·skip
             exact absurd (J.h5 rfl) (by decide)
           ·skip
            exact absurd (J.h4 rfl) (by decide)
          ·skip
           exact absurd (J.h3 rfl) (by decide)
         ·skip
          exact absurd (J.h2 rfl) (by decide)
        ·skip
         cases c2
         ·skip
          cases c3
          ·skip
           cases c4
           ·skip
            cases c5
            ·skip
             cases k1
             ·skip
              cases k2
              ·skip
               refine wpAnyH_ready (rs:=[6,14,15]) (by kernel_rfl) (by simp) ?_
               refine AllReadyH.cons rfl (fun K hK=>?_) ?_
               ·go_simp
                refine (IN2.out W x1 J.up (J.q1 rfl).zn).mono ?_
                rintro e' W2 ⟨⟨p,q9,r,s,rfl,hz⟩,hb⟩
                refine hK.out _ _ (KS.out _ (J.up.trans (hb.mono J.up.size))) (fun hS2=>?_)
                simp only [List.setIfInBounds_toArray,List.set_cons_zero,List.set_cons_succ]
                exact ih _ _ _ _ _ _ _ _ _ _ _ _ _ _ _ _ _ _ (by simp [aE] at hf ⊢;omega) (J.call2 hb ⟨p,q9,r,s,rfl,hz⟩)
               refine AllReadyH.cons rfl (fun K hK=>?_) ?_
               ·go_simp
                refine hK.out _ _ (KS.out _ (J.up.alloc J.up.size _)) (fun _=>?_)
                simp only [List.setIfInBounds_toArray,List.set_cons_zero,List.set_cons_succ]
                exact ih _ _ _ _ _ _ _ _ _ _ _ _ _ _ _ _ _ _ (by simp [aE] at hf ⊢;omega) J.make1
               refine AllReadyH.cons rfl (fun K hK=>?_) ?_
               ·go_simp
                refine hK.out _ _ (KS.out _ (J.up.alloc J.up.size _)) (fun _=>?_)
                simp only [List.setIfInBounds_toArray,List.set_cons_zero,List.set_cons_succ]
                exact ih _ _ _ _ _ _ _ _ _ _ _ _ _ _ _ _ _ _ (by simp [aE] at hf ⊢;omega) J.make2
               exact AllReadyH.nil
              ·skip
               refine wpAnyH_ready (rs:=[6,14]) (by kernel_rfl) (by simp) ?_
               refine AllReadyH.cons rfl (fun K hK=>?_) ?_
               ·go_simp
                refine (IN2.out W x1 J.up (J.q1 rfl).zn).mono ?_
                rintro e' W2 ⟨⟨p,q9,r,s,rfl,hz⟩,hb⟩
                refine hK.out _ _ (KS.out _ (J.up.trans (hb.mono J.up.size))) (fun hS2=>?_)
                simp only [List.setIfInBounds_toArray,List.set_cons_zero,List.set_cons_succ]
                exact ih _ _ _ _ _ _ _ _ _ _ _ _ _ _ _ _ _ _ (by simp [aE] at hf ⊢;omega) (J.call2 hb ⟨p,q9,r,s,rfl,hz⟩)
               refine AllReadyH.cons rfl (fun K hK=>?_) ?_
               ·go_simp
                refine hK.out _ _ (KS.out _ (J.up.alloc J.up.size _)) (fun _=>?_)
                simp only [List.setIfInBounds_toArray,List.set_cons_zero,List.set_cons_succ]
                exact ih _ _ _ _ _ _ _ _ _ _ _ _ _ _ _ _ _ _ (by simp [aE] at hf ⊢;omega) J.make1
               exact AllReadyH.nil
             ·skip
              cases k2
              ·skip
               refine wpAnyH_ready (rs:=[6,15]) (by kernel_rfl) (by simp) ?_
               refine AllReadyH.cons rfl (fun K hK=>?_) ?_
               ·go_simp
                refine (IN2.out W x1 J.up (J.q1 rfl).zn).mono ?_
                rintro e' W2 ⟨⟨p,q9,r,s,rfl,hz⟩,hb⟩
                refine hK.out _ _ (KS.out _ (J.up.trans (hb.mono J.up.size))) (fun hS2=>?_)
                simp only [List.setIfInBounds_toArray,List.set_cons_zero,List.set_cons_succ]
                exact ih _ _ _ _ _ _ _ _ _ _ _ _ _ _ _ _ _ _ (by simp [aE] at hf ⊢;omega) (J.call2 hb ⟨p,q9,r,s,rfl,hz⟩)
               refine AllReadyH.cons rfl (fun K hK=>?_) ?_
               ·go_simp
                refine hK.out _ _ (KS.out _ (J.up.alloc J.up.size _)) (fun _=>?_)
                simp only [List.setIfInBounds_toArray,List.set_cons_zero,List.set_cons_succ]
                exact ih _ _ _ _ _ _ _ _ _ _ _ _ _ _ _ _ _ _ (by simp [aE] at hf ⊢;omega) J.make2
               exact AllReadyH.nil
              ·skip
               refine wpAnyH_ready (rs:=[6]) (by kernel_rfl) (by simp) ?_
               refine AllReadyH.cons rfl (fun K hK=>?_) ?_
               ·go_simp
                refine (IN2.out W x1 J.up (J.q1 rfl).zn).mono ?_
                rintro e' W2 ⟨⟨p,q9,r,s,rfl,hz⟩,hb⟩
                refine hK.out _ _ (KS.out _ (J.up.trans (hb.mono J.up.size))) (fun hS2=>?_)
                simp only [List.setIfInBounds_toArray,List.set_cons_zero,List.set_cons_succ]
                exact ih _ _ _ _ _ _ _ _ _ _ _ _ _ _ _ _ _ _ (by simp [aE] at hf ⊢;omega) (J.call2 hb ⟨p,q9,r,s,rfl,hz⟩)
               exact AllReadyH.nil
            ·skip
             exact absurd (J.h5 rfl) (by decide)
           ·skip
            exact absurd (J.h4 rfl) (by decide)
          ·skip
           exact absurd (J.h3 rfl) (by decide)
         ·skip
          cases c3
          ·skip
           cases c4
           ·skip
            cases c5
            ·skip
             cases k1
             ·skip
              cases k2
              ·skip
               refine wpAnyH_ready (rs:=[7,14,15]) (by kernel_rfl) (by simp) ?_
               refine AllReadyH.cons rfl (fun K hK=>?_) ?_
               ·go_simp
                refine (IN3.out W).mono ?_
                rintro e' W2 ⟨⟨p,q9,r,s,rfl,hz⟩,hb⟩
                refine hK.out _ _ (KS.out _ (J.up.trans (hb.mono J.up.size))) (fun hS2=>?_)
                simp only [List.setIfInBounds_toArray,List.set_cons_zero,List.set_cons_succ]
                exact ih _ _ _ _ _ _ _ _ _ _ _ _ _ _ _ _ _ _ (by simp [aE] at hf ⊢;omega) (J.call3 hb ⟨p,q9,r,s,rfl,hz⟩)
               refine AllReadyH.cons rfl (fun K hK=>?_) ?_
               ·go_simp
                refine hK.out _ _ (KS.out _ (J.up.alloc J.up.size _)) (fun _=>?_)
                simp only [List.setIfInBounds_toArray,List.set_cons_zero,List.set_cons_succ]
                exact ih _ _ _ _ _ _ _ _ _ _ _ _ _ _ _ _ _ _ (by simp [aE] at hf ⊢;omega) J.make1
               refine AllReadyH.cons rfl (fun K hK=>?_) ?_
               ·go_simp
                refine hK.out _ _ (KS.out _ (J.up.alloc J.up.size _)) (fun _=>?_)
                simp only [List.setIfInBounds_toArray,List.set_cons_zero,List.set_cons_succ]
                exact ih _ _ _ _ _ _ _ _ _ _ _ _ _ _ _ _ _ _ (by simp [aE] at hf ⊢;omega) J.make2
               exact AllReadyH.nil
              ·skip
               refine wpAnyH_ready (rs:=[7,14]) (by kernel_rfl) (by simp) ?_
               refine AllReadyH.cons rfl (fun K hK=>?_) ?_
               ·go_simp
                refine (IN3.out W).mono ?_
                rintro e' W2 ⟨⟨p,q9,r,s,rfl,hz⟩,hb⟩
                refine hK.out _ _ (KS.out _ (J.up.trans (hb.mono J.up.size))) (fun hS2=>?_)
                simp only [List.setIfInBounds_toArray,List.set_cons_zero,List.set_cons_succ]
                exact ih _ _ _ _ _ _ _ _ _ _ _ _ _ _ _ _ _ _ (by simp [aE] at hf ⊢;omega) (J.call3 hb ⟨p,q9,r,s,rfl,hz⟩)
               refine AllReadyH.cons rfl (fun K hK=>?_) ?_
               ·go_simp
                refine hK.out _ _ (KS.out _ (J.up.alloc J.up.size _)) (fun _=>?_)
                simp only [List.setIfInBounds_toArray,List.set_cons_zero,List.set_cons_succ]
                exact ih _ _ _ _ _ _ _ _ _ _ _ _ _ _ _ _ _ _ (by simp [aE] at hf ⊢;omega) J.make1
               exact AllReadyH.nil
             ·skip
              cases k2
              ·skip
               refine wpAnyH_ready (rs:=[7,15]) (by kernel_rfl) (by simp) ?_
               refine AllReadyH.cons rfl (fun K hK=>?_) ?_
               ·go_simp
                refine (IN3.out W).mono ?_
                rintro e' W2 ⟨⟨p,q9,r,s,rfl,hz⟩,hb⟩
                refine hK.out _ _ (KS.out _ (J.up.trans (hb.mono J.up.size))) (fun hS2=>?_)
                simp only [List.setIfInBounds_toArray,List.set_cons_zero,List.set_cons_succ]
                exact ih _ _ _ _ _ _ _ _ _ _ _ _ _ _ _ _ _ _ (by simp [aE] at hf ⊢;omega) (J.call3 hb ⟨p,q9,r,s,rfl,hz⟩)
               refine AllReadyH.cons rfl (fun K hK=>?_) ?_
               ·go_simp
                refine hK.out _ _ (KS.out _ (J.up.alloc J.up.size _)) (fun _=>?_)
                simp only [List.setIfInBounds_toArray,List.set_cons_zero,List.set_cons_succ]
                exact ih _ _ _ _ _ _ _ _ _ _ _ _ _ _ _ _ _ _ (by simp [aE] at hf ⊢;omega) J.make2
               exact AllReadyH.nil
              ·skip
               refine wpAnyH_ready (rs:=[7]) (by kernel_rfl) (by simp) ?_
               refine AllReadyH.cons rfl (fun K hK=>?_) ?_
               ·go_simp
                refine (IN3.out W).mono ?_
                rintro e' W2 ⟨⟨p,q9,r,s,rfl,hz⟩,hb⟩
                refine hK.out _ _ (KS.out _ (J.up.trans (hb.mono J.up.size))) (fun hS2=>?_)
                simp only [List.setIfInBounds_toArray,List.set_cons_zero,List.set_cons_succ]
                exact ih _ _ _ _ _ _ _ _ _ _ _ _ _ _ _ _ _ _ (by simp [aE] at hf ⊢;omega) (J.call3 hb ⟨p,q9,r,s,rfl,hz⟩)
               exact AllReadyH.nil
            ·skip
             exact absurd (J.h5 rfl) (by decide)
           ·skip
            exact absurd (J.h4 rfl) (by decide)
          ·skip
           cases c4
           ·skip
            cases c5
            ·skip
             cases k1
             ·skip
              cases k2
              ·skip
               refine wpAnyH_ready (rs:=[8,14,15]) (by kernel_rfl) (by simp) ?_
               refine AllReadyH.cons rfl (fun K hK=>?_) ?_
               ·go_simp
                refine (IN4.out W x2 x3 (J.q2 rfl).zn (J.q3 rfl).zn).mono ?_
                rintro e' W2 ⟨⟨p,q9,r,s,rfl,hz⟩,hb⟩
                refine hK.out _ _ (KS.out _ (J.up.trans (hb.mono J.up.size))) (fun hS2=>?_)
                simp only [List.setIfInBounds_toArray,List.set_cons_zero,List.set_cons_succ]
                exact ih _ _ _ _ _ _ _ _ _ _ _ _ _ _ _ _ _ _ (by simp [aE] at hf ⊢;omega) (J.call4 hb ⟨p,q9,r,s,rfl,hz⟩)
               refine AllReadyH.cons rfl (fun K hK=>?_) ?_
               ·go_simp
                refine hK.out _ _ (KS.out _ (J.up.alloc J.up.size _)) (fun _=>?_)
                simp only [List.setIfInBounds_toArray,List.set_cons_zero,List.set_cons_succ]
                exact ih _ _ _ _ _ _ _ _ _ _ _ _ _ _ _ _ _ _ (by simp [aE] at hf ⊢;omega) J.make1
               refine AllReadyH.cons rfl (fun K hK=>?_) ?_
               ·go_simp
                refine hK.out _ _ (KS.out _ (J.up.alloc J.up.size _)) (fun _=>?_)
                simp only [List.setIfInBounds_toArray,List.set_cons_zero,List.set_cons_succ]
                exact ih _ _ _ _ _ _ _ _ _ _ _ _ _ _ _ _ _ _ (by simp [aE] at hf ⊢;omega) J.make2
               exact AllReadyH.nil
              ·skip
               refine wpAnyH_ready (rs:=[8,14]) (by kernel_rfl) (by simp) ?_
               refine AllReadyH.cons rfl (fun K hK=>?_) ?_
               ·go_simp
                refine (IN4.out W x2 x3 (J.q2 rfl).zn (J.q3 rfl).zn).mono ?_
                rintro e' W2 ⟨⟨p,q9,r,s,rfl,hz⟩,hb⟩
                refine hK.out _ _ (KS.out _ (J.up.trans (hb.mono J.up.size))) (fun hS2=>?_)
                simp only [List.setIfInBounds_toArray,List.set_cons_zero,List.set_cons_succ]
                exact ih _ _ _ _ _ _ _ _ _ _ _ _ _ _ _ _ _ _ (by simp [aE] at hf ⊢;omega) (J.call4 hb ⟨p,q9,r,s,rfl,hz⟩)
               refine AllReadyH.cons rfl (fun K hK=>?_) ?_
               ·go_simp
                refine hK.out _ _ (KS.out _ (J.up.alloc J.up.size _)) (fun _=>?_)
                simp only [List.setIfInBounds_toArray,List.set_cons_zero,List.set_cons_succ]
                exact ih _ _ _ _ _ _ _ _ _ _ _ _ _ _ _ _ _ _ (by simp [aE] at hf ⊢;omega) J.make1
               exact AllReadyH.nil
             ·skip
              cases k2
              ·skip
               refine wpAnyH_ready (rs:=[8,15]) (by kernel_rfl) (by simp) ?_
               refine AllReadyH.cons rfl (fun K hK=>?_) ?_
               ·go_simp
                refine (IN4.out W x2 x3 (J.q2 rfl).zn (J.q3 rfl).zn).mono ?_
                rintro e' W2 ⟨⟨p,q9,r,s,rfl,hz⟩,hb⟩
                refine hK.out _ _ (KS.out _ (J.up.trans (hb.mono J.up.size))) (fun hS2=>?_)
                simp only [List.setIfInBounds_toArray,List.set_cons_zero,List.set_cons_succ]
                exact ih _ _ _ _ _ _ _ _ _ _ _ _ _ _ _ _ _ _ (by simp [aE] at hf ⊢;omega) (J.call4 hb ⟨p,q9,r,s,rfl,hz⟩)
               refine AllReadyH.cons rfl (fun K hK=>?_) ?_
               ·go_simp
                refine hK.out _ _ (KS.out _ (J.up.alloc J.up.size _)) (fun _=>?_)
                simp only [List.setIfInBounds_toArray,List.set_cons_zero,List.set_cons_succ]
                exact ih _ _ _ _ _ _ _ _ _ _ _ _ _ _ _ _ _ _ (by simp [aE] at hf ⊢;omega) J.make2
               exact AllReadyH.nil
              ·skip
               refine wpAnyH_ready (rs:=[8]) (by kernel_rfl) (by simp) ?_
               refine AllReadyH.cons rfl (fun K hK=>?_) ?_
               ·go_simp
                refine (IN4.out W x2 x3 (J.q2 rfl).zn (J.q3 rfl).zn).mono ?_
                rintro e' W2 ⟨⟨p,q9,r,s,rfl,hz⟩,hb⟩
                refine hK.out _ _ (KS.out _ (J.up.trans (hb.mono J.up.size))) (fun hS2=>?_)
                simp only [List.setIfInBounds_toArray,List.set_cons_zero,List.set_cons_succ]
                exact ih _ _ _ _ _ _ _ _ _ _ _ _ _ _ _ _ _ _ (by simp [aE] at hf ⊢;omega) (J.call4 hb ⟨p,q9,r,s,rfl,hz⟩)
               exact AllReadyH.nil
            ·skip
             exact absurd (J.h5 rfl) (by decide)
           ·skip
            cases c5
            ·skip
             cases k1
             ·skip
              cases k2
              ·skip
               refine wpAnyH_ready (rs:=[10,14,15]) (by kernel_rfl) (by simp) ?_
               refine AllReadyH.cons rfl (fun K hK=>?_) ?_
               ·go_simp
                refine (IN5.out W x4 J.up (J.q4 rfl).zn).mono ?_
                rintro e' W2 ⟨⟨p,q9,r,s,p2,q2,r2,s2,rfl,hz,hz2⟩,hb⟩
                refine hK.out _ _ (KS.out _ (J.up.trans (hb.mono J.up.size))) (fun hS2=>?_)
                simp only [List.setIfInBounds_toArray,List.set_cons_zero,List.set_cons_succ]
                refine wpAnyH_take (i:=11) (oi:={ dst:=some 140,op:=Op.move (Operand.tmp 151),type:=54,pos:="outright.go:115",after:=#[{ on:=10,ground:=Ground.data }],guard:=none }) (v:=.tuple #[.agg #[.bool p,.slice q9 r s],.agg #[.bool p2,.slice q2 r2 s2]]) rfl (by kernel_rfl) (by kernel_rfl) (by kernel_rfl) (fun _ _ _ h=>h) (Or.inl ⟨by rfl,fun w9 hSw=>?_⟩) hS2 ?_
                ·(try dsimp only at hSw);go_simp
                simp only [Act.put,List.setIfInBounds_toArray,List.set_cons_zero,List.set_cons_succ]
                refine wpAnyH_take (i:=12) (oi:={ dst:=some 152,op:=Op.extract (Operand.tmp 140) 0,type:=32,pos:="outright.go:115",after:=#[{ on:=11,ground:=Ground.data }],guard:=none }) (v:=.agg #[.bool p,.slice q9 r s]) rfl (by kernel_rfl) (by kernel_rfl) (by kernel_rfl) (fun _ _ _ h=>h) (Or.inl ⟨by rfl,fun w9 hSw=>?_⟩) hS2 ?_
                ·(try dsimp only at hSw);go_simp
                simp only [Act.put,List.setIfInBounds_toArray,List.set_cons_zero,List.set_cons_succ]
                refine wpAnyH_take (i:=13) (oi:={ dst:=some 153,op:=Op.extract (Operand.tmp 140) 1,type:=32,pos:="outright.go:115",after:=#[{ on:=11,ground:=Ground.data },{ on:=16,ground:=Ground.gcOnly Departure.lateStores }],guard:=none }) (v:=.agg #[.bool p2,.slice q2 r2 s2]) rfl (by kernel_rfl) (by kernel_rfl) (by kernel_rfl) (fun _ _ _ h=>h) (Or.inl ⟨by rfl,fun w9 hSw=>?_⟩) hS2 ?_
                ·(try dsimp only at hSw);go_simp
                simp only [Act.put,List.setIfInBounds_toArray,List.set_cons_zero,List.set_cons_succ]
                exact ih _ _ _ _ _ _ _ _ _ _ _ _ _ _ _ _ _ _ (by simp [aE] at hf ⊢;omega) (J.call5 hb ⟨rfl,rfl,⟨p,q9,r,s,rfl,hz⟩,⟨p2,q2,r2,s2,rfl,hz2⟩⟩)
               refine AllReadyH.cons rfl (fun K hK=>?_) ?_
               ·go_simp
                refine hK.out _ _ (KS.out _ (J.up.alloc J.up.size _)) (fun _=>?_)
                simp only [List.setIfInBounds_toArray,List.set_cons_zero,List.set_cons_succ]
                exact ih _ _ _ _ _ _ _ _ _ _ _ _ _ _ _ _ _ _ (by simp [aE] at hf ⊢;omega) J.make1
               refine AllReadyH.cons rfl (fun K hK=>?_) ?_
               ·go_simp
                refine hK.out _ _ (KS.out _ (J.up.alloc J.up.size _)) (fun _=>?_)
                simp only [List.setIfInBounds_toArray,List.set_cons_zero,List.set_cons_succ]
                exact ih _ _ _ _ _ _ _ _ _ _ _ _ _ _ _ _ _ _ (by simp [aE] at hf ⊢;omega) J.make2
               exact AllReadyH.nil
              ·skip
               refine wpAnyH_ready (rs:=[10,14]) (by kernel_rfl) (by simp) ?_
               refine AllReadyH.cons rfl (fun K hK=>?_) ?_
               ·go_simp
                refine (IN5.out W x4 J.up (J.q4 rfl).zn).mono ?_
                rintro e' W2 ⟨⟨p,q9,r,s,p2,q2,r2,s2,rfl,hz,hz2⟩,hb⟩
                refine hK.out _ _ (KS.out _ (J.up.trans (hb.mono J.up.size))) (fun hS2=>?_)
                simp only [List.setIfInBounds_toArray,List.set_cons_zero,List.set_cons_succ]
                refine wpAnyH_take (i:=11) (oi:={ dst:=some 140,op:=Op.move (Operand.tmp 151),type:=54,pos:="outright.go:115",after:=#[{ on:=10,ground:=Ground.data }],guard:=none }) (v:=.tuple #[.agg #[.bool p,.slice q9 r s],.agg #[.bool p2,.slice q2 r2 s2]]) rfl (by kernel_rfl) (by kernel_rfl) (by kernel_rfl) (fun _ _ _ h=>h) (Or.inl ⟨by rfl,fun w9 hSw=>?_⟩) hS2 ?_
                ·(try dsimp only at hSw);go_simp
                simp only [Act.put,List.setIfInBounds_toArray,List.set_cons_zero,List.set_cons_succ]
                refine wpAnyH_take (i:=12) (oi:={ dst:=some 152,op:=Op.extract (Operand.tmp 140) 0,type:=32,pos:="outright.go:115",after:=#[{ on:=11,ground:=Ground.data }],guard:=none }) (v:=.agg #[.bool p,.slice q9 r s]) rfl (by kernel_rfl) (by kernel_rfl) (by kernel_rfl) (fun _ _ _ h=>h) (Or.inl ⟨by rfl,fun w9 hSw=>?_⟩) hS2 ?_
                ·(try dsimp only at hSw);go_simp
                simp only [Act.put,List.setIfInBounds_toArray,List.set_cons_zero,List.set_cons_succ]
                refine wpAnyH_take (i:=13) (oi:={ dst:=some 153,op:=Op.extract (Operand.tmp 140) 1,type:=32,pos:="outright.go:115",after:=#[{ on:=11,ground:=Ground.data },{ on:=16,ground:=Ground.gcOnly Departure.lateStores }],guard:=none }) (v:=.agg #[.bool p2,.slice q2 r2 s2]) rfl (by kernel_rfl) (by kernel_rfl) (by kernel_rfl) (fun _ _ _ h=>h) (Or.inl ⟨by rfl,fun w9 hSw=>?_⟩) hS2 ?_
                ·(try dsimp only at hSw);go_simp
                simp only [Act.put,List.setIfInBounds_toArray,List.set_cons_zero,List.set_cons_succ]
                exact ih _ _ _ _ _ _ _ _ _ _ _ _ _ _ _ _ _ _ (by simp [aE] at hf ⊢;omega) (J.call5 hb ⟨rfl,rfl,⟨p,q9,r,s,rfl,hz⟩,⟨p2,q2,r2,s2,rfl,hz2⟩⟩)
               refine AllReadyH.cons rfl (fun K hK=>?_) ?_
               ·go_simp
                refine hK.out _ _ (KS.out _ (J.up.alloc J.up.size _)) (fun _=>?_)
                simp only [List.setIfInBounds_toArray,List.set_cons_zero,List.set_cons_succ]
                exact ih _ _ _ _ _ _ _ _ _ _ _ _ _ _ _ _ _ _ (by simp [aE] at hf ⊢;omega) J.make1
               exact AllReadyH.nil
             ·skip
              cases k2
              ·skip
               refine wpAnyH_ready (rs:=[10,15]) (by kernel_rfl) (by simp) ?_
               refine AllReadyH.cons rfl (fun K hK=>?_) ?_
               ·go_simp
                refine (IN5.out W x4 J.up (J.q4 rfl).zn).mono ?_
                rintro e' W2 ⟨⟨p,q9,r,s,p2,q2,r2,s2,rfl,hz,hz2⟩,hb⟩
                refine hK.out _ _ (KS.out _ (J.up.trans (hb.mono J.up.size))) (fun hS2=>?_)
                simp only [List.setIfInBounds_toArray,List.set_cons_zero,List.set_cons_succ]
                refine wpAnyH_take (i:=11) (oi:={ dst:=some 140,op:=Op.move (Operand.tmp 151),type:=54,pos:="outright.go:115",after:=#[{ on:=10,ground:=Ground.data }],guard:=none }) (v:=.tuple #[.agg #[.bool p,.slice q9 r s],.agg #[.bool p2,.slice q2 r2 s2]]) rfl (by kernel_rfl) (by kernel_rfl) (by kernel_rfl) (fun _ _ _ h=>h) (Or.inl ⟨by rfl,fun w9 hSw=>?_⟩) hS2 ?_
                ·(try dsimp only at hSw);go_simp
                simp only [Act.put,List.setIfInBounds_toArray,List.set_cons_zero,List.set_cons_succ]
                refine wpAnyH_take (i:=12) (oi:={ dst:=some 152,op:=Op.extract (Operand.tmp 140) 0,type:=32,pos:="outright.go:115",after:=#[{ on:=11,ground:=Ground.data }],guard:=none }) (v:=.agg #[.bool p,.slice q9 r s]) rfl (by kernel_rfl) (by kernel_rfl) (by kernel_rfl) (fun _ _ _ h=>h) (Or.inl ⟨by rfl,fun w9 hSw=>?_⟩) hS2 ?_
                ·(try dsimp only at hSw);go_simp
                simp only [Act.put,List.setIfInBounds_toArray,List.set_cons_zero,List.set_cons_succ]
                refine wpAnyH_take (i:=13) (oi:={ dst:=some 153,op:=Op.extract (Operand.tmp 140) 1,type:=32,pos:="outright.go:115",after:=#[{ on:=11,ground:=Ground.data },{ on:=16,ground:=Ground.gcOnly Departure.lateStores }],guard:=none }) (v:=.agg #[.bool p2,.slice q2 r2 s2]) rfl (by kernel_rfl) (by kernel_rfl) (by kernel_rfl) (fun _ _ _ h=>h) (Or.inl ⟨by rfl,fun w9 hSw=>?_⟩) hS2 ?_
                ·(try dsimp only at hSw);go_simp
                simp only [Act.put,List.setIfInBounds_toArray,List.set_cons_zero,List.set_cons_succ]
                exact ih _ _ _ _ _ _ _ _ _ _ _ _ _ _ _ _ _ _ (by simp [aE] at hf ⊢;omega) (J.call5 hb ⟨rfl,rfl,⟨p,q9,r,s,rfl,hz⟩,⟨p2,q2,r2,s2,rfl,hz2⟩⟩)
               refine AllReadyH.cons rfl (fun K hK=>?_) ?_
               ·go_simp
                refine hK.out _ _ (KS.out _ (J.up.alloc J.up.size _)) (fun _=>?_)
                simp only [List.setIfInBounds_toArray,List.set_cons_zero,List.set_cons_succ]
                exact ih _ _ _ _ _ _ _ _ _ _ _ _ _ _ _ _ _ _ (by simp [aE] at hf ⊢;omega) J.make2
               exact AllReadyH.nil
              ·skip
               refine wpAnyH_ready (rs:=[10]) (by kernel_rfl) (by simp) ?_
               refine AllReadyH.cons rfl (fun K hK=>?_) ?_
               ·go_simp
                refine (IN5.out W x4 J.up (J.q4 rfl).zn).mono ?_
                rintro e' W2 ⟨⟨p,q9,r,s,p2,q2,r2,s2,rfl,hz,hz2⟩,hb⟩
                refine hK.out _ _ (KS.out _ (J.up.trans (hb.mono J.up.size))) (fun hS2=>?_)
                simp only [List.setIfInBounds_toArray,List.set_cons_zero,List.set_cons_succ]
                refine wpAnyH_take (i:=11) (oi:={ dst:=some 140,op:=Op.move (Operand.tmp 151),type:=54,pos:="outright.go:115",after:=#[{ on:=10,ground:=Ground.data }],guard:=none }) (v:=.tuple #[.agg #[.bool p,.slice q9 r s],.agg #[.bool p2,.slice q2 r2 s2]]) rfl (by kernel_rfl) (by kernel_rfl) (by kernel_rfl) (fun _ _ _ h=>h) (Or.inl ⟨by rfl,fun w9 hSw=>?_⟩) hS2 ?_
                ·(try dsimp only at hSw);go_simp
                simp only [Act.put,List.setIfInBounds_toArray,List.set_cons_zero,List.set_cons_succ]
                refine wpAnyH_take (i:=12) (oi:={ dst:=some 152,op:=Op.extract (Operand.tmp 140) 0,type:=32,pos:="outright.go:115",after:=#[{ on:=11,ground:=Ground.data }],guard:=none }) (v:=.agg #[.bool p,.slice q9 r s]) rfl (by kernel_rfl) (by kernel_rfl) (by kernel_rfl) (fun _ _ _ h=>h) (Or.inl ⟨by rfl,fun w9 hSw=>?_⟩) hS2 ?_
                ·(try dsimp only at hSw);go_simp
                simp only [Act.put,List.setIfInBounds_toArray,List.set_cons_zero,List.set_cons_succ]
                refine wpAnyH_take (i:=13) (oi:={ dst:=some 153,op:=Op.extract (Operand.tmp 140) 1,type:=32,pos:="outright.go:115",after:=#[{ on:=11,ground:=Ground.data },{ on:=16,ground:=Ground.gcOnly Departure.lateStores }],guard:=none }) (v:=.agg #[.bool p2,.slice q2 r2 s2]) rfl (by kernel_rfl) (by kernel_rfl) (by kernel_rfl) (fun _ _ _ h=>h) (Or.inl ⟨by rfl,fun w9 hSw=>?_⟩) hS2 ?_
                ·(try dsimp only at hSw);go_simp
                simp only [Act.put,List.setIfInBounds_toArray,List.set_cons_zero,List.set_cons_succ]
                exact ih _ _ _ _ _ _ _ _ _ _ _ _ _ _ _ _ _ _ (by simp [aE] at hf ⊢;omega) (J.call5 hb ⟨rfl,rfl,⟨p,q9,r,s,rfl,hz⟩,⟨p2,q2,r2,s2,rfl,hz2⟩⟩)
               exact AllReadyH.nil
            ·skip
             cases k1
             ·skip
              cases k2
              ·skip
               refine wpAnyH_ready (rs:=[14,15]) (by kernel_rfl) (by simp) ?_
               refine AllReadyH.cons rfl (fun K hK=>?_) ?_
               ·go_simp
                refine hK.out _ _ (KS.out _ (J.up.alloc J.up.size _)) (fun _=>?_)
                simp only [List.setIfInBounds_toArray,List.set_cons_zero,List.set_cons_succ]
                exact ih _ _ _ _ _ _ _ _ _ _ _ _ _ _ _ _ _ _ (by simp [aE] at hf ⊢;omega) J.make1
               refine AllReadyH.cons rfl (fun K hK=>?_) ?_
               ·go_simp
                refine hK.out _ _ (KS.out _ (J.up.alloc J.up.size _)) (fun _=>?_)
                simp only [List.setIfInBounds_toArray,List.set_cons_zero,List.set_cons_succ]
                exact ih _ _ _ _ _ _ _ _ _ _ _ _ _ _ _ _ _ _ (by simp [aE] at hf ⊢;omega) J.make2
               exact AllReadyH.nil
              ·skip
               refine wpAnyH_ready (rs:=[14]) (by kernel_rfl) (by simp) ?_
               refine AllReadyH.cons rfl (fun K hK=>?_) ?_
               ·go_simp
                refine hK.out _ _ (KS.out _ (J.up.alloc J.up.size _)) (fun _=>?_)
                simp only [List.setIfInBounds_toArray,List.set_cons_zero,List.set_cons_succ]
                exact ih _ _ _ _ _ _ _ _ _ _ _ _ _ _ _ _ _ _ (by simp [aE] at hf ⊢;omega) J.make1
               exact AllReadyH.nil
             ·skip
              cases k2
              ·skip
               refine wpAnyH_ready (rs:=[15]) (by kernel_rfl) (by simp) ?_
               refine AllReadyH.cons rfl (fun K hK=>?_) ?_
               ·go_simp
                refine hK.out _ _ (KS.out _ (J.up.alloc J.up.size _)) (fun _=>?_)
                simp only [List.setIfInBounds_toArray,List.set_cons_zero,List.set_cons_succ]
                exact ih _ _ _ _ _ _ _ _ _ _ _ _ _ _ _ _ _ _ (by simp [aE] at hf ⊢;omega) J.make2
               exact AllReadyH.nil
              ·skip
               exact absurd hf (by simp [aE])
      case rest=>
       rename World=>ub
       obtain⟨hq0,ht,hb⟩:=hcut
       obtain⟨gt,bt,at',nt,kt,rfl,lt',et,Zt⟩:=ht
       have ET:=aa et
       have ZT:=aa Zt
       replace EM:=aa (ac hb EM.out)
       replace EN:=aa (ac hb EN.out)
       replace ED:=aa (ac hb ED.out)
       replace EI:=aa (ac hb EI.out)
       replace ZM:=aa (ZM.out.below hb)
       replace ZN:=aa (ZN.out.below hb)
       replace ZD:=aa (ZD.out.below hb)
       replace TB:=aa (TB.out.below hb)
       replace HWW:=aa (ak HWW.out hb)
       replace HI8:=aa (ak HI8.out hb)
       clear hq0 hb et Zt lt' hs1 hs2 hlen i1
       go_wp2
       have g0:Below ub.drew.heap.size ub.drew ub.drew:=Below.refl _ _
       have gw:∀W,Below ub.drew.heap.size ub.drew W→Below ub.heap.size ub W:=fun W h=>cX h
       have CNUM:=aa (fun (W:World)=>show Calls Tryz.prog 20 #[.int .i64 0] W fun e w'=>e=.returned (.int .i64 0)∧Below W.heap.size W w' from (dZ 0 W).mono fun _ _ h=>⟨h.1,by rw [h.2];exact Below.refl _ _⟩)
       have CSG:=aa (fun (W:World) (hg:Below ub.drew.heap.size ub.drew W)=>show Calls Tryz.prog 12 #[.agg #[.bool bt,.slice at' nt kt]] W fun e w'=>e=.returned (.int .i64 0)∧Below W.heap.size W w' from cF (.agg #[.bool bt,.slice at' nt kt]) 0 W (ZT.out.below (gw W hg)))
       have COF:=aa (fun (W:World) (hg:Below ub.drew.heap.size ub.drew W)=>show Calls Tryz.prog 21 #[.bool false,.slice ai ni ki] W (bj W ((x':Nat):Int)) by
        have h:=dv false _ ri W (HXI.out.1.below (ak HI8.out (gw W hg))) (by have:=HXI.out.2.2.1;omega)
        rw [HXI.out.2.1] at h
        exact h)
       have CAB:=aa (fun (W:World) (hg:Below ub.drew.heap.size ub.drew W)=>mR (.agg #[.bool bn,.slice an nn kn]) bz W (ZN.out.below (gw W hg)))
       have CCM:=aa (fun (W:World) (v u:Value) (h1:Zn W v ((x':Nat):Int)) (h2:Zn W u (bz.natAbs:Int))=>show Calls Tryz.prog 24 #[v,u] W fun e w'=>e=.returned (.int .i64 (-1))∧Below W.heap.size W w' by
        have h:=gV v u _ _ W h1 h2
        rw [show cv ((x':Nat):Int) (bz.natAbs:Int)=-1 by unfold cv;rw [if_pos (by have:=HXI.out.2.2.2.2.1;omega)]] at h
        exact h)
       have CAW:=aa (fun (W:World) (hg:Below ub.drew.heap.size ub.drew W)=>fd W (TB.out.below (gw W hg)))
       have KS:=aa (fun (W:World) (hg:Below ub.drew.heap.size ub.drew W)=>show W.cell? ⟨gt,0,none⟩=some (.bool bt)∧W.cell? ⟨gt,1,none⟩=some (.slice at' nt kt)∧W.cell? ⟨t8.heap.size,0,none⟩=some (.bool false)∧W.cell? ⟨t8.heap.size,1,none⟩=some (.slice ai ni ki)∧W.cell? ⟨gn,0,none⟩=some (.bool bn)∧W.cell? ⟨gn,1,none⟩=some (.slice an nn kn) from ⟨(duo (ac (gw W hg) ET.out)).1,(duo (ac (gw W hg) ET.out)).2,(duo (ac (gw W hg) EI.out)).1,(duo (ac (gw W hg) EI.out)).2,(duo (ac (gw W hg) EN.out)).1,(duo (ac (gw W hg) EN.out)).2⟩)
       have GW:=aa gw
       clear gw
       go_region_held3 (fun w'=>w'.cell? ⟨gt,0,none⟩=some (.bool bt)∧w'.cell? ⟨gt,1,none⟩=some (.slice at' nt kt)∧w'.cell? ⟨t8.heap.size,0,none⟩=some (.bool false)∧w'.cell? ⟨t8.heap.size,1,none⟩=some (.slice ai ni ki)∧w'.cell? ⟨gn,0,none⟩=some (.bool bn)∧w'.cell? ⟨gn,1,none⟩=some (.slice an nn kn)) (first|with_reducible exact KS.out _ g6|with_reducible exact KS.out _ g5|with_reducible exact KS.out _ g4|with_reducible exact KS.out _ g3|with_reducible exact KS.out _ g2|with_reducible exact KS.out _ g1|with_reducible exact KS.out _ g0) (first
        | (go_at_call 20;refine (CNUM.out _).mono ?_;rintro e' s1 ⟨rfl,hb1⟩;have g1:=bt6 g0 hb1)
        | (go_at_call 12;refine (CSG.out s1 g1).mono ?_;rintro e' s2 ⟨rfl,hb2⟩;have g2:=bt6 g1 hb2)
        | (go_at_call 21;refine (COF.out s2 g2).mono ?_;rintro e' s3 ⟨⟨p3,q3',r3,v3,rfl,Z3⟩,hb3⟩;have g3:=bt6 g2 hb3)
        | (go_at_call 14;refine (CAB.out s3 g3).mono ?_;rintro e' s4 ⟨⟨p4,q4',r4,v4,rfl,Z4⟩,hb4⟩;have g4:=bt6 g3 hb4)
        | (go_at_call 24;refine (CCM.out s4 _ _ (Z3.below hb4) Z4).mono ?_;rintro e' s5 ⟨rfl,hb5⟩;have g5:=bt6 g4 hb5)
        | (go_at_call 18;refine (CAW.out s5 g5).mono ?_;rintro e' s6 ⟨rfl,hb6⟩;have g6:=bt6 g5 hb6))
       all_goals
        have HFIN:=aa (ak HWW.out (GW.out s6 g6))
        clear g0 g1 g2 g3 g4 g5 g6 hb1 hb2 hb3 hb4 hb5 hb6 Z3 Z4 CNUM CSG COF CAB CCM CAW KS GW
        go_wp2
        go_ret
        exact⟨rfl,HFIN.out⟩

end Go.Proofs.YtdbjbbdhlpfhjaaGreatDoor
