/- The laws' example: Floor(-7, 2) is -4, 1. -/
import Derived.Test.YtdbjbbdhlpfhjaaGreatDoorB17
import Derived.Test.YtdbjbbdhlpfhjaaGreatDoorB13
namespace Go.Proofs.YtdbjbbdhlpfhjaaGreatDoor
open Go.RowKit
open Lm
attribute [local go_sem ↓] Go.wp_at_zero Go.wp_at_succ

set_option maxRecDepth 20000 in
set_option maxHeartbeats 2000000 in
theorem iv (w:World)(hT:Tab w):Calls Tryz.prog 18 #[] w fun e w'=>e=.returned (.bool true)∧Below w.heap.size w w':=by
 have H1:=gK (-7) w (by omega) (by omega)
 have HT:=ac hT
 clear hT
 go_enter Tryz.func18,Tryz.ntmps18
 go_wp2_with fail
 refine H1.mono ?_
 rintro e w1 ⟨⟨b1,a1,l1,k1,rfl,rs1,A1,hb1,v1,t1⟩,hw1⟩
 have H2:=gK 2 w1 (by omega) (by omega)
 have HW1:=ac hw1
 have HA1:=ac A1
 have HV1:=ac (And.intro hb1 (And.intro v1 t1))
 clear H1 hw1 A1 hb1 v1 t1
 go_wp2_with fail
 refine H2.mono ?_
 rintro e w2 ⟨⟨b2,a2,l2,k2,rfl,rs2,A2,hb2,v2,t2⟩,hw2⟩
 have HW2:=ac (HW1.out.trans (hw2.mono HW1.out.size))
 obtain⟨hb1,v1,t1⟩:=HV1.out
 have e1:b1=true:=hb1
 have e2:b2=false:=hb2
 subst e1
 subst e2
 have x1:val rs1=7:=v1
 have x2:val rs2=2:=v2
 have f1:rs1.length≤1:=dL t1 x1 (by decide)
 have f2:rs2.length≤1:=dL t2 x2 (by decide)
 have H3:=l8 true _ rs1 false _ rs2 true true (-4) 1 w2 ((HA1.out.arg (by omega)).below hw2) (A2.arg (by omega)) (HT.out.below HW2.out) (by omega) (by omega) (by omega) rfl rfl (by rw [x1,x2];decide) (by rw [x1,x2];decide)
 clear H2 hw2 A2 hb2 v2 t2 HA1 HV1 HW1 hb1 v1 t1 x1 x2 f1 f2
 go_wp2_with fail
 refine H3.mono ?_
 rintro e w3 ⟨⟨b3,a3,n3,m3,b4,a4,n4,m4,c,rfl,rs3,rs4,A3,A4,hap,hcase⟩,hw3⟩
 rcases hcase with ⟨rfl,hb3,v3,t3,hb4,v4,t4,_,_⟩|⟨_,_,_,_,_,_,_,hbig⟩
 ·have e3:b3=true:=hb3
  have e4:b4=false:=hb4
  subst e3
  subst e4
  have HW3:=ac (HW2.out.trans (hw3.mono HW2.out.size))
  have HA3:=ac (And.intro A3 (And.intro v3 t3))
  have HA4:=ac (And.intro A4 (And.intro v4 t4))
  clear H3 hw3 A3 A4 hap hb3 hb4 v3 v4 t3 t4 HW2 HT
  obtain⟨w4,hw4,hb4,h40,h41⟩:=bD w3 (.cells #[.bool true,.slice a3 n3 m3] 27) (.cells #[.bool false,.slice a4 n4 m4] 27)
  obtain⟨d0,d1⟩:=duo (show w4.drew.heap[w3.heap.size]?=some (.cells #[.bool true,.slice a3 n3 m3] 27) from h40)
  obtain⟨d2,d3⟩:=duo (show w4.drew.heap[w3.heap.size+1]?=some (.cells #[.bool false,.slice a4 n4 m4] 27) from h41)
  have hf3:rs3.length≤1:=dL HA3.out.2.2 HA3.out.2.1 (by decide)
  have hf4:rs4.length≤1:=dL HA4.out.2.2 HA4.out.2.1 (by decide)
  have hq4:blen (Int.natAbs (-4))≤64:=by decide
  have hq1:blen (Int.natAbs 1)≤64:=by decide
  have HIS1:=ac (fun (W:World) (v:Value) (hz:Zn W v (-4)) (hb:Below w4.drew.heap.size w4.drew W)=>
   show Calls Tryz.prog 48 #[v,.bool true,.slice a3 n3 m3] W (fun e w'=>e=.returned (.bool true)∧Below W.heap.size W w') by
    have h:=iz v (-4) (.slice a3 n3 m3) rs3 W hz ((((HA3.out.1.arg (by omega)).below hb4).drew).below hb) HA3.out.2.2 HA3.out.2.1 (Nat.le_trans hq4 (by omega))
    rw [show decide ((-4:Int)<0)=true by decide] at h
    exact h)
  have HIS2:=ac (fun (W:World) (v:Value) (hz:Zn W v 1) (hb:Below w4.drew.heap.size w4.drew W)=>
   show Calls Tryz.prog 48 #[v,.bool false,.slice a4 n4 m4] W (fun e w'=>e=.returned (.bool true)∧Below W.heap.size W w') by
    have h:=iz v 1 (.slice a4 n4 m4) rs4 W hz ((((HA4.out.1.arg (by omega)).below hb4).drew).below hb) HA4.out.2.2 HA4.out.2.1 (Nat.le_trans hq1 (by omega))
    rw [show decide ((1:Int)<0)=false by decide] at h
    exact h)
  have HN:=gG 0 w4.drew
  have HI1:=dO (-4) w4.drew (by omega) (by omega)
  have HI2:=ac (fun (W:World)=>dO 1 W (by omega) (by omega))
  have HW4:=ac (HW3.out.trans (hb4.mono HW3.out.size))
  clear hb4 h40 h41 hf3 hf4 HA3 HA4 hq4 hq1
  go_wp2
  go_region_held3 (fun w'=>w'.cell? ⟨w3.heap.size,0,none⟩=some (.bool true)∧w'.cell? ⟨w3.heap.size,1,none⟩=some (.slice a3 n3 m3)∧w'.cell? ⟨w3.heap.size+1,0,none⟩=some (.bool false)∧w'.cell? ⟨w3.heap.size+1,1,none⟩=some (.slice a4 n4 m4)) (go_keep) (first
   | (go_at_call 20;refine HN.mono ?_;rintro e' wn ⟨rfl,hw⟩;rw [hw];clear hw wn)
   | (go_at_call_of 27 (Value.int IntKind.i64 1);refine (HI2.out w6).mono ?_;rintro e' w7 ⟨⟨b7,a7,n7,k7,rfl,z7⟩,hb7⟩;have u0:=ak hb7 y0;have u1:=ak hb7 y1;have u2:=ak hb7 y2;have u3:=ak hb7 y3)
   | (go_at_call 27;refine HI1.mono ?_;rintro e' w5 ⟨⟨b5,a5,n5,k5,rfl,z5⟩,hb5⟩;have x0:=ak hb5 d0;have x1:=ak hb5 d1;have x2:=ak hb5 d2;have x3:=ak hb5 d3)
   | (go_at_call_of 48 a3;refine (HIS1.out w5 _ z5 hb5).mono ?_;rintro e' w6 ⟨rfl,hb6⟩;have y0:=ak hb6 x0;have y1:=ak hb6 x1;have y2:=ak hb6 x2;have y3:=ak hb6 x3)
   | (go_at_call_of 48 a4;refine (HIS2.out w7 _ z7 (hb5.trans ((hb6.trans (hb7.mono hb6.size)).mono hb5.size))).mono ?_;rintro e' w8 ⟨rfl,hb8⟩;have t0:=ak hb8 u0;have t1:=ak hb8 u1;have t2:=ak hb8 u2;have t3:=ak hb8 u3))
  have HB8:=ac (HW4.out.trans ((cS (hb5.trans ((hb6.trans ((hb7.trans (hb8.mono hb7.size)).mono hb6.size)).mono hb5.size))).mono HW4.out.size))
  clear hb5 hb6 hb7 hb8 z5 z7
  go_wp2
  go_ret
  exact⟨rfl,HB8.out⟩
 ·exfalso
  revert hbig
  decide

end Go.Proofs.YtdbjbbdhlpfhjaaGreatDoor
