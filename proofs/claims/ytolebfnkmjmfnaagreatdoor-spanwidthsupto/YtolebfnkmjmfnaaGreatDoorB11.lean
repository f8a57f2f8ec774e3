/- The laws' of. -/
import Derived.Test.YtolebfnkmjmfnaaGreatDoorB10
import Derived.Deep.RegionHeld3
import Derived.Deep.CutBlock
import Derived.Deep.DeepCutAuto
import Derived.Test.YtolebfnkmjmfnaaGreatDoorB04
import Derived.Test.YtolebfnkmjmfnaaGreatDoorB06
import Derived.Test.YtolebfnkmjmfnaaGreatDoorB03
import Derived.Test.YtolebfnkmjmfnaaGreatDoorB01
namespace Go.Proofs.YtolebfnkmjmfnaaGreatDoor
open Go.RowKit
open Lm
attribute [local go_sem ↓] Go.wp_at_zero Go.wp_at_succ

/-- What of answers: a span of the document's, and what is wrong. -/
def OfR (w : World) (e : Ending) (w' : World) (fl : Int) (L : Nat) (V1 V2 : Int) : Prop :=
  (∃ b1 a1 n1 k1 e1 b2 a2 n2 k2 e2, e = .returned (.tuple #[.agg #[.bool b1, .slice a1 n1 k1, .int .i64 e1, .bool b2, .slice a2 n2 k2, .int .i64 e2], .int .i64 fl]) ∧ V8 w' b1 a1 n1 k1 e1 L (if fl = 0 then V1 else 0) ∧ V8 w' b2 a2 n2 k2 e2 L (if fl = 0 then V2 else 0)) ∧ Below w.heap.size w w'

set_option maxRecDepth 20000 in
set_option maxHeartbeats 2000000 in
theorem of10_no1 (b1 : Bool) (a1 : Option Addr) (k1 : Nat) (X : List Nat) (ex1 : Int) (b2 : Bool) (a2 : Option Addr) (k2 : Nat) (Y : List Nat) (ex2 : Int) (L : Nat) (V1 V2 : Int) (w : World) (hE1 : fitE ex1 = false) :
    Calls Tryz.prog 5 #[.agg #[.bool b1, .slice a1 X.length k1, .int .i64 ex1, .bool b2, .slice a2 Y.length k2, .int .i64 ex2]] w fun e w' => OfR w e w' 80 L V1 V2 := by
  obtain ⟨w0, hw0, hb0, q0, q9⟩ := enter2 w (.cells #[.bool b1, .slice a1 X.length k1, .int .i64 ex1, .bool b2, .slice a2 Y.length k2, .int .i64 ex2] 26) (.cells #[.bool false, .slice none 0 0, .int .i64 0, .bool false, .slice none 0 0, .int .i64 0] 43)
  obtain ⟨y0, y1, y2, y3, y4, y5⟩ := hexa q0
  have HG := hide hb0
  have HQ0 := hide q0
  have HC1 := hide q9
  have F1 := rfits_any ex1 w0
  have F2 := rfits_any ex2 w0
  have hf1 := hexaf HC1.out
  obtain ⟨m0, m1, m2, m3, m4, m5⟩ := hexa HC1.out
  clear q0 q9 hb0
  rw [hE1] at F1
  clear F2 hE1
  go_enter Tryz.func5, Tryz.ntmps5
  go_wp2_with fail
  refine F1.mono ?_
  rintro e wn ⟨rfl, hw⟩; rw [hw]; clear hw wn F1
  go_wp2
  have T3 := hexa_all HC1.out (.bool false) (.slice none 0 0) (.int .i64 0) (.bool false) (.slice none 0 0) (.int .i64 0)
  have T4 := below_hexa HG.out (show w.heap.size ≤ w.heap.size+1 by omega) (.bool false) (.slice none 0 0) (.int .i64 0) (.bool false) (.slice none 0 0) (.int .i64 0)
  obtain ⟨p0, p1, p2, p3, p4, p5⟩ := hexa T3
  have HE := hide T4
  clear T3 T4
  generalize (((((w0.setCell ⟨w.heap.size+1, 0, none⟩ (.bool false)).setCell ⟨w.heap.size+1, 1, none⟩ (.slice none 0 0)).setCell ⟨w.heap.size+1, 2, none⟩ (.int .i64 0)).setCell ⟨w.heap.size+1, 3, none⟩ (.bool false)).setCell ⟨w.heap.size+1, 4, none⟩ (.slice none 0 0)).setCell ⟨w.heap.size+1, 5, none⟩ (.int .i64 0) = w5 at *
  refine bodyPost_ret (v := .tuple #[.agg #[.bool false, .slice none 0 0, .int .i64 0, .bool false, .slice none 0 0, .int .i64 0], .int .i64 80]) (by simp [results, Tryz.results5, go_sem, p0, p1, p2, p3, p4, p5]) rfl ?_
  exact ⟨⟨_, _, _, _, _, _, _, _, _, _, rfl, V8.zero _ _, V8.zero _ _⟩, HE.out⟩

set_option maxRecDepth 20000 in
set_option maxHeartbeats 2000000 in
theorem of10_no2 (b1 : Bool) (a1 : Option Addr) (k1 : Nat) (X : List Nat) (ex1 : Int) (b2 : Bool) (a2 : Option Addr) (k2 : Nat) (Y : List Nat) (ex2 : Int) (L : Nat) (V1 V2 : Int) (w : World) (hE1 : fitE ex1 = true) (hE2 : fitE ex2 = false) :
    Calls Tryz.prog 5 #[.agg #[.bool b1, .slice a1 X.length k1, .int .i64 ex1, .bool b2, .slice a2 Y.length k2, .int .i64 ex2]] w fun e w' => OfR w e w' 80 L V1 V2 := by
  obtain ⟨w0, hw0, hb0, q0, q9⟩ := enter2 w (.cells #[.bool b1, .slice a1 X.length k1, .int .i64 ex1, .bool b2, .slice a2 Y.length k2, .int .i64 ex2] 26) (.cells #[.bool false, .slice none 0 0, .int .i64 0, .bool false, .slice none 0 0, .int .i64 0] 43)
  obtain ⟨y0, y1, y2, y3, y4, y5⟩ := hexa q0
  have HG := hide hb0
  have HQ0 := hide q0
  have HC1 := hide q9
  have F1 := rfits_any ex1 w0
  have F2 := rfits_any ex2 w0
  have hf1 := hexaf HC1.out
  obtain ⟨m0, m1, m2, m3, m4, m5⟩ := hexa HC1.out
  clear q0 q9 hb0
  rw [hE1] at F1
  rw [hE2] at F2
  clear hE1 hE2
  go_enter Tryz.func5, Tryz.ntmps5
  go_wp2_with fail
  refine F1.mono ?_
  rintro e wn ⟨rfl, hw⟩; rw [hw]; clear hw wn F1
  go_wp2_with fail
  refine F2.mono ?_
  rintro e wn ⟨rfl, hw⟩; rw [hw]; clear hw wn F2
  go_wp2
  have T3 := hexa_all HC1.out (.bool false) (.slice none 0 0) (.int .i64 0) (.bool false) (.slice none 0 0) (.int .i64 0)
  have T4 := below_hexa HG.out (show w.heap.size ≤ w.heap.size+1 by omega) (.bool false) (.slice none 0 0) (.int .i64 0) (.bool false) (.slice none 0 0) (.int .i64 0)
  obtain ⟨p0, p1, p2, p3, p4, p5⟩ := hexa T3
  have HE := hide T4
  clear T3 T4
  generalize (((((w0.setCell ⟨w.heap.size+1, 0, none⟩ (.bool false)).setCell ⟨w.heap.size+1, 1, none⟩ (.slice none 0 0)).setCell ⟨w.heap.size+1, 2, none⟩ (.int .i64 0)).setCell ⟨w.heap.size+1, 3, none⟩ (.bool false)).setCell ⟨w.heap.size+1, 4, none⟩ (.slice none 0 0)).setCell ⟨w.heap.size+1, 5, none⟩ (.int .i64 0) = w5 at *
  refine bodyPost_ret (v := .tuple #[.agg #[.bool false, .slice none 0 0, .int .i64 0, .bool false, .slice none 0 0, .int .i64 0], .int .i64 80]) (by simp [results, Tryz.results5, go_sem, p0, p1, p2, p3, p4, p5]) rfl ?_
  exact ⟨⟨_, _, _, _, _, _, _, _, _, _, rfl, V8.zero _ _, V8.zero _ _⟩, HE.out⟩

set_option maxRecDepth 20000 in
set_option maxHeartbeats 4000000 in
theorem of10_fit (b1 : Bool) (a1 : Option Addr) (k1 : Nat) (X : List Nat) (ex1 : Int) (b2 : Bool) (a2 : Option Addr) (k2 : Nat) (Y : List Nat) (ex2 : Int) (L : Nat) (w : World) (hA : Arg w (.slice a1 X.length k1) X) (hB : Arg w (.slice a2 Y.length k2) Y) (f1 : X.length ≤ 17592186043904) (f2 : Y.length ≤ 17592186043904) (hL : 4611686018427387904 ≤ L) (hE1 : fitE ex1 = true) (hE2 : fitE ex2 = true) :
    Calls Tryz.prog 5 #[.agg #[.bool b1, .slice a1 X.length k1, .int .i64 ex1, .bool b2, .slice a2 Y.length k2, .int .i64 ex2]] w fun e w' => OfR w e w' (if vof b2 Y ex2 L < vof b1 X ex1 L then 100 else 0) L (vof b1 X ex1 L) (vof b2 Y ex2 L) := by
  obtain ⟨w0, hw0, hb0, q0, q9⟩ := enter2 w (.cells #[.bool b1, .slice a1 X.length k1, .int .i64 ex1, .bool b2, .slice a2 Y.length k2, .int .i64 ex2] 26) (.cells #[.bool false, .slice none 0 0, .int .i64 0, .bool false, .slice none 0 0, .int .i64 0] 43)
  obtain ⟨y0, y1, y2, y3, y4, y5⟩ := hexa q0
  have HG := hide hb0
  have HQ0 := hide q0
  have HC1 := hide q9
  have F1 := rfits_any ex1 w0
  have F2 := rfits_any ex2 w0
  have hf1 := hexaf HC1.out
  obtain ⟨m0, m1, m2, m3, m4, m5⟩ := hexa HC1.out
  clear q0 q9 hb0
  have DY1 := hide (fun (W : World) (hg : Below w0.heap.size w0 W) => dyadV b1 a1 k1 X ex1 L W ((hA.below HG.out).below hg) f1 hE1 hL)
  have DY2 := hide (fun (W : World) (hg : Below w0.heap.size w0 W) => dyadV b2 a2 k2 Y ex2 L W ((hB.below HG.out).below hg) f2 hE2 hL)
  rw [hE1] at F1
  rw [hE2] at F2
  have KS := hide (fun (W : World) (hg : Below w0.heap.size w0 W) => show W.cell? ⟨w.heap.size, 0, none⟩ = some (.bool b1) ∧ W.cell? ⟨w.heap.size, 1, none⟩ = some (.slice a1 X.length k1) ∧ W.cell? ⟨w.heap.size, 2, none⟩ = some (.int .i64 ex1) ∧ W.cell? ⟨w.heap.size, 3, none⟩ = some (.bool b2) ∧ W.cell? ⟨w.heap.size, 4, none⟩ = some (.slice a2 Y.length k2) ∧ W.cell? ⟨w.heap.size, 5, none⟩ = some (.int .i64 ex2) from hexa (block_upW hg HQ0.out))
  have hc : 0 < cmpZ (vof b1 X ex1 L) (vof b2 Y ex2 L) ↔ vof b2 Y ex2 L < vof b1 X ex1 L := cmpZ_pos
  generalize vof b1 X ex1 L = V1 at *
  generalize vof b2 Y ex2 L = V2 at *
  have HCC := hide hc
  have g0 : Below w0.heap.size w0 w0 := Below.refl _ _
  clear hE1 hE2 hA hB f1 f2 hc
  obtain ⟨R, hR⟩ : ∃ R : Int, (if V2 < V1 then (100 : Int) else 0) = R := ⟨_, rfl⟩
  rw [hR]
  have HR := hide hR
  clear hR
  go_enter Tryz.func5, Tryz.ntmps5
  go_wp2_with fail
  refine F1.mono ?_
  rintro e wn ⟨rfl, hw⟩; rw [hw]; clear hw wn F1
  go_wp2_with fail
  refine F2.mono ?_
  rintro e wn ⟨rfl, hw⟩; rw [hw]; clear hw wn F2
  go_upto_region 3 with fail
  go_cut [4] from 18 to 24 (fun s wx => OneS w0 L V1 V2 s wx)
  case first =>
    go_region_held3 (fun w' => w'.cell? ⟨w.heap.size, 0, none⟩ = some (.bool b1) ∧ w'.cell? ⟨w.heap.size, 1, none⟩ = some (.slice a1 X.length k1) ∧ w'.cell? ⟨w.heap.size, 2, none⟩ = some (.int .i64 ex1) ∧ w'.cell? ⟨w.heap.size, 3, none⟩ = some (.bool b2) ∧ w'.cell? ⟨w.heap.size, 4, none⟩ = some (.slice a2 Y.length k2) ∧ w'.cell? ⟨w.heap.size, 5, none⟩ = some (.int .i64 ex2)) (first | (refine KS.out _ ?_; repeat (first | with_reducible assumption | with_reducible exact Below.refl _ _ | with_reducible apply bl_alloc10 | with_reducible apply bl_drew10 | (with_reducible refine below_hexa ?_ (by omega) _ _ _ _ _ _)))) (first
      | (go_at_call_of 24 a2; refine (DY2.out _ (by repeat (first | with_reducible exact g1 | with_reducible apply bl_alloc10))).mono ?_; rintro e' t2 ⟨⟨b6, a6, n6, c6, e6, rfl, v6⟩, hb2⟩; have g2 : Below w0.heap.size w0 t2 := bl_trans8 (by repeat (first | with_reducible exact g1 | with_reducible apply bl_alloc10)) hb2; have v5' := v5.below (show Below t1.heap.size t1 t2 from bl_trans8 (by repeat (first | with_reducible exact Below.refl _ _ | with_reducible apply bl_alloc10)) hb2); have hle1 := g1.size; (first | (with_reducible have hq := made10 hb2; obtain ⟨z0c, z1c, z2c, z3c, z4c, z5c⟩ := hexa hq; have zf := hexaf hq) | (with_reducible have hq := block_upW hb2 hpA; obtain ⟨z0c, z1c, z2c, z3c, z4c, z5c⟩ := hexa hq; have zf := hexaf hq) | skip))
      | (go_at_call 24; refine (DY1.out _ (by repeat (first | with_reducible exact Below.refl _ _ | with_reducible apply bl_alloc10 | with_reducible apply bl_drew10))).mono ?_; rintro e' t1 ⟨⟨b5, a5, n5, c5, e5, rfl, v5⟩, hb1⟩; have g1 : Below w0.heap.size w0 t1 := bl_trans8 (by repeat (first | with_reducible exact Below.refl _ _ | with_reducible apply bl_alloc10 | with_reducible apply bl_drew10)) hb1; (first | (with_reducible have hpA := made10d hb1) | (with_reducible have hpA := made10 hb1) | skip)))
    all_goals (go_wp2_with fail; go_meet; first
      | with_reducible exact one_s v5' v6 g2
      | with_reducible exact one_ss hq hle1 v5' v6 g2
      | with_reducible exact one_ss hq (Nat.le_refl _) v5' v6 g2)
  case rest =>
    obtain ⟨gd, b5, a5, n5, c5, e5, b6, a6, n6, c6, e6, rfl, hX, v5, v6, hbx, hgd⟩ := hcut
    have C := V8.cmp v5 v6
    have HBX := hide hbx
    have HX := hide hX
    have HV := hide (And.intro v5 v6)
    have HCD := hide (block_upW hbx HC1.out)
    clear KS DY1 DY2 g0 hbx hgd y0 y1 y2 y3 y4 y5 m0 m1 m2 m3 m4 m5 hf1 v5 v6
    obtain ⟨y0, y1, y2, y3, y4, y5⟩ := hexa hX
    clear hX
    go_wp2_with fail
    refine C.mono ?_
    rintro e t3 ⟨rfl, g3⟩
    have HGG := hide (bl_trans8 (bl_trans8 HG.out HBX.out) g3)
    have HV3 := hide (And.intro (HV.out.1.below g3) (HV.out.2.below g3))
    have HC2 := hide (block_upW g3 HCD.out)
    clear C y0 y1 y2 y3 y4 y5 HG HC1
    have HG := HGG
    have HC1 := HC2
    have hf1 := hexaf HC1.out
    obtain ⟨m0, m1, m2, m3, m4, m5⟩ := hexa HC1.out
    obtain ⟨y0, y1, y2, y3, y4, y5⟩ := hexa (block_upW g3 HX.out)
    clear g3 HGG HC2
    generalize hcz : cmpZ V1 V2 = cz at *
    by_cases hpos : V2 < V1
    · have i1 : decide (0 < cz) = true := decide_eq_true (HCC.out.2 hpos)
      have hr : R = 100 := by rw [← HR.out, if_pos hpos]
      subst hr
      clear hpos hcz
      go_wp2
      have T3 := hexa_all HC1.out (.bool false) (.slice none 0 0) (.int .i64 0) (.bool false) (.slice none 0 0) (.int .i64 0)
      have T4 := below_hexa HG.out (show w.heap.size ≤ w.heap.size+1 by omega) (.bool false) (.slice none 0 0) (.int .i64 0) (.bool false) (.slice none 0 0) (.int .i64 0)
      obtain ⟨p0, p1, p2, p3, p4, p5⟩ := hexa T3
      have HE := hide T4
      clear T3 T4
      generalize (((((t3.setCell ⟨w.heap.size+1, 0, none⟩ (.bool false)).setCell ⟨w.heap.size+1, 1, none⟩ (.slice none 0 0)).setCell ⟨w.heap.size+1, 2, none⟩ (.int .i64 0)).setCell ⟨w.heap.size+1, 3, none⟩ (.bool false)).setCell ⟨w.heap.size+1, 4, none⟩ (.slice none 0 0)).setCell ⟨w.heap.size+1, 5, none⟩ (.int .i64 0) = w5 at *
      refine bodyPost_ret (v := .tuple #[.agg #[.bool false, .slice none 0 0, .int .i64 0, .bool false, .slice none 0 0, .int .i64 0], .int .i64 100]) (by simp [results, Tryz.results5, go_sem, p0, p1, p2, p3, p4, p5]) rfl ?_
      exact ⟨⟨_, _, _, _, _, _, _, _, _, _, rfl, V8.zero _ _, V8.zero _ _⟩, HE.out⟩
    · have i1 : decide (0 < cz) = false := decide_eq_false (fun h => hpos (HCC.out.1 h))
      have hr : R = 0 := by rw [← HR.out, if_neg hpos]
      subst hr
      clear hpos hcz
      go_wp2
      have T3 := hexa_all HC1.out (.bool b5) (.slice a5 n5 c5) (.int .i64 e5) (.bool b6) (.slice a6 n6 c6) (.int .i64 e6)
      have T4 := below_hexa HG.out (show w.heap.size ≤ w.heap.size + 1 by omega) (.bool b5) (.slice a5 n5 c5) (.int .i64 e5) (.bool b6) (.slice a6 n6 c6) (.int .i64 e6)
      have T5 := HV3.out.1.hexa HC1.out b5 a5 n5 c5 e5 b6 a6 n6 c6 e6
      have T6 := HV3.out.2.hexa HC1.out b5 a5 n5 c5 e5 b6 a6 n6 c6 e6
      obtain ⟨p0, p1, p2, p3, p4, p5⟩ := hexa T3
      have HE := hide (And.intro T5 (And.intro T6 T4))
      clear T3 T4 T5 T6
      generalize (((((t3.setCell ⟨w.heap.size + 1, 0, none⟩ (.bool b5)).setCell ⟨w.heap.size + 1, 1, none⟩ (.slice a5 n5 c5)).setCell ⟨w.heap.size + 1, 2, none⟩ (.int .i64 e5)).setCell ⟨w.heap.size + 1, 3, none⟩ (.bool b6)).setCell ⟨w.heap.size + 1, 4, none⟩ (.slice a6 n6 c6)).setCell ⟨w.heap.size + 1, 5, none⟩ (.int .i64 e6) = w5 at *
      refine bodyPost_ret (v := .tuple #[.agg #[.bool b5, .slice a5 n5 c5, .int .i64 e5, .bool b6, .slice a6 n6 c6, .int .i64 e6], .int .i64 0]) (by simp [results, Tryz.results5, go_sem, p0, p1, p2, p3, p4, p5]) rfl ?_
      exact ⟨⟨_, _, _, _, _, _, _, _, _, _, rfl, HE.out.1, HE.out.2.1⟩, HE.out.2.2⟩

/-- of, whatever is handed in. -/
theorem of10_any (b1 : Bool) (a1 : Option Addr) (k1 : Nat) (X : List Nat) (ex1 : Int) (b2 : Bool) (a2 : Option Addr) (k2 : Nat) (Y : List Nat) (ex2 : Int) (L : Nat) (w : World) (hA : Arg w (.slice a1 X.length k1) X) (hB : Arg w (.slice a2 Y.length k2) Y) (f1 : X.length ≤ 17592186043904) (f2 : Y.length ≤ 17592186043904) (hL : 4611686018427387904 ≤ L) :
    Calls Tryz.prog 5 #[.agg #[.bool b1, .slice a1 X.length k1, .int .i64 ex1, .bool b2, .slice a2 Y.length k2, .int .i64 ex2]] w fun e w' => OfR w e w' (flt ex1 ex2 (vof b1 X ex1 L) (vof b2 Y ex2 L)) L (vof b1 X ex1 L) (vof b2 Y ex2 L) := by
  unfold flt
  by_cases hE1 : fitE ex1 = true
  · rw [if_pos hE1]
    by_cases hE2 : fitE ex2 = true
    · rw [if_pos hE2]
      exact of10_fit b1 a1 k1 X ex1 b2 a2 k2 Y ex2 L w hA hB f1 f2 hL hE1 hE2
    · rw [if_neg hE2]
      exact of10_no2 b1 a1 k1 X ex1 b2 a2 k2 Y ex2 L _ _ w hE1 (by simpa using hE2)
  · rw [if_neg hE1]
    exact of10_no1 b1 a1 k1 X ex1 b2 a2 k2 Y ex2 L _ _ w (by simpa using hE1)

end Go.Proofs.YtolebfnkmjmfnaaGreatDoor

namespace Go.Proofs.YtolebfnkmjmfnaaGreatDoor
open Go.RowKit
open Lm
attribute [local go_sem ↓] Go.wp_at_zero Go.wp_at_succ

/-- What fault answers of one span, of two. -/
def FltOf (w : World) (b1 : Bool) (a1 : Option Addr) (n1 k1 : Nat) (ex1 : Int) (b2 : Bool) (a2 : Option Addr) (n2 k2 : Nat) (ex2 : Int) (F : Int) : Prop :=
  ∀ W gs, Below w.heap.size w W → W.heap[gs]? = some (.cells #[.bool b1, .slice a1 n1 k1, .int .i64 ex1, .bool b2, .slice a2 n2 k2, .int .i64 ex2] 33) → Calls Tryz.prog 25 #[.slice (some ⟨gs, 0, none⟩) 1 1] W fun e w' => e = .returned (.int .i64 F) ∧ Below W.heap.size W w'

theorem fltOf_any (b1 : Bool) (a1 : Option Addr) (k1 : Nat) (X : List Nat) (ex1 : Int) (b2 : Bool) (a2 : Option Addr) (k2 : Nat) (Y : List Nat) (ex2 : Int) (L : Nat) (w : World) (hA : Arg w (.slice a1 X.length k1) X) (hB : Arg w (.slice a2 Y.length k2) Y) (f1 : X.length ≤ 17592186043904) (f2 : Y.length ≤ 17592186043904) (hL : 4611686018427387904 ≤ L) :
    FltOf w b1 a1 X.length k1 ex1 b2 a2 Y.length k2 ex2 (flt ex1 ex2 (vof b1 X ex1 L) (vof b2 Y ex2 L)) := by
  obtain ⟨o, c, hc, hfl⟩ := cmpOf_any b1 a1 k1 X ex1 b2 a2 k2 Y ex2 L w hA hB f1 f2 hL
  rw [← hfl]
  exact fun W gs hb hg => fault1_any gs b1 a1 X.length k1 ex1 b2 a2 Y.length k2 ex2 o c W hg (hc.below hb)

theorem flt_zero {ex1 ex2 V1 V2 : Int} (h : flt ex1 ex2 V1 V2 = 0) : fitE ex1 = true ∧ fitE ex2 = true ∧ V1 ≤ V2 := by
  unfold flt at h
  split at h
  · split at h
    · split at h
      · omega
      · exact ⟨by assumption, by assumption, by omega⟩
    · omega
  · omega

/-- A number that was handed in and means something. -/
def N8 (w : World) (b : Bool) (a : Option Addr) (n k : Nat) (ex : Int) (L : Nat) (V : Int) : Prop :=
  ∃ X : List Nat, n = X.length ∧ Arg w (.slice a n k) X ∧ X.length ≤ 17592186043904 ∧ fitE ex = true ∧ vof b X ex L = V

theorem N8.below {w w' : World} {b : Bool} {a : Option Addr} {n k : Nat} {ex : Int} {L : Nat} {V : Int} (h : N8 w b a n k ex L V) (hb : Below w.heap.size w w') : N8 w' b a n k ex L V := by
  obtain ⟨X, h1, h2, h3⟩ := h
  exact ⟨X, h1, h2.below hb, h3⟩

theorem cmpZ_neg {y z : Int} : cmpZ y z < 0 ↔ y < z := by
  unfold cmpZ
  split
  · omega
  · split <;> omega

set_option maxRecDepth 20000 in
set_option maxHeartbeats 1000000 in
theorem slessN (b1 : Bool) (a1 : Option Addr) (n1 k1 : Nat) (ex1 : Int) (b2 : Bool) (a2 : Option Addr) (n2 k2 : Nat) (ex2 : Int) (L : Nat) (V1 V2 : Int) (w : World) (h1 : N8 w b1 a1 n1 k1 ex1 L V1) (h2 : N8 w b2 a2 n2 k2 ex2 L V2) (hL : 4611686018427387904 ≤ L) :
    Calls Tryz.prog 88 #[.agg #[.bool b1, .slice a1 n1 k1, .int .i64 ex1], .agg #[.bool b2, .slice a2 n2 k2, .int .i64 ex2]] w fun e w' => e = .returned (.bool (decide (V1 < V2))) ∧ Below w.heap.size w w' := by
  obtain ⟨X, rfl, hA, f1, hE1, rfl⟩ := h1
  obtain ⟨Y, rfl, hB, f2, hE2, rfl⟩ := h2
  obtain ⟨w0, hw0, hb0, q0, q1⟩ := enter2 w (.cells #[.bool b1, .slice a1 X.length k1, .int .i64 ex1] 31) (.cells #[.bool b2, .slice a2 Y.length k2, .int .i64 ex2] 31)
  obtain ⟨y0, y1, y2⟩ := tri8 q0
  obtain ⟨y3, y4, y5⟩ := tri8 q1
  have r1 := (fitE_iff ex1).1 hE1
  have r2 := (fitE_iff ex2).1 hE2
  have C := yCompare_ok b1 a1 k1 X ex1 b2 a2 k2 Y ex2 L (ex1 + L).toNat (ex2 + L).toNat w0 (hA.below hb0) (hB.below hb0) (by omega) (by omega) hE1 hE2 hL (by omega) (by omega)
  rw [show zz b1 (val X) * 2 ^ (ex1 + L).toNat = vof b1 X ex1 L from rfl, show zz b2 (val Y) * 2 ^ (ex2 + L).toNat = vof b2 Y ex2 L from rfl] at C
  generalize vof b1 X ex1 L = V1 at *
  generalize vof b2 Y ex2 L = V2 at *
  obtain ⟨D, hD⟩ : ∃ D, decide (V1 < V2) = D := ⟨_, rfl⟩
  have i1 : decide (cmpZ V1 V2 < 0) = D := by rw [← hD]; simp only [cmpZ_neg]
  rw [hD]
  generalize cmpZ V1 V2 = cz at *
  have HB := hide hb0
  clear hA hB q0 q1 hb0 r1 r2 hE1 hE2 hD
  go_enter Tryz.func88, Tryz.ntmps88
  go_wp2_with fail
  refine C.mono ?_
  rintro e t1 ⟨rfl, g1⟩
  have HE := hide (bl_trans8 HB.out g1)
  clear g1 C
  go_wp2
  go_ret
  exact ⟨rfl, HE.out⟩

end Go.Proofs.YtolebfnkmjmfnaaGreatDoor

namespace Go.Proofs.YtolebfnkmjmfnaaGreatDoor
open Go.RowKit
open Lm
attribute [local go_sem ↓] Go.wp_at_zero Go.wp_at_succ

theorem sisPosB (n : Int) (w : World) : Calls Tryz.prog 61 #[.int .i64 n] w fun e w' => e = .returned (.bool (fitE n)) ∧ w' = w := by
  by_cases h1 : -1099511627776 ≤ n
  · have h1' : decide (-1099511627776 ≤ n) = true := decide_eq_true h1
    by_cases h2 : n ≤ 1099511627776
    · have h2' : decide (n ≤ 1099511627776) = true := decide_eq_true h2
      rw [(fitE_iff n).2 ⟨h1, h2⟩]
      go_enter Tryz.func61, Tryz.ntmps61
      go_wp2
      go_ret
      exact ⟨rfl, rfl⟩
    · have h2' : decide (n ≤ 1099511627776) = false := decide_eq_false h2
      have e : fitE n = false := by rw [← Bool.not_eq_true, fitE_iff]; omega
      rw [e]
      go_enter Tryz.func61, Tryz.ntmps61
      go_wp2
      go_ret
      exact ⟨rfl, rfl⟩
  · have h1' : decide (-1099511627776 ≤ n) = false := decide_eq_false h1
    have e : fitE n = false := by rw [← Bool.not_eq_true, fitE_iff]; omega
    rw [e]
    go_enter Tryz.func61, Tryz.ntmps61
    go_wp2
    go_ret
    exact ⟨rfl, rfl⟩

theorem V8.sign {w : World} {b : Bool} {a : Option Addr} {n c : Nat} {E : Int} {L : Nat} {V : Int} (h : V8 w b a n c E L V) : ∃ s : Int, (∀ W, Below w.heap.size w W → Calls Tryz.prog 43 #[.agg #[.bool b, .slice a n c]] W fun e w' => e = .returned (.int .i64 s) ∧ Below W.heap.size W w') ∧ (0 < s ↔ 0 < V) ∧ (s < 0 ↔ V < 0) := by
  obtain ⟨M, d, r, _⟩ := h
  refine ⟨M.sign, fun W hg => rzsign_any _ M W (d.below hg).zn, ?_, ?_⟩
  · obtain ⟨p1, p2⟩ := r.pos
    rcases Int.lt_trichotomy M 0 with g | g | g
    · have := p1.2 g; rw [Int.sign_eq_neg_one_of_neg g]; omega
    · subst g; have := p2.2 rfl; simp; omega
    · rw [Int.sign_eq_one_of_pos g]
      have q1 : ¬ V < 0 := fun h => by have := p1.1 h; omega
      have q2 : ¬ V = 0 := fun h => by have := p2.1 h; omega
      omega
  · obtain ⟨p1, p2⟩ := r.pos
    rcases Int.lt_trichotomy M 0 with g | g | g
    · have := p1.2 g; rw [Int.sign_eq_neg_one_of_neg g]; omega
    · subst g; have := p2.2 rfl; simp; omega
    · rw [Int.sign_eq_one_of_pos g]
      have q1 : ¬ V < 0 := fun h => by have := p1.1 h; omega
      omega

end Go.Proofs.YtolebfnkmjmfnaaGreatDoor

namespace Go.Proofs.YtolebfnkmjmfnaaGreatDoor
open Go.RowKit
open Lm
attribute [local go_sem ↓] Go.wp_at_zero Go.wp_at_succ

end Go.Proofs.YtolebfnkmjmfnaaGreatDoor

namespace Go.Proofs.YtolebfnkmjmfnaaGreatDoor
open Go.RowKit
open Lm
attribute [local go_sem ↓] Go.wp_at_zero Go.wp_at_succ

theorem oe_pred {z ex S m : Int} (h1 : omz z = omz S) (h2 : oe z ex = oe S m) : oe z (ex - 1) = oe S (m - 1) := by
  unfold oe at *
  by_cases hz : z = 0
  · subst hz
    have hS : S = 0 := by
      rcases Decidable.em (S = 0) with h | h
      · exact h
      · exact absurd (h1.symm.trans omz_zero) (omz_ne h)
    subst hS
    simp
  · have hS : S ≠ 0 := by
      rintro rfl
      exact omz_ne hz (h1.trans omz_zero)
    rw [if_neg hz, if_neg hS] at *
    omega

/-- What middle makes of it. -/
theorem PlusV.half {w : World} {b : Bool} {v : Value} {n : Nat} {ex r S m : Int} (h : PlusV w b v n ex r (omz S) (oe S m)) : (r = 0 ∧ -2305843009213693951 ≤ ex ∧ ex ≤ 2305843009213693952 ∧ ∃ X z, n = X.length ∧ Nm w b v X z ∧ omz z = omz S ∧ oe z (ex - 1) = oe S (m - 1) ∧ X.length ≤ 35184372088800) ∨ (r = 3 ∧ 67108864 < blen (omz S).natAbs) := by
  rcases h with ⟨h1, X, z, h2, h3, h4, h5, h6, h7, h8⟩ | h
  · exact .inl ⟨h1, h6, h7, X, z, h2, h3, h4, oe_pred h4 h5, h8⟩
  · exact .inr h

/-- As PlusV, an exponent one lower. -/
def HalfV (w : World) (b : Bool) (v : Value) (n : Nat) (ex r M E : Int) : Prop :=
  (r = 0 ∧ ∃ X z, n = X.length ∧ Nm w b v X z ∧ omz z = M ∧ oe z ex = E ∧ -2305843009213693952 ≤ ex ∧ ex ≤ 2305843009213693952 ∧ X.length ≤ 35184372088800) ∨ (r = 3 ∧ 67108864 < blen M.natAbs)

theorem PlusV.halfV {w : World} {b : Bool} {v : Value} {n : Nat} {ex r M E : Int} (h : PlusV w b v n ex r M E) : HalfV w b v n ex r M E := by
  rcases h with ⟨h1, X, z, h2, h3, h4, h5, h6, h7, h8⟩ | h
  · exact .inl ⟨h1, X, z, h2, h3, h4, h5, by omega, h7, h8⟩
  · exact .inr h

theorem HalfV.tri8 {w : World} {b : Bool} {v : Value} {n0 : Nat} {ex r M E : Int} {g : Nat} {p : Bool} {a : Option Addr} {n c : Nat} {e : Int} {t : TypeId} (h : HalfV w b v n0 ex r M E) (hl : w.heap[g]? = some (.cells #[.bool p, .slice a n c, .int .i64 e] t)) (p1 : Bool) (a1 : Option Addr) (n1 c1 : Nat) (u2 : Value) : HalfV (((w.setCell ⟨g, 0, none⟩ (.bool p1)).setCell ⟨g, 1, none⟩ (.slice a1 n1 c1)).setCell ⟨g, 2, none⟩ u2) b v n0 ex r M E := by
  rcases h with ⟨h1, X, z, h2, h3, h4⟩ | h
  · exact .inl ⟨h1, X, z, h2, h3.tri8 hl p1 a1 n1 c1 u2, h4⟩
  · exact .inr h

def YHalf (w : World) (M E : Int) (e : Ending) (w' : World) : Prop := (∃ b a n k ex r, e = .returned (.tuple #[.agg #[.bool b, .slice a n k, .int .i64 ex], .int .i64 r]) ∧ HalfV w' b (.slice a n k) n ex r M E) ∧ Below w.heap.size w w'

theorem YPlusV.half {w w' : World} {M E : Int} {e : Ending} (h : YPlusV w M E e w') : YHalf w M E e w' := by
  obtain ⟨⟨b, a, n, k, ex, r, he, h⟩, hb⟩ := h
  exact ⟨⟨b, a, n, k, ex, r, he, h.halfV⟩, hb⟩

set_option maxRecDepth 20000 in
set_option maxHeartbeats 2000000 in
theorem ymiddle_any (b1 : Bool) (a1 : Option Addr) (c1 : Nat) (X : List Nat) (M1 E1 : Int) (b2 : Bool) (a2 : Option Addr) (c2 : Nat) (Y : List Nat) (M2 E2 : Int) (w : World) (h1 : Nm w b1 (.slice a1 X.length c1) X M1) (h2 : Nm w b2 (.slice a2 Y.length c2) Y M2) (n1 : Nr8 M1 E1) (n2 : Nr8 M2 E2) (f1 : X.length ≤ 17592186043904) (f2 : Y.length ≤ 17592186043904) (he1 : -1152921504606846976 ≤ E1) (he2 : E2 ≤ 1152921504606846976) (he3 : -1152921504606846976 ≤ E2) (he4 : E1 ≤ 1152921504606846976) :
    Calls Tryz.prog 60 #[.agg #[.bool b1, .slice a1 X.length c1, .int .i64 E1], .agg #[.bool b2, .slice a2 Y.length c2, .int .i64 E2]] w (YHalf w (omz (sm M1 E1 M2 E2)) (oe (sm M1 E1 M2 E2) (min E1 E2 - 1))) := by
  obtain ⟨w0, hw0, hb0, k0, k1, k2⟩ := enter3 w (.cells #[.bool b1, .slice a1 X.length c1, .int .i64 E1] 129) (.cells #[.bool b2, .slice a2 Y.length c2, .int .i64 E2] 129) (.cells #[.bool false, .slice none 0 0, .int .i64 0] 129)
  obtain ⟨x0, x1, x2⟩ := tri8 k0
  obtain ⟨x3, x4, x5⟩ := tri8 k1
  have HC := yplus_any b1 a1 c1 X M1 E1 b2 a2 c2 Y M2 E2 w0 (h1.below hb0) (h2.below hb0) n1 n2 f1 f2 he1 he2 he3 he4
  have HK2 := hide k2
  have HB := hide hb0
  clear k0 k1 k2 hb0 h1 h2 n1 n2
  generalize sm M1 E1 M2 E2 = S at *
  generalize min E1 E2 = m at *
  go_enter Tryz.func60, Tryz.ntmps60
  go_wp2_with fail
  refine HC.mono ?_
  rintro e t1 ⟨⟨b3, a3, n3, k3, e3, r3, rfl, hp⟩, g1⟩
  obtain ⟨w4, hw4, hb4, h4⟩ := enter1 t1 (.cells #[.bool b3, .slice a3 n3 k3, .int .i64 e3] 129)
  have g4 := bl_trans8 g1 hb4
  have HC4 := hide (block_upW g4 HK2.out)
  have HG4 := hide (bl_trans8 HB.out g4)
  have hx := hp.half
  have HN4 : Hid ((r3 = 0 ∧ ∃ X z, n3 = X.length ∧ Nm w4 b3 (.slice a3 n3 k3) X z ∧ omz z = omz S ∧ oe z (e3 - 1) = oe S (m - 1) ∧ X.length ≤ 35184372088800 ∧ -2305843009213693951 ≤ e3 ∧ e3 ≤ 2305843009213693952) ∨ (r3 = 3 ∧ 67108864 < blen (omz S).natAbs)) := hide (by
    rcases hx with ⟨q1, q2, q3, X, z, q4, q5, q6, q7, q8⟩ | q
    · exact .inl ⟨q1, X, z, q4, q5.below hb4, q6, q7, q8, q2, q3⟩
    · exact .inr q)
  obtain ⟨y0, y1, y2⟩ := tri8 h4
  have yf := tri8f h4
  have hlt : w.heap.size + 1 + 1 < t1.heap.size := by
    have := lt_of_block (block_upW g1 HK2.out)
    exact this
  obtain ⟨d3, hd3⟩ : ∃ d3, IntKind.i64.wrap (e3 - 1) = d3 := ⟨_, rfl⟩
  have HD3 := hide hd3
  have hbx : (w4.setCell ⟨t1.heap.size, 2, none⟩ (.int .i64 d3)).heap[t1.heap.size]? = some (.cells #[.bool b3, .slice a3 n3 k3, .int .i64 d3] 129) := box_modify h4 _
  have hcx : (w4.setCell ⟨t1.heap.size, 2, none⟩ (.int .i64 d3)).heap[w.heap.size + 1 + 1]? = some (.cells #[.bool false, .slice none 0 0, .int .i64 0] 129) := by
    rw [Below.heap_setCell _ _ _ _ (show w.heap.size + 1 + 1 ≠ t1.heap.size by omega)]; exact HC4.out
  have hgx : Below w.heap.size w (w4.setCell ⟨t1.heap.size, 2, none⟩ (.int .i64 d3)) := HG4.out.setCell (p := ⟨t1.heap.size, 2, none⟩) (show w.heap.size ≤ t1.heap.size by omega) _
  have hnx : Hid ((r3 = 0 ∧ ∃ X z, n3 = X.length ∧ Nm (w4.setCell ⟨t1.heap.size, 2, none⟩ (.int .i64 d3)) b3 (.slice a3 n3 k3) X z ∧ omz z = omz S ∧ oe z (e3 - 1) = oe S (m - 1) ∧ X.length ≤ 35184372088800 ∧ -2305843009213693951 ≤ e3 ∧ e3 ≤ 2305843009213693952) ∨ (r3 = 3 ∧ 67108864 < blen (omz S).natAbs)) := hide (by
    rcases hx with ⟨q1, q2, q3, X, z, q4, q5, q6, q7, q8⟩ | q
    · have hs : Below t1.heap.size t1 (w4.setCell ⟨t1.heap.size, 2, none⟩ (.int .i64 d3)) := hb4.setCell (p := ⟨t1.heap.size, 2, none⟩) (Nat.le_refl _) _
      exact .inl ⟨q1, X, z, q4, q5.below hs, q6, q7, q8, q2, q3⟩
    · exact .inr q)
  obtain ⟨w6, hw6⟩ : ∃ w6, w4.setCell ⟨t1.heap.size, 2, none⟩ (.int .i64 d3) = w6 := ⟨_, rfl⟩
  rw [hw6] at hbx hcx hgx hnx
  obtain ⟨z0, z1, z2⟩ := tri8 hbx
  obtain ⟨m0, m1, m2⟩ := tri8 hcx
  have mf := tri8f hcx
  have HG := hide hgx
  have HC1 := hide hcx
  clear hx hp g1 hb4 h4 g4 HC HC4 HG4 HK2 HB HN4 hbx hcx hgx hlt x0 x1 x2 x3 x4 x5
  go_wp2
  have T3 := tri8_all HC1.out (.bool b3) (.slice a3 n3 k3) (.int .i64 d3)
  have T4 := below_tri8 HG.out (show w.heap.size ≤ w.heap.size + 1 + 1 by omega) (.bool b3) (.slice a3 n3 k3) (.int .i64 d3)
  have T5 : HalfV w6 b3 (.slice a3 n3 k3) n3 d3 r3 (omz S) (oe S (m - 1)) := by
    rcases hnx.out with ⟨q1, X, z, q4, q5, q6, q7, q8, q2, q3⟩ | q
    · have e : d3 = e3 - 1 := by rw [← HD3.out, IntKind.wrap_i64]; omega
      rw [e]
      exact .inl ⟨q1, X, z, q4, q5, q6, q7, by omega, by omega, q8⟩
    · exact .inr q
  have T6 := T5.tri8 HC1.out b3 a3 n3 k3 (.int .i64 d3)
  obtain ⟨p0, p1, p2⟩ := tri8 T3
  have HE := hide (And.intro T6 T4)
  clear T3 T4 T5 T6
  generalize ((w6.setCell ⟨w.heap.size + 1 + 1, 0, none⟩ (.bool b3)).setCell ⟨w.heap.size + 1 + 1, 1, none⟩ (.slice a3 n3 k3)).setCell ⟨w.heap.size + 1 + 1, 2, none⟩ (.int .i64 d3) = w5 at *
  refine bodyPost_ret (v := .tuple #[.agg #[.bool b3, .slice a3 n3 k3, .int .i64 d3], .int .i64 r3]) (by simp [results, Tryz.results60, go_sem, p0, p1, p2]) rfl ?_
  exact ⟨⟨_, _, _, _, _, _, rfl, HE.out.1⟩, HE.out.2⟩

end Go.Proofs.YtolebfnkmjmfnaaGreatDoor

namespace Go.Proofs.YtolebfnkmjmfnaaGreatDoor
open Go.RowKit
open Lm
attribute [local go_sem ↓] Go.wp_at_zero Go.wp_at_succ

/-- answered of what middle has answered. -/
theorem yanswered_half (b : Bool) (a : Option Addr) (n c : Nat) (ex r M E : Int) (w : World) (hT : Tab w) (h : HalfV w b (.slice a n c) n ex r M E) :
    Calls Tryz.prog 84 #[.agg #[.bool b, .slice a n c, .int .i64 ex], .int .i64 r] w fun e w' => DRes w' w.heap.size e M E ∧ Below w.heap.size w w' := by
  rcases h with ⟨rfl, X, z, rfl, h3, h4, h5, h6, h7, h8⟩ | ⟨rfl, h2⟩
  · have := yanswered_ok b a c X z ex w h3 hT h6 h7 h8
    rw [h4, h5] at this
    exact this
  · exact (yanswered_no b a n c ex 3 w (by decide)).mono fun e w' h => ⟨h.1.res h2, h.2⟩

set_option maxRecDepth 20000 in
set_option maxHeartbeats 2000000 in
theorem yji_ok (b1 : Bool) (a1 : Option Addr) (c1 : Nat) (X : List Nat) (ex1 : Int) (b2 : Bool) (a2 : Option Addr) (c2 : Nat) (Y : List Nat) (ex2 : Int) (RM RE : Int) (w : World) (hT : Tab w) (hA : Arg w (.slice a1 X.length c1) X) (hB : Arg w (.slice a2 Y.length c2) Y) (hf : X.length ≤ 17592186043904) (hg : Y.length ≤ 17592186043904) (hE1 : fitE ex1 = true) (hE2 : fitE ex2 = true)
    (hW : ∀ (W : World) (b3 : Bool) (a3 : Option Addr) (c3 : Nat) (X3 : List Nat) (b4 : Bool) (a4 : Option Addr) (c4 : Nat) (X4 : List Nat), Tab W → Nm W b3 (.slice a3 X3.length c3) X3 (omz (zz b1 (val X))) → Nm W b4 (.slice a4 X4.length c4) X4 (omz (zz b2 (val Y))) → X3.length ≤ 17592186043904 → X4.length ≤ 17592186043904 →
      Calls Tryz.prog 60 #[.agg #[.bool b3, .slice a3 X3.length c3, .int .i64 (oe (zz b1 (val X)) ex1)], .agg #[.bool b4, .slice a4 X4.length c4, .int .i64 (oe (zz b2 (val Y)) ex2)]] W (YHalf W RM RE)) :
    Calls Tryz.prog 58 #[.agg #[.bool b1, .slice a1 X.length c1, .int .i64 ex1], .agg #[.bool b2, .slice a2 Y.length c2, .int .i64 ex2], .func (Fn.func 60) #[] #[]] w fun e w' => DRes w' w.heap.size e RM RE ∧ Below w.heap.size w w' := by
  obtain ⟨w0, hw0, hb0, k0, k1, k2⟩ := enter3 w (.cells #[.bool b1, .slice a1 X.length c1, .int .i64 ex1] 31) (.cells #[.bool b2, .slice a2 Y.length c2, .int .i64 ex2] 31) (.cells #[.bool false, .slice none 0 0, .int .i64 0] 31)
  obtain ⟨x0, x1, x2⟩ := tri8 k0
  have HP1 := yread_ok b1 a1 c1 X ex1 w0 (hA.below hb0) (hT.below hb0) (by omega) hE1
  have HP2 := hide (fun (W : World) (hh : Below w.heap.size w W) => yread_ok b2 a2 c2 Y ex2 W (hB.below hh) (hT.below hh) (by omega) hE2)
  have r1 := read_facts (b := b1) hA hf hE1
  have r2 := read_facts (b := b2) hB hg hE2
  have HR := hide (And.intro r1.1 r2.1)
  have HK1 := hide k1
  have HK2 := hide k2
  have HB := hide hb0
  have HT := hide hT
  have HWK := hide hW
  clear k0 k1 k2 hb0 hE1 hE2 hA hB hT r1 r2 hW
  generalize oe (zz b1 (val X)) ex1 = E1 at *
  generalize omz (zz b1 (val X)) = M1 at *
  generalize oe (zz b2 (val Y)) ex2 = E2 at *
  generalize omz (zz b2 (val Y)) = M2 at *
  go_enter Tryz.func58, Tryz.ntmps58
  go_wp2_with fail
  refine HP1.mono ?_
  rintro e t1 ⟨⟨b3, a3, n3, c3, X3, rfl, rfl, N3, _⟩, g1⟩
  obtain ⟨w4, hw4, hb4, h4⟩ := enter1 t1 (.cells #[.bool b3, .slice a3 X3.length c3, .int .i64 E1] 129)
  have HC0 := hide (block_upW hb4 (block_upW g1 HK2.out))
  have HG0 := hide (bl_trans8 (bl_trans8 HB.out g1) hb4)
  obtain ⟨l0, l1, l2⟩ := tri8 (block_upW hb4 (block_upW g1 HK1.out))
  have HPP := HP2.out w4 HG0.out
  have HN3 := hide (N3.below hb4)
  have HH4 := hide h4
  clear g1 hb4 h4 HP1 HP2 HK1 HK2 HB N3
  go_wp2_with fail
  refine HPP.mono ?_
  rintro e t5 ⟨⟨b6, a6, n6, c6, X6, rfl, rfl, N6, _⟩, g5⟩
  obtain ⟨w6, hw6, hb6, h6⟩ := enter1 t5 (.cells #[.bool b6, .slice a6 X6.length c6, .int .i64 E2] 129)
  have HC2 := hide (block_upW hb6 (block_upW g5 HC0.out))
  have HG2 := hide (bl_trans8 (bl_trans8 HG0.out g5) hb6)
  obtain ⟨u0, u1, u2⟩ := tri8 h6
  obtain ⟨u3, u4, u5⟩ := tri8 (block_upW hb6 (block_upW g5 HH4.out))
  have N3' := (HN3.out.below g5).below hb6
  have N6' := N6.below hb6
  have HWW := HWK.out w6 b3 a3 c3 X3 b6 a6 c6 X6 (HT.out.below HG2.out) N3' N6' (N3'.len 17592186043904 HR.out.1) (N6'.len 17592186043904 HR.out.2)
  clear g5 hb6 h6 HPP N3' N6' N6 HN3 HH4 HC0 HG0 HWK
  go_wp2_with fail
  refine HWW.mono ?_
  rintro e t7 ⟨⟨b7, a7, n7, c7, e7, r7, rfl, P7⟩, g7⟩
  have HC3 := hide (block_upW g7 HC2.out)
  have HG3 := hide (bl_trans8 HG2.out g7)
  have HAN := yanswered_half b7 a7 n7 c7 e7 r7 RM RE t7 (HT.out.below HG3.out) P7
  clear g7 HWW P7 HC2 HG2
  go_wp2_with fail
  refine HAN.mono ?_
  rintro e t8 ⟨⟨b8, a8, n8, c8, e8, r8, rfl, D8⟩, g8⟩
  have HC1 := hide (block_upW g8 HC3.out)
  have HG := hide (bl_trans8 HG3.out g8)
  have HDR := hide (D8.base HG3.out.size)
  have hf1 := tri8f HC1.out
  obtain ⟨m0, m1, m2⟩ := tri8 HC1.out
  clear g8 HAN D8 HC3 HG3
  go_wp2
  have T3 := tri8_all HC1.out (.bool b8) (.slice a8 n8 c8) (.int .i64 e8)
  have T4 := below_tri8 HG.out (show w.heap.size ≤ w.heap.size + 1 + 1 by omega) (.bool b8) (.slice a8 n8 c8) (.int .i64 e8)
  have T5 := HDR.out.tri8 HC1.out (by decide) (.bool b8) (.slice a8 n8 c8) (.int .i64 e8)
  obtain ⟨p0, p1, p2⟩ := tri8 T3
  have HE := hide (And.intro T5 T4)
  clear T3 T4 T5
  generalize ((t8.setCell ⟨w.heap.size + 1 + 1, 0, none⟩ (.bool b8)).setCell ⟨w.heap.size + 1 + 1, 1, none⟩ (.slice a8 n8 c8)).setCell ⟨w.heap.size + 1 + 1, 2, none⟩ (.int .i64 e8) = w5 at *
  refine bodyPost_ret (v := .tuple #[.agg #[.bool b8, .slice a8 n8 c8, .int .i64 e8], .int .i64 r8]) (by simp [results, Tryz.results58, go_sem, p0, p1, p2]) rfl ?_
  exact ⟨⟨_, _, _, _, _, _, rfl, HE.out.1⟩, HE.out.2⟩

set_option maxRecDepth 20000 in
set_option maxHeartbeats 2000000 in
theorem ymid_res (b1 : Bool) (a1 : Option Addr) (n1 c1 : Nat) (ex1 : Int) (b2 : Bool) (a2 : Option Addr) (n2 c2 : Nat) (ex2 : Int) (RM RE : Int) (w : World) (h : ∀ W, Below w.heap.size w W → Calls Tryz.prog 58 #[.agg #[.bool b1, .slice a1 n1 c1, .int .i64 ex1], .agg #[.bool b2, .slice a2 n2 c2, .int .i64 ex2], .func (Fn.func 60) #[] #[]] W fun e w' => DRes w' W.heap.size e RM RE ∧ Below W.heap.size W w') :
    Calls Tryz.prog 27 #[.agg #[.bool b1, .slice a1 n1 c1, .int .i64 ex1], .agg #[.bool b2, .slice a2 n2 c2, .int .i64 ex2]] w fun e w' => DRes w' w.heap.size e RM RE ∧ Below w.heap.size w w' := by
  obtain ⟨w0, hw0, hb0, k0, k1, k2⟩ := enter3 w (.cells #[.bool b1, .slice a1 n1 c1, .int .i64 ex1] 31) (.cells #[.bool b2, .slice a2 n2 c2, .int .i64 ex2] 31) (.cells #[.bool false, .slice none 0 0, .int .i64 0] 31)
  obtain ⟨x0, x1, x2⟩ := tri8 k0
  obtain ⟨x3, x4, x5⟩ := tri8 k1
  have HJ := h w0 hb0
  have HK2 := hide k2
  have HB := hide hb0
  clear k0 k1 k2 hb0 h
  go_enter Tryz.func27, Tryz.ntmps27
  go_wp2_with fail
  refine HJ.mono ?_
  rintro e t8 ⟨⟨b8, a8, n8, c8, e8, r8, rfl, D8⟩, g8⟩
  have HC1 := hide (block_upW g8 HK2.out)
  have HG := hide (bl_trans8 HB.out g8)
  have HDR := hide (D8.base HB.out.size)
  have hf1 := tri8f HC1.out
  obtain ⟨m0, m1, m2⟩ := tri8 HC1.out
  clear g8 HJ D8
  go_wp2
  have T3 := tri8_all HC1.out (.bool b8) (.slice a8 n8 c8) (.int .i64 e8)
  have T4 := below_tri8 HG.out (show w.heap.size ≤ w.heap.size + 1 + 1 by omega) (.bool b8) (.slice a8 n8 c8) (.int .i64 e8)
  have T5 := HDR.out.tri8 HC1.out (by decide) (.bool b8) (.slice a8 n8 c8) (.int .i64 e8)
  obtain ⟨p0, p1, p2⟩ := tri8 T3
  have HE := hide (And.intro T5 T4)
  clear T3 T4 T5
  generalize ((t8.setCell ⟨w.heap.size + 1 + 1, 0, none⟩ (.bool b8)).setCell ⟨w.heap.size + 1 + 1, 1, none⟩ (.slice a8 n8 c8)).setCell ⟨w.heap.size + 1 + 1, 2, none⟩ (.int .i64 e8) = w5 at *
  refine bodyPost_ret (v := .tuple #[.agg #[.bool b8, .slice a8 n8 c8, .int .i64 e8], .int .i64 r8]) (by simp [results, Tryz.results27, go_sem, p0, p1, p2]) rfl ?_
  exact ⟨⟨_, _, _, _, _, _, rfl, HE.out.1⟩, HE.out.2⟩

end Go.Proofs.YtolebfnkmjmfnaaGreatDoor

namespace Go.Proofs.YtolebfnkmjmfnaaGreatDoor
open Go.RowKit
open Lm
attribute [local go_sem ↓] Go.wp_at_zero Go.wp_at_succ

set_option maxRecDepth 20000 in
set_option maxHeartbeats 1000000 in
theorem one10_bad (f : Int) (b2 : Bool) (a2 : Option Addr) (n2 c2 : Nat) (E : Int) (w : World) (hf : f ≠ 0) :
    Calls Tryz.prog 10 #[.agg #[.bool false, .slice none 0 0, .int .i64 0], .int .i64 f, .agg #[.bool b2, .slice a2 n2 c2, .int .i64 E], .int .i64 f] w fun e w' => e = .returned (.bool true) ∧ Below w.heap.size w w' := by
  obtain ⟨w0, hw0, hb0, h0, h1⟩ := enter2 w (.cells #[.bool false, .slice none 0 0, .int .i64 0] 31) (.cells #[.bool b2, .slice a2 n2 c2, .int .i64 E] 41)
  obtain ⟨k0, k1, k2⟩ := tri8 h0
  have HN := num10_any f w0
  have f1 : ((f : Int) == 0) = false := by rw [beq_eq_false_iff_ne]; exact hf
  have f2 : ((f : Int) != 0) = true := by rw [bne, f1]; rfl
  have f3 : ((f : Int) == f) = true := by simp
  have HB := hide hb0
  clear h0 h1 hb0
  go_enter Tryz.func10, Tryz.ntmps10
  go_wp2_with fail
  refine HN.mono ?_
  rintro e wn ⟨rfl, hw⟩; rw [hw]; clear hw wn HN
  go_wp2
  go_ret
  exact ⟨rfl, HB.out⟩

set_option maxRecDepth 20000 in
set_option maxHeartbeats 2000000 in
theorem one10_ok (b : Bool) (a : Option Addr) (n c : Nat) (ex r : Int) (b2 : Bool) (a2 : Option Addr) (n2 c2 : Nat) (M E : Int) (base : Nat) (w : World) (hD : DR w base b (.slice a n c) ex r M E) (h : Dn w b2 (.slice a2 n2 c2) M) :
    Calls Tryz.prog 10 #[.agg #[.bool b, .slice a n c, .int .i64 ex], .int .i64 r, .agg #[.bool b2, .slice a2 n2 c2, .int .i64 E], .int .i64 0] w fun e w' => e = .returned (.bool true) ∧ Below w.heap.size w w' := by
  obtain ⟨w0, hw0, hb0, h0, h1⟩ := enter2 w (.cells #[.bool b, .slice a n c, .int .i64 ex] 31) (.cells #[.bool b2, .slice a2 n2 c2, .int .i64 E] 41)
  obtain ⟨m0, m1, m2⟩ := tri8 h1
  have HTD := rtold_any b2 a2 n2 c2 M E w0 (h.below hb0)
  have H0 := hide h0
  have H1 := hide h1
  have HB := hide hb0
  have HD := hide hD
  clear h0 h1 hb0 h hD
  go_enter Tryz.func10, Tryz.ntmps10
  go_wp2_with fail
  refine HTD.mono ?_
  rintro e t1 ⟨⟨b3, a3, n3, c3, E3, f, rfl, hcase⟩, g1⟩
  have G1 := bl_trans8 HB.out g1
  have c0 := block_upW g1 H0.out
  have c1 := block_upW g1 H1.out
  have hf1 := tri8f c1
  obtain ⟨m0, m1, m2⟩ := tri8 c1
  have hne : w.heap.size ≠ w.heap.size + 1 := by omega
  have d0 : (((t1.setCell ⟨w.heap.size + 1, 0, none⟩ (.bool b3)).setCell ⟨w.heap.size + 1, 1, none⟩ (.slice a3 n3 c3)).setCell ⟨w.heap.size + 1, 2, none⟩ (.int .i64 E3)).heap[w.heap.size]? = some (.cells #[.bool b, .slice a n c, .int .i64 ex] 31) := by
    rw [Below.heap_setCell _ _ _ _ hne, Below.heap_setCell _ _ _ _ hne, Below.heap_setCell _ _ _ _ hne]; exact c0
  have d1 := tri8_all c1 (.bool b3) (.slice a3 n3 c3) (.int .i64 E3)
  have G2 := below_tri8 G1 (show w.heap.size ≤ w.heap.size + 1 by omega) (.bool b3) (.slice a3 n3 c3) (.int .i64 E3)
  have DD := (HD.out.below G1).tri8 c1 (by decide) (.bool b3) (.slice a3 n3 c3) (.int .i64 E3)
  obtain ⟨q0, q1, q2⟩ := tri8 d0
  obtain ⟨o0, o1, o2⟩ := tri8 d1
  have HG := hide G2
  obtain ⟨rs, A1, H2⟩ := DD
  have HN := num10_any r (((t1.setCell ⟨w.heap.size + 1, 0, none⟩ (.bool b3)).setCell ⟨w.heap.size + 1, 1, none⟩ (.slice a3 n3 c3)).setCell ⟨w.heap.size + 1, 2, none⟩ (.int .i64 E3))
  rcases hcase with ⟨p1, p2, p3, p4, p5, p6, p7⟩ | ⟨p1, p2⟩ | ⟨p1, p2, p3⟩
  · subst p1 p2 p4
    cases p3
    have p7' := p7.tri8 c1 b3 a2 n2 c2 (.int .i64 E3)
    rcases H2 with ⟨q1', q2', q3, q4, q5, q6, q7⟩ | ⟨q1', _, _, _, _, q6⟩ | ⟨q1', _, _, _, _, _, q7⟩
    · subst q1' q5
      have eb : b3 = b := by rw [p7.1, q2']
      subst eb
      have hl : rs.length ≤ 1048576 := few_ofW q4 q3 (by omega)
      have HIS := rdIs_any b3 a2 n2 c2 M ex (.slice a n c) rs _ p7' (A1.arg (by omega)) q4 q3 (by omega)
      clear G1 G2 c0 c1 d0 d1 p7 p7' q2' q3 q4 q6 q7 p5 p6 A1 HTD H0 H1 HB HD hl g1
      go_wp2_with fail
      refine HN.mono ?_
      rintro e wn ⟨rfl, hw⟩; rw [hw]; clear hw wn HN
      go_wp2_with fail
      refine HIS.mono ?_
      rintro e t2 ⟨rfl, g2⟩
      have HE := hide (bl_trans8 HG.out g2)
      clear g2 HIS
      go_wp2
      go_ret
      exact ⟨rfl, HE.out⟩
    · omega
    · rw [p6] at q7; cases q7
  · subst p1
    rcases H2 with ⟨q1', q2', q3, q4, q5, q6, q7⟩ | ⟨q1', q2', q3', q4', _, q6⟩ | ⟨q1', _, _, _, _, q6, q7⟩
    · omega
    · subst q1' q2' q4'
      cases q3'
      clear G1 G2 c0 c1 d0 d1 A1 HTD H0 H1 HB HD g1 q6 p2
      go_wp2_with fail
      refine HN.mono ?_
      rintro e wn ⟨rfl, hw⟩; rw [hw]; clear hw wn HN
      go_wp2
      go_ret
      exact ⟨rfl, HG.out⟩
    · omega
  · subst p1
    rcases H2 with ⟨q1', q2', q3, q4, q5, q6, q7⟩ | ⟨q1', q2', q3', q4', _, q6⟩ | ⟨q1', q2', q3', q4', _, q6, q7⟩
    · rw [p3] at q7; cases q7
    · omega
    · subst q1' q2' q4'
      cases q3'
      clear G1 G2 c0 c1 d0 d1 A1 HTD H0 H1 HB HD g1 q6 q7 p2 p3
      go_wp2_with fail
      refine HN.mono ?_
      rintro e wn ⟨rfl, hw⟩; rw [hw]; clear hw wn HN
      go_wp2
      go_ret
      exact ⟨rfl, HG.out⟩

theorem ysub_full (b1 : Bool) (a1 : Option Addr) (k1 : Nat) (X : List Nat) (ex1 : Int) (b2 : Bool) (a2 : Option Addr) (k2 : Nat) (Y : List Nat) (ex2 : Int) (w : World) (hT : Tab w) (hA : Arg w (.slice a1 X.length k1) X) (hB : Arg w (.slice a2 Y.length k2) Y) (hf : X.length ≤ 17592186043904) (hg : Y.length ≤ 17592186043904) (hE1 : fitE ex1 = true) (hE2 : fitE ex2 = true) :
    Calls Tryz.prog 26 #[.agg #[.bool b1, .slice a1 X.length k1, .int .i64 ex1], .agg #[.bool b2, .slice a2 Y.length k2, .int .i64 ex2]] w fun e w' => DRes w' w.heap.size e (omz (sm (omz (zz b1 (val X))) (oe (zz b1 (val X)) ex1) (-(omz (zz b2 (val Y)))) (oe (zz b2 (val Y)) ex2))) (oe (sm (omz (zz b1 (val X))) (oe (zz b1 (val X)) ex1) (-(omz (zz b2 (val Y)))) (oe (zz b2 (val Y)) ex2)) (min (oe (zz b1 (val X)) ex1) (oe (zz b2 (val Y)) ex2))) ∧ Below w.heap.size w w' := by
  have F1 := read_facts (b := b1) (ex := ex1) hA hf hE1
  have F2 := read_facts (b := b2) (ex := ex2) hB hg hE2
  exact ysub_res b1 a1 _ k1 ex1 b2 a2 _ k2 ex2 _ _ w (fun W hg' => yjm_ok b1 a1 k1 X ex1 b2 a2 k2 Y ex2 _ _ W (hT.below hg') (hA.below hg') (hB.below hg') hf hg hE1 hE2 (fun W2 b3 a3 c3 X3 b4 a4 c4 X4 t3 m3 m4 l3 l4 => yminus_any b3 a3 c3 X3 _ _ b4 a4 c4 X4 _ _ W2 m3 m4 F1.2.2.2 F2.2.2.2 l3 l4 F1.2.1 F2.2.2.1 F2.2.1 F1.2.2.1))

theorem ymid_full (b1 : Bool) (a1 : Option Addr) (k1 : Nat) (X : List Nat) (ex1 : Int) (b2 : Bool) (a2 : Option Addr) (k2 : Nat) (Y : List Nat) (ex2 : Int) (w : World) (hT : Tab w) (hA : Arg w (.slice a1 X.length k1) X) (hB : Arg w (.slice a2 Y.length k2) Y) (hf : X.length ≤ 17592186043904) (hg : Y.length ≤ 17592186043904) (hE1 : fitE ex1 = true) (hE2 : fitE ex2 = true) :
    Calls Tryz.prog 27 #[.agg #[.bool b1, .slice a1 X.length k1, .int .i64 ex1], .agg #[.bool b2, .slice a2 Y.length k2, .int .i64 ex2]] w fun e w' => DRes w' w.heap.size e (omz (sm (omz (zz b1 (val X))) (oe (zz b1 (val X)) ex1) (omz (zz b2 (val Y))) (oe (zz b2 (val Y)) ex2))) (oe (sm (omz (zz b1 (val X))) (oe (zz b1 (val X)) ex1) (omz (zz b2 (val Y))) (oe (zz b2 (val Y)) ex2)) (min (oe (zz b1 (val X)) ex1) (oe (zz b2 (val Y)) ex2) - 1)) ∧ Below w.heap.size w w' := by
  have F1 := read_facts (b := b1) (ex := ex1) hA hf hE1
  have F2 := read_facts (b := b2) (ex := ex2) hB hg hE2
  exact ymid_res b1 a1 _ k1 ex1 b2 a2 _ k2 ex2 _ _ w (fun W hg' => yji_ok b1 a1 k1 X ex1 b2 a2 k2 Y ex2 _ _ W (hT.below hg') (hA.below hg') (hB.below hg') hf hg hE1 hE2 (fun W2 b3 a3 c3 X3 b4 a4 c4 X4 _ m3 m4 l3 l4 => ymiddle_any b3 a3 c3 X3 _ _ b4 a4 c4 X4 _ _ W2 m3 m4 F1.2.2.2 F2.2.2.2 l3 l4 F1.2.1 F2.2.2.1 F2.2.1 F1.2.2.1))

/-- A dyadic as a call answers it, at one scale: refused with fl, or a number that was reckoned. -/
def DRV (w : World) (base : Nat) (b : Bool) (v : Value) (ex c fl : Int) (L : Nat) (V : Int) : Prop :=
  (fl ≠ 0 ∧ c = fl ∧ b = false ∧ v = .slice none 0 0 ∧ ex = 0) ∨ (fl = 0 ∧ ∃ M E, DR w base b v ex c M E ∧ Rp L M E V ∧ Nr8 M E)

theorem DRV.below {w w' : World} {base : Nat} {b : Bool} {v : Value} {ex c fl : Int} {L : Nat} {V : Int} (h : DRV w base b v ex c fl L V) (hb : Below w.heap.size w w') : DRV w' base b v ex c fl L V := by
  rcases h with h | ⟨h0, M, E, h1, h2⟩
  · exact .inl h
  · exact .inr ⟨h0, M, E, h1.below hb, h2⟩

theorem DRV.base {w : World} {base base' : Nat} {b : Bool} {v : Value} {ex c fl : Int} {L : Nat} {V : Int} (h : DRV w base b v ex c fl L V) (hb : base' ≤ base) : DRV w base' b v ex c fl L V := by
  rcases h with h | ⟨h0, M, E, h1, h2⟩
  · exact .inl h
  · exact .inr ⟨h0, M, E, h1.base hb, h2⟩

/-- A dyadic that was answered. -/
def DAns (w : World) (e : Ending) (w' : World) (fl : Int) (L : Nat) (V : Int) : Prop :=
  (∃ b a n k ex c, e = .returned (.tuple #[.agg #[.bool b, .slice a n k, .int .i64 ex], .int .i64 c]) ∧ DRV w' w.heap.size b (.slice a n k) ex c fl L V) ∧ Below w.heap.size w w'

theorem DRes.drv {w w' : World} {e : Ending} {M E : Int} {L : Nat} {V : Int} (h : DRes w' w.heap.size e M E) (hr : Rp L M E V) (hn : Nr8 M E) (hb : Below w.heap.size w w') : DAns w e w' 0 L V := by
  obtain ⟨b, a, n, k, ex, c, he, hd⟩ := h
  exact ⟨⟨b, a, n, k, ex, c, he, .inr ⟨rfl, M, E, hd, hr, hn⟩⟩, hb⟩

theorem Rp.half {L : Nat} {z e V W : Int} (h : Rp L z e V) (hV : V = 2 * W) (he : 1 ≤ e + L) : Rp L z (e - 1) W := by
  refine ⟨by omega, ?_⟩
  have h2 := h.2
  rw [show (e + (L : Int)).toNat = (e - 1 + (L : Int)).toNat + 1 by omega, Int.pow_succ, ← Int.mul_assoc] at h2
  omega

theorem vof_even {b : Bool} {X : List Nat} {ex : Int} {L : Nat} (h : 1 ≤ ex + L) : vof b X ex L % 2 = 0 := by
  unfold vof
  rw [show (ex + (L : Int)).toNat = (ex + (L : Int)).toNat - 1 + 1 by omega, Int.pow_succ, ← Int.mul_assoc]
  exact Int.mul_emod_left _ _

/-- Middle of a span's ends at one scale. -/
theorem ymidV (b1 : Bool) (a1 : Option Addr) (k1 : Nat) (X : List Nat) (ex1 : Int) (b2 : Bool) (a2 : Option Addr) (k2 : Nat) (Y : List Nat) (ex2 : Int) (L : Nat) (W : Int) (w : World) (hT : Tab w) (hA : Arg w (.slice a1 X.length k1) X) (hB : Arg w (.slice a2 Y.length k2) Y) (hf : X.length ≤ 17592186043904) (hg : Y.length ≤ 17592186043904) (hE1 : fitE ex1 = true) (hE2 : fitE ex2 = true) (hL : 4611686018427387904 ≤ L) (hW : vof b1 X ex1 L + vof b2 Y ex2 L = 2 * W) :
    Calls Tryz.prog 27 #[.agg #[.bool b1, .slice a1 X.length k1, .int .i64 ex1], .agg #[.bool b2, .slice a2 Y.length k2, .int .i64 ex2]] w fun e w' => DAns w e w' 0 L W := by
  have r1 := (fitE_iff ex1).1 hE1
  have r2 := (fitE_iff ex2).1 hE2
  have F1 := read_facts (b := b1) (ex := ex1) hA hf hE1
  have F2 := read_facts (b := b2) (ex := ex2) hB hg hE2
  refine (ymid_full b1 a1 k1 X ex1 b2 a2 k2 Y ex2 w hT hA hB hf hg hE1 hE2).mono fun e w' h => h.1.drv ?_ (nr8_of _ _) h.2
  exact (((Rp.make L (zz b1 (val X)) ex1 (by omega)).norm.add (Rp.make L (zz b2 (val Y)) ex2 (by omega)).norm).half hW (by omega)).norm

set_option maxRecDepth 20000 in
set_option maxHeartbeats 1000000 in
theorem swidth_no (b1 : Bool) (a1 : Option Addr) (n1 k1 : Nat) (ex1 : Int) (b2 : Bool) (a2 : Option Addr) (n2 k2 : Nat) (ex2 : Int) (F : Int) (w : World) (hF : FltOf w b1 a1 n1 k1 ex1 b2 a2 n2 k2 ex2 F) (h0 : F ≠ 0) :
    Calls Tryz.prog 6 #[.agg #[.bool b1, .slice a1 n1 k1, .int .i64 ex1, .bool b2, .slice a2 n2 k2, .int .i64 ex2]] w fun e w' => DErr F e ∧ Below w.heap.size w w' := by
  obtain ⟨w0, hw0, hb0, q0, q9⟩ := enter2 w (.cells #[.bool b1, .slice a1 n1 k1, .int .i64 ex1, .bool b2, .slice a2 n2 k2, .int .i64 ex2] 33) (.cells #[.bool false, .slice none 0 0, .int .i64 0] 31)
  obtain ⟨w1, hw1, hb1, q2⟩ := enter1 w0 (.cells #[.bool b1, .slice a1 n1 k1, .int .i64 ex1, .bool b2, .slice a2 n2 k2, .int .i64 ex2] 33)
  have CF := hF w1 w0.heap.size (bl_trans8 hb0 hb1) q2
  have HU := hide (bl_trans8 hb0 hb1)
  obtain ⟨y0, y1, y2, y3, y4, y5⟩ := hexa q0
  have HQ0 := hide (block_upW hb1 q0)
  have HR1 := hide (block_upW hb1 q9)
  have i9 : (F != 0) = true := by simpa using h0
  clear q0 q2 q9 hb0 hb1 hF h0
  go_enter Tryz.func6, Tryz.ntmps6
  go_wp2_with fail
  refine CF.mono ?_
  rintro e t2 ⟨rfl, g2⟩
  have HG := hide (bl_trans8 HU.out g2)
  have HC1 := hide (block_upW g2 HR1.out)
  have hf1 := tri8f HC1.out
  obtain ⟨m0, m1, m2⟩ := tri8 HC1.out
  clear g2 CF y0 y1 y2 y3 y4 y5 hw0 hw1
  go_wp2
  have T3 := tri8_all HC1.out (.bool false) (.slice none 0 0) (.int .i64 0)
  have T4 := below_tri8 HG.out (show w.heap.size ≤ w.heap.size + 1 by omega) (.bool false) (.slice none 0 0) (.int .i64 0)
  obtain ⟨p0, p1, p2⟩ := tri8 T3
  have HE := hide T4
  clear T3 T4
  generalize ((t2.setCell ⟨w.heap.size + 1, 0, none⟩ (.bool false)).setCell ⟨w.heap.size + 1, 1, none⟩ (.slice none 0 0)).setCell ⟨w.heap.size + 1, 2, none⟩ (.int .i64 0) = w5 at *
  refine bodyPost_ret (v := .tuple #[.agg #[.bool false, .slice none 0 0, .int .i64 0], .int .i64 F]) (by simp [results, Tryz.results6, go_sem, p0, p1, p2]) rfl ?_
  exact ⟨rfl, HE.out⟩

set_option maxRecDepth 20000 in
set_option maxHeartbeats 1000000 in
theorem swidth_ok (b1 : Bool) (a1 : Option Addr) (n1 k1 : Nat) (ex1 : Int) (b2 : Bool) (a2 : Option Addr) (n2 k2 : Nat) (ex2 : Int) (M E : Int) (w : World) (hF : FltOf w b1 a1 n1 k1 ex1 b2 a2 n2 k2 ex2 0) (hC : ∀ W, Below w.heap.size w W → Calls Tryz.prog 26 #[.agg #[.bool b2, .slice a2 n2 k2, .int .i64 ex2], .agg #[.bool b1, .slice a1 n1 k1, .int .i64 ex1]] W fun e w' => DRes w' W.heap.size e M E ∧ Below W.heap.size W w') :
    Calls Tryz.prog 6 #[.agg #[.bool b1, .slice a1 n1 k1, .int .i64 ex1, .bool b2, .slice a2 n2 k2, .int .i64 ex2]] w fun e w' => DRes w' w.heap.size e M E ∧ Below w.heap.size w w' := by
  obtain ⟨w0, hw0, hb0, q0, q9⟩ := enter2 w (.cells #[.bool b1, .slice a1 n1 k1, .int .i64 ex1, .bool b2, .slice a2 n2 k2, .int .i64 ex2] 33) (.cells #[.bool false, .slice none 0 0, .int .i64 0] 31)
  obtain ⟨w1, hw1, hb1, q2⟩ := enter1 w0 (.cells #[.bool b1, .slice a1 n1 k1, .int .i64 ex1, .bool b2, .slice a2 n2 k2, .int .i64 ex2] 33)
  have CF := hF w1 w0.heap.size (bl_trans8 hb0 hb1) q2
  have HU := hide (bl_trans8 hb0 hb1)
  obtain ⟨y0, y1, y2, y3, y4, y5⟩ := hexa q0
  have HQ0 := hide (block_upW hb1 q0)
  have HR1 := hide (block_upW hb1 q9)
  have CB := hide hC
  clear q0 q2 q9 hb0 hb1 hF hC
  go_enter Tryz.func6, Tryz.ntmps6
  go_wp2_with fail
  refine CF.mono ?_
  rintro e t2 ⟨rfl, g2⟩
  have HG2 := hide (bl_trans8 HU.out g2)
  have HC2 := hide (block_upW g2 HR1.out)
  have C := CB.out t2 HG2.out
  clear CF y0 y1 y2 y3 y4 y5 hw0 hw1
  obtain ⟨y0, y1, y2, y3, y4, y5⟩ := hexa (block_upW g2 HQ0.out)
  clear g2
  go_wp2_with fail
  refine C.mono ?_
  rintro e t3 ⟨⟨b6, a6, n6, c6, e6, d6, rfl, hg⟩, g3⟩
  have HC1 := hide (block_upW g3 HC2.out)
  have HG := hide (bl_trans8 HG2.out g3)
  have HDR := hide (hg.base HG2.out.size)
  have hf1 := tri8f HC1.out
  obtain ⟨m0, m1, m2⟩ := tri8 HC1.out
  clear g3 hg C
  go_wp2
  have T3 := tri8_all HC1.out (.bool b6) (.slice a6 n6 c6) (.int .i64 e6)
  have T4 := below_tri8 HG.out (show w.heap.size ≤ w.heap.size + 1 by omega) (.bool b6) (.slice a6 n6 c6) (.int .i64 e6)
  have T5 := HDR.out.tri8 HC1.out (by decide) (.bool b6) (.slice a6 n6 c6) (.int .i64 e6)
  obtain ⟨p0, p1, p2⟩ := tri8 T3
  have HE := hide (And.intro T5 T4)
  clear T3 T4 T5
  generalize ((t3.setCell ⟨w.heap.size + 1, 0, none⟩ (.bool b6)).setCell ⟨w.heap.size + 1, 1, none⟩ (.slice a6 n6 c6)).setCell ⟨w.heap.size + 1, 2, none⟩ (.int .i64 e6) = w5 at *
  refine bodyPost_ret (v := .tuple #[.agg #[.bool b6, .slice a6 n6 c6, .int .i64 e6], .int .i64 d6]) (by simp [results, Tryz.results6, go_sem, p0, p1, p2]) rfl ?_
  exact ⟨⟨_, _, _, _, _, _, rfl, HE.out.1⟩, HE.out.2⟩

set_option maxRecDepth 20000 in
set_option maxHeartbeats 1000000 in
theorem smid_no (b1 : Bool) (a1 : Option Addr) (n1 k1 : Nat) (ex1 : Int) (b2 : Bool) (a2 : Option Addr) (n2 k2 : Nat) (ex2 : Int) (F : Int) (w : World) (hF : FltOf w b1 a1 n1 k1 ex1 b2 a2 n2 k2 ex2 F) (h0 : F ≠ 0) :
    Calls Tryz.prog 7 #[.agg #[.bool b1, .slice a1 n1 k1, .int .i64 ex1, .bool b2, .slice a2 n2 k2, .int .i64 ex2]] w fun e w' => DErr F e ∧ Below w.heap.size w w' := by
  obtain ⟨w0, hw0, hb0, q0, q9⟩ := enter2 w (.cells #[.bool b1, .slice a1 n1 k1, .int .i64 ex1, .bool b2, .slice a2 n2 k2, .int .i64 ex2] 33) (.cells #[.bool false, .slice none 0 0, .int .i64 0] 31)
  obtain ⟨w1, hw1, hb1, q2⟩ := enter1 w0 (.cells #[.bool b1, .slice a1 n1 k1, .int .i64 ex1, .bool b2, .slice a2 n2 k2, .int .i64 ex2] 33)
  have CF := hF w1 w0.heap.size (bl_trans8 hb0 hb1) q2
  have HU := hide (bl_trans8 hb0 hb1)
  obtain ⟨y0, y1, y2, y3, y4, y5⟩ := hexa q0
  have HQ0 := hide (block_upW hb1 q0)
  have HR1 := hide (block_upW hb1 q9)
  have i9 : (F != 0) = true := by simpa using h0
  clear q0 q2 q9 hb0 hb1 hF h0
  go_enter Tryz.func7, Tryz.ntmps7
  go_wp2_with fail
  refine CF.mono ?_
  rintro e t2 ⟨rfl, g2⟩
  have HG := hide (bl_trans8 HU.out g2)
  have HC1 := hide (block_upW g2 HR1.out)
  have hf1 := tri8f HC1.out
  obtain ⟨m0, m1, m2⟩ := tri8 HC1.out
  clear g2 CF y0 y1 y2 y3 y4 y5 hw0 hw1
  go_wp2
  have T3 := tri8_all HC1.out (.bool false) (.slice none 0 0) (.int .i64 0)
  have T4 := below_tri8 HG.out (show w.heap.size ≤ w.heap.size + 1 by omega) (.bool false) (.slice none 0 0) (.int .i64 0)
  obtain ⟨p0, p1, p2⟩ := tri8 T3
  have HE := hide T4
  clear T3 T4
  generalize ((t2.setCell ⟨w.heap.size + 1, 0, none⟩ (.bool false)).setCell ⟨w.heap.size + 1, 1, none⟩ (.slice none 0 0)).setCell ⟨w.heap.size + 1, 2, none⟩ (.int .i64 0) = w5 at *
  refine bodyPost_ret (v := .tuple #[.agg #[.bool false, .slice none 0 0, .int .i64 0], .int .i64 F]) (by simp [results, Tryz.results7, go_sem, p0, p1, p2]) rfl ?_
  exact ⟨rfl, HE.out⟩

set_option maxRecDepth 20000 in
set_option maxHeartbeats 1000000 in
theorem smid_ok (b1 : Bool) (a1 : Option Addr) (n1 k1 : Nat) (ex1 : Int) (b2 : Bool) (a2 : Option Addr) (n2 k2 : Nat) (ex2 : Int) (M E : Int) (w : World) (hF : FltOf w b1 a1 n1 k1 ex1 b2 a2 n2 k2 ex2 0) (hC : ∀ W, Below w.heap.size w W → Calls Tryz.prog 27 #[.agg #[.bool b1, .slice a1 n1 k1, .int .i64 ex1], .agg #[.bool b2, .slice a2 n2 k2, .int .i64 ex2]] W fun e w' => DRes w' W.heap.size e M E ∧ Below W.heap.size W w') :
    Calls Tryz.prog 7 #[.agg #[.bool b1, .slice a1 n1 k1, .int .i64 ex1, .bool b2, .slice a2 n2 k2, .int .i64 ex2]] w fun e w' => DRes w' w.heap.size e M E ∧ Below w.heap.size w w' := by
  obtain ⟨w0, hw0, hb0, q0, q9⟩ := enter2 w (.cells #[.bool b1, .slice a1 n1 k1, .int .i64 ex1, .bool b2, .slice a2 n2 k2, .int .i64 ex2] 33) (.cells #[.bool false, .slice none 0 0, .int .i64 0] 31)
  obtain ⟨w1, hw1, hb1, q2⟩ := enter1 w0 (.cells #[.bool b1, .slice a1 n1 k1, .int .i64 ex1, .bool b2, .slice a2 n2 k2, .int .i64 ex2] 33)
  have CF := hF w1 w0.heap.size (bl_trans8 hb0 hb1) q2
  have HU := hide (bl_trans8 hb0 hb1)
  obtain ⟨y0, y1, y2, y3, y4, y5⟩ := hexa q0
  have HQ0 := hide (block_upW hb1 q0)
  have HR1 := hide (block_upW hb1 q9)
  have CB := hide hC
  clear q0 q2 q9 hb0 hb1 hF hC
  go_enter Tryz.func7, Tryz.ntmps7
  go_wp2_with fail
  refine CF.mono ?_
  rintro e t2 ⟨rfl, g2⟩
  have HG2 := hide (bl_trans8 HU.out g2)
  have HC2 := hide (block_upW g2 HR1.out)
  have C := CB.out t2 HG2.out
  clear CF y0 y1 y2 y3 y4 y5 hw0 hw1
  obtain ⟨y0, y1, y2, y3, y4, y5⟩ := hexa (block_upW g2 HQ0.out)
  clear g2
  go_wp2_with fail
  refine C.mono ?_
  rintro e t3 ⟨⟨b6, a6, n6, c6, e6, d6, rfl, hg⟩, g3⟩
  have HC1 := hide (block_upW g3 HC2.out)
  have HG := hide (bl_trans8 HG2.out g3)
  have HDR := hide (hg.base HG2.out.size)
  have hf1 := tri8f HC1.out
  obtain ⟨m0, m1, m2⟩ := tri8 HC1.out
  clear g3 hg C
  go_wp2
  have T3 := tri8_all HC1.out (.bool b6) (.slice a6 n6 c6) (.int .i64 e6)
  have T4 := below_tri8 HG.out (show w.heap.size ≤ w.heap.size + 1 by omega) (.bool b6) (.slice a6 n6 c6) (.int .i64 e6)
  have T5 := HDR.out.tri8 HC1.out (by decide) (.bool b6) (.slice a6 n6 c6) (.int .i64 e6)
  obtain ⟨p0, p1, p2⟩ := tri8 T3
  have HE := hide (And.intro T5 T4)
  clear T3 T4 T5
  generalize ((t3.setCell ⟨w.heap.size + 1, 0, none⟩ (.bool b6)).setCell ⟨w.heap.size + 1, 1, none⟩ (.slice a6 n6 c6)).setCell ⟨w.heap.size + 1, 2, none⟩ (.int .i64 e6) = w5 at *
  refine bodyPost_ret (v := .tuple #[.agg #[.bool b6, .slice a6 n6 c6, .int .i64 e6], .int .i64 d6]) (by simp [results, Tryz.results7, go_sem, p0, p1, p2]) rfl ?_
  exact ⟨⟨_, _, _, _, _, _, rfl, HE.out.1⟩, HE.out.2⟩

/-- span.Width, whatever is handed in. -/
theorem swidthV (b1 : Bool) (a1 : Option Addr) (k1 : Nat) (X : List Nat) (ex1 : Int) (b2 : Bool) (a2 : Option Addr) (k2 : Nat) (Y : List Nat) (ex2 : Int) (L : Nat) (w : World) (hT : Tab w) (hA : Arg w (.slice a1 X.length k1) X) (hB : Arg w (.slice a2 Y.length k2) Y) (f1 : X.length ≤ 17592186043904) (f2 : Y.length ≤ 17592186043904) (hL : 4611686018427387904 ≤ L) :
    Calls Tryz.prog 6 #[.agg #[.bool b1, .slice a1 X.length k1, .int .i64 ex1, .bool b2, .slice a2 Y.length k2, .int .i64 ex2]] w fun e w' => DAns w e w' (flt ex1 ex2 (vof b1 X ex1 L) (vof b2 Y ex2 L)) L (vof b2 Y ex2 L - vof b1 X ex1 L) := by
  have hF := fltOf_any b1 a1 k1 X ex1 b2 a2 k2 Y ex2 L w hA hB f1 f2 hL
  by_cases h0 : flt ex1 ex2 (vof b1 X ex1 L) (vof b2 Y ex2 L) = 0
  · obtain ⟨hE1, hE2, _⟩ := flt_zero h0
    rw [h0] at hF ⊢
    have r1 := (fitE_iff ex1).1 hE1
    have r2 := (fitE_iff ex2).1 hE2
    have F1 := read_facts (b := b1) (ex := ex1) hA f1 hE1
    have F2 := read_facts (b := b2) (ex := ex2) hB f2 hE2
    refine (swidth_ok b1 a1 _ k1 ex1 b2 a2 _ k2 ex2 _ _ w hF (fun W hg => ysub_full b2 a2 k2 Y ex2 b1 a1 k1 X ex1 W (hT.below hg) (hB.below hg) (hA.below hg) f2 f1 hE2 hE1)).mono fun e w' h => h.1.drv ?_ (nr8_of _ _) h.2
    rw [Int.sub_eq_add_neg]
    exact ((Rp.make L (zz b2 (val Y)) ex2 (by omega)).norm.add (Rp.make L (zz b1 (val X)) ex1 (by omega)).norm.neg).norm
  · refine (swidth_no b1 a1 _ k1 ex1 b2 a2 _ k2 ex2 _ w hF h0).mono fun e w' h => ?_
    exact ⟨⟨_, _, _, _, _, _, h.1, .inl ⟨h0, rfl, rfl, rfl, rfl⟩⟩, h.2⟩

/-- span.Middle, whatever is handed in. -/
theorem smidV (b1 : Bool) (a1 : Option Addr) (k1 : Nat) (X : List Nat) (ex1 : Int) (b2 : Bool) (a2 : Option Addr) (k2 : Nat) (Y : List Nat) (ex2 : Int) (L : Nat) (W : Int) (w : World) (hT : Tab w) (hA : Arg w (.slice a1 X.length k1) X) (hB : Arg w (.slice a2 Y.length k2) Y) (f1 : X.length ≤ 17592186043904) (f2 : Y.length ≤ 17592186043904) (hL : 4611686018427387904 ≤ L) (hW : vof b1 X ex1 L + vof b2 Y ex2 L = 2 * W) :
    Calls Tryz.prog 7 #[.agg #[.bool b1, .slice a1 X.length k1, .int .i64 ex1, .bool b2, .slice a2 Y.length k2, .int .i64 ex2]] w fun e w' => DAns w e w' (flt ex1 ex2 (vof b1 X ex1 L) (vof b2 Y ex2 L)) L (W) := by
  have hF := fltOf_any b1 a1 k1 X ex1 b2 a2 k2 Y ex2 L w hA hB f1 f2 hL
  by_cases h0 : flt ex1 ex2 (vof b1 X ex1 L) (vof b2 Y ex2 L) = 0
  · obtain ⟨hE1, hE2, _⟩ := flt_zero h0
    rw [h0] at hF ⊢
    have r1 := (fitE_iff ex1).1 hE1
    have r2 := (fitE_iff ex2).1 hE2
    have F1 := read_facts (b := b1) (ex := ex1) hA f1 hE1
    have F2 := read_facts (b := b2) (ex := ex2) hB f2 hE2
    refine (smid_ok b1 a1 _ k1 ex1 b2 a2 _ k2 ex2 _ _ w hF (fun W hg => ymid_full b1 a1 k1 X ex1 b2 a2 k2 Y ex2 W (hT.below hg) (hA.below hg) (hB.below hg) f1 f2 hE1 hE2)).mono fun e w' h => h.1.drv ?_ (nr8_of _ _) h.2
    exact (((Rp.make L (zz b1 (val X)) ex1 (by omega)).norm.add (Rp.make L (zz b2 (val Y)) ex2 (by omega)).norm).half hW (by omega)).norm
  · refine (smid_no b1 a1 _ k1 ex1 b2 a2 _ k2 ex2 _ w hF h0).mono fun e w' h => ?_
    exact ⟨⟨_, _, _, _, _, _, h.1, .inl ⟨h0, rfl, rfl, rfl, rfl⟩⟩, h.2⟩

/-- The laws' one, of an answer and what the document says of it. -/
theorem oneV (b : Bool) (a : Option Addr) (n k : Nat) (ex r fl f : Int) (b1 : Bool) (a1 : Option Addr) (n1 k1 : Nat) (E1 : Int) (L : Nat) (V : Int) (base : Nat) (w : World) (hS : DRV w base b (.slice a n k) ex r fl L V) (h1 : fl ≠ 0 → f = fl) (h2 : fl = 0 → (f = 0 ∧ V8 w b1 a1 n1 k1 E1 L V) ∨ (f ≠ 0 ∧ r = f)) :
    Calls Tryz.prog 10 #[.agg #[.bool b, .slice a n k, .int .i64 ex], .int .i64 r, .agg #[.bool b1, .slice a1 n1 k1, .int .i64 E1], .int .i64 f] w fun e w' => e = .returned (.bool true) ∧ Below w.heap.size w w' := by
  rcases hS with ⟨h0, rfl, rfl, g1, rfl⟩ | ⟨h0, M, E, hd, hr, hn⟩
  · cases g1
    rw [h1 h0]
    exact one10_bad r b1 a1 n1 k1 E1 w h0
  · rcases h2 h0 with ⟨rfl, N1, d1, q1, s1, _⟩ | ⟨hf, rfl⟩
    · obtain ⟨rfl, rfl⟩ := Rp.one hr q1 hn s1
      exact one10_ok b a n k ex r b1 a1 n1 k1 _ _ base w hd d1
    · obtain ⟨rs, _, g | g | g⟩ := hd
      · exact absurd g.1 hf
      · obtain ⟨_, rfl, g3, rfl, _⟩ := g
        cases g3
        exact one10_bad r b1 a1 n1 k1 E1 w hf
      · obtain ⟨_, rfl, g3, rfl, _⟩ := g
        cases g3
        exact one10_bad r b1 a1 n1 k1 E1 w hf

end Go.Proofs.YtolebfnkmjmfnaaGreatDoor

namespace Go.Proofs.YtolebfnkmjmfnaaGreatDoor
open Go.RowKit
open Lm
attribute [local go_sem ↓] Go.wp_at_zero Go.wp_at_succ

/-- The least and the greatest of some numbers, as they were handed in. -/
def HullR (w : World) (e : Ending) (w' : World) (L : Nat) (V1 V2 : Int) : Prop :=
  (∃ b a n k x b' a' n' k' x', e = .returned (.agg #[.bool b, .slice a n k, .int .i64 x, .bool b', .slice a' n' k', .int .i64 x']) ∧ N8 w' b a n k x L V1 ∧ N8 w' b' a' n' k' x' L V2) ∧ Below w.heap.size w w'

theorem N8.boxH {w : World} {b : Bool} {a0 : Option Addr} {n0 k0 : Nat} {ex : Int} {L : Nat} {V : Int} {g o : Nat} {p : Bool} {a : Option Addr} {n c : Nat} {e : Int} {p' : Bool} {a' : Option Addr} {n' c' : Nat} {e' : Int} {t : TypeId} {u : Value} (h : N8 w b a0 n0 k0 ex L V) (hl : w.heap[g]? = some (.cells #[.bool p, .slice a n c, .int .i64 e, .bool p', .slice a' n' c', .int .i64 e'] t)) : N8 (w.setCell ⟨g, o, none⟩ u) b a0 n0 k0 ex L V := by
  obtain ⟨X, h1, h2, h3⟩ := h
  exact ⟨X, h1, h2.boxH hl, h3⟩

theorem N8.hexa {w : World} {b : Bool} {a0 : Option Addr} {n0 k0 : Nat} {ex : Int} {L : Nat} {V : Int} {g : Nat} {p : Bool} {a : Option Addr} {n c : Nat} {e : Int} {p' : Bool} {a' : Option Addr} {n' c' : Nat} {e' : Int} {t : TypeId} (h : N8 w b a0 n0 k0 ex L V) (hl : w.heap[g]? = some (.cells #[.bool p, .slice a n c, .int .i64 e, .bool p', .slice a' n' c', .int .i64 e'] t)) (b1 : Bool) (a1 : Option Addr) (n1 c1 : Nat) (e1 : Int) (b2 : Bool) (a2 : Option Addr) (n2 c2 : Nat) (e2 : Int) :
    N8 ((((((w.setCell ⟨g, 0, none⟩ (.bool b1)).setCell ⟨g, 1, none⟩ (.slice a1 n1 c1)).setCell ⟨g, 2, none⟩ (.int .i64 e1)).setCell ⟨g, 3, none⟩ (.bool b2)).setCell ⟨g, 4, none⟩ (.slice a2 n2 c2)).setCell ⟨g, 5, none⟩ (.int .i64 e2)) b a0 n0 k0 ex L V := by
  obtain ⟨X, h1, h2, h3⟩ := h
  exact ⟨X, h1, h2.hexa hl b1 a1 n1 c1 e1 b2 a2 n2 c2 e2, h3⟩

/-- A span's lower end written over. -/
theorem lo3 {t : World} {g : Nat} {p : Bool} {a : Option Addr} {n c : Nat} {e : Int} {p' : Bool} {a' : Option Addr} {n' c' : Nat} {e' : Int} {ty : TypeId} (hl : t.heap[g]? = some (.cells #[.bool p, .slice a n c, .int .i64 e, .bool p', .slice a' n' c', .int .i64 e'] ty)) (b0 : Bool) (a0 : Option Addr) (n0 c0 : Nat) (e0 : Int) :
    ∃ W, ((t.setCell ⟨g, 0, none⟩ (.bool b0)).setCell ⟨g, 1, none⟩ (.slice a0 n0 c0)).setCell ⟨g, 2, none⟩ (.int .i64 e0) = W ∧ W.heap[g]? = some (.cells #[.bool b0, .slice a0 n0 c0, .int .i64 e0, .bool p', .slice a' n' c', .int .i64 e'] ty) ∧ (∀ h x, h ≠ g → t.heap[h]? = some x → W.heap[h]? = some x) ∧ (∀ B w, Below B w t → B ≤ g → Below B w W) ∧ (∀ b a n k ex L V, N8 t b a n k ex L V → N8 W b a n k ex L V) := by
  have l0 : (t.setCell ⟨g, 0, none⟩ (.bool b0)).heap[g]? = some (.cells #[.bool b0, .slice a n c, .int .i64 e, .bool p', .slice a' n' c', .int .i64 e'] ty) := box_modify (k := 0) hl _
  have l1 : ((t.setCell ⟨g, 0, none⟩ (.bool b0)).setCell ⟨g, 1, none⟩ (.slice a0 n0 c0)).heap[g]? = some (.cells #[.bool b0, .slice a0 n0 c0, .int .i64 e, .bool p', .slice a' n' c', .int .i64 e'] ty) := box_modify (k := 1) l0 _
  have l2 : (((t.setCell ⟨g, 0, none⟩ (.bool b0)).setCell ⟨g, 1, none⟩ (.slice a0 n0 c0)).setCell ⟨g, 2, none⟩ (.int .i64 e0)).heap[g]? = some (.cells #[.bool b0, .slice a0 n0 c0, .int .i64 e0, .bool p', .slice a' n' c', .int .i64 e'] ty) := box_modify (k := 2) l1 _
  refine ⟨_, rfl, l2, fun h x hn hx => ?_, fun B w hb hB => ((hb.setCell (p := ⟨g, 0, none⟩) hB _).setCell (p := ⟨g, 1, none⟩) hB _).setCell (p := ⟨g, 2, none⟩) hB _, fun b a n k ex L V h => ((h.boxH hl).boxH l0).boxH l1⟩
  rw [Below.heap_setCell _ _ _ _ hn, Below.heap_setCell _ _ _ _ hn, Below.heap_setCell _ _ _ _ hn]; exact hx

/-- A span's higher end written over. -/
theorem hi3 {t : World} {g : Nat} {p : Bool} {a : Option Addr} {n c : Nat} {e : Int} {p' : Bool} {a' : Option Addr} {n' c' : Nat} {e' : Int} {ty : TypeId} (hl : t.heap[g]? = some (.cells #[.bool p, .slice a n c, .int .i64 e, .bool p', .slice a' n' c', .int .i64 e'] ty)) (b0 : Bool) (a0 : Option Addr) (n0 c0 : Nat) (e0 : Int) :
    ∃ W, ((t.setCell ⟨g, 3, none⟩ (.bool b0)).setCell ⟨g, 4, none⟩ (.slice a0 n0 c0)).setCell ⟨g, 5, none⟩ (.int .i64 e0) = W ∧ W.heap[g]? = some (.cells #[.bool p, .slice a n c, .int .i64 e, .bool b0, .slice a0 n0 c0, .int .i64 e0] ty) ∧ (∀ h x, h ≠ g → t.heap[h]? = some x → W.heap[h]? = some x) ∧ (∀ B w, Below B w t → B ≤ g → Below B w W) ∧ (∀ b a n k ex L V, N8 t b a n k ex L V → N8 W b a n k ex L V) := by
  have l0 : (t.setCell ⟨g, 3, none⟩ (.bool b0)).heap[g]? = some (.cells #[.bool p, .slice a n c, .int .i64 e, .bool b0, .slice a' n' c', .int .i64 e'] ty) := box_modify (k := 3) hl _
  have l1 : ((t.setCell ⟨g, 3, none⟩ (.bool b0)).setCell ⟨g, 4, none⟩ (.slice a0 n0 c0)).heap[g]? = some (.cells #[.bool p, .slice a n c, .int .i64 e, .bool b0, .slice a0 n0 c0, .int .i64 e'] ty) := box_modify (k := 4) l0 _
  have l2 : (((t.setCell ⟨g, 3, none⟩ (.bool b0)).setCell ⟨g, 4, none⟩ (.slice a0 n0 c0)).setCell ⟨g, 5, none⟩ (.int .i64 e0)).heap[g]? = some (.cells #[.bool p, .slice a n c, .int .i64 e, .bool b0, .slice a0 n0 c0, .int .i64 e0] ty) := box_modify (k := 5) l1 _
  refine ⟨_, rfl, l2, fun h x hn hx => ?_, fun B w hb hB => ((hb.setCell (p := ⟨g, 3, none⟩) hB _).setCell (p := ⟨g, 4, none⟩) hB _).setCell (p := ⟨g, 5, none⟩) hB _, fun b a n k ex L V h => ((h.boxH hl).boxH l0).boxH l1⟩
  rw [Below.heap_setCell _ _ _ _ hn, Below.heap_setCell _ _ _ _ hn, Below.heap_setCell _ _ _ _ hn]; exact hx

set_option maxRecDepth 20000 in
set_option maxHeartbeats 8000000 in
theorem hull1N (gs : Nat) (b1 : Bool) (a1 : Option Addr) (n1 k1 : Nat) (ex1 : Int) (b2 : Bool) (a2 : Option Addr) (n2 k2 : Nat) (ex2 : Int) (L : Nat) (V1 V2 : Int) (w : World) (hg : w.heap[gs]? = some (.cells #[.bool b2, .slice a2 n2 k2, .int .i64 ex2] 31)) (h1 : N8 w b1 a1 n1 k1 ex1 L V1) (h2 : N8 w b2 a2 n2 k2 ex2 L V2) (hL : 4611686018427387904 ≤ L) :
    Calls Tryz.prog 63 #[.agg #[.bool b1, .slice a1 n1 k1, .int .i64 ex1], .slice (some ⟨gs, 0, none⟩) 1 1] w fun e w' => HullR w e w' L (min V1 V2) (max V1 V2) := by
  obtain ⟨w0, hw0, hb0, q0, q9⟩ := enter2 w (.cells #[.bool b1, .slice a1 n1 k1, .int .i64 ex1] 31) (.cells #[.bool false, .slice none 0 0, .int .i64 0, .bool false, .slice none 0 0, .int .i64 0] 33)
  obtain ⟨w1, hw1, hb1, qm⟩ := enter1 w0 (.cells #[.bool b1, .slice a1 n1 k1, .int .i64 ex1, .bool b1, .slice a1 n1 k1, .int .i64 ex1] 33)
  obtain ⟨y0, y1, y2⟩ := tri8 q0
  have HG := hide hg
  have LL : Hid (4611686018427387904 ≤ L) := hide hL
  have hb01 := bl_trans8 hb0 hb1
  have I0 := h1.below hb01
  have IB := hb01
  have IZ := block_upW hb1 q9
  have IM := qm
  have HNE : Hid (w.heap.size + 1 ≠ w0.heap.size) := hide (by have := lt_of_block q9; omega)
  have HGE : Hid (w.heap.size ≤ w0.heap.size) := hide hb0.size
  have HX2 := hide h2
  have II := hide (And.intro I0 (And.intro IB (And.intro IZ IM)))
  clear hg hL hb0 hb1 hb01 q0 q9 qm I0 IB IZ IM h1 h2
  go_enter Tryz.func63, Tryz.ntmps63
  go_wp2
  clear y0 y1 y2 hw0 hw1
  go_loopw [13] (fun i wr => ∃ (k : Nat) (p : Bool) (pa : Option Addr) (pn pk : Nat) (pe : Int) (q : Bool) (qa : Option Addr) (qn qk : Nat) (qe : Int) (VL VH : Int), k ≤ 1 ∧ i = .int .i64 k ∧ (k = 0 → VL = V1 ∧ VH = V1) ∧ (k = 1 → VL = (min V1 V2) ∧ VH = (max V1 V2)) ∧ wr.heap[w0.heap.size]? = some (.cells #[.bool p, .slice pa pn pk, .int .i64 pe, .bool q, .slice qa qn qk, .int .i64 qe] 33) ∧ N8 wr p pa pn pk pe L VL ∧ N8 wr q qa qn qk qe L VH ∧ wr.heap[w.heap.size + 1]? = some (.cells #[.bool false, .slice none 0 0, .int .i64 0, .bool false, .slice none 0 0, .int .i64 0] 33) ∧ Below w.heap.size w wr) (fun i _ => 1 - (intOf i).toNat)
  case atStart => exact ⟨0, _, _, _, _, _, _, _, _, _, _, V1, V1, by omega, rfl, (fun _ => ⟨rfl, rfl⟩), (fun h => absurd h (by decide)), II.out.2.2.2, II.out.1, II.out.1, II.out.2.2.1, II.out.2.1⟩
  case round =>
    obtain ⟨k, p, pa, pn, pk, pe, q, qa, qn, qk, qe, VL, VH, hk, rfl, e0, e1, hM, hLo, hHi, hZ, hB⟩ := hrel
    have HM := hide hM
    have HLo := hide hLo
    have HHi := hide hHi
    have HZ := hide hZ
    have HB := hide hB
    have HOLD : Hid (w0.heap.size < wr.heap.size) := hide (lt_of_block hM)
    have E0 := hide e0
    have E1 := hide e1
    clear hM hLo hHi hZ hB II e0 e1
    rcases (show k = 0 ∨ k = 1 by omega) with rfl | rfl
    · have EE := hide (E0.out rfl)
      clear E0 E1
      obtain ⟨u1, hu1, hbu, qu⟩ := enter1 wr (.cells #[.bool b2, .slice a2 n2 k2, .int .i64 ex2] 31)
      have CS := block_upW HB.out HG.out
      have c0 : wr.cell? ⟨gs, 0, none⟩ = some (.bool b2) := by simp [World.cell?, CS]
      have c1 : wr.cell? ⟨gs, 1, none⟩ = some (.slice a2 n2 k2) := by simp [World.cell?, CS]
      have c2 : wr.cell? ⟨gs, 2, none⟩ = some (.int .i64 ex2) := by simp [World.cell?, CS]
      have hbu1 := bl_trans8 HB.out hbu
      have C := slessN b2 a2 n2 k2 ex2 p pa pn pk pe L V2 VL u1 (HX2.out.below hbu1) (HLo.out.below hbu) LL.out
      have M1 := hide (block_upW hbu HM.out)
      have Z1 := hide (block_upW hbu HZ.out)
      have D1x := hide qu
      have L1 := hide (HLo.out.below hbu)
      have H1 := hide (HHi.out.below hbu)
      have B1 := hide hbu1
      obtain ⟨m0, m1, m2, m3, m4, m5⟩ := hexa M1.out
      obtain ⟨d0, d1, d2⟩ := tri8 D1x.out
      obtain ⟨D1, hD1⟩ : ∃ D, decide (V2 < VL) = D := ⟨_, rfl⟩
      rw [hD1] at C
      have ED1 := hide hD1
      clear CS hbu hbu1 qu hD1 HM HZ HLo HHi HB
      cases D1
      · skip
        go_wp2_with fail
        refine C.mono ?_
        rintro e t2 ⟨rfl, g2⟩
        clear C m0 m1 m2 m3 m4 m5 d0 d1 d2 c0 c1 c2 hu1
        have M2 := hide (block_upW g2 M1.out)
        have Z2 := hide (block_upW g2 Z1.out)
        have D2x := hide (block_upW g2 D1x.out)
        have L2 := hide (L1.out.below g2)
        have H2 := hide (H1.out.below g2)
        have B2 := hide (bl_trans8 B1.out g2)
        clear g2
        have C := slessN q qa qn qk qe b2 a2 n2 k2 ex2 L VH V2 t2 H2.out (HX2.out.below B2.out) LL.out
        obtain ⟨D2, hD2⟩ : ∃ D, decide (VH < V2) = D := ⟨_, rfl⟩
        rw [hD2] at C
        have ED2 := hide hD2
        clear hD2
        obtain ⟨m0, m1, m2, m3, m4, m5⟩ := hexa M2.out
        obtain ⟨d0, d1, d2⟩ := tri8 D2x.out
        cases D2
        · skip
          go_wp2_with fail
          refine C.mono ?_
          rintro e t3 ⟨rfl, g3⟩
          clear C m0 m1 m2 m3 m4 m5 d0 d1 d2
          have M3 := hide (block_upW g3 M2.out)
          have Z3 := hide (block_upW g3 Z2.out)
          have L3 := hide (L2.out.below g3)
          have H3 := hide (H2.out.below g3)
          have B3 := hide (bl_trans8 B2.out g3)
          clear g3
          go_wp2
          go_roundw
          case rel => exact ⟨1, p, pa, pn, pk, pe, q, qa, qn, qk, qe, _, _, by omega, by go_num, (fun h => absurd h (by decide)), (fun _ => ⟨(by have g := of_decide_eq_false ED1.out; have e := EE.out.1; omega), (by have g := of_decide_eq_false ED2.out; have e := EE.out.2; omega)⟩), M3.out, L3.out, H3.out, Z3.out, B3.out⟩
          case measure => simp [intOf]
        · skip
          go_wp2_with fail
          refine C.mono ?_
          rintro e t3 ⟨rfl, g3⟩
          clear C m0 m1 m2 m3 m4 m5 d0 d1 d2
          obtain ⟨W4, hW4, n4', o4, l4, s4⟩ := hi3 (block_upW g3 M2.out) b2 a2 n2 k2 ex2
          obtain ⟨m0, m1, m2, m3, m4, m5⟩ := hexa (block_upW g3 M2.out)
          have hf1 := hexaf (block_upW g3 M2.out)
          obtain ⟨d0, d1, d2⟩ := tri8 (block_upW g3 D2x.out)
          have M3 := hide n4'
          have Z3 := hide (o4 _ _ HNE.out (block_upW g3 Z2.out))
          have L3 := hide (s4 _ _ _ _ _ _ _ (L2.out.below g3))
          have H3 := hide (s4 _ _ _ _ _ _ _ ((HX2.out.below (bl_trans8 B2.out g3))))
          have B3 := hide (l4 _ _ (bl_trans8 B2.out g3) HGE.out)
          clear g3 n4' o4 l4 s4
          go_wp2
          clear hW4 m0 m1 m2 m3 m4 m5 d0 d1 d2 hf1
          go_roundw
          case rel => exact ⟨1, p, pa, pn, pk, pe, b2, a2, n2, k2, ex2, _, _, by omega, by go_num, (fun h => absurd h (by decide)), (fun _ => ⟨(by have g := of_decide_eq_false ED1.out; have e := EE.out.1; omega), (by have g := of_decide_eq_true ED2.out; have e := EE.out.2; omega)⟩), M3.out, L3.out, H3.out, Z3.out, B3.out⟩
          case measure => simp [intOf]
      · skip
        go_wp2_with fail
        refine C.mono ?_
        rintro e t2 ⟨rfl, g2⟩
        clear C m0 m1 m2 m3 m4 m5 d0 d1 d2 c0 c1 c2 hu1
        obtain ⟨W2, hW2, n2', o2, l2, s2⟩ := lo3 (block_upW g2 M1.out) b2 a2 n2 k2 ex2
        obtain ⟨m0, m1, m2, m3, m4, m5⟩ := hexa (block_upW g2 M1.out)
        have hf1 := hexaf (block_upW g2 M1.out)
        obtain ⟨d0, d1, d2⟩ := tri8 (block_upW g2 D1x.out)
        have M2 := hide n2'
        have Z2 := hide (o2 _ _ HNE.out (block_upW g2 Z1.out))
        have D2x := hide (o2 _ _ (by have h1 := lt_of_block M1.out; have h2 := lt_of_block D1x.out; have h3 := HOLD.out; omega) (block_upW g2 D1x.out))
        have L2 := hide (s2 _ _ _ _ _ _ _ (HX2.out.below (bl_trans8 B1.out g2)))
        have H2 := hide (s2 _ _ _ _ _ _ _ (H1.out.below g2))
        have B2 := hide (l2 _ _ (bl_trans8 B1.out g2) HGE.out)
        clear g2 n2' o2 l2 s2
        go_upto_region 7 with fail
        clear hW2 m0 m1 m2 m3 m4 m5 d0 d1 d2 hf1
        have C := slessN q qa qn qk qe b2 a2 n2 k2 ex2 L VH V2 W2 H2.out (HX2.out.below B2.out) LL.out
        obtain ⟨D2, hD2⟩ : ∃ D, decide (VH < V2) = D := ⟨_, rfl⟩
        rw [hD2] at C
        have ED2 := hide hD2
        clear hD2
        obtain ⟨m0, m1, m2, m3, m4, m5⟩ := hexa M2.out
        obtain ⟨d0, d1, d2⟩ := tri8 D2x.out
        cases D2
        · skip
          go_wp2_with fail
          refine C.mono ?_
          rintro e t3 ⟨rfl, g3⟩
          clear C m0 m1 m2 m3 m4 m5 d0 d1 d2
          have M3 := hide (block_upW g3 M2.out)
          have Z3 := hide (block_upW g3 Z2.out)
          have L3 := hide (L2.out.below g3)
          have H3 := hide (H2.out.below g3)
          have B3 := hide (bl_trans8 B2.out g3)
          clear g3
          go_wp2
          go_roundw
          case rel => exact ⟨1, b2, a2, n2, k2, ex2, q, qa, qn, qk, qe, _, _, by omega, by go_num, (fun h => absurd h (by decide)), (fun _ => ⟨(by have g := of_decide_eq_true ED1.out; have e := EE.out.1; omega), (by have g := of_decide_eq_false ED2.out; have e := EE.out.2; omega)⟩), M3.out, L3.out, H3.out, Z3.out, B3.out⟩
          case measure => simp [intOf]
        · skip
          go_wp2_with fail
          refine C.mono ?_
          rintro e t3 ⟨rfl, g3⟩
          clear C m0 m1 m2 m3 m4 m5 d0 d1 d2
          obtain ⟨W4, hW4, n4', o4, l4, s4⟩ := hi3 (block_upW g3 M2.out) b2 a2 n2 k2 ex2
          obtain ⟨m0, m1, m2, m3, m4, m5⟩ := hexa (block_upW g3 M2.out)
          have hf1 := hexaf (block_upW g3 M2.out)
          obtain ⟨d0, d1, d2⟩ := tri8 (block_upW g3 D2x.out)
          have M3 := hide n4'
          have Z3 := hide (o4 _ _ HNE.out (block_upW g3 Z2.out))
          have L3 := hide (s4 _ _ _ _ _ _ _ (L2.out.below g3))
          have H3 := hide (s4 _ _ _ _ _ _ _ ((HX2.out.below (bl_trans8 B2.out g3))))
          have B3 := hide (l4 _ _ (bl_trans8 B2.out g3) HGE.out)
          clear g3 n4' o4 l4 s4
          go_wp2
          clear hW4 m0 m1 m2 m3 m4 m5 d0 d1 d2 hf1
          go_roundw
          case rel => exact ⟨1, b2, a2, n2, k2, ex2, b2, a2, n2, k2, ex2, _, _, by omega, by go_num, (fun h => absurd h (by decide)), (fun _ => ⟨(by have g := of_decide_eq_true ED1.out; have e := EE.out.1; omega), (by have g := of_decide_eq_true ED2.out; have e := EE.out.2; omega)⟩), M3.out, L3.out, H3.out, Z3.out, B3.out⟩
          case measure => simp [intOf]
    · have EE := hide (E1.out rfl)
      clear E0 E1
      obtain ⟨m0, m1, m2, m3, m4, m5⟩ := hexa HM.out
      obtain ⟨z0, z1, z2, z3, z4, z5⟩ := hexa HZ.out
      have zf := hexaf HZ.out
      go_wp2
      have T3 := hexa_all HZ.out (.bool p) (.slice pa pn pk) (.int .i64 pe) (.bool q) (.slice qa qn qk) (.int .i64 qe)
      have T4 := below_hexa HB.out (show w.heap.size ≤ w.heap.size + 1 by omega) (.bool p) (.slice pa pn pk) (.int .i64 pe) (.bool q) (.slice qa qn qk) (.int .i64 qe)
      have T5 := HLo.out.hexa HZ.out p pa pn pk pe q qa qn qk qe
      have T6 := HHi.out.hexa HZ.out p pa pn pk pe q qa qn qk qe
      obtain ⟨p0, p1, p2, p3, p4, p5⟩ := hexa T3
      have HE := hide (And.intro T5 (And.intro T6 T4))
      clear T3 T4 T5 T6
      generalize (((((wr.setCell ⟨w.heap.size + 1, 0, none⟩ (.bool p)).setCell ⟨w.heap.size + 1, 1, none⟩ (.slice pa pn pk)).setCell ⟨w.heap.size + 1, 2, none⟩ (.int .i64 pe)).setCell ⟨w.heap.size + 1, 3, none⟩ (.bool q)).setCell ⟨w.heap.size + 1, 4, none⟩ (.slice qa qn qk)).setCell ⟨w.heap.size + 1, 5, none⟩ (.int .i64 qe) = w5 at *
      refine bodyPost_ret (v := .agg #[.bool p, .slice pa pn pk, .int .i64 pe, .bool q, .slice qa qn qk, .int .i64 qe]) (by simp [results, Tryz.results63, go_sem, p0, p1, p2, p3, p4, p5]) rfl ?_
      have x1 := HE.out.1
      have x2 := HE.out.2.1
      rw [EE.out.1] at x1
      rw [EE.out.2] at x2
      exact ⟨⟨_, _, _, _, _, _, _, _, _, _, rfl, x1, x2⟩, HE.out.2.2⟩

end Go.Proofs.YtolebfnkmjmfnaaGreatDoor

namespace Go.Proofs.YtolebfnkmjmfnaaGreatDoor
open Go.RowKit
open Lm

theorem mayShift_yes (n : Int) (w : World) (h0 : 0 ≤ n) (h1 : n ≤ 1099511627776) :
    Calls Tryz.prog 151 #[.int .i64 n] w fun e w' => e = .returned (.bool true) ∧ w' = w := by
  go_enter Tryz.func151, Tryz.ntmps151
  go_wp2
  go_ret
  exact ⟨rfl, rfl⟩

set_option maxRecDepth 20000 in
set_option maxHeartbeats 800000 in
theorem left_any (v : Value) (zs : List Nat) (n : Nat) (w : World) (h1 : Arg w v zs) (f1 : zs.length ≤ 35184372088831) (hn : n ≤ 1099511627776) :
    Calls Tryz.prog 134 #[v, .int .i64 n] w fun e w' => Below w.heap.size w w' ∧ Res w' w.heap.size e (val zs * 2 ^ n) := by
  obtain ⟨a1, c1, rfl, hc1, hm1, hl1⟩ := h1.form
  have H0 := mayShift_yes n w (by omega) (by omega)
  have H1 := trim_any a1 c1 zs w hc1 hm1 hl1
  have l1 := tr_length_le zs
  have L1 := hl1.tr
  have M1 := limbs_tr h1.limbs
  have ht := h1.trim
  have H2 := length_val _ _ _ ht
  obtain ⟨i0, hi, hz0, hz1, hz2⟩ := info_parts Tryz.infoU
  by_cases h0 : tr zs = []
  · have hv : val zs = 0 := by rw [← val_tr, h0]; rfl
    have hln : (tr zs).length = 0 := by rw [h0]; rfl
    rw [hln] at H1
    clear H2 hi hz0 hz1 hz2 L1 M1 ht hl1 h1 h0 hln
    have HV : Hid (val zs = 0) := hv
    clear hv
    go_enter Tryz.func134, Tryz.ntmps134
    go_wp2_with fail
    refine H0.mono ?_
    rintro e w' ⟨rfl, rfl⟩
    go_wp2_with fail
    refine H1.mono ?_
    rintro e w' ⟨rfl, rfl⟩
    clear H0 H1
    go_wp2
    go_ret2
    rw [HV.out, Nat.zero_mul]
    exact ⟨Below.refl _ _, _, _, [], rfl, Ans.nil _ _, .inl ⟨rfl, rfl, rfl, by simp [blen]⟩⟩
  · have hpos : 0 < (tr zs).length := List.length_pos_iff.2 h0
    have hvz : val zs ≠ 0 := fun hv => h0 (val_zero (tr_tr zs) (by rw [val_tr]; exact hv))
    rw [val_tr] at H2
    rcases L1 with h' | ⟨b, off, rfl, hcell⟩
    · exact absurd h' h0
    · have hln : (((tr zs).length : Int) == 0) = false := by rw [beq_eq_false_iff_ne]; omega
      have HBL : Hid (blen (val zs * 2 ^ n) = blen (val zs) + n) := blen_shl _ _ hvz
      have hbm : blen (val zs) ≤ zs.length * 64 := (blen_le_iff _ _).2 (by have := val_lt h1.limbs; rwa [W_pow] at this)
      by_cases hbig : blen (val zs) + n ≤ 67108864
      · have hbz : (tr zs).length ≤ 1048576 := few_limbs zs 1048576 (by omega)
        have HVT : Hid (val (tr zs) = val zs) := val_tr zs
        generalize tr zs = Z at *
        obtain ⟨q, s, hs, hnq⟩ : ∃ q s, s < 64 ∧ n = q * 64 + s := ⟨n / 64, n % 64, by omega, by omega⟩
        have eq1 : (n : Int) / 64 = (q : Int) := by omega
        have eq2 : (n : Int) % 64 = (s : Int) := by omega
        have HN : Hid (n = q * 64 + s) := hnq
        have hq : q ≤ 1048576 := by omega
        clear hnq
        clear hl1 h1 ht hvz h0
        go_enter Tryz.func134, Tryz.ntmps134
        go_wp2_with fail
        refine H0.mono ?_
        rintro e w' ⟨rfl, rfl⟩
        go_wp2_with fail
        refine H1.mono ?_
        rintro e w' ⟨rfl, rfl⟩
        go_wp2_with fail
        refine H2.mono ?_
        rintro e w' ⟨rfl, rfl⟩
        clear H0 H1 H2
        go_wp2_with (at_make; refine wpList_make_full _ rfl _ _ 27 rfl w'.heap.size 101 i0 (.int .u64 0) 1 Tryz.underlying27 hi hz0 hz1 .i64 .i64 _ _ (q + Z.length + 1) rfl rfl (by omega) (by omega) (by rw [hz2]; omega) (by unfold maxLen; omega) (Nat.le_refl _) ?_; intro w1 hown hgrow)
        have hb1 := Blk.made hown
        have hbel : Below w'.heap.size w' w1 := (Below.refl _ _).grown hgrow (Nat.le_refl _) (fun k hk => by cases hk)
        clear hown hgrow hi hz0 hz1 hz2
        go_loopw [9, 36] (fun c i wr => ∃ (k cy : Nat) (out : List Nat), k ≤ Z.length ∧ i = .int .i64 k ∧ c = .int .u64 cy ∧ cy < 2 ^ s ∧ out.length = q + Z.length + 1 ∧ Limbs out ∧ Blk wr w'.heap.size out ∧ Below w'.heap.size w' wr ∧
            val (out.take (q + k)) + cy * 18446744073709551616 ^ (q + k) = val (Z.take k) * 2 ^ n) (fun _ i _ => Z.length - (intOf i).toNat)
        case atStart => exact ⟨0, 0, _, Nat.zero_le _, rfl, rfl, Nat.two_pow_pos s, by simp, limbs_replicate _, hb1, hbel, by rw [List.take_replicate, val_replicate]; simp [val]⟩
        case round =>
          obtain ⟨k, cy, out, hk, rfl, rfl, hcy, hlen, hlo, hblk, hbl, hval⟩ := hrel
          clear hb1 hbel
          have HV : Hid (val (out.take (q + k)) + cy * 18446744073709551616 ^ (q + k) = val (Z.take k) * 2 ^ n) := hval
          have HCY : Hid (cy < 2 ^ s) := hcy
          have HB : Hid (Blk wr w'.heap.size out) := hblk
          have HL : Hid (Below w'.heap.size w' wr) := hbl
          have hcw : cy < 18446744073709551616 := Nat.lt_of_lt_of_le hcy (by rw [show (18446744073709551616 : Nat) = 2 ^ 64 from rfl]; exact Nat.pow_le_pow_right (by omega) (by omega))
          clear hval hcy
          by_cases hkl : k < Z.length
          · have hbw : b < w'.heap.size := Lies.block (zs := Z) (.inr ⟨b, off, rfl, hcell⟩) hpos
            have hck : wr.cell? ⟨b, off + k, none⟩ = some (.int .u64 ((Z.getD k 0 : Nat) : Int)) := by rw [hbl.cell (p := ⟨b, off + k, none⟩) hbw]; exact hcell k hkl
            have hfr := hblk.free (q + k)
            have hco := hblk.cell (q + k) (by omega)
            generalize out.getD (q + k) 0 = o at *
            have hne1 : ¬ b = w'.heap.size := by omega
            have hne2 : ¬ w'.heap.size = b := by omega
            have z1 := limb_lt M1 k
            have hst := left_step Z out q s k cy n (by omega) HN.out (by omega) HV.out
            generalize Z.getD k 0 = x at *
            have HS : Hid (val ((out.set (q + k) (shl x s cy)).take (q + (k + 1))) + x / 2 ^ (64 - s) * 18446744073709551616 ^ (q + (k + 1)) = val (Z.take (k + 1)) * 2 ^ n) := hst
            clear hst hblk hbl HV hcell
            go_wp2
            go_roundw
            case rel =>
              rw [walk_shl x s cy (by omega) HCY.out, walk_shr]
              exact ⟨k + 1, x / 2 ^ (64 - s), out.set (q + k) (shl x s cy), by omega, by go_num, rfl, shr_lt x s (by omega) z1, by simp; omega, limbs_set hlo _ _ (shl_lt x s cy (by omega) HCY.out), HB.out.set _ _, HL.out.setCell (Nat.le_refl _) _, HS.out⟩
            case measure => simp [intOf]; omega
          · have ek : k = Z.length := by omega
            subst ek
            have hfr := hblk.free (q + Z.length)
            have hco := hblk.cell (q + Z.length) (by omega)
            generalize out.getD (q + Z.length) 0 = o at *
            have hb2 := hblk.set (q + Z.length) cy
            have hlo2 := limbs_set hlo (q + Z.length) cy hcw
            have hle2 := tr_length_le (out.set (q + Z.length) cy)
            have hlies : Lies (wr.setCell ⟨w'.heap.size, q + Z.length, none⟩ (.int .u64 cy)) (some ⟨w'.heap.size, 0, none⟩) (out.set (q + Z.length) cy) := .inr ⟨w'.heap.size, 0, rfl, fun k hk => by rw [Nat.zero_add]; exact hb2.cell k hk⟩
            have hl2 : (out.set (q + Z.length) cy).length = q + Z.length + 1 := by simp; omega
            have HA := trim_any _ (q + Z.length + 1) _ _ (by omega) (by omega) hlies
            have hvl : val (out.set (q + Z.length) cy) = val zs * 2 ^ n := by
              have e1 : (out.set (q + Z.length) cy).take (q + Z.length + 1) = out.set (q + Z.length) cy := List.take_of_length_le (by omega)
              rw [← e1, take_set_succ _ _ _ (by omega), Nat.mul_comm, HV.out, List.take_length, HVT.out]
            have HR : Hid (Ans (wr.setCell ⟨w'.heap.size, q + Z.length, none⟩ (.int .u64 cy)) w'.heap.size (.slice (some ⟨w'.heap.size, 0, none⟩) (tr (out.set (q + Z.length) cy)).length (q + Z.length + 1)) (tr (out.set (q + Z.length) cy)) ∧ val (tr (out.set (q + Z.length) cy)) = val zs * 2 ^ n ∧ tr (tr (out.set (q + Z.length) cy)) = tr (out.set (q + Z.length) cy)) :=
              ⟨by rw [← hl2]; exact Ans.of_blk (Nat.le_refl _) hb2 (tr_take _) hle2 (by omega) (limbs_tr hlo2), by rw [val_tr, hvl], tr_tr _⟩
            have HBel : Hid (Below w'.heap.size w' (wr.setCell ⟨w'.heap.size, q + Z.length, none⟩ (.int .u64 cy))) := hbl.setCell (Nat.le_refl _) _
            rw [hl2] at HA
            clear hvl hb2 hblk hbl HV HB HL hlo hlo2 hlies hle2
            generalize tr (out.set (q + Z.length) cy) = T at *
            go_wp2_with fail
            refine HA.mono ?_
            rintro e w2 ⟨rfl, rfl⟩
            go_wp2
            go_ret2
            exact ⟨HBel.out, _, _, T, rfl, HR.out.1, .inl ⟨rfl, HR.out.2.1, HR.out.2.2, by rw [HBL.out]; exact hbig⟩⟩
      · clear hi hz0 hz1 hz2 hcell hl1 h1 ht hvz h0 M1
        go_enter Tryz.func134, Tryz.ntmps134
        go_wp2_with fail
        refine H0.mono ?_
        rintro e w' ⟨rfl, rfl⟩
        go_wp2_with fail
        refine H1.mono ?_
        rintro e w' ⟨rfl, rfl⟩
        go_wp2_with fail
        refine H2.mono ?_
        rintro e w' ⟨rfl, rfl⟩
        clear H0 H1 H2
        go_wp2
        go_ret2
        exact ⟨Below.refl _ _, _, _, [], rfl, Ans.nil _ _, .inr ⟨rfl, rfl, by rw [HBL.out]; omega⟩⟩

end Go.Proofs.YtolebfnkmjmfnaaGreatDoor
