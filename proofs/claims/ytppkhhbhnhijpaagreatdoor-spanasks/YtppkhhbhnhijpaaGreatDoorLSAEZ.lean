/- The walk of the law SpanAsks, case E. -/
import Derived.Test.YtppkhhbhnhijpaaGreatDoorSpRZ
import Derived.Test.YtppkhhbhnhijpaaGreatDoorSpSZ
import Derived.Deep.CutBlock
import Derived.Deep.DeepCutAuto
namespace Go.Proofs.YtppkhhbhnhijpaaGreatDoor
open Go.RowKit
open Lm
attribute [local go_sem ↓] Go.wp_at_zero Go.wp_at_succ

set_option maxRecDepth 20000 in
set_option maxHeartbeats 16000000 in
theorem asks10_E (b0 : Bool) (u0 : Value) (z0 : List Nat) (e0 : Int) (b1 : Bool) (u1 : Value) (z1 : List Nat) (e1 : Int) (b2 : Bool) (u2 : Value) (z2 : List Nat) (e2 : Int) (b3 : Bool) (u3 : Value) (z3 : List Nat) (e3 : Int) (b4 : Bool) (u4 : Value) (z4 : List Nat) (e4 : Int) (L : Nat) (w : World) (hT : Tab w) (A0 : Arg w u0 z0) (s0 : z0.length ≤ 17592186043904) (_ : -9223372036854775808 ≤ e0) (_ : e0 ≤ 9223372036854775807) (A1 : Arg w u1 z1) (s1 : z1.length ≤ 17592186043904) (_ : -9223372036854775808 ≤ e1) (_ : e1 ≤ 9223372036854775807) (A2 : Arg w u2 z2) (s2 : z2.length ≤ 17592186043904) (_ : -9223372036854775808 ≤ e2) (_ : e2 ≤ 9223372036854775807) (A3 : Arg w u3 z3) (s3 : z3.length ≤ 17592186043904) (_ : -9223372036854775808 ≤ e3) (_ : e3 ≤ 9223372036854775807) (A4 : Arg w u4 z4) (s4 : z4.length ≤ 17592186043904) (_ : -9223372036854775808 ≤ e4) (_ : e4 ≤ 9223372036854775807) (hL : 4611686018427387904 ≤ L) (hF : flt e0 e1 (vof b0 z0 e0 L) (vof b1 z1 e1 L) = 0) (hG : flt e2 e3 (vof b2 z2 e2 L) (vof b3 z3 e3 L) = 0) (hE4 : fitE e4 = true) :
    Calls Tryz.prog 5 #[.agg #[.bool b0, u0, .int .i64 e0, .bool b1, u1, .int .i64 e1], .agg #[.bool b2, u2, .int .i64 e2, .bool b3, u3, .int .i64 e3], .agg #[.bool b4, u4, .int .i64 e4]] w fun e w' => e = .returned (.bool true) ∧ Below w.heap.size w w' := by
  obtain ⟨a0, k0, rfl, _, _, _⟩ := A0.form
  obtain ⟨a1, k1, rfl, _, _, _⟩ := A1.form
  obtain ⟨a2, k2, rfl, _, _, _⟩ := A2.form
  obtain ⟨a3, k3, rfl, _, _, _⟩ := A3.form
  obtain ⟨a4, k4, rfl, _, _, _⟩ := A4.form
  obtain ⟨w0, hw0, hb0, q0, q1, q2⟩ := enter3 w (.cells #[.bool b0, .slice a0 z0.length k0, .int .i64 e0, .bool b1, .slice a1 z1.length k1, .int .i64 e1] 26) (.cells #[.bool b2, .slice a2 z2.length k2, .int .i64 e2, .bool b3, .slice a3 z3.length k3, .int .i64 e3] 26) (.cells #[.bool b4, .slice a4 z4.length k4, .int .i64 e4] 24)
  have HT := hide (hT.below hb0)
  have HA0 := hide (A0.below hb0)
  have HA1 := hide (A1.below hb0)
  have HA2 := hide (A2.below hb0)
  have HA3 := hide (A3.below hb0)
  have HA4 := hide (A4.below hb0)
  have HS := hide q0
  have HR := hide q1
  have HD : Hid (w0.heap[w.heap.size + 1 + 1]? = _) := hide q2
  have HW := hide hb0
  have LL : Hid (4611686018427387904 ≤ L) := hide hL
  clear A0 A1 A2 A3 A4 hT q0 q1 q2 hb0 hL
  have f0 := (flt_zero hF).1
  have f1 := (flt_zero hF).2.1
  have f2 := (flt_zero hG).1
  have f3 := (flt_zero hG).2.1
  obtain ⟨V0, hV0⟩ : ∃ V, vof b0 z0 e0 L = V := ⟨_, rfl⟩
  obtain ⟨V1, hV1⟩ : ∃ V, vof b1 z1 e1 L = V := ⟨_, rfl⟩
  obtain ⟨V2, hV2⟩ : ∃ V, vof b2 z2 e2 L = V := ⟨_, rfl⟩
  obtain ⟨V3, hV3⟩ : ∃ V, vof b3 z3 e3 L = V := ⟨_, rfl⟩
  obtain ⟨V4, hV4⟩ : ∃ V, vof b4 z4 e4 L = V := ⟨_, rfl⟩
  rw [hV0, hV1] at hF
  rw [hV2, hV3] at hG
  have EV0 := hide hV0
  have EV1 := hide hV1
  have EV2 := hide hV2
  have EV3 := hide hV3
  have EV4 := hide hV4
  have EF := hide hF
  have EG := hide hG
  have N0 := hide f0
  have N1 := hide f1
  have N2 := hide f2
  have N3 := hide f3
  clear hV0 hV1 hV2 hV3 hV4 hF hG f0 f1 f2 f3
  have HLE0 := hide (flt_zero EF.out).2.2
  have HLE2 := hide (flt_zero EG.out).2.2
  obtain ⟨BD, hBD⟩ : ∃ D, (!decide (V4 < V0) && !decide (V1 < V4)) = D := ⟨_, rfl⟩
  have hBD' : (decide (V0 ≤ V4) && decide (V4 ≤ V1)) = BD := by rw [← hBD]; simp only [← Int.not_lt, decide_not]
  have EBD := hide hBD
  have EBD2 := hide hBD'
  clear hBD hBD'
  obtain ⟨BW, hBW⟩ : ∃ D, (!decide (V0 < V2) && !decide (V3 < V1)) = D := ⟨_, rfl⟩
  have hBW' : ((decide (V2 ≤ V0) && decide (V0 ≤ V3)) && (decide (V2 ≤ V1) && decide (V1 ≤ V3))) = BW := by
    rw [← hBW]
    have g1 := HLE0.out
    have g2 := HLE2.out
    by_cases x1 : V0 < V2
    · (simp [x1]) <;> omega
    · by_cases x2 : V3 < V1
      · (simp [x2]) <;> omega
      · (simp [x1, x2]) <;> omega
  have EBW := hide hBW
  have EBW2 := hide hBW'
  obtain ⟨O1, hO1⟩ : ∃ D, decide (V1 < V2) = D := ⟨_, rfl⟩
  obtain ⟨O2, hO2⟩ : ∃ D, decide (V3 < V0) = D := ⟨_, rfl⟩
  have hO3 : O1 = true → O2 = true → False := by
    intro g1 g2
    rw [← hO1] at g1
    rw [← hO2] at g2
    have g3 := of_decide_eq_true g1
    have g4 := of_decide_eq_true g2
    have g5 := HLE0.out
    have g6 := HLE2.out
    omega
  have EBO1 := hide hO1
  have EBO2 := hide hO2
  have EBO3 := hide hO3
  clear hBW hBW' hO1 hO2 hO3
  obtain ⟨SS, hSS⟩ : ∃ s, sureV V0 V1 = s := ⟨_, rfl⟩
  have EBS := hide hSS
  have iss : (SS == SS) = true := by simp
  clear hSS
  go_enter Tryz.func5, Tryz.ntmps5
  have LN1 := hide (fun (W : World) (hg : Below w0.heap.size w0 W) => lend10_any b0 a0 k0 z0 e0 b1 a1 k1 z1 e1 W (HA0.out.below hg) (HA1.out.below hg) (by omega) (by omega))
  have LN2 := hide (fun (W : World) (hg : Below w0.heap.size w0 W) => lend10_any b2 a2 k2 z2 e2 b3 a3 k3 z3 e3 W (HA2.out.below hg) (HA3.out.below hg) (by omega) (by omega))
  have KS := hide (fun (W : World) (hg : Below w0.heap.size w0 W) => show W.cell? ⟨w.heap.size, 0, none⟩ = some (.bool b0) ∧ W.cell? ⟨w.heap.size, 1, none⟩ = some (.slice a0 z0.length k0) ∧ W.cell? ⟨w.heap.size, 2, none⟩ = some (.int .i64 e0) ∧ W.cell? ⟨w.heap.size, 3, none⟩ = some (.bool b1) ∧ W.cell? ⟨w.heap.size, 4, none⟩ = some (.slice a1 z1.length k1) ∧ W.cell? ⟨w.heap.size, 5, none⟩ = some (.int .i64 e1) ∧ W.cell? ⟨w.heap.size + 1, 0, none⟩ = some (.bool b2) ∧ W.cell? ⟨w.heap.size + 1, 1, none⟩ = some (.slice a2 z2.length k2) ∧ W.cell? ⟨w.heap.size + 1, 2, none⟩ = some (.int .i64 e2) ∧ W.cell? ⟨w.heap.size + 1, 3, none⟩ = some (.bool b3) ∧ W.cell? ⟨w.heap.size + 1, 4, none⟩ = some (.slice a3 z3.length k3) ∧ W.cell? ⟨w.heap.size + 1, 5, none⟩ = some (.int .i64 e3) from (by
    obtain ⟨x0, x1, x2, x3, x4, x5⟩ := hexa (block_upW hg HS.out)
    obtain ⟨y0, y1, y2, y3, y4, y5⟩ := hexa (block_upW hg HR.out)
    exact ⟨x0, x1, x2, x3, x4, x5, y0, y1, y2, y3, y4, y5⟩))
  go_upto_region 1 with fail
  go_cut [7, 8] from 26 to 29 (fun s t wx => TwoL w0 b0 z0 e0 b1 z1 e1 b2 z2 e2 b3 z3 e3 s t wx)
  case first =>
    refine wp_region_held_drew (S := fun w' => w'.cell? ⟨w.heap.size, 0, none⟩ = some (.bool b0) ∧ w'.cell? ⟨w.heap.size, 1, none⟩ = some (.slice a0 z0.length k0) ∧ w'.cell? ⟨w.heap.size, 2, none⟩ = some (.int .i64 e0) ∧ w'.cell? ⟨w.heap.size, 3, none⟩ = some (.bool b1) ∧ w'.cell? ⟨w.heap.size, 4, none⟩ = some (.slice a1 z1.length k1) ∧ w'.cell? ⟨w.heap.size, 5, none⟩ = some (.int .i64 e1) ∧ w'.cell? ⟨w.heap.size + 1, 0, none⟩ = some (.bool b2) ∧ w'.cell? ⟨w.heap.size + 1, 1, none⟩ = some (.slice a2 z2.length k2) ∧ w'.cell? ⟨w.heap.size + 1, 2, none⟩ = some (.int .i64 e2) ∧ w'.cell? ⟨w.heap.size + 1, 3, none⟩ = some (.bool b3) ∧ w'.cell? ⟨w.heap.size + 1, 4, none⟩ = some (.slice a3 z3.length k3) ∧ w'.cell? ⟨w.heap.size + 1, 5, none⟩ = some (.int .i64 e3)) (by kernel_rfl) (KS.out _ (bl_drew10 (Below.refl _ _))) (fun hHeld => ?_)
    refine wpAnyH_take (i := 0) (oi := { dst := some 26, op := Op.load 26 (Operand.tmp 3), type := 26, pos := "law.go:347", after := #[], guard := none }) (v := .agg #[.bool b0, .slice a0 z0.length k0, .int .i64 e0, .bool b1, .slice a1 z1.length k1, .int .i64 e1]) rfl (by kernel_rfl) (by kernel_rfl) (by kernel_rfl) (fun _ _ _ h => h) (Or.inl ⟨by rfl, fun w9 hSw => ?_⟩) hHeld ?_
    · (try dsimp only at hSw); go_simp
    simp only [Act.put, List.setIfInBounds_toArray, List.set_cons_zero, List.set_cons_succ]
    refine wpAnyH_take (i := 2) (oi := { dst := some 28, op := Op.load 26 (Operand.tmp 4), type := 26, pos := "law.go:347", after := #[], guard := none }) (v := .agg #[.bool b2, .slice a2 z2.length k2, .int .i64 e2, .bool b3, .slice a3 z3.length k3, .int .i64 e3]) rfl (by kernel_rfl) (by kernel_rfl) (by kernel_rfl) (fun _ _ _ h => h) (Or.inl ⟨by rfl, fun w9 hSw => ?_⟩) hHeld ?_
    · (try dsimp only at hSw); go_simp
    simp only [Act.put, List.setIfInBounds_toArray, List.set_cons_zero, List.set_cons_succ]
    refine dp2l w0 (LA b0 z0 e0 b1 z1 e1) (LA b2 z2 e2 b3 z3 e3) (LA.keep b0 z0 e0 b1 z1 e1) (LA.keep b2 z2 e2 b3 z3 e3) 27 29 7 8 (fun c1 c2 k1 k2 => #[true, c1, true, c2, k1, k2, false, false]) (by kernel_rfl) (by kernel_rfl) (by simp only [Act.put, List.setIfInBounds_toArray, List.set_cons_zero, List.set_cons_succ]) (bl_drew10 (Below.refl _ _)) ?_
    clear hHeld
    intro n
    simp only [Act.put, List.setIfInBounds_toArray, List.set_cons_zero, List.set_cons_succ]
    induction n with
    | zero =>
      intro c1 c2 k1 k2 x1 x2 y1 y2 W hf J
      exact absurd hf (by unfold leftL; omega)
    | succ n ih =>
      intro c1 c2 k1 k2 x1 x2 y1 y2 W hf J
      cases c1
      · skip
        cases c2
        · skip
          cases k1
          · skip
            cases k2
            · skip
              refine wpAnyH_ready (rs := [1, 4, 5]) (by kernel_rfl) (by simp) ?_
              refine AllReadyH.cons rfl (fun K hK => ?_) ?_
              · go_simp
                refine (LN1.out W J.up).mono ?_
                rintro e' W2 ⟨⟨fu, fmu, fnu, fv, fmv, fnv, fx, fcx, fy, fcy, rfl, f9⟩, hb⟩
                refine hK.out _ _ (KS.out _ (bl_trans8 J.up hb)) (fun _ => ?_)
                simp only [List.setIfInBounds_toArray, List.set_cons_zero, List.set_cons_succ]
                exact ih _ _ _ _ _ _ _ _ _ (by simp [leftL] at hf ⊢; omega) (J.call1 hb ⟨fu, fmu, fnu, fv, fmv, fnv, fx, fcx, fy, fcy, rfl, f9⟩)
              refine AllReadyH.cons rfl (fun K hK => ?_) ?_
              · go_simp
                refine hK.out _ _ (KS.out _ (bl_alloc10 J.up _)) (fun _ => ?_)
                simp only [List.setIfInBounds_toArray, List.set_cons_zero, List.set_cons_succ]
                exact ih _ _ _ _ _ _ _ _ _ (by simp [leftL] at hf ⊢; omega) J.make1
              refine AllReadyH.cons rfl (fun K hK => ?_) ?_
              · go_simp
                refine hK.out _ _ (KS.out _ (bl_alloc10 J.up _)) (fun _ => ?_)
                simp only [List.setIfInBounds_toArray, List.set_cons_zero, List.set_cons_succ]
                exact ih _ _ _ _ _ _ _ _ _ (by simp [leftL] at hf ⊢; omega) J.make2
              exact AllReadyH.nil
            · skip
              refine wpAnyH_ready (rs := [1, 4]) (by kernel_rfl) (by simp) ?_
              refine AllReadyH.cons rfl (fun K hK => ?_) ?_
              · go_simp
                refine (LN1.out W J.up).mono ?_
                rintro e' W2 ⟨⟨fu, fmu, fnu, fv, fmv, fnv, fx, fcx, fy, fcy, rfl, f9⟩, hb⟩
                refine hK.out _ _ (KS.out _ (bl_trans8 J.up hb)) (fun _ => ?_)
                simp only [List.setIfInBounds_toArray, List.set_cons_zero, List.set_cons_succ]
                exact ih _ _ _ _ _ _ _ _ _ (by simp [leftL] at hf ⊢; omega) (J.call1 hb ⟨fu, fmu, fnu, fv, fmv, fnv, fx, fcx, fy, fcy, rfl, f9⟩)
              refine AllReadyH.cons rfl (fun K hK => ?_) ?_
              · go_simp
                refine hK.out _ _ (KS.out _ (bl_alloc10 J.up _)) (fun _ => ?_)
                simp only [List.setIfInBounds_toArray, List.set_cons_zero, List.set_cons_succ]
                exact ih _ _ _ _ _ _ _ _ _ (by simp [leftL] at hf ⊢; omega) J.make1
              exact AllReadyH.nil
          · skip
            cases k2
            · skip
              refine wpAnyH_ready (rs := [1, 5]) (by kernel_rfl) (by simp) ?_
              refine AllReadyH.cons rfl (fun K hK => ?_) ?_
              · go_simp
                refine (LN1.out W J.up).mono ?_
                rintro e' W2 ⟨⟨fu, fmu, fnu, fv, fmv, fnv, fx, fcx, fy, fcy, rfl, f9⟩, hb⟩
                refine hK.out _ _ (KS.out _ (bl_trans8 J.up hb)) (fun _ => ?_)
                simp only [List.setIfInBounds_toArray, List.set_cons_zero, List.set_cons_succ]
                exact ih _ _ _ _ _ _ _ _ _ (by simp [leftL] at hf ⊢; omega) (J.call1 hb ⟨fu, fmu, fnu, fv, fmv, fnv, fx, fcx, fy, fcy, rfl, f9⟩)
              refine AllReadyH.cons rfl (fun K hK => ?_) ?_
              · go_simp
                refine hK.out _ _ (KS.out _ (bl_alloc10 J.up _)) (fun _ => ?_)
                simp only [List.setIfInBounds_toArray, List.set_cons_zero, List.set_cons_succ]
                exact ih _ _ _ _ _ _ _ _ _ (by simp [leftL] at hf ⊢; omega) J.make2
              exact AllReadyH.nil
            · skip
              refine wpAnyH_ready (rs := [1]) (by kernel_rfl) (by simp) ?_
              refine AllReadyH.cons rfl (fun K hK => ?_) ?_
              · go_simp
                refine (LN1.out W J.up).mono ?_
                rintro e' W2 ⟨⟨fu, fmu, fnu, fv, fmv, fnv, fx, fcx, fy, fcy, rfl, f9⟩, hb⟩
                refine hK.out _ _ (KS.out _ (bl_trans8 J.up hb)) (fun _ => ?_)
                simp only [List.setIfInBounds_toArray, List.set_cons_zero, List.set_cons_succ]
                exact ih _ _ _ _ _ _ _ _ _ (by simp [leftL] at hf ⊢; omega) (J.call1 hb ⟨fu, fmu, fnu, fv, fmv, fnv, fx, fcx, fy, fcy, rfl, f9⟩)
              exact AllReadyH.nil
        · skip
          exact absurd (J.ch rfl) (by decide)
      · skip
        cases c2
        · skip
          cases k1
          · skip
            cases k2
            · skip
              refine wpAnyH_ready (rs := [3, 4, 5]) (by kernel_rfl) (by simp) ?_
              refine AllReadyH.cons rfl (fun K hK => ?_) ?_
              · go_simp
                refine (LN2.out W J.up).mono ?_
                rintro e' W2 ⟨⟨fu, fmu, fnu, fv, fmv, fnv, fx, fcx, fy, fcy, rfl, f9⟩, hb⟩
                refine hK.out _ _ (KS.out _ (bl_trans8 J.up hb)) (fun _ => ?_)
                simp only [List.setIfInBounds_toArray, List.set_cons_zero, List.set_cons_succ]
                exact ih _ _ _ _ _ _ _ _ _ (by simp [leftL] at hf ⊢; omega) (J.call2 hb ⟨fu, fmu, fnu, fv, fmv, fnv, fx, fcx, fy, fcy, rfl, f9⟩)
              refine AllReadyH.cons rfl (fun K hK => ?_) ?_
              · go_simp
                refine hK.out _ _ (KS.out _ (bl_alloc10 J.up _)) (fun _ => ?_)
                simp only [List.setIfInBounds_toArray, List.set_cons_zero, List.set_cons_succ]
                exact ih _ _ _ _ _ _ _ _ _ (by simp [leftL] at hf ⊢; omega) J.make1
              refine AllReadyH.cons rfl (fun K hK => ?_) ?_
              · go_simp
                refine hK.out _ _ (KS.out _ (bl_alloc10 J.up _)) (fun _ => ?_)
                simp only [List.setIfInBounds_toArray, List.set_cons_zero, List.set_cons_succ]
                exact ih _ _ _ _ _ _ _ _ _ (by simp [leftL] at hf ⊢; omega) J.make2
              exact AllReadyH.nil
            · skip
              refine wpAnyH_ready (rs := [3, 4]) (by kernel_rfl) (by simp) ?_
              refine AllReadyH.cons rfl (fun K hK => ?_) ?_
              · go_simp
                refine (LN2.out W J.up).mono ?_
                rintro e' W2 ⟨⟨fu, fmu, fnu, fv, fmv, fnv, fx, fcx, fy, fcy, rfl, f9⟩, hb⟩
                refine hK.out _ _ (KS.out _ (bl_trans8 J.up hb)) (fun _ => ?_)
                simp only [List.setIfInBounds_toArray, List.set_cons_zero, List.set_cons_succ]
                exact ih _ _ _ _ _ _ _ _ _ (by simp [leftL] at hf ⊢; omega) (J.call2 hb ⟨fu, fmu, fnu, fv, fmv, fnv, fx, fcx, fy, fcy, rfl, f9⟩)
              refine AllReadyH.cons rfl (fun K hK => ?_) ?_
              · go_simp
                refine hK.out _ _ (KS.out _ (bl_alloc10 J.up _)) (fun _ => ?_)
                simp only [List.setIfInBounds_toArray, List.set_cons_zero, List.set_cons_succ]
                exact ih _ _ _ _ _ _ _ _ _ (by simp [leftL] at hf ⊢; omega) J.make1
              exact AllReadyH.nil
          · skip
            cases k2
            · skip
              refine wpAnyH_ready (rs := [3, 5]) (by kernel_rfl) (by simp) ?_
              refine AllReadyH.cons rfl (fun K hK => ?_) ?_
              · go_simp
                refine (LN2.out W J.up).mono ?_
                rintro e' W2 ⟨⟨fu, fmu, fnu, fv, fmv, fnv, fx, fcx, fy, fcy, rfl, f9⟩, hb⟩
                refine hK.out _ _ (KS.out _ (bl_trans8 J.up hb)) (fun _ => ?_)
                simp only [List.setIfInBounds_toArray, List.set_cons_zero, List.set_cons_succ]
                exact ih _ _ _ _ _ _ _ _ _ (by simp [leftL] at hf ⊢; omega) (J.call2 hb ⟨fu, fmu, fnu, fv, fmv, fnv, fx, fcx, fy, fcy, rfl, f9⟩)
              refine AllReadyH.cons rfl (fun K hK => ?_) ?_
              · go_simp
                refine hK.out _ _ (KS.out _ (bl_alloc10 J.up _)) (fun _ => ?_)
                simp only [List.setIfInBounds_toArray, List.set_cons_zero, List.set_cons_succ]
                exact ih _ _ _ _ _ _ _ _ _ (by simp [leftL] at hf ⊢; omega) J.make2
              exact AllReadyH.nil
            · skip
              refine wpAnyH_ready (rs := [3]) (by kernel_rfl) (by simp) ?_
              refine AllReadyH.cons rfl (fun K hK => ?_) ?_
              · go_simp
                refine (LN2.out W J.up).mono ?_
                rintro e' W2 ⟨⟨fu, fmu, fnu, fv, fmv, fnv, fx, fcx, fy, fcy, rfl, f9⟩, hb⟩
                refine hK.out _ _ (KS.out _ (bl_trans8 J.up hb)) (fun _ => ?_)
                simp only [List.setIfInBounds_toArray, List.set_cons_zero, List.set_cons_succ]
                exact ih _ _ _ _ _ _ _ _ _ (by simp [leftL] at hf ⊢; omega) (J.call2 hb ⟨fu, fmu, fnu, fv, fmv, fnv, fx, fcx, fy, fcy, rfl, f9⟩)
              exact AllReadyH.nil
        · skip
          cases k1
          · skip
            cases k2
            · skip
              refine wpAnyH_ready (rs := [4, 5]) (by kernel_rfl) (by simp) ?_
              refine AllReadyH.cons rfl (fun K hK => ?_) ?_
              · go_simp
                refine hK.out _ _ (KS.out _ (bl_alloc10 J.up _)) (fun _ => ?_)
                simp only [List.setIfInBounds_toArray, List.set_cons_zero, List.set_cons_succ]
                exact ih _ _ _ _ _ _ _ _ _ (by simp [leftL] at hf ⊢; omega) J.make1
              refine AllReadyH.cons rfl (fun K hK => ?_) ?_
              · go_simp
                refine hK.out _ _ (KS.out _ (bl_alloc10 J.up _)) (fun _ => ?_)
                simp only [List.setIfInBounds_toArray, List.set_cons_zero, List.set_cons_succ]
                exact ih _ _ _ _ _ _ _ _ _ (by simp [leftL] at hf ⊢; omega) J.make2
              exact AllReadyH.nil
            · skip
              refine wpAnyH_ready (rs := [4]) (by kernel_rfl) (by simp) ?_
              refine AllReadyH.cons rfl (fun K hK => ?_) ?_
              · go_simp
                refine hK.out _ _ (KS.out _ (bl_alloc10 J.up _)) (fun _ => ?_)
                simp only [List.setIfInBounds_toArray, List.set_cons_zero, List.set_cons_succ]
                exact ih _ _ _ _ _ _ _ _ _ (by simp [leftL] at hf ⊢; omega) J.make1
              exact AllReadyH.nil
          · skip
            cases k2
            · skip
              refine wpAnyH_ready (rs := [5]) (by kernel_rfl) (by simp) ?_
              refine AllReadyH.cons rfl (fun K hK => ?_) ?_
              · go_simp
                refine hK.out _ _ (KS.out _ (bl_alloc10 J.up _)) (fun _ => ?_)
                simp only [List.setIfInBounds_toArray, List.set_cons_zero, List.set_cons_succ]
                exact ih _ _ _ _ _ _ _ _ _ (by simp [leftL] at hf ⊢; omega) J.make2
              exact AllReadyH.nil
            · skip
              obtain ⟨pu, pmu, pnu, pv, pmv, pnv, px, pcx, py, pcy, rfl, fp⟩ := J.q1 rfl
              obtain ⟨qu, qmu, qnu, qv, qmv, qnv, qx, qcx, qy, qcy, rfl, fq⟩ := J.q2 rfl
              have D12 := J.d12 rfl rfl
              obtain ⟨g1, rfl, l1, e1z⟩ := J.r1 rfl
              obtain ⟨g2, rfl, l2, e2z⟩ := J.r2 rfl
              have HU := hide J.up
              obtain rfl : n = 1 := by simp [leftL] at hf; omega
              clear J ih hf
              have D12g : g1 ≠ g2 := fun e => D12 (by rw [e])
              have fin := two_ll (b0 := b0) (e0 := e0) (b1 := b1) (e1 := e1) (b2 := b2) (e2 := e2) (b3 := b3) (e3 := e3) e1z e2z fp fq HU.out l1 l2 D12g
              unfold set8 at fin
              have HFIN := hide fin
              clear D12 fp fq fin
              obtain ⟨m0, m1, m2, m3, m4, m5, m6, m7⟩ := octa e1z
              have hf1 := octaf e1z
              have t2 := (octa_other (w := W) (g := g1) (Ne.symm D12g) (.slice pu pmu pnu) (.slice pv pmv pnv) (.bool b0) (.slice px z0.length pcx) (.int .i64 e0) (.bool b1) (.slice py z1.length pcy) (.int .i64 e1)).trans e2z
              unfold set8 at t2
              obtain ⟨m8, m9, m10, m11, m12, m13, m14, m15⟩ := octa t2
              have hf2 := octaf t2
              have b1z := below_octa HU.out l1 (.slice pu pmu pnu) (.slice pv pmv pnv) (.bool b0) (.slice px z0.length pcx) (.int .i64 e0) (.bool b1) (.slice py z1.length pcy) (.int .i64 e1)
              have b2z := below_octa b1z l2 (.slice qu qmu qnu) (.slice qv qmv qnv) (.bool b2) (.slice qx z2.length qcx) (.int .i64 e2) (.bool b3) (.slice qy z3.length qcy) (.int .i64 e3)
              unfold set8 at b1z b2z
              have HB1 := hide b1z
              have HB2 := hide b2z
              clear t2 e1z e2z b1z b2z
              refine wpAnyH_ready (rs := [6]) (by kernel_rfl) (by simp) ?_
              refine AllReadyH.cons rfl (fun K hK => ?_) AllReadyH.nil
              go_simp
              refine hK.out _ _ (KS.out _ HB1.out) (fun _ => ?_)
              clear hK K
              try simp only [List.setIfInBounds_toArray, List.set_cons_zero, List.set_cons_succ]
              refine wpAnyH_ready (rs := [7]) (by kernel_rfl) (by simp) ?_
              refine AllReadyH.cons rfl (fun K hK => ?_) AllReadyH.nil
              go_simp
              refine hK.out _ _ (KS.out _ HB2.out) (fun _ => ?_)
              clear hK K
              try simp only [List.setIfInBounds_toArray, List.set_cons_zero, List.set_cons_succ]
              refine wpAnyH_done (by kernel_rfl) ?_ _
              clear m0 m1 m2 m3 m4 m5 m6 m7 m8 m9 m10 m11 m12 m13 m14 m15 hf1 hf2 HB1 HB2
              go_wp2_with fail
              go_meet
              exact HFIN.out
  case rest =>
    obtain ⟨gp, gq, pu, pmu, pnu, pv, pmv, pnv, px, pcx, py, pcy, qu, qmu, qnu, qv, qmv, qnv, qx, qcx, qy, qcy, rfl, rfl, hX, hY, ⟨l1, l2, l3, l4⟩, ⟨l5, l6, l7, l8⟩, hb⟩ := hcut
    clear LN1 LN2 KS hw0
    replace HS := hide (block_upW hb HS.out)
    replace HR := hide (block_upW hb HR.out)
    replace HD := hide (block_upW hb HD.out)
    replace HT := hide (HT.out.below hb)
    replace HA0 := hide (HA0.out.below hb)
    replace HA1 := hide (HA1.out.below hb)
    replace HA2 := hide (HA2.out.below hb)
    replace HA3 := hide (HA3.out.below hb)
    replace HA4 := hide (HA4.out.below hb)
    replace HW := hid_below HW hb
    clear hb
    have HP := hide hX
    have HQ := hide hY
    have HL1 := hide l1
    have HL2 := hide l2
    have HL3 := hide l3
    have HL4 := hide l4
    have HL5 := hide l5
    have HL6 := hide l6
    have HL7 := hide l7
    have HL8 := hide l8
    clear hX hY l1 l2 l3 l4 l5 l6 l7 l8
    obtain ⟨ca0, ca1, ca2⟩ := tri8 HD.out
    have C := lent10_any b4 a4 k4 z4 e4 wc HA4.out (by omega)
    go_wp2_with fail
    refine C.mono ?_
    rintro e Q1 ⟨⟨aw, mw, nw, ad, cd, rfl, l1, l2⟩, hb⟩
    clear C ca0 ca1 ca2
    obtain ⟨P2, hP2, hbP, hx⟩ := enter1 Q1 (.cells #[.bool b4, .slice ad z4.length cd, .int .i64 e4] 31)
    have stp := bl_trans8 hb hbP
    replace HS := hide (block_upW stp HS.out)
    replace HR := hide (block_upW stp HR.out)
    replace HD := hide (block_upW stp HD.out)
    replace HP := hide (block_upW stp HP.out)
    replace HQ := hide (block_upW stp HQ.out)
    replace HT := hide (HT.out.below stp)
    replace HA0 := hide (HA0.out.below stp)
    replace HA1 := hide (HA1.out.below stp)
    replace HA2 := hide (HA2.out.below stp)
    replace HA3 := hide (HA3.out.below stp)
    replace HA4 := hide (HA4.out.below stp)
    replace HL1 := hide (HL1.out.below stp)
    replace HL2 := hide (HL2.out.below stp)
    replace HL3 := hide (HL3.out.below stp)
    replace HL4 := hide (HL4.out.below stp)
    replace HL5 := hide (HL5.out.below stp)
    replace HL6 := hide (HL6.out.below stp)
    replace HL7 := hide (HL7.out.below stp)
    replace HL8 := hide (HL8.out.below stp)
    replace HW := hid_below HW stp
    have HLw := hide (l1.below hbP)
    have HXd := hide (l2.below hbP)
    have HX := hide hx
    clear stp hbP hx hb l1 l2
    obtain ⟨ca0, ca1, ca2, ca3, ca4, ca5⟩ := hexa HS.out
    have C := of10_any b0 a0 k0 z0 e0 b1 a1 k1 z1 e1 L P2 HA0.out HA1.out s0 s1 LL.out
    rw [EV0.out, EV1.out, EF.out] at C
    go_wp2_with fail
    refine C.mono ?_
    rintro e Q3 ⟨⟨m, ma, mn, mk, me, n, na, nn, nk, ne, rfl, hv1, hv2⟩, hb⟩
    clear C ca0 ca1 ca2 ca3 ca4 ca5 hP2
    rw [if_pos rfl] at hv1 hv2
    obtain ⟨P4, hP4, hbP, hx⟩ := enter1 Q3 (.cells #[.bool m, .slice ma mn mk, .int .i64 me, .bool n, .slice na nn nk, .int .i64 ne] 47)
    have stp := bl_trans8 hb hbP
    replace HS := hide (block_upW stp HS.out)
    replace HR := hide (block_upW stp HR.out)
    replace HD := hide (block_upW stp HD.out)
    replace HP := hide (block_upW stp HP.out)
    replace HQ := hide (block_upW stp HQ.out)
    replace HX := hide (block_upW stp HX.out)
    replace HT := hide (HT.out.below stp)
    replace HA0 := hide (HA0.out.below stp)
    replace HA1 := hide (HA1.out.below stp)
    replace HA2 := hide (HA2.out.below stp)
    replace HA3 := hide (HA3.out.below stp)
    replace HA4 := hide (HA4.out.below stp)
    replace HL1 := hide (HL1.out.below stp)
    replace HL2 := hide (HL2.out.below stp)
    replace HL3 := hide (HL3.out.below stp)
    replace HL4 := hide (HL4.out.below stp)
    replace HL5 := hide (HL5.out.below stp)
    replace HL6 := hide (HL6.out.below stp)
    replace HL7 := hide (HL7.out.below stp)
    replace HL8 := hide (HL8.out.below stp)
    replace HLw := hide (HLw.out.below stp)
    replace HXd := hide (HXd.out.below stp)
    replace HW := hid_below HW stp
    have HMv := hide (hv1.below hbP)
    have HNv := hide (hv2.below hbP)
    have HM := hide hx
    clear stp hbP hx hb hv1 hv2
    obtain ⟨ca0, ca1, ca2, ca3, ca4, ca5⟩ := hexa HR.out
    have C := of10_any b2 a2 k2 z2 e2 b3 a3 k3 z3 e3 L P4 HA2.out HA3.out s2 s3 LL.out
    rw [EV2.out, EV3.out, EG.out] at C
    go_wp2_with fail
    refine C.mono ?_
    rintro e Q5 ⟨⟨o, oa, on, ok, oe, t, ta, tn, tk, te, rfl, hv1, hv2⟩, hb⟩
    clear C ca0 ca1 ca2 ca3 ca4 ca5 hP4
    rw [if_pos rfl] at hv1 hv2
    obtain ⟨P6, hP6, hbP, hx⟩ := enter1 Q5 (.cells #[.bool o, .slice oa on ok, .int .i64 oe, .bool t, .slice ta tn tk, .int .i64 te] 47)
    have stp := bl_trans8 hb hbP
    replace HS := hide (block_upW stp HS.out)
    replace HR := hide (block_upW stp HR.out)
    replace HD := hide (block_upW stp HD.out)
    replace HP := hide (block_upW stp HP.out)
    replace HQ := hide (block_upW stp HQ.out)
    replace HX := hide (block_upW stp HX.out)
    replace HM := hide (block_upW stp HM.out)
    replace HT := hide (HT.out.below stp)
    replace HA0 := hide (HA0.out.below stp)
    replace HA1 := hide (HA1.out.below stp)
    replace HA2 := hide (HA2.out.below stp)
    replace HA3 := hide (HA3.out.below stp)
    replace HA4 := hide (HA4.out.below stp)
    replace HL1 := hide (HL1.out.below stp)
    replace HL2 := hide (HL2.out.below stp)
    replace HL3 := hide (HL3.out.below stp)
    replace HL4 := hide (HL4.out.below stp)
    replace HL5 := hide (HL5.out.below stp)
    replace HL6 := hide (HL6.out.below stp)
    replace HL7 := hide (HL7.out.below stp)
    replace HL8 := hide (HL8.out.below stp)
    replace HLw := hide (HLw.out.below stp)
    replace HXd := hide (HXd.out.below stp)
    replace HMv := hide (HMv.out.below stp)
    replace HNv := hide (HNv.out.below stp)
    replace HW := hid_below HW stp
    have HOv := hide (hv1.below hbP)
    have HTv := hide (hv2.below hbP)
    have HN := hide hx
    clear stp hbP hx hb hv1 hv2
    have fo := fltOf_any b0 px pcx z0 e0 b1 py pcy z1 e1 L P6 HL3.out HL4.out s0 s1 LL.out
    rw [EV0.out, EV1.out, EF.out] at fo
    obtain ⟨ca0, ca1, ca2, ca3, ca4, ca5, ca6, ca7⟩ := octa HP.out
    obtain ⟨cb0, cb1, cb2⟩ := tri8 HX.out
    have C := shas_ok b0 px z0.length pcx e0 b1 py z1.length pcy e1 b4 ad z4.length cd e4 L V0 V1 V4 P6 fo ⟨z0, rfl, HL3.out, s0, N0.out, EV0.out⟩ ⟨z1, rfl, HL4.out, s1, N1.out, EV1.out⟩ ⟨z4, rfl, HXd.out, s4, hE4, EV4.out⟩ LL.out
    rw [EBD.out] at C
    go_wp2_with fail
    refine C.mono ?_
    rintro e Q7 ⟨rfl, hb⟩
    clear C ca0 ca1 ca2 ca3 ca4 ca5 ca6 ca7 cb0 cb1 cb2 hP6 fo
    replace HS := hide (block_upW hb HS.out)
    replace HR := hide (block_upW hb HR.out)
    replace HD := hide (block_upW hb HD.out)
    replace HP := hide (block_upW hb HP.out)
    replace HQ := hide (block_upW hb HQ.out)
    replace HX := hide (block_upW hb HX.out)
    replace HM := hide (block_upW hb HM.out)
    replace HN := hide (block_upW hb HN.out)
    replace HT := hide (HT.out.below hb)
    replace HA0 := hide (HA0.out.below hb)
    replace HA1 := hide (HA1.out.below hb)
    replace HA2 := hide (HA2.out.below hb)
    replace HA3 := hide (HA3.out.below hb)
    replace HA4 := hide (HA4.out.below hb)
    replace HL1 := hide (HL1.out.below hb)
    replace HL2 := hide (HL2.out.below hb)
    replace HL3 := hide (HL3.out.below hb)
    replace HL4 := hide (HL4.out.below hb)
    replace HL5 := hide (HL5.out.below hb)
    replace HL6 := hide (HL6.out.below hb)
    replace HL7 := hide (HL7.out.below hb)
    replace HL8 := hide (HL8.out.below hb)
    replace HLw := hide (HLw.out.below hb)
    replace HXd := hide (HXd.out.below hb)
    replace HMv := hide (HMv.out.below hb)
    replace HNv := hide (HNv.out.below hb)
    replace HOv := hide (HOv.out.below hb)
    replace HTv := hide (HTv.out.below hb)
    replace HW := hid_below HW hb
    clear hb
    have fo := fltOf2_any b0 px pcx z0 e0 b1 py pcy z1 e1 b2 qx qcx z2 e2 b3 qy qcy z3 e3 L Q7 HL3.out HL4.out HL7.out HL8.out s0 s1 s2 s3 LL.out
    rw [EV0.out, EV1.out, EV2.out, EV3.out, EF.out, EG.out] at fo
    rw [show wst 0 0 = 0 from rfl] at fo
    obtain ⟨ca0, ca1, ca2, ca3, ca4, ca5, ca6, ca7⟩ := octa HP.out
    obtain ⟨cb0, cb1, cb2, cb3, cb4, cb5, cb6, cb7⟩ := octa HQ.out
    have C := swithin_ok b0 px z0.length pcx e0 b1 py z1.length pcy e1 b2 qx z2.length qcx e2 b3 qy z3.length qcy e3 L V0 V1 V2 V3 Q7 fo ⟨z0, rfl, HL3.out, s0, N0.out, EV0.out⟩ ⟨z1, rfl, HL4.out, s1, N1.out, EV1.out⟩ ⟨z2, rfl, HL7.out, s2, N2.out, EV2.out⟩ ⟨z3, rfl, HL8.out, s3, N3.out, EV3.out⟩ LL.out
    rw [EBW.out] at C
    go_wp2_with fail
    refine C.mono ?_
    rintro e Q8 ⟨rfl, hb⟩
    clear C ca0 ca1 ca2 ca3 ca4 ca5 ca6 ca7 cb0 cb1 cb2 cb3 cb4 cb5 cb6 cb7 fo
    replace HS := hide (block_upW hb HS.out)
    replace HR := hide (block_upW hb HR.out)
    replace HD := hide (block_upW hb HD.out)
    replace HP := hide (block_upW hb HP.out)
    replace HQ := hide (block_upW hb HQ.out)
    replace HX := hide (block_upW hb HX.out)
    replace HM := hide (block_upW hb HM.out)
    replace HN := hide (block_upW hb HN.out)
    replace HT := hide (HT.out.below hb)
    replace HA0 := hide (HA0.out.below hb)
    replace HA1 := hide (HA1.out.below hb)
    replace HA2 := hide (HA2.out.below hb)
    replace HA3 := hide (HA3.out.below hb)
    replace HA4 := hide (HA4.out.below hb)
    replace HL1 := hide (HL1.out.below hb)
    replace HL2 := hide (HL2.out.below hb)
    replace HL3 := hide (HL3.out.below hb)
    replace HL4 := hide (HL4.out.below hb)
    replace HL5 := hide (HL5.out.below hb)
    replace HL6 := hide (HL6.out.below hb)
    replace HL7 := hide (HL7.out.below hb)
    replace HL8 := hide (HL8.out.below hb)
    replace HLw := hide (HLw.out.below hb)
    replace HXd := hide (HXd.out.below hb)
    replace HMv := hide (HMv.out.below hb)
    replace HNv := hide (HNv.out.below hb)
    replace HOv := hide (HOv.out.below hb)
    replace HTv := hide (HTv.out.below hb)
    replace HW := hid_below HW hb
    clear hb
    have fo := fltOf_any b0 px pcx z0 e0 b1 py pcy z1 e1 L Q8 HL3.out HL4.out s0 s1 LL.out
    rw [EV0.out, EV1.out, EF.out] at fo
    obtain ⟨ca0, ca1, ca2, ca3, ca4, ca5, ca6, ca7⟩ := octa HP.out
    have C := ssign_ok b0 px z0.length pcx e0 b1 py z1.length pcy e1 L V0 V1 Q8 fo ⟨z0, rfl, HL3.out, s0, N0.out, EV0.out⟩ ⟨z1, rfl, HL4.out, s1, N1.out, EV1.out⟩
    rw [EBS.out] at C
    go_wp2_with fail
    refine C.mono ?_
    rintro e Q9 ⟨rfl, hb⟩
    clear C ca0 ca1 ca2 ca3 ca4 ca5 ca6 ca7 fo
    replace HS := hide (block_upW hb HS.out)
    replace HR := hide (block_upW hb HR.out)
    replace HD := hide (block_upW hb HD.out)
    replace HP := hide (block_upW hb HP.out)
    replace HQ := hide (block_upW hb HQ.out)
    replace HX := hide (block_upW hb HX.out)
    replace HM := hide (block_upW hb HM.out)
    replace HN := hide (block_upW hb HN.out)
    replace HT := hide (HT.out.below hb)
    replace HA0 := hide (HA0.out.below hb)
    replace HA1 := hide (HA1.out.below hb)
    replace HA2 := hide (HA2.out.below hb)
    replace HA3 := hide (HA3.out.below hb)
    replace HA4 := hide (HA4.out.below hb)
    replace HL1 := hide (HL1.out.below hb)
    replace HL2 := hide (HL2.out.below hb)
    replace HL3 := hide (HL3.out.below hb)
    replace HL4 := hide (HL4.out.below hb)
    replace HL5 := hide (HL5.out.below hb)
    replace HL6 := hide (HL6.out.below hb)
    replace HL7 := hide (HL7.out.below hb)
    replace HL8 := hide (HL8.out.below hb)
    replace HLw := hide (HLw.out.below hb)
    replace HXd := hide (HXd.out.below hb)
    replace HMv := hide (HMv.out.below hb)
    replace HNv := hide (HNv.out.below hb)
    replace HOv := hide (HOv.out.below hb)
    replace HTv := hide (HTv.out.below hb)
    replace HW := hid_below HW hb
    clear hb
    have fo := fltOf2_any b0 px pcx z0 e0 b1 py pcy z1 e1 b2 qx qcx z2 e2 b3 qy qcy z3 e3 L Q9 HL3.out HL4.out HL7.out HL8.out s0 s1 s2 s3 LL.out
    rw [EV0.out, EV1.out, EV2.out, EV3.out, EF.out, EG.out] at fo
    rw [show wst 0 0 = 0 from rfl] at fo
    obtain ⟨ca0, ca1, ca2, ca3, ca4, ca5, ca6, ca7⟩ := octa HP.out
    obtain ⟨cb0, cb1, cb2, cb3, cb4, cb5, cb6, cb7⟩ := octa HQ.out
    have C := sorder_ok b0 px z0.length pcx e0 b1 py z1.length pcy e1 b2 qx z2.length qcx e2 b3 qy z3.length qcy e3 L V0 V1 V2 V3 Q9 fo ⟨z0, rfl, HL3.out, s0, N0.out, EV0.out⟩ ⟨z1, rfl, HL4.out, s1, N1.out, EV1.out⟩ ⟨z2, rfl, HL7.out, s2, N2.out, EV2.out⟩ ⟨z3, rfl, HL8.out, s3, N3.out, EV3.out⟩ LL.out
    rw [EBO1.out, EBO2.out] at C
    go_wp2_with fail
    refine C.mono ?_
    rintro e Q10 ⟨rfl, hb⟩
    clear C ca0 ca1 ca2 ca3 ca4 ca5 ca6 ca7 cb0 cb1 cb2 cb3 cb4 cb5 cb6 cb7 fo
    replace HS := hide (block_upW hb HS.out)
    replace HR := hide (block_upW hb HR.out)
    replace HD := hide (block_upW hb HD.out)
    replace HP := hide (block_upW hb HP.out)
    replace HQ := hide (block_upW hb HQ.out)
    replace HX := hide (block_upW hb HX.out)
    replace HM := hide (block_upW hb HM.out)
    replace HN := hide (block_upW hb HN.out)
    replace HT := hide (HT.out.below hb)
    replace HA0 := hide (HA0.out.below hb)
    replace HA1 := hide (HA1.out.below hb)
    replace HA2 := hide (HA2.out.below hb)
    replace HA3 := hide (HA3.out.below hb)
    replace HA4 := hide (HA4.out.below hb)
    replace HL1 := hide (HL1.out.below hb)
    replace HL2 := hide (HL2.out.below hb)
    replace HL3 := hide (HL3.out.below hb)
    replace HL4 := hide (HL4.out.below hb)
    replace HL5 := hide (HL5.out.below hb)
    replace HL6 := hide (HL6.out.below hb)
    replace HL7 := hide (HL7.out.below hb)
    replace HL8 := hide (HL8.out.below hb)
    replace HLw := hide (HLw.out.below hb)
    replace HXd := hide (HXd.out.below hb)
    replace HMv := hide (HMv.out.below hb)
    replace HNv := hide (HNv.out.below hb)
    replace HOv := hide (HOv.out.below hb)
    replace HTv := hide (HTv.out.below hb)
    replace HW := hid_below HW hb
    clear hb
    obtain ⟨PW, hPW, hbP, hx⟩ := enter1 Q10 (.cells #[.int .i64 0, .int .i64 0] 3)
    have C := lworst2 Q10.heap.size 0 0 PW hx
    rw [show wst 0 0 = 0 from rfl] at C
    go_wp2_with fail
    refine C.mono ?_
    rintro e wn ⟨rfl, hw⟩; rw [hw]; clear hw wn C
    have hb := hbP
    clear hbP hx
    replace HS := hide (block_upW hb HS.out)
    replace HR := hide (block_upW hb HR.out)
    replace HD := hide (block_upW hb HD.out)
    replace HP := hide (block_upW hb HP.out)
    replace HQ := hide (block_upW hb HQ.out)
    replace HX := hide (block_upW hb HX.out)
    replace HM := hide (block_upW hb HM.out)
    replace HN := hide (block_upW hb HN.out)
    replace HT := hide (HT.out.below hb)
    replace HA0 := hide (HA0.out.below hb)
    replace HA1 := hide (HA1.out.below hb)
    replace HA2 := hide (HA2.out.below hb)
    replace HA3 := hide (HA3.out.below hb)
    replace HA4 := hide (HA4.out.below hb)
    replace HL1 := hide (HL1.out.below hb)
    replace HL2 := hide (HL2.out.below hb)
    replace HL3 := hide (HL3.out.below hb)
    replace HL4 := hide (HL4.out.below hb)
    replace HL5 := hide (HL5.out.below hb)
    replace HL6 := hide (HL6.out.below hb)
    replace HL7 := hide (HL7.out.below hb)
    replace HL8 := hide (HL8.out.below hb)
    replace HLw := hide (HLw.out.below hb)
    replace HXd := hide (HXd.out.below hb)
    replace HMv := hide (HMv.out.below hb)
    replace HNv := hide (HNv.out.below hb)
    replace HOv := hide (HOv.out.below hb)
    replace HTv := hide (HTv.out.below hb)
    replace HW := hid_below HW hb
    clear hb hPW
    obtain ⟨c0, c1, c2⟩ := tri8 HD.out
    have C := rfits_any e4 PW
    rw [hE4] at C
    go_wp2_with fail
    refine C.mono ?_
    rintro e wn ⟨rfl, hw⟩; rw [hw]; clear hw wn C c0 c1 c2
    have C := num10_any 0 PW
    go_wp2_with fail
    refine C.mono ?_
    rintro e wn ⟨rfl, hw⟩; rw [hw]; clear hw wn C
    have C := num10_any 0 PW
    go_wp2_with fail
    refine C.mono ?_
    rintro e wn ⟨rfl, hw⟩; rw [hw]; clear hw wn C
    have C := num10_any 0 PW
    go_wp2_with fail
    refine C.mono ?_
    rintro e wn ⟨rfl, hw⟩; rw [hw]; clear hw wn C
    have C := num10_any 0 PW
    go_wp2_with fail
    refine C.mono ?_
    rintro e wn ⟨rfl, hw⟩; rw [hw]; clear hw wn C
    obtain ⟨ca0, ca1, ca2, ca3, ca4, ca5, ca6, ca7⟩ := octa HP.out
    obtain ⟨cb0, cb1, cb2, cb3, cb4, cb5⟩ := hexa HS.out
    have C := kept10_any pu pmu pnu pv pmv pnv b0 px z0.length pcx e0 b1 py z1.length pcy e1 b0 a0 k0 z0 e0 b1 a1 k1 z1 e1 PW HL1.out HL2.out HA0.out HA1.out (by omega) (by omega)
    go_wp2_with fail
    refine C.mono ?_
    rintro e Q11 ⟨rfl, hb⟩
    clear C ca0 ca1 ca2 ca3 ca4 ca5 ca6 ca7 cb0 cb1 cb2 cb3 cb4 cb5
    replace HS := hide (block_upW hb HS.out)
    replace HR := hide (block_upW hb HR.out)
    replace HD := hide (block_upW hb HD.out)
    replace HP := hide (block_upW hb HP.out)
    replace HQ := hide (block_upW hb HQ.out)
    replace HX := hide (block_upW hb HX.out)
    replace HM := hide (block_upW hb HM.out)
    replace HN := hide (block_upW hb HN.out)
    replace HT := hide (HT.out.below hb)
    replace HA0 := hide (HA0.out.below hb)
    replace HA1 := hide (HA1.out.below hb)
    replace HA2 := hide (HA2.out.below hb)
    replace HA3 := hide (HA3.out.below hb)
    replace HA4 := hide (HA4.out.below hb)
    replace HL1 := hide (HL1.out.below hb)
    replace HL2 := hide (HL2.out.below hb)
    replace HL3 := hide (HL3.out.below hb)
    replace HL4 := hide (HL4.out.below hb)
    replace HL5 := hide (HL5.out.below hb)
    replace HL6 := hide (HL6.out.below hb)
    replace HL7 := hide (HL7.out.below hb)
    replace HL8 := hide (HL8.out.below hb)
    replace HLw := hide (HLw.out.below hb)
    replace HXd := hide (HXd.out.below hb)
    replace HMv := hide (HMv.out.below hb)
    replace HNv := hide (HNv.out.below hb)
    replace HOv := hide (HOv.out.below hb)
    replace HTv := hide (HTv.out.below hb)
    replace HW := hid_below HW hb
    clear hb
    obtain ⟨ca0, ca1, ca2, ca3, ca4, ca5, ca6, ca7⟩ := octa HQ.out
    obtain ⟨cb0, cb1, cb2, cb3, cb4, cb5⟩ := hexa HR.out
    have C := kept10_any qu qmu qnu qv qmv qnv b2 qx z2.length qcx e2 b3 qy z3.length qcy e3 b2 a2 k2 z2 e2 b3 a3 k3 z3 e3 Q11 HL5.out HL6.out HA2.out HA3.out (by omega) (by omega)
    go_wp2_with fail
    refine C.mono ?_
    rintro e Q12 ⟨rfl, hb⟩
    clear C ca0 ca1 ca2 ca3 ca4 ca5 ca6 ca7 cb0 cb1 cb2 cb3 cb4 cb5
    replace HS := hide (block_upW hb HS.out)
    replace HR := hide (block_upW hb HR.out)
    replace HD := hide (block_upW hb HD.out)
    replace HP := hide (block_upW hb HP.out)
    replace HQ := hide (block_upW hb HQ.out)
    replace HX := hide (block_upW hb HX.out)
    replace HM := hide (block_upW hb HM.out)
    replace HN := hide (block_upW hb HN.out)
    replace HT := hide (HT.out.below hb)
    replace HA0 := hide (HA0.out.below hb)
    replace HA1 := hide (HA1.out.below hb)
    replace HA2 := hide (HA2.out.below hb)
    replace HA3 := hide (HA3.out.below hb)
    replace HA4 := hide (HA4.out.below hb)
    replace HL1 := hide (HL1.out.below hb)
    replace HL2 := hide (HL2.out.below hb)
    replace HL3 := hide (HL3.out.below hb)
    replace HL4 := hide (HL4.out.below hb)
    replace HL5 := hide (HL5.out.below hb)
    replace HL6 := hide (HL6.out.below hb)
    replace HL7 := hide (HL7.out.below hb)
    replace HL8 := hide (HL8.out.below hb)
    replace HLw := hide (HLw.out.below hb)
    replace HXd := hide (HXd.out.below hb)
    replace HMv := hide (HMv.out.below hb)
    replace HNv := hide (HNv.out.below hb)
    replace HOv := hide (HOv.out.below hb)
    replace HTv := hide (HTv.out.below hb)
    replace HW := hid_below HW hb
    clear hb
    obtain ⟨c0, c1, c2⟩ := tri8 HD.out
    have C := kept_ok _ _ z4 Q12 HLw.out HA4.out (by omega)
    go_wp2_with fail
    refine C.mono ?_
    rintro e wn ⟨rfl, hw⟩; rw [hw]; clear hw wn C c0 c1 c2
    have KS := hide (fun (W : World) (hg : Below Q12.heap.size Q12 W) => show W.cell? ⟨Q3.heap.size, 0, none⟩ = some (.bool m) ∧ W.cell? ⟨Q3.heap.size, 1, none⟩ = some (.slice ma mn mk) ∧ W.cell? ⟨Q3.heap.size, 2, none⟩ = some (.int .i64 me) ∧ W.cell? ⟨Q3.heap.size, 3, none⟩ = some (.bool n) ∧ W.cell? ⟨Q3.heap.size, 4, none⟩ = some (.slice na nn nk) ∧ W.cell? ⟨Q3.heap.size, 5, none⟩ = some (.int .i64 ne) ∧ W.cell? ⟨Q5.heap.size, 0, none⟩ = some (.bool o) ∧ W.cell? ⟨Q5.heap.size, 1, none⟩ = some (.slice oa on ok) ∧ W.cell? ⟨Q5.heap.size, 2, none⟩ = some (.int .i64 oe) ∧ W.cell? ⟨Q5.heap.size, 3, none⟩ = some (.bool t) ∧ W.cell? ⟨Q5.heap.size, 4, none⟩ = some (.slice ta tn tk) ∧ W.cell? ⟨Q5.heap.size, 5, none⟩ = some (.int .i64 te) ∧ W.cell? ⟨w.heap.size + 1 + 1, 0, none⟩ = some (.bool b4) ∧ W.cell? ⟨w.heap.size + 1 + 1, 1, none⟩ = some (.slice a4 z4.length k4) ∧ W.cell? ⟨w.heap.size + 1 + 1, 2, none⟩ = some (.int .i64 e4) from (by
      obtain ⟨x0, x1, x2, x3, x4, x5⟩ := hexa (block_upW hg HM.out)
      obtain ⟨y0, y1, y2, y3, y4, y5⟩ := hexa (block_upW hg HN.out)
      obtain ⟨v0, v1, v2⟩ := tri8 (block_upW hg HD.out)
      exact ⟨x0, x1, x2, x3, x4, x5, y0, y1, y2, y3, y4, y5, v0, v1, v2⟩))
    have g0 : Below Q12.heap.size Q12 Q12.drew := bl_drew10 (Below.refl _ _)
    have ibd : (BD != BD) = false := by simp
    have ibw : (BW != BW) = false := by simp
    go_upto_region 15 with fail
    refine wp_region_held_drew (S := fun w' => w'.cell? ⟨Q3.heap.size, 0, none⟩ = some (.bool m) ∧ w'.cell? ⟨Q3.heap.size, 1, none⟩ = some (.slice ma mn mk) ∧ w'.cell? ⟨Q3.heap.size, 2, none⟩ = some (.int .i64 me) ∧ w'.cell? ⟨Q3.heap.size, 3, none⟩ = some (.bool n) ∧ w'.cell? ⟨Q3.heap.size, 4, none⟩ = some (.slice na nn nk) ∧ w'.cell? ⟨Q3.heap.size, 5, none⟩ = some (.int .i64 ne) ∧ w'.cell? ⟨Q5.heap.size, 0, none⟩ = some (.bool o) ∧ w'.cell? ⟨Q5.heap.size, 1, none⟩ = some (.slice oa on ok) ∧ w'.cell? ⟨Q5.heap.size, 2, none⟩ = some (.int .i64 oe) ∧ w'.cell? ⟨Q5.heap.size, 3, none⟩ = some (.bool t) ∧ w'.cell? ⟨Q5.heap.size, 4, none⟩ = some (.slice ta tn tk) ∧ w'.cell? ⟨Q5.heap.size, 5, none⟩ = some (.int .i64 te) ∧ w'.cell? ⟨w.heap.size + 1 + 1, 0, none⟩ = some (.bool b4) ∧ w'.cell? ⟨w.heap.size + 1 + 1, 1, none⟩ = some (.slice a4 z4.length k4) ∧ w'.cell? ⟨w.heap.size + 1 + 1, 2, none⟩ = some (.int .i64 e4)) (by kernel_rfl) (KS.out _ (g0)) (fun hHeld0 => ?_)
    refine wpAnyH_take (i := 0) (oi := { dst := some 128, op := Op.move (Operand.tmp 15), type := 4, pos := "law.go:363", after := #[], guard := none }) (v := .bool BD) rfl (by kernel_rfl) (by kernel_rfl) (by kernel_rfl) (fun _ _ _ h => h) (Or.inl ⟨by rfl, fun w9 hSw => ?_⟩) hHeld0 ?_
    · (try dsimp only at hSw); go_simp
    try simp only [Act.put, List.setIfInBounds_toArray, List.set_cons_zero, List.set_cons_succ]
    refine wpAnyH_take (i := 1) (oi := { dst := some 129, op := Op.move (Operand.tmp 24), type := 3, pos := "law.go:363", after := #[], guard := none }) (v := .int .i64 0) rfl (by kernel_rfl) (by kernel_rfl) (by kernel_rfl) (fun _ _ _ h => h) (Or.inl ⟨by rfl, fun w9 hSw => ?_⟩) hHeld0 ?_
    · (try dsimp only at hSw); go_simp
    try simp only [Act.put, List.setIfInBounds_toArray, List.set_cons_zero, List.set_cons_succ]
    refine wpAnyH_take (i := 2) (oi := { dst := some 130, op := Op.binOp BinOp.eql 3 (Operand.tmp 129) (Operand.const (Value.int IntKind.i64 0)) 3, type := 4, pos := "law.go:363", after := #[{ on := 1, ground := Ground.data }], guard := none }) (v := .bool true) rfl (by kernel_rfl) (by kernel_rfl) (by kernel_rfl) (fun _ _ _ h => h) (Or.inl ⟨by rfl, fun w9 hSw => ?_⟩) hHeld0 ?_
    · (try dsimp only at hSw); go_simp
    try simp only [Act.put, List.setIfInBounds_toArray, List.set_cons_zero, List.set_cons_succ]
    refine wpAnyH_take (i := 3) (oi := { dst := some 131, op := Op.move (Operand.tmp 130), type := 4, pos := "law.go:363", after := #[{ on := 2, ground := Ground.data }], guard := none }) (v := .bool true) rfl (by kernel_rfl) (by kernel_rfl) (by kernel_rfl) (fun _ _ _ h => h) (Or.inl ⟨by rfl, fun w9 hSw => ?_⟩) hHeld0 ?_
    · (try dsimp only at hSw); go_simp
    try simp only [Act.put, List.setIfInBounds_toArray, List.set_cons_zero, List.set_cons_succ]
    refine wpAnyH_take (i := 4) (oi := { dst := some 132, op := Op.load 47 (Operand.tmp 11), type := 47, pos := "law.go:363", after := #[{ on := 3, ground := Ground.guard }], guard := some (3, true) }) (v := .agg #[.bool m, .slice ma mn mk, .int .i64 me, .bool n, .slice na nn nk, .int .i64 ne]) rfl (by kernel_rfl) (by kernel_rfl) (by kernel_rfl) (fun _ _ _ h => h) (Or.inl ⟨by rfl, fun w9 hSw => ?_⟩) hHeld0 ?_
    · (try dsimp only at hSw); go_simp
    try simp only [Act.put, List.setIfInBounds_toArray, List.set_cons_zero, List.set_cons_succ]
    refine wpAnyH_take (i := 5) (oi := { dst := some 133, op := Op.load 24 (Operand.tmp 5), type := 24, pos := "law.go:363", after := #[{ on := 3, ground := Ground.guard }], guard := some (3, true) }) (v := .agg #[.bool b4, .slice a4 z4.length k4, .int .i64 e4]) rfl (by kernel_rfl) (by kernel_rfl) (by kernel_rfl) (fun _ _ _ h => h) (Or.inl ⟨by rfl, fun w9 hSw => ?_⟩) hHeld0 ?_
    · (try dsimp only at hSw); go_simp
    try simp only [Act.put, List.setIfInBounds_toArray, List.set_cons_zero, List.set_cons_succ]
    refine wpAnyH_ready (rs := [6]) (by kernel_rfl) (by simp) ?_
    refine AllReadyH.cons rfl (fun K hK => ?_) AllReadyH.nil
    go_simp
    refine (dyadV b4 a4 k4 z4 e4 L Q12.drew (HA4.out.below g0) s4 hE4 LL.out).mono ?_
    rintro e' t1 ⟨⟨d, da, dn, dk, de, rfl, v5⟩, hb1⟩
    have g1 := bl_trans8 g0 hb1
    rw [EV4.out] at v5
    refine hK.out _ _ (KS.out _ g1) (fun hHeld1 => ?_)
    clear hK K
    try simp only [Act.put, List.setIfInBounds_toArray, List.set_cons_zero, List.set_cons_succ]
    have CH := rhasV m ma mn mk me n na nn nk ne d da dn dk de L V0 V1 V4 t1 (HMv.out.below g1) (HNv.out.below g1) v5
    rw [EBD2.out] at CH
    refine wpAnyH_ready (rs := [7]) (by kernel_rfl) (by simp) ?_
    refine AllReadyH.cons rfl (fun K hK => ?_) AllReadyH.nil
    go_simp
    refine (CH).mono ?_
    rintro e' t2 ⟨rfl, hb2⟩
    have g2 := bl_trans8 g1 hb2
    clear CH
    refine hK.out _ _ (KS.out _ g2) (fun hHeld2 => ?_)
    clear hK K
    try simp only [Act.put, List.setIfInBounds_toArray, List.set_cons_zero, List.set_cons_succ]
    refine wpAnyH_take (i := 8) (oi := { dst := some 136, op := Op.pick (Operand.tmp 131) (Operand.tmp 135) (Operand.const (Value.bool false)), type := 4, pos := "law.go:363", after := #[{ on := 3, ground := Ground.data }, { on := 7, ground := Ground.data }], guard := none }) (v := .bool BD) rfl (by kernel_rfl) (by kernel_rfl) (by kernel_rfl) (fun _ _ _ h => h) (Or.inl ⟨by rfl, fun w9 hSw => ?_⟩) hHeld2 ?_
    · (try dsimp only at hSw); go_simp
    try simp only [Act.put, List.setIfInBounds_toArray, List.set_cons_zero, List.set_cons_succ]
    refine wpAnyH_take (i := 9) (oi := { dst := some 137, op := Op.binOp BinOp.neq 4 (Operand.tmp 128) (Operand.tmp 136) 4, type := 4, pos := "law.go:363", after := #[{ on := 0, ground := Ground.data }, { on := 8, ground := Ground.data }], guard := none }) (v := .bool false) rfl (by kernel_rfl) (by kernel_rfl) (by kernel_rfl) (fun _ _ _ h => h) (Or.inl ⟨by rfl, fun w9 hSw => ?_⟩) hHeld2 ?_
    · (try dsimp only at hSw); go_simp
    try simp only [Act.put, List.setIfInBounds_toArray, List.set_cons_zero, List.set_cons_succ]
    refine wpAnyH_take (i := 10) (oi := { dst := some 138, op := Op.move (Operand.tmp 137), type := 4, pos := "law.go:363", after := #[{ on := 9, ground := Ground.data }, { on := 7, ground := Ground.chain }], guard := none }) (v := .bool false) rfl (by kernel_rfl) (by kernel_rfl) (by kernel_rfl) (fun _ _ _ h => h) (Or.inl ⟨by rfl, fun w9 hSw => ?_⟩) hHeld2 ?_
    · (try dsimp only at hSw); go_simp
    try simp only [Act.put, List.setIfInBounds_toArray, List.set_cons_zero, List.set_cons_succ]
    refine wpAnyH_take (i := 11) (oi := { dst := some 139, op := Op.move (Operand.tmp 17), type := 4, pos := "law.go:363", after := #[{ on := 10, ground := Ground.guard }], guard := some (10, false) }) (v := .bool BW) rfl (by kernel_rfl) (by kernel_rfl) (by kernel_rfl) (fun _ _ _ h => h) (Or.inl ⟨by rfl, fun w9 hSw => ?_⟩) hHeld2 ?_
    · (try dsimp only at hSw); go_simp
    try simp only [Act.put, List.setIfInBounds_toArray, List.set_cons_zero, List.set_cons_succ]
    refine wpAnyH_take (i := 12) (oi := { dst := some 140, op := Op.move (Operand.tmp 23), type := 3, pos := "law.go:363", after := #[{ on := 10, ground := Ground.guard }], guard := some (10, false) }) (v := .int .i64 0) rfl (by kernel_rfl) (by kernel_rfl) (by kernel_rfl) (fun _ _ _ h => h) (Or.inl ⟨by rfl, fun w9 hSw => ?_⟩) hHeld2 ?_
    · (try dsimp only at hSw); go_simp
    try simp only [Act.put, List.setIfInBounds_toArray, List.set_cons_zero, List.set_cons_succ]
    refine wpAnyH_take (i := 13) (oi := { dst := some 141, op := Op.binOp BinOp.eql 3 (Operand.tmp 140) (Operand.const (Value.int IntKind.i64 0)) 3, type := 4, pos := "law.go:363", after := #[{ on := 12, ground := Ground.data }, { on := 10, ground := Ground.guard }], guard := some (10, false) }) (v := .bool true) rfl (by kernel_rfl) (by kernel_rfl) (by kernel_rfl) (fun _ _ _ h => h) (Or.inl ⟨by rfl, fun w9 hSw => ?_⟩) hHeld2 ?_
    · (try dsimp only at hSw); go_simp
    try simp only [Act.put, List.setIfInBounds_toArray, List.set_cons_zero, List.set_cons_succ]
    refine wpAnyH_take (i := 14) (oi := { dst := some 142, op := Op.move (Operand.tmp 141), type := 4, pos := "law.go:363", after := #[{ on := 13, ground := Ground.data }, { on := 10, ground := Ground.chain }, { on := 10, ground := Ground.guard }], guard := some (10, false) }) (v := .bool true) rfl (by kernel_rfl) (by kernel_rfl) (by kernel_rfl) (fun _ _ _ h => h) (Or.inl ⟨by rfl, fun w9 hSw => ?_⟩) hHeld2 ?_
    · (try dsimp only at hSw); go_simp
    try simp only [Act.put, List.setIfInBounds_toArray, List.set_cons_zero, List.set_cons_succ]
    refine wpAnyH_take (i := 15) (oi := { dst := some 143, op := Op.load 47 (Operand.tmp 11), type := 47, pos := "law.go:363", after := #[{ on := 14, ground := Ground.guard }], guard := some (14, true) }) (v := .agg #[.bool m, .slice ma mn mk, .int .i64 me, .bool n, .slice na nn nk, .int .i64 ne]) rfl (by kernel_rfl) (by kernel_rfl) (by kernel_rfl) (fun _ _ _ h => h) (Or.inl ⟨by rfl, fun w9 hSw => ?_⟩) hHeld2 ?_
    · (try dsimp only at hSw); go_simp
    try simp only [Act.put, List.setIfInBounds_toArray, List.set_cons_zero, List.set_cons_succ]
    refine wpAnyH_take (i := 16) (oi := { dst := some 144, op := Op.load 47 (Operand.tmp 13), type := 47, pos := "law.go:363", after := #[{ on := 14, ground := Ground.guard }], guard := some (14, true) }) (v := .agg #[.bool o, .slice oa on ok, .int .i64 oe, .bool t, .slice ta tn tk, .int .i64 te]) rfl (by kernel_rfl) (by kernel_rfl) (by kernel_rfl) (fun _ _ _ h => h) (Or.inl ⟨by rfl, fun w9 hSw => ?_⟩) hHeld2 ?_
    · (try dsimp only at hSw); go_simp
    try simp only [Act.put, List.setIfInBounds_toArray, List.set_cons_zero, List.set_cons_succ]
    have CW := rwithinV m ma mn mk me n na nn nk ne o oa on ok oe t ta tn tk te L V0 V1 V2 V3 t2 (HMv.out.below g2) (HNv.out.below g2) (HOv.out.below g2) (HTv.out.below g2)
    rw [EBW2.out] at CW
    refine wpAnyH_ready (rs := [17]) (by kernel_rfl) (by simp) ?_
    refine AllReadyH.cons rfl (fun K hK => ?_) AllReadyH.nil
    go_simp
    refine (CW).mono ?_
    rintro e' t3 ⟨rfl, hb3⟩
    have g3 := bl_trans8 g2 hb3
    clear CW
    refine hK.out _ _ (KS.out _ g3) (fun hHeld3 => ?_)
    clear hK K
    try simp only [Act.put, List.setIfInBounds_toArray, List.set_cons_zero, List.set_cons_succ]
    refine wpAnyH_take (i := 18) (oi := { dst := some 146, op := Op.pick (Operand.tmp 142) (Operand.tmp 145) (Operand.const (Value.bool false)), type := 4, pos := "law.go:363", after := #[{ on := 14, ground := Ground.data }, { on := 17, ground := Ground.data }, { on := 10, ground := Ground.guard }], guard := some (10, false) }) (v := .bool BW) rfl (by kernel_rfl) (by kernel_rfl) (by kernel_rfl) (fun _ _ _ h => h) (Or.inl ⟨by rfl, fun w9 hSw => ?_⟩) hHeld3 ?_
    · (try dsimp only at hSw); go_simp
    try simp only [Act.put, List.setIfInBounds_toArray, List.set_cons_zero, List.set_cons_succ]
    refine wpAnyH_take (i := 19) (oi := { dst := some 147, op := Op.binOp BinOp.neq 4 (Operand.tmp 139) (Operand.tmp 146) 4, type := 4, pos := "law.go:363", after := #[{ on := 11, ground := Ground.data }, { on := 18, ground := Ground.data }, { on := 10, ground := Ground.guard }], guard := some (10, false) }) (v := .bool false) rfl (by kernel_rfl) (by kernel_rfl) (by kernel_rfl) (fun _ _ _ h => h) (Or.inl ⟨by rfl, fun w9 hSw => ?_⟩) hHeld3 ?_
    · (try dsimp only at hSw); go_simp
    try simp only [Act.put, List.setIfInBounds_toArray, List.set_cons_zero, List.set_cons_succ]
    refine wpAnyH_take (i := 20) (oi := { dst := some 148, op := Op.pick (Operand.tmp 138) (Operand.const (Value.bool true)) (Operand.tmp 147), type := 4, pos := "law.go:363", after := #[{ on := 10, ground := Ground.data }, { on := 19, ground := Ground.data }], guard := none }) (v := .bool false) rfl (by kernel_rfl) (by kernel_rfl) (by kernel_rfl) (fun _ _ _ h => h) (Or.inl ⟨by rfl, fun w9 hSw => ?_⟩) hHeld3 ?_
    · (try dsimp only at hSw); go_simp
    try simp only [Act.put, List.setIfInBounds_toArray, List.set_cons_zero, List.set_cons_succ]
    refine wpAnyH_done (by kernel_rfl) ?_ _
    clear hHeld0 hHeld1 hHeld2 hHeld3
    have hb := g3
    replace HS := hide (block_upW hb HS.out)
    replace HR := hide (block_upW hb HR.out)
    replace HD := hide (block_upW hb HD.out)
    replace HP := hide (block_upW hb HP.out)
    replace HQ := hide (block_upW hb HQ.out)
    replace HX := hide (block_upW hb HX.out)
    replace HM := hide (block_upW hb HM.out)
    replace HN := hide (block_upW hb HN.out)
    replace HT := hide (HT.out.below hb)
    replace HA0 := hide (HA0.out.below hb)
    replace HA1 := hide (HA1.out.below hb)
    replace HA2 := hide (HA2.out.below hb)
    replace HA3 := hide (HA3.out.below hb)
    replace HA4 := hide (HA4.out.below hb)
    replace HL1 := hide (HL1.out.below hb)
    replace HL2 := hide (HL2.out.below hb)
    replace HL3 := hide (HL3.out.below hb)
    replace HL4 := hide (HL4.out.below hb)
    replace HL5 := hide (HL5.out.below hb)
    replace HL6 := hide (HL6.out.below hb)
    replace HL7 := hide (HL7.out.below hb)
    replace HL8 := hide (HL8.out.below hb)
    replace HLw := hide (HLw.out.below hb)
    replace HXd := hide (HXd.out.below hb)
    replace HMv := hide (HMv.out.below hb)
    replace HNv := hide (HNv.out.below hb)
    replace HOv := hide (HOv.out.below hb)
    replace HTv := hide (HTv.out.below hb)
    replace HW := hid_below HW hb
    clear hb KS g0 g1 g2 hb1 hb2 v5 g3 hb3
    have j1 : decide (cmpZ V1 V2 < 0) = O1 := by rw [← EBO1.out]; simp only [cmpZ_neg]
    have j2 : decide (cmpZ V3 V0 < 0) = O2 := by rw [← EBO2.out]; simp only [cmpZ_neg]
    generalize hc1 : cmpZ V1 V2 = cz1 at *
    generalize hc2 : cmpZ V3 V0 = cz2 at *
    have EC1 := hide hc1
    have EC2 := hide hc2
    clear hc1 hc2 EBO1 EBO2 EBW EBW2
    cases O1
    · skip
      cases O2
      · skip
        have ho : orderV false false = 0 := rfl
        obtain ⟨ca0, ca1, ca2, ca3, ca4, ca5⟩ := hexa HM.out
        obtain ⟨cb0, cb1, cb2, cb3, cb4, cb5⟩ := hexa HN.out
        have C := V8.cmp HNv.out HOv.out
        rw [EC1.out] at C
        go_wp2_with fail
        refine C.mono ?_
        rintro e Q13 ⟨rfl, hb⟩
        clear C ca0 ca1 ca2 ca3 ca4 ca5 cb0 cb1 cb2 cb3 cb4 cb5
        replace HS := hide (block_upW hb HS.out)
        replace HR := hide (block_upW hb HR.out)
        replace HD := hide (block_upW hb HD.out)
        replace HP := hide (block_upW hb HP.out)
        replace HQ := hide (block_upW hb HQ.out)
        replace HX := hide (block_upW hb HX.out)
        replace HM := hide (block_upW hb HM.out)
        replace HN := hide (block_upW hb HN.out)
        replace HT := hide (HT.out.below hb)
        replace HA0 := hide (HA0.out.below hb)
        replace HA1 := hide (HA1.out.below hb)
        replace HA2 := hide (HA2.out.below hb)
        replace HA3 := hide (HA3.out.below hb)
        replace HA4 := hide (HA4.out.below hb)
        replace HL1 := hide (HL1.out.below hb)
        replace HL2 := hide (HL2.out.below hb)
        replace HL3 := hide (HL3.out.below hb)
        replace HL4 := hide (HL4.out.below hb)
        replace HL5 := hide (HL5.out.below hb)
        replace HL6 := hide (HL6.out.below hb)
        replace HL7 := hide (HL7.out.below hb)
        replace HL8 := hide (HL8.out.below hb)
        replace HLw := hide (HLw.out.below hb)
        replace HXd := hide (HXd.out.below hb)
        replace HMv := hide (HMv.out.below hb)
        replace HNv := hide (HNv.out.below hb)
        replace HOv := hide (HOv.out.below hb)
        replace HTv := hide (HTv.out.below hb)
        replace HW := hid_below HW hb
        clear hb
        obtain ⟨ca0, ca1, ca2, ca3, ca4, ca5⟩ := hexa HN.out
        obtain ⟨cb0, cb1, cb2, cb3, cb4, cb5⟩ := hexa HM.out
        have C := V8.cmp HTv.out HMv.out
        rw [EC2.out] at C
        go_wp2_with fail
        refine C.mono ?_
        rintro e Q14 ⟨rfl, hb⟩
        clear C ca0 ca1 ca2 ca3 ca4 ca5 cb0 cb1 cb2 cb3 cb4 cb5
        replace HS := hide (block_upW hb HS.out)
        replace HR := hide (block_upW hb HR.out)
        replace HD := hide (block_upW hb HD.out)
        replace HP := hide (block_upW hb HP.out)
        replace HQ := hide (block_upW hb HQ.out)
        replace HX := hide (block_upW hb HX.out)
        replace HM := hide (block_upW hb HM.out)
        replace HN := hide (block_upW hb HN.out)
        replace HT := hide (HT.out.below hb)
        replace HA0 := hide (HA0.out.below hb)
        replace HA1 := hide (HA1.out.below hb)
        replace HA2 := hide (HA2.out.below hb)
        replace HA3 := hide (HA3.out.below hb)
        replace HA4 := hide (HA4.out.below hb)
        replace HL1 := hide (HL1.out.below hb)
        replace HL2 := hide (HL2.out.below hb)
        replace HL3 := hide (HL3.out.below hb)
        replace HL4 := hide (HL4.out.below hb)
        replace HL5 := hide (HL5.out.below hb)
        replace HL6 := hide (HL6.out.below hb)
        replace HL7 := hide (HL7.out.below hb)
        replace HL8 := hide (HL8.out.below hb)
        replace HLw := hide (HLw.out.below hb)
        replace HXd := hide (HXd.out.below hb)
        replace HMv := hide (HMv.out.below hb)
        replace HNv := hide (HNv.out.below hb)
        replace HOv := hide (HOv.out.below hb)
        replace HTv := hide (HTv.out.below hb)
        replace HW := hid_below HW hb
        clear hb
        obtain ⟨ca0, ca1, ca2, ca3, ca4, ca5⟩ := hexa HM.out
        have C := rsureV m ma mn mk me n na nn nk ne L V0 V1 Q14 HMv.out HNv.out
        rw [EBS.out] at C
        go_wp2_with fail
        refine C.mono ?_
        rintro e Q15 ⟨rfl, hb⟩
        clear C ca0 ca1 ca2 ca3 ca4 ca5
        replace HS := hide (block_upW hb HS.out)
        replace HR := hide (block_upW hb HR.out)
        replace HD := hide (block_upW hb HD.out)
        replace HP := hide (block_upW hb HP.out)
        replace HQ := hide (block_upW hb HQ.out)
        replace HX := hide (block_upW hb HX.out)
        replace HM := hide (block_upW hb HM.out)
        replace HN := hide (block_upW hb HN.out)
        replace HT := hide (HT.out.below hb)
        replace HA0 := hide (HA0.out.below hb)
        replace HA1 := hide (HA1.out.below hb)
        replace HA2 := hide (HA2.out.below hb)
        replace HA3 := hide (HA3.out.below hb)
        replace HA4 := hide (HA4.out.below hb)
        replace HL1 := hide (HL1.out.below hb)
        replace HL2 := hide (HL2.out.below hb)
        replace HL3 := hide (HL3.out.below hb)
        replace HL4 := hide (HL4.out.below hb)
        replace HL5 := hide (HL5.out.below hb)
        replace HL6 := hide (HL6.out.below hb)
        replace HL7 := hide (HL7.out.below hb)
        replace HL8 := hide (HL8.out.below hb)
        replace HLw := hide (HLw.out.below hb)
        replace HXd := hide (HXd.out.below hb)
        replace HMv := hide (HMv.out.below hb)
        replace HNv := hide (HNv.out.below hb)
        replace HOv := hide (HOv.out.below hb)
        replace HTv := hide (HTv.out.below hb)
        replace HW := hid_below HW hb
        clear hb
        have C := awake10_any Q15 HT.out
        go_wp2_with fail
        refine C.mono ?_
        rintro e Q16 ⟨rfl, hb⟩
        clear C 
        replace HS := hide (block_upW hb HS.out)
        replace HR := hide (block_upW hb HR.out)
        replace HD := hide (block_upW hb HD.out)
        replace HP := hide (block_upW hb HP.out)
        replace HQ := hide (block_upW hb HQ.out)
        replace HX := hide (block_upW hb HX.out)
        replace HM := hide (block_upW hb HM.out)
        replace HN := hide (block_upW hb HN.out)
        replace HT := hide (HT.out.below hb)
        replace HA0 := hide (HA0.out.below hb)
        replace HA1 := hide (HA1.out.below hb)
        replace HA2 := hide (HA2.out.below hb)
        replace HA3 := hide (HA3.out.below hb)
        replace HA4 := hide (HA4.out.below hb)
        replace HL1 := hide (HL1.out.below hb)
        replace HL2 := hide (HL2.out.below hb)
        replace HL3 := hide (HL3.out.below hb)
        replace HL4 := hide (HL4.out.below hb)
        replace HL5 := hide (HL5.out.below hb)
        replace HL6 := hide (HL6.out.below hb)
        replace HL7 := hide (HL7.out.below hb)
        replace HL8 := hide (HL8.out.below hb)
        replace HLw := hide (HLw.out.below hb)
        replace HXd := hide (HXd.out.below hb)
        replace HMv := hide (HMv.out.below hb)
        replace HNv := hide (HNv.out.below hb)
        replace HOv := hide (HOv.out.below hb)
        replace HTv := hide (HTv.out.below hb)
        replace HW := hid_below HW hb
        clear hb
        go_wp2
        go_ret
        exact ⟨rfl, HW.out⟩
      · skip
        have ho : orderV false true = 1 := rfl
        obtain ⟨ca0, ca1, ca2, ca3, ca4, ca5⟩ := hexa HM.out
        obtain ⟨cb0, cb1, cb2, cb3, cb4, cb5⟩ := hexa HN.out
        have C := V8.cmp HNv.out HOv.out
        rw [EC1.out] at C
        go_wp2_with fail
        refine C.mono ?_
        rintro e Q13 ⟨rfl, hb⟩
        clear C ca0 ca1 ca2 ca3 ca4 ca5 cb0 cb1 cb2 cb3 cb4 cb5
        replace HS := hide (block_upW hb HS.out)
        replace HR := hide (block_upW hb HR.out)
        replace HD := hide (block_upW hb HD.out)
        replace HP := hide (block_upW hb HP.out)
        replace HQ := hide (block_upW hb HQ.out)
        replace HX := hide (block_upW hb HX.out)
        replace HM := hide (block_upW hb HM.out)
        replace HN := hide (block_upW hb HN.out)
        replace HT := hide (HT.out.below hb)
        replace HA0 := hide (HA0.out.below hb)
        replace HA1 := hide (HA1.out.below hb)
        replace HA2 := hide (HA2.out.below hb)
        replace HA3 := hide (HA3.out.below hb)
        replace HA4 := hide (HA4.out.below hb)
        replace HL1 := hide (HL1.out.below hb)
        replace HL2 := hide (HL2.out.below hb)
        replace HL3 := hide (HL3.out.below hb)
        replace HL4 := hide (HL4.out.below hb)
        replace HL5 := hide (HL5.out.below hb)
        replace HL6 := hide (HL6.out.below hb)
        replace HL7 := hide (HL7.out.below hb)
        replace HL8 := hide (HL8.out.below hb)
        replace HLw := hide (HLw.out.below hb)
        replace HXd := hide (HXd.out.below hb)
        replace HMv := hide (HMv.out.below hb)
        replace HNv := hide (HNv.out.below hb)
        replace HOv := hide (HOv.out.below hb)
        replace HTv := hide (HTv.out.below hb)
        replace HW := hid_below HW hb
        clear hb
        obtain ⟨ca0, ca1, ca2, ca3, ca4, ca5⟩ := hexa HN.out
        obtain ⟨cb0, cb1, cb2, cb3, cb4, cb5⟩ := hexa HM.out
        have C := V8.cmp HTv.out HMv.out
        rw [EC2.out] at C
        go_wp2_with fail
        refine C.mono ?_
        rintro e Q14 ⟨rfl, hb⟩
        clear C ca0 ca1 ca2 ca3 ca4 ca5 cb0 cb1 cb2 cb3 cb4 cb5
        replace HS := hide (block_upW hb HS.out)
        replace HR := hide (block_upW hb HR.out)
        replace HD := hide (block_upW hb HD.out)
        replace HP := hide (block_upW hb HP.out)
        replace HQ := hide (block_upW hb HQ.out)
        replace HX := hide (block_upW hb HX.out)
        replace HM := hide (block_upW hb HM.out)
        replace HN := hide (block_upW hb HN.out)
        replace HT := hide (HT.out.below hb)
        replace HA0 := hide (HA0.out.below hb)
        replace HA1 := hide (HA1.out.below hb)
        replace HA2 := hide (HA2.out.below hb)
        replace HA3 := hide (HA3.out.below hb)
        replace HA4 := hide (HA4.out.below hb)
        replace HL1 := hide (HL1.out.below hb)
        replace HL2 := hide (HL2.out.below hb)
        replace HL3 := hide (HL3.out.below hb)
        replace HL4 := hide (HL4.out.below hb)
        replace HL5 := hide (HL5.out.below hb)
        replace HL6 := hide (HL6.out.below hb)
        replace HL7 := hide (HL7.out.below hb)
        replace HL8 := hide (HL8.out.below hb)
        replace HLw := hide (HLw.out.below hb)
        replace HXd := hide (HXd.out.below hb)
        replace HMv := hide (HMv.out.below hb)
        replace HNv := hide (HNv.out.below hb)
        replace HOv := hide (HOv.out.below hb)
        replace HTv := hide (HTv.out.below hb)
        replace HW := hid_below HW hb
        clear hb
        obtain ⟨ca0, ca1, ca2, ca3, ca4, ca5⟩ := hexa HM.out
        have C := rsureV m ma mn mk me n na nn nk ne L V0 V1 Q14 HMv.out HNv.out
        rw [EBS.out] at C
        go_wp2_with fail
        refine C.mono ?_
        rintro e Q15 ⟨rfl, hb⟩
        clear C ca0 ca1 ca2 ca3 ca4 ca5
        replace HS := hide (block_upW hb HS.out)
        replace HR := hide (block_upW hb HR.out)
        replace HD := hide (block_upW hb HD.out)
        replace HP := hide (block_upW hb HP.out)
        replace HQ := hide (block_upW hb HQ.out)
        replace HX := hide (block_upW hb HX.out)
        replace HM := hide (block_upW hb HM.out)
        replace HN := hide (block_upW hb HN.out)
        replace HT := hide (HT.out.below hb)
        replace HA0 := hide (HA0.out.below hb)
        replace HA1 := hide (HA1.out.below hb)
        replace HA2 := hide (HA2.out.below hb)
        replace HA3 := hide (HA3.out.below hb)
        replace HA4 := hide (HA4.out.below hb)
        replace HL1 := hide (HL1.out.below hb)
        replace HL2 := hide (HL2.out.below hb)
        replace HL3 := hide (HL3.out.below hb)
        replace HL4 := hide (HL4.out.below hb)
        replace HL5 := hide (HL5.out.below hb)
        replace HL6 := hide (HL6.out.below hb)
        replace HL7 := hide (HL7.out.below hb)
        replace HL8 := hide (HL8.out.below hb)
        replace HLw := hide (HLw.out.below hb)
        replace HXd := hide (HXd.out.below hb)
        replace HMv := hide (HMv.out.below hb)
        replace HNv := hide (HNv.out.below hb)
        replace HOv := hide (HOv.out.below hb)
        replace HTv := hide (HTv.out.below hb)
        replace HW := hid_below HW hb
        clear hb
        have C := awake10_any Q15 HT.out
        go_wp2_with fail
        refine C.mono ?_
        rintro e Q16 ⟨rfl, hb⟩
        clear C 
        replace HS := hide (block_upW hb HS.out)
        replace HR := hide (block_upW hb HR.out)
        replace HD := hide (block_upW hb HD.out)
        replace HP := hide (block_upW hb HP.out)
        replace HQ := hide (block_upW hb HQ.out)
        replace HX := hide (block_upW hb HX.out)
        replace HM := hide (block_upW hb HM.out)
        replace HN := hide (block_upW hb HN.out)
        replace HT := hide (HT.out.below hb)
        replace HA0 := hide (HA0.out.below hb)
        replace HA1 := hide (HA1.out.below hb)
        replace HA2 := hide (HA2.out.below hb)
        replace HA3 := hide (HA3.out.below hb)
        replace HA4 := hide (HA4.out.below hb)
        replace HL1 := hide (HL1.out.below hb)
        replace HL2 := hide (HL2.out.below hb)
        replace HL3 := hide (HL3.out.below hb)
        replace HL4 := hide (HL4.out.below hb)
        replace HL5 := hide (HL5.out.below hb)
        replace HL6 := hide (HL6.out.below hb)
        replace HL7 := hide (HL7.out.below hb)
        replace HL8 := hide (HL8.out.below hb)
        replace HLw := hide (HLw.out.below hb)
        replace HXd := hide (HXd.out.below hb)
        replace HMv := hide (HMv.out.below hb)
        replace HNv := hide (HNv.out.below hb)
        replace HOv := hide (HOv.out.below hb)
        replace HTv := hide (HTv.out.below hb)
        replace HW := hid_below HW hb
        clear hb
        go_wp2
        go_ret
        exact ⟨rfl, HW.out⟩
    · skip
      cases O2
      · skip
        have ho : orderV true false = -1 := rfl
        obtain ⟨ca0, ca1, ca2, ca3, ca4, ca5⟩ := hexa HM.out
        obtain ⟨cb0, cb1, cb2, cb3, cb4, cb5⟩ := hexa HN.out
        have C := V8.cmp HNv.out HOv.out
        rw [EC1.out] at C
        go_wp2_with fail
        refine C.mono ?_
        rintro e Q13 ⟨rfl, hb⟩
        clear C ca0 ca1 ca2 ca3 ca4 ca5 cb0 cb1 cb2 cb3 cb4 cb5
        replace HS := hide (block_upW hb HS.out)
        replace HR := hide (block_upW hb HR.out)
        replace HD := hide (block_upW hb HD.out)
        replace HP := hide (block_upW hb HP.out)
        replace HQ := hide (block_upW hb HQ.out)
        replace HX := hide (block_upW hb HX.out)
        replace HM := hide (block_upW hb HM.out)
        replace HN := hide (block_upW hb HN.out)
        replace HT := hide (HT.out.below hb)
        replace HA0 := hide (HA0.out.below hb)
        replace HA1 := hide (HA1.out.below hb)
        replace HA2 := hide (HA2.out.below hb)
        replace HA3 := hide (HA3.out.below hb)
        replace HA4 := hide (HA4.out.below hb)
        replace HL1 := hide (HL1.out.below hb)
        replace HL2 := hide (HL2.out.below hb)
        replace HL3 := hide (HL3.out.below hb)
        replace HL4 := hide (HL4.out.below hb)
        replace HL5 := hide (HL5.out.below hb)
        replace HL6 := hide (HL6.out.below hb)
        replace HL7 := hide (HL7.out.below hb)
        replace HL8 := hide (HL8.out.below hb)
        replace HLw := hide (HLw.out.below hb)
        replace HXd := hide (HXd.out.below hb)
        replace HMv := hide (HMv.out.below hb)
        replace HNv := hide (HNv.out.below hb)
        replace HOv := hide (HOv.out.below hb)
        replace HTv := hide (HTv.out.below hb)
        replace HW := hid_below HW hb
        clear hb
        obtain ⟨ca0, ca1, ca2, ca3, ca4, ca5⟩ := hexa HN.out
        obtain ⟨cb0, cb1, cb2, cb3, cb4, cb5⟩ := hexa HM.out
        have C := V8.cmp HTv.out HMv.out
        rw [EC2.out] at C
        go_wp2_with fail
        refine C.mono ?_
        rintro e Q14 ⟨rfl, hb⟩
        clear C ca0 ca1 ca2 ca3 ca4 ca5 cb0 cb1 cb2 cb3 cb4 cb5
        replace HS := hide (block_upW hb HS.out)
        replace HR := hide (block_upW hb HR.out)
        replace HD := hide (block_upW hb HD.out)
        replace HP := hide (block_upW hb HP.out)
        replace HQ := hide (block_upW hb HQ.out)
        replace HX := hide (block_upW hb HX.out)
        replace HM := hide (block_upW hb HM.out)
        replace HN := hide (block_upW hb HN.out)
        replace HT := hide (HT.out.below hb)
        replace HA0 := hide (HA0.out.below hb)
        replace HA1 := hide (HA1.out.below hb)
        replace HA2 := hide (HA2.out.below hb)
        replace HA3 := hide (HA3.out.below hb)
        replace HA4 := hide (HA4.out.below hb)
        replace HL1 := hide (HL1.out.below hb)
        replace HL2 := hide (HL2.out.below hb)
        replace HL3 := hide (HL3.out.below hb)
        replace HL4 := hide (HL4.out.below hb)
        replace HL5 := hide (HL5.out.below hb)
        replace HL6 := hide (HL6.out.below hb)
        replace HL7 := hide (HL7.out.below hb)
        replace HL8 := hide (HL8.out.below hb)
        replace HLw := hide (HLw.out.below hb)
        replace HXd := hide (HXd.out.below hb)
        replace HMv := hide (HMv.out.below hb)
        replace HNv := hide (HNv.out.below hb)
        replace HOv := hide (HOv.out.below hb)
        replace HTv := hide (HTv.out.below hb)
        replace HW := hid_below HW hb
        clear hb
        obtain ⟨ca0, ca1, ca2, ca3, ca4, ca5⟩ := hexa HM.out
        have C := rsureV m ma mn mk me n na nn nk ne L V0 V1 Q14 HMv.out HNv.out
        rw [EBS.out] at C
        go_wp2_with fail
        refine C.mono ?_
        rintro e Q15 ⟨rfl, hb⟩
        clear C ca0 ca1 ca2 ca3 ca4 ca5
        replace HS := hide (block_upW hb HS.out)
        replace HR := hide (block_upW hb HR.out)
        replace HD := hide (block_upW hb HD.out)
        replace HP := hide (block_upW hb HP.out)
        replace HQ := hide (block_upW hb HQ.out)
        replace HX := hide (block_upW hb HX.out)
        replace HM := hide (block_upW hb HM.out)
        replace HN := hide (block_upW hb HN.out)
        replace HT := hide (HT.out.below hb)
        replace HA0 := hide (HA0.out.below hb)
        replace HA1 := hide (HA1.out.below hb)
        replace HA2 := hide (HA2.out.below hb)
        replace HA3 := hide (HA3.out.below hb)
        replace HA4 := hide (HA4.out.below hb)
        replace HL1 := hide (HL1.out.below hb)
        replace HL2 := hide (HL2.out.below hb)
        replace HL3 := hide (HL3.out.below hb)
        replace HL4 := hide (HL4.out.below hb)
        replace HL5 := hide (HL5.out.below hb)
        replace HL6 := hide (HL6.out.below hb)
        replace HL7 := hide (HL7.out.below hb)
        replace HL8 := hide (HL8.out.below hb)
        replace HLw := hide (HLw.out.below hb)
        replace HXd := hide (HXd.out.below hb)
        replace HMv := hide (HMv.out.below hb)
        replace HNv := hide (HNv.out.below hb)
        replace HOv := hide (HOv.out.below hb)
        replace HTv := hide (HTv.out.below hb)
        replace HW := hid_below HW hb
        clear hb
        have C := awake10_any Q15 HT.out
        go_wp2_with fail
        refine C.mono ?_
        rintro e Q16 ⟨rfl, hb⟩
        clear C 
        replace HS := hide (block_upW hb HS.out)
        replace HR := hide (block_upW hb HR.out)
        replace HD := hide (block_upW hb HD.out)
        replace HP := hide (block_upW hb HP.out)
        replace HQ := hide (block_upW hb HQ.out)
        replace HX := hide (block_upW hb HX.out)
        replace HM := hide (block_upW hb HM.out)
        replace HN := hide (block_upW hb HN.out)
        replace HT := hide (HT.out.below hb)
        replace HA0 := hide (HA0.out.below hb)
        replace HA1 := hide (HA1.out.below hb)
        replace HA2 := hide (HA2.out.below hb)
        replace HA3 := hide (HA3.out.below hb)
        replace HA4 := hide (HA4.out.below hb)
        replace HL1 := hide (HL1.out.below hb)
        replace HL2 := hide (HL2.out.below hb)
        replace HL3 := hide (HL3.out.below hb)
        replace HL4 := hide (HL4.out.below hb)
        replace HL5 := hide (HL5.out.below hb)
        replace HL6 := hide (HL6.out.below hb)
        replace HL7 := hide (HL7.out.below hb)
        replace HL8 := hide (HL8.out.below hb)
        replace HLw := hide (HLw.out.below hb)
        replace HXd := hide (HXd.out.below hb)
        replace HMv := hide (HMv.out.below hb)
        replace HNv := hide (HNv.out.below hb)
        replace HOv := hide (HOv.out.below hb)
        replace HTv := hide (HTv.out.below hb)
        replace HW := hid_below HW hb
        clear hb
        go_wp2
        go_ret
        exact ⟨rfl, HW.out⟩
      · skip
        exact (EBO3.out rfl rfl).elim

end Go.Proofs.YtppkhhbhnhijpaaGreatDoor
