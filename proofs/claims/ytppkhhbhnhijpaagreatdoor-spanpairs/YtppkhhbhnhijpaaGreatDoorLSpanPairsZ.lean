/- The walk of the law SpanPairs. -/
import Derived.Test.YtppkhhbhnhijpaaGreatDoorSpTZ
import Derived.Test.YtppkhhbhnhijpaaGreatDoorSpSZ
import Derived.Test.YtppkhhbhnhijpaaGreatDoorQZ
import Derived.Test.YtppkhhbhnhijpaaGreatDoorSpXZ
import Derived.Test.YtppkhhbhnhijpaaGreatDoorBxAZ
import Derived.Deep.CutBlock
import Derived.Deep.DeepCutAuto
namespace Go.Proofs.YtppkhhbhnhijpaaGreatDoor
open Go.RowKit
open Lm
attribute [local go_sem ↓] Go.wp_at_zero Go.wp_at_succ

set_option maxRecDepth 20000 in
set_option maxHeartbeats 32000000 in
theorem spanPairs_walk (b0 : Bool) (u0 : Value) (z0 : List Nat) (e0 : Int) (b1 : Bool) (u1 : Value) (z1 : List Nat) (e1 : Int) (b2 : Bool) (u2 : Value) (z2 : List Nat) (e2 : Int) (b3 : Bool) (u3 : Value) (z3 : List Nat) (e3 : Int) (w : World) (hT : Tab w) (A0 : Arg w u0 z0) (s0 : z0.length ≤ 17592186043904) (_ : -9223372036854775808 ≤ e0) (_ : e0 ≤ 9223372036854775807) (A1 : Arg w u1 z1) (s1 : z1.length ≤ 17592186043904) (_ : -9223372036854775808 ≤ e1) (_ : e1 ≤ 9223372036854775807) (A2 : Arg w u2 z2) (s2 : z2.length ≤ 17592186043904) (_ : -9223372036854775808 ≤ e2) (_ : e2 ≤ 9223372036854775807) (A3 : Arg w u3 z3) (s3 : z3.length ≤ 17592186043904) (_ : -9223372036854775808 ≤ e3) (_ : e3 ≤ 9223372036854775807) :
    Calls Tryz.prog 4 #[.agg #[.bool b0, u0, .int .i64 e0, .bool b1, u1, .int .i64 e1], .agg #[.bool b2, u2, .int .i64 e2, .bool b3, u3, .int .i64 e3]] w fun e w' => e = .returned (.bool true) ∧ Below w.heap.size w w' := by
  obtain ⟨L, hL⟩ : ∃ L : Nat, 4611686018427387904 ≤ L := ⟨4611686018427387904, Nat.le_refl _⟩
  obtain ⟨a0, k0, rfl, _, _, _⟩ := A0.form
  obtain ⟨a1, k1, rfl, _, _, _⟩ := A1.form
  obtain ⟨a2, k2, rfl, _, _, _⟩ := A2.form
  obtain ⟨a3, k3, rfl, _, _, _⟩ := A3.form
  obtain ⟨w0, hw0, hb0, q0, q1⟩ := enter2 w (.cells #[.bool b0, .slice a0 z0.length k0, .int .i64 e0, .bool b1, .slice a1 z1.length k1, .int .i64 e1] 26) (.cells #[.bool b2, .slice a2 z2.length k2, .int .i64 e2, .bool b3, .slice a3 z3.length k3, .int .i64 e3] 26)
  have HT := hide (hT.below hb0)
  have HA0 := hide (A0.below hb0)
  have HA1 := hide (A1.below hb0)
  have HA2 := hide (A2.below hb0)
  have HA3 := hide (A3.below hb0)
  have HS := hide q0
  have HR := hide q1
  have HW := hide hb0
  have LL : Hid (4611686018427387904 ≤ L) := hide hL
  clear A0 A1 A2 A3 hT q0 q1 hb0 hL
  obtain ⟨V0, hV0⟩ : ∃ V, vof b0 z0 e0 L = V := ⟨_, rfl⟩
  obtain ⟨V1, hV1⟩ : ∃ V, vof b1 z1 e1 L = V := ⟨_, rfl⟩
  obtain ⟨V2, hV2⟩ : ∃ V, vof b2 z2 e2 L = V := ⟨_, rfl⟩
  obtain ⟨V3, hV3⟩ : ∃ V, vof b3 z3 e3 L = V := ⟨_, rfl⟩
  obtain ⟨F, hF⟩ : ∃ x, flt e0 e1 V0 V1 = x := ⟨_, rfl⟩
  obtain ⟨G, hG⟩ : ∃ x, flt e2 e3 V2 V3 = x := ⟨_, rfl⟩
  obtain ⟨H, hH⟩ : ∃ x, wst F G = x := ⟨_, rfl⟩
  obtain ⟨W0, hW0⟩ : ∃ x, (if F = 0 then V0 else 0) = x := ⟨_, rfl⟩
  obtain ⟨W1, hW1⟩ : ∃ x, (if F = 0 then V1 else 0) = x := ⟨_, rfl⟩
  obtain ⟨W2, hW2⟩ : ∃ x, (if G = 0 then V2 else 0) = x := ⟨_, rfl⟩
  obtain ⟨W3, hW3⟩ : ∃ x, (if G = 0 then V3 else 0) = x := ⟨_, rfl⟩
  obtain ⟨MF, hMF⟩ : ∃ x, (if H = 0 then (if min V1 V3 < max V0 V2 then (103 : Int) else 0) else H) = x := ⟨_, rfl⟩
  have hFG : H = 0 → F = 0 ∧ G = 0 := by
    intro h
    rw [← hH] at h
    unfold wst at h
    by_cases f : F = 0
    · rw [if_pos f] at h; exact ⟨f, h⟩
    · rw [if_neg f] at h; exact absurd h f
  have EWV : Hid (H = 0 → W0 = V0 ∧ W1 = V1 ∧ W2 = V2 ∧ W3 = V3) := hide (fun h => by
    obtain ⟨f, g⟩ := hFG h
    rw [if_pos f] at hW0 hW1
    rw [if_pos g] at hW2 hW3
    exact ⟨hW0.symm, hW1.symm, hW2.symm, hW3.symm⟩)
  have EM0 : Hid (MF = 0 → H = 0) := hide (fun h => by
    by_cases f : H = 0
    · exact f
    · rw [if_neg f] at hMF; omega)
  have FITS : Hid (H = 0 → (fitE e0 = true ∧ fitE e1 = true ∧ fitE e2 = true ∧ fitE e3 = true) ∧ V0 ≤ V1 ∧ V2 ≤ V3) := hide (fun h => by
    obtain ⟨f, g⟩ := hFG h
    rw [← hF] at f
    rw [← hG] at g
    obtain ⟨p1, p2, p3⟩ := flt_zero f
    obtain ⟨p4, p5, p6⟩ := flt_zero g
    exact ⟨⟨p1, p2, p4, p5⟩, p3, p6⟩)
  have EV0 := hide hV0
  have EV1 := hide hV1
  have EV2 := hide hV2
  have EV3 := hide hV3
  have EF := hide hF
  have EG := hide hG
  have EH := hide hH
  have EW0 := hide hW0
  have EW1 := hide hW1
  have EW2 := hide hW2
  have EW3 := hide hW3
  have EMF := hide hMF
  clear hF hG hH hW0 hW1 hW2 hW3 hMF hFG hV0 hV1 hV2 hV3
  go_enter Tryz.func4, Tryz.ntmps4
  have LN1 := hide (fun (W : World) (hg : Below w0.heap.size w0 W) => lend10_any b0 a0 k0 z0 e0 b1 a1 k1 z1 e1 W (HA0.out.below hg) (HA1.out.below hg) (by omega) (by omega))
  have LN2 := hide (fun (W : World) (hg : Below w0.heap.size w0 W) => lend10_any b2 a2 k2 z2 e2 b3 a3 k3 z3 e3 W (HA2.out.below hg) (HA3.out.below hg) (by omega) (by omega))
  have KS := hide (fun (W : World) (hg : Below w0.heap.size w0 W) => show W.cell? ⟨w.heap.size, 0, none⟩ = some (.bool b0) ∧ W.cell? ⟨w.heap.size, 1, none⟩ = some (.slice a0 z0.length k0) ∧ W.cell? ⟨w.heap.size, 2, none⟩ = some (.int .i64 e0) ∧ W.cell? ⟨w.heap.size, 3, none⟩ = some (.bool b1) ∧ W.cell? ⟨w.heap.size, 4, none⟩ = some (.slice a1 z1.length k1) ∧ W.cell? ⟨w.heap.size, 5, none⟩ = some (.int .i64 e1) ∧ W.cell? ⟨w.heap.size + 1, 0, none⟩ = some (.bool b2) ∧ W.cell? ⟨w.heap.size + 1, 1, none⟩ = some (.slice a2 z2.length k2) ∧ W.cell? ⟨w.heap.size + 1, 2, none⟩ = some (.int .i64 e2) ∧ W.cell? ⟨w.heap.size + 1, 3, none⟩ = some (.bool b3) ∧ W.cell? ⟨w.heap.size + 1, 4, none⟩ = some (.slice a3 z3.length k3) ∧ W.cell? ⟨w.heap.size + 1, 5, none⟩ = some (.int .i64 e3) from (by
    obtain ⟨x0, x1, x2, x3, x4, x5⟩ := hexa (block_upW hg HS.out)
    obtain ⟨y0, y1, y2, y3, y4, y5⟩ := hexa (block_upW hg HR.out)
    exact ⟨x0, x1, x2, x3, x4, x5, y0, y1, y2, y3, y4, y5⟩))
  go_upto_region 1 with fail
  go_cut [5, 6] from 23 to 26 (fun s t wx => TwoL w0 b0 z0 e0 b1 z1 e1 b2 z2 e2 b3 z3 e3 s t wx)
  case first =>
    refine wp_region_held_drew (S := fun w' => w'.cell? ⟨w.heap.size, 0, none⟩ = some (.bool b0) ∧ w'.cell? ⟨w.heap.size, 1, none⟩ = some (.slice a0 z0.length k0) ∧ w'.cell? ⟨w.heap.size, 2, none⟩ = some (.int .i64 e0) ∧ w'.cell? ⟨w.heap.size, 3, none⟩ = some (.bool b1) ∧ w'.cell? ⟨w.heap.size, 4, none⟩ = some (.slice a1 z1.length k1) ∧ w'.cell? ⟨w.heap.size, 5, none⟩ = some (.int .i64 e1) ∧ w'.cell? ⟨w.heap.size + 1, 0, none⟩ = some (.bool b2) ∧ w'.cell? ⟨w.heap.size + 1, 1, none⟩ = some (.slice a2 z2.length k2) ∧ w'.cell? ⟨w.heap.size + 1, 2, none⟩ = some (.int .i64 e2) ∧ w'.cell? ⟨w.heap.size + 1, 3, none⟩ = some (.bool b3) ∧ w'.cell? ⟨w.heap.size + 1, 4, none⟩ = some (.slice a3 z3.length k3) ∧ w'.cell? ⟨w.heap.size + 1, 5, none⟩ = some (.int .i64 e3)) (by kernel_rfl) (KS.out _ (bl_drew10 (Below.refl _ _))) (fun hHeld => ?_)
    refine wpAnyH_take (i := 0) (oi := { dst := some 23, op := Op.load 26 (Operand.tmp 2), type := 26, pos := "law.go:170", after := #[], guard := none }) (v := .agg #[.bool b0, .slice a0 z0.length k0, .int .i64 e0, .bool b1, .slice a1 z1.length k1, .int .i64 e1]) rfl (by kernel_rfl) (by kernel_rfl) (by kernel_rfl) (fun _ _ _ h => h) (Or.inl ⟨by rfl, fun w9 hSw => ?_⟩) hHeld ?_
    · (try dsimp only at hSw); go_simp
    simp only [Act.put, List.setIfInBounds_toArray, List.set_cons_zero, List.set_cons_succ]
    refine wpAnyH_take (i := 2) (oi := { dst := some 25, op := Op.load 26 (Operand.tmp 3), type := 26, pos := "law.go:170", after := #[], guard := none }) (v := .agg #[.bool b2, .slice a2 z2.length k2, .int .i64 e2, .bool b3, .slice a3 z3.length k3, .int .i64 e3]) rfl (by kernel_rfl) (by kernel_rfl) (by kernel_rfl) (fun _ _ _ h => h) (Or.inl ⟨by rfl, fun w9 hSw => ?_⟩) hHeld ?_
    · (try dsimp only at hSw); go_simp
    simp only [Act.put, List.setIfInBounds_toArray, List.set_cons_zero, List.set_cons_succ]
    refine dp2l w0 (LA b0 z0 e0 b1 z1 e1) (LA b2 z2 e2 b3 z3 e3) (LA.keep b0 z0 e0 b1 z1 e1) (LA.keep b2 z2 e2 b3 z3 e3) 24 26 5 6 (fun c1 c2 k1 k2 => #[true, c1, true, c2, k1, k2, false, false]) (by kernel_rfl) (by kernel_rfl) (by simp only [Act.put, List.setIfInBounds_toArray, List.set_cons_zero, List.set_cons_succ]) (bl_drew10 (Below.refl _ _)) ?_
    clear hHeld
    intro n
    simp only [Act.put, List.setIfInBounds_toArray, List.set_cons_zero, List.set_cons_succ]
    induction n with
    | zero =>
      intro c1 c2 k1 k2 x1 x2 y1 y2 W hf J
      exact absurd hf (by unfold leftL; omega)
    | succ n ih =>
      intro c1 c2 k1 k2 x1 x2 y1 y2 W hf J
      cases c1
      · skip
        cases c2
        · skip
          cases k1
          · skip
            cases k2
            · skip
              refine wpAnyH_ready (rs := [1, 4, 5]) (by kernel_rfl) (by simp) ?_
              refine AllReadyH.cons rfl (fun K hK => ?_) ?_
              · go_simp
                refine (LN1.out W J.up).mono ?_
                rintro e' W2 ⟨⟨fu, fmu, fnu, fv, fmv, fnv, fx, fcx, fy, fcy, rfl, f9⟩, hb⟩
                refine hK.out _ _ (KS.out _ (bl_trans8 J.up hb)) (fun _ => ?_)
                simp only [List.setIfInBounds_toArray, List.set_cons_zero, List.set_cons_succ]
                exact ih _ _ _ _ _ _ _ _ _ (by simp [leftL] at hf ⊢; omega) (J.call1 hb ⟨fu, fmu, fnu, fv, fmv, fnv, fx, fcx, fy, fcy, rfl, f9⟩)
              refine AllReadyH.cons rfl (fun K hK => ?_) ?_
              · go_simp
                refine hK.out _ _ (KS.out _ (bl_alloc10 J.up _)) (fun _ => ?_)
                simp only [List.setIfInBounds_toArray, List.set_cons_zero, List.set_cons_succ]
                exact ih _ _ _ _ _ _ _ _ _ (by simp [leftL] at hf ⊢; omega) J.make1
              refine AllReadyH.cons rfl (fun K hK => ?_) ?_
              · go_simp
                refine hK.out _ _ (KS.out _ (bl_alloc10 J.up _)) (fun _ => ?_)
                simp only [List.setIfInBounds_toArray, List.set_cons_zero, List.set_cons_succ]
                exact ih _ _ _ _ _ _ _ _ _ (by simp [leftL] at hf ⊢; omega) J.make2
              exact AllReadyH.nil
            · skip
              refine wpAnyH_ready (rs := [1, 4]) (by kernel_rfl) (by simp) ?_
              refine AllReadyH.cons rfl (fun K hK => ?_) ?_
              · go_simp
                refine (LN1.out W J.up).mono ?_
                rintro e' W2 ⟨⟨fu, fmu, fnu, fv, fmv, fnv, fx, fcx, fy, fcy, rfl, f9⟩, hb⟩
                refine hK.out _ _ (KS.out _ (bl_trans8 J.up hb)) (fun _ => ?_)
                simp only [List.setIfInBounds_toArray, List.set_cons_zero, List.set_cons_succ]
                exact ih _ _ _ _ _ _ _ _ _ (by simp [leftL] at hf ⊢; omega) (J.call1 hb ⟨fu, fmu, fnu, fv, fmv, fnv, fx, fcx, fy, fcy, rfl, f9⟩)
              refine AllReadyH.cons rfl (fun K hK => ?_) ?_
              · go_simp
                refine hK.out _ _ (KS.out _ (bl_alloc10 J.up _)) (fun _ => ?_)
                simp only [List.setIfInBounds_toArray, List.set_cons_zero, List.set_cons_succ]
                exact ih _ _ _ _ _ _ _ _ _ (by simp [leftL] at hf ⊢; omega) J.make1
              exact AllReadyH.nil
          · skip
            cases k2
            · skip
              refine wpAnyH_ready (rs := [1, 5]) (by kernel_rfl) (by simp) ?_
              refine AllReadyH.cons rfl (fun K hK => ?_) ?_
              · go_simp
                refine (LN1.out W J.up).mono ?_
                rintro e' W2 ⟨⟨fu, fmu, fnu, fv, fmv, fnv, fx, fcx, fy, fcy, rfl, f9⟩, hb⟩
                refine hK.out _ _ (KS.out _ (bl_trans8 J.up hb)) (fun _ => ?_)
                simp only [List.setIfInBounds_toArray, List.set_cons_zero, List.set_cons_succ]
                exact ih _ _ _ _ _ _ _ _ _ (by simp [leftL] at hf ⊢; omega) (J.call1 hb ⟨fu, fmu, fnu, fv, fmv, fnv, fx, fcx, fy, fcy, rfl, f9⟩)
              refine AllReadyH.cons rfl (fun K hK => ?_) ?_
              · go_simp
                refine hK.out _ _ (KS.out _ (bl_alloc10 J.up _)) (fun _ => ?_)
                simp only [List.setIfInBounds_toArray, List.set_cons_zero, List.set_cons_succ]
                exact ih _ _ _ _ _ _ _ _ _ (by simp [leftL] at hf ⊢; omega) J.make2
              exact AllReadyH.nil
            · skip
              refine wpAnyH_ready (rs := [1]) (by kernel_rfl) (by simp) ?_
              refine AllReadyH.cons rfl (fun K hK => ?_) ?_
              · go_simp
                refine (LN1.out W J.up).mono ?_
                rintro e' W2 ⟨⟨fu, fmu, fnu, fv, fmv, fnv, fx, fcx, fy, fcy, rfl, f9⟩, hb⟩
                refine hK.out _ _ (KS.out _ (bl_trans8 J.up hb)) (fun _ => ?_)
                simp only [List.setIfInBounds_toArray, List.set_cons_zero, List.set_cons_succ]
                exact ih _ _ _ _ _ _ _ _ _ (by simp [leftL] at hf ⊢; omega) (J.call1 hb ⟨fu, fmu, fnu, fv, fmv, fnv, fx, fcx, fy, fcy, rfl, f9⟩)
              exact AllReadyH.nil
        · skip
          exact absurd (J.ch rfl) (by decide)
      · skip
        cases c2
        · skip
          cases k1
          · skip
            cases k2
            · skip
              refine wpAnyH_ready (rs := [3, 4, 5]) (by kernel_rfl) (by simp) ?_
              refine AllReadyH.cons rfl (fun K hK => ?_) ?_
              · go_simp
                refine (LN2.out W J.up).mono ?_
                rintro e' W2 ⟨⟨fu, fmu, fnu, fv, fmv, fnv, fx, fcx, fy, fcy, rfl, f9⟩, hb⟩
                refine hK.out _ _ (KS.out _ (bl_trans8 J.up hb)) (fun _ => ?_)
                simp only [List.setIfInBounds_toArray, List.set_cons_zero, List.set_cons_succ]
                exact ih _ _ _ _ _ _ _ _ _ (by simp [leftL] at hf ⊢; omega) (J.call2 hb ⟨fu, fmu, fnu, fv, fmv, fnv, fx, fcx, fy, fcy, rfl, f9⟩)
              refine AllReadyH.cons rfl (fun K hK => ?_) ?_
              · go_simp
                refine hK.out _ _ (KS.out _ (bl_alloc10 J.up _)) (fun _ => ?_)
                simp only [List.setIfInBounds_toArray, List.set_cons_zero, List.set_cons_succ]
                exact ih _ _ _ _ _ _ _ _ _ (by simp [leftL] at hf ⊢; omega) J.make1
              refine AllReadyH.cons rfl (fun K hK => ?_) ?_
              · go_simp
                refine hK.out _ _ (KS.out _ (bl_alloc10 J.up _)) (fun _ => ?_)
                simp only [List.setIfInBounds_toArray, List.set_cons_zero, List.set_cons_succ]
                exact ih _ _ _ _ _ _ _ _ _ (by simp [leftL] at hf ⊢; omega) J.make2
              exact AllReadyH.nil
            · skip
              refine wpAnyH_ready (rs := [3, 4]) (by kernel_rfl) (by simp) ?_
              refine AllReadyH.cons rfl (fun K hK => ?_) ?_
              · go_simp
                refine (LN2.out W J.up).mono ?_
                rintro e' W2 ⟨⟨fu, fmu, fnu, fv, fmv, fnv, fx, fcx, fy, fcy, rfl, f9⟩, hb⟩
                refine hK.out _ _ (KS.out _ (bl_trans8 J.up hb)) (fun _ => ?_)
                simp only [List.setIfInBounds_toArray, List.set_cons_zero, List.set_cons_succ]
                exact ih _ _ _ _ _ _ _ _ _ (by simp [leftL] at hf ⊢; omega) (J.call2 hb ⟨fu, fmu, fnu, fv, fmv, fnv, fx, fcx, fy, fcy, rfl, f9⟩)
              refine AllReadyH.cons rfl (fun K hK => ?_) ?_
              · go_simp
                refine hK.out _ _ (KS.out _ (bl_alloc10 J.up _)) (fun _ => ?_)
                simp only [List.setIfInBounds_toArray, List.set_cons_zero, List.set_cons_succ]
                exact ih _ _ _ _ _ _ _ _ _ (by simp [leftL] at hf ⊢; omega) J.make1
              exact AllReadyH.nil
          · skip
            cases k2
            · skip
              refine wpAnyH_ready (rs := [3, 5]) (by kernel_rfl) (by simp) ?_
              refine AllReadyH.cons rfl (fun K hK => ?_) ?_
              · go_simp
                refine (LN2.out W J.up).mono ?_
                rintro e' W2 ⟨⟨fu, fmu, fnu, fv, fmv, fnv, fx, fcx, fy, fcy, rfl, f9⟩, hb⟩
                refine hK.out _ _ (KS.out _ (bl_trans8 J.up hb)) (fun _ => ?_)
                simp only [List.setIfInBounds_toArray, List.set_cons_zero, List.set_cons_succ]
                exact ih _ _ _ _ _ _ _ _ _ (by simp [leftL] at hf ⊢; omega) (J.call2 hb ⟨fu, fmu, fnu, fv, fmv, fnv, fx, fcx, fy, fcy, rfl, f9⟩)
              refine AllReadyH.cons rfl (fun K hK => ?_) ?_
              · go_simp
                refine hK.out _ _ (KS.out _ (bl_alloc10 J.up _)) (fun _ => ?_)
                simp only [List.setIfInBounds_toArray, List.set_cons_zero, List.set_cons_succ]
                exact ih _ _ _ _ _ _ _ _ _ (by simp [leftL] at hf ⊢; omega) J.make2
              exact AllReadyH.nil
            · skip
              refine wpAnyH_ready (rs := [3]) (by kernel_rfl) (by simp) ?_
              refine AllReadyH.cons rfl (fun K hK => ?_) ?_
              · go_simp
                refine (LN2.out W J.up).mono ?_
                rintro e' W2 ⟨⟨fu, fmu, fnu, fv, fmv, fnv, fx, fcx, fy, fcy, rfl, f9⟩, hb⟩
                refine hK.out _ _ (KS.out _ (bl_trans8 J.up hb)) (fun _ => ?_)
                simp only [List.setIfInBounds_toArray, List.set_cons_zero, List.set_cons_succ]
                exact ih _ _ _ _ _ _ _ _ _ (by simp [leftL] at hf ⊢; omega) (J.call2 hb ⟨fu, fmu, fnu, fv, fmv, fnv, fx, fcx, fy, fcy, rfl, f9⟩)
              exact AllReadyH.nil
        · skip
          cases k1
          · skip
            cases k2
            · skip
              refine wpAnyH_ready (rs := [4, 5]) (by kernel_rfl) (by simp) ?_
              refine AllReadyH.cons rfl (fun K hK => ?_) ?_
              · go_simp
                refine hK.out _ _ (KS.out _ (bl_alloc10 J.up _)) (fun _ => ?_)
                simp only [List.setIfInBounds_toArray, List.set_cons_zero, List.set_cons_succ]
                exact ih _ _ _ _ _ _ _ _ _ (by simp [leftL] at hf ⊢; omega) J.make1
              refine AllReadyH.cons rfl (fun K hK => ?_) ?_
              · go_simp
                refine hK.out _ _ (KS.out _ (bl_alloc10 J.up _)) (fun _ => ?_)
                simp only [List.setIfInBounds_toArray, List.set_cons_zero, List.set_cons_succ]
                exact ih _ _ _ _ _ _ _ _ _ (by simp [leftL] at hf ⊢; omega) J.make2
              exact AllReadyH.nil
            · skip
              refine wpAnyH_ready (rs := [4]) (by kernel_rfl) (by simp) ?_
              refine AllReadyH.cons rfl (fun K hK => ?_) ?_
              · go_simp
                refine hK.out _ _ (KS.out _ (bl_alloc10 J.up _)) (fun _ => ?_)
                simp only [List.setIfInBounds_toArray, List.set_cons_zero, List.set_cons_succ]
                exact ih _ _ _ _ _ _ _ _ _ (by simp [leftL] at hf ⊢; omega) J.make1
              exact AllReadyH.nil
          · skip
            cases k2
            · skip
              refine wpAnyH_ready (rs := [5]) (by kernel_rfl) (by simp) ?_
              refine AllReadyH.cons rfl (fun K hK => ?_) ?_
              · go_simp
                refine hK.out _ _ (KS.out _ (bl_alloc10 J.up _)) (fun _ => ?_)
                simp only [List.setIfInBounds_toArray, List.set_cons_zero, List.set_cons_succ]
                exact ih _ _ _ _ _ _ _ _ _ (by simp [leftL] at hf ⊢; omega) J.make2
              exact AllReadyH.nil
            · skip
              obtain ⟨pu, pmu, pnu, pv, pmv, pnv, px, pcx, py, pcy, rfl, fp⟩ := J.q1 rfl
              obtain ⟨qu, qmu, qnu, qv, qmv, qnv, qx, qcx, qy, qcy, rfl, fq⟩ := J.q2 rfl
              have D12 := J.d12 rfl rfl
              obtain ⟨g1, rfl, l1, e1z⟩ := J.r1 rfl
              obtain ⟨g2, rfl, l2, e2z⟩ := J.r2 rfl
              have HU := hide J.up
              obtain rfl : n = 1 := by simp [leftL] at hf; omega
              clear J ih hf
              have D12g : g1 ≠ g2 := fun e => D12 (by rw [e])
              have fin := two_ll (b0 := b0) (e0 := e0) (b1 := b1) (e1 := e1) (b2 := b2) (e2 := e2) (b3 := b3) (e3 := e3) e1z e2z fp fq HU.out l1 l2 D12g
              unfold set8 at fin
              have HFIN := hide fin
              clear D12 fp fq fin
              obtain ⟨m0, m1, m2, m3, m4, m5, m6, m7⟩ := octa e1z
              have hf1 := octaf e1z
              have t2 := (octa_other (w := W) (g := g1) (Ne.symm D12g) (.slice pu pmu pnu) (.slice pv pmv pnv) (.bool b0) (.slice px z0.length pcx) (.int .i64 e0) (.bool b1) (.slice py z1.length pcy) (.int .i64 e1)).trans e2z
              unfold set8 at t2
              obtain ⟨m8, m9, m10, m11, m12, m13, m14, m15⟩ := octa t2
              have hf2 := octaf t2
              have b1z := below_octa HU.out l1 (.slice pu pmu pnu) (.slice pv pmv pnv) (.bool b0) (.slice px z0.length pcx) (.int .i64 e0) (.bool b1) (.slice py z1.length pcy) (.int .i64 e1)
              have b2z := below_octa b1z l2 (.slice qu qmu qnu) (.slice qv qmv qnv) (.bool b2) (.slice qx z2.length qcx) (.int .i64 e2) (.bool b3) (.slice qy z3.length qcy) (.int .i64 e3)
              unfold set8 at b1z b2z
              have HB1 := hide b1z
              have HB2 := hide b2z
              clear t2 e1z e2z b1z b2z
              refine wpAnyH_ready (rs := [6]) (by kernel_rfl) (by simp) ?_
              refine AllReadyH.cons rfl (fun K hK => ?_) AllReadyH.nil
              go_simp
              refine hK.out _ _ (KS.out _ HB1.out) (fun _ => ?_)
              clear hK K
              try simp only [List.setIfInBounds_toArray, List.set_cons_zero, List.set_cons_succ]
              refine wpAnyH_ready (rs := [7]) (by kernel_rfl) (by simp) ?_
              refine AllReadyH.cons rfl (fun K hK => ?_) AllReadyH.nil
              go_simp
              refine hK.out _ _ (KS.out _ HB2.out) (fun _ => ?_)
              clear hK K
              try simp only [List.setIfInBounds_toArray, List.set_cons_zero, List.set_cons_succ]
              refine wpAnyH_done (by kernel_rfl) ?_ _
              clear m0 m1 m2 m3 m4 m5 m6 m7 m8 m9 m10 m11 m12 m13 m14 m15 hf1 hf2 HB1 HB2
              go_wp2_with fail
              go_meet
              exact HFIN.out
  case rest =>
    obtain ⟨gp, gq, pu, pmu, pnu, pv, pmv, pnv, px, pcx, py, pcy, qu, qmu, qnu, qv, qmv, qnv, qx, qcx, qy, qcy, rfl, rfl, hX, hY, ⟨l1, l2, l3, l4⟩, ⟨l5, l6, l7, l8⟩, hb⟩ := hcut
    clear LN1 LN2 KS hw0
    replace HS := hide (block_upW hb HS.out)
    replace HR := hide (block_upW hb HR.out)
    replace HT := hide (HT.out.below hb)
    replace HA0 := hide (HA0.out.below hb)
    replace HA1 := hide (HA1.out.below hb)
    replace HA2 := hide (HA2.out.below hb)
    replace HA3 := hide (HA3.out.below hb)
    replace HW := hid_below HW hb
    clear hb
    have HP := hide hX
    have HQ := hide hY
    have HL1 := hide l1
    have HL2 := hide l2
    have HL3 := hide l3
    have HL4 := hide l4
    have HL5 := hide l5
    have HL6 := hide l6
    have HL7 := hide l7
    have HL8 := hide l8
    clear hX hY l1 l2 l3 l4 l5 l6 l7 l8
    obtain ⟨ca0, ca1, ca2, ca3, ca4, ca5⟩ := hexa HS.out
    have C := of10_any b0 a0 k0 z0 e0 b1 a1 k1 z1 e1 L wc HA0.out HA1.out s0 s1 LL.out
    rw [EV0.out, EV1.out, EF.out] at C
    go_wp2_with fail
    refine C.mono ?_
    rintro e Q1 ⟨⟨m, ma, mn, mk, me, n, na, nn, nk, ne, rfl, hv1, hv2⟩, hb⟩
    clear C ca0 ca1 ca2 ca3 ca4 ca5
    rw [EW0.out] at hv1
    rw [EW1.out] at hv2
    obtain ⟨P2, hP2, hbP, hx⟩ := enter1 Q1 (.cells #[.bool m, .slice ma mn mk, .int .i64 me, .bool n, .slice na nn nk, .int .i64 ne] 47)
    have stp := bl_trans8 hb hbP
    replace HS := hide (block_upW stp HS.out)
    replace HR := hide (block_upW stp HR.out)
    replace HP := hide (block_upW stp HP.out)
    replace HQ := hide (block_upW stp HQ.out)
    replace HT := hide (HT.out.below stp)
    replace HA0 := hide (HA0.out.below stp)
    replace HA1 := hide (HA1.out.below stp)
    replace HA2 := hide (HA2.out.below stp)
    replace HA3 := hide (HA3.out.below stp)
    replace HL1 := hide (HL1.out.below stp)
    replace HL2 := hide (HL2.out.below stp)
    replace HL3 := hide (HL3.out.below stp)
    replace HL4 := hide (HL4.out.below stp)
    replace HL5 := hide (HL5.out.below stp)
    replace HL6 := hide (HL6.out.below stp)
    replace HL7 := hide (HL7.out.below stp)
    replace HL8 := hide (HL8.out.below stp)
    replace HW := hid_below HW stp
    have HMv := hide (hv1.below hbP)
    have HNv := hide (hv2.below hbP)
    have HM := hide hx
    clear stp hbP hx hb hv1 hv2
    obtain ⟨ca0, ca1, ca2, ca3, ca4, ca5⟩ := hexa HR.out
    have C := of10_any b2 a2 k2 z2 e2 b3 a3 k3 z3 e3 L P2 HA2.out HA3.out s2 s3 LL.out
    rw [EV2.out, EV3.out, EG.out] at C
    go_wp2_with fail
    refine C.mono ?_
    rintro e Q3 ⟨⟨o, oa, on, ok, oe, t, ta, tn, tk, te, rfl, hv1, hv2⟩, hb⟩
    clear C ca0 ca1 ca2 ca3 ca4 ca5 hP2
    rw [EW2.out] at hv1
    rw [EW3.out] at hv2
    obtain ⟨P4, hP4, hbP, hx⟩ := enter1 Q3 (.cells #[.bool o, .slice oa on ok, .int .i64 oe, .bool t, .slice ta tn tk, .int .i64 te] 47)
    have stp := bl_trans8 hb hbP
    replace HS := hide (block_upW stp HS.out)
    replace HR := hide (block_upW stp HR.out)
    replace HP := hide (block_upW stp HP.out)
    replace HQ := hide (block_upW stp HQ.out)
    replace HM := hide (block_upW stp HM.out)
    replace HT := hide (HT.out.below stp)
    replace HA0 := hide (HA0.out.below stp)
    replace HA1 := hide (HA1.out.below stp)
    replace HA2 := hide (HA2.out.below stp)
    replace HA3 := hide (HA3.out.below stp)
    replace HL1 := hide (HL1.out.below stp)
    replace HL2 := hide (HL2.out.below stp)
    replace HL3 := hide (HL3.out.below stp)
    replace HL4 := hide (HL4.out.below stp)
    replace HL5 := hide (HL5.out.below stp)
    replace HL6 := hide (HL6.out.below stp)
    replace HL7 := hide (HL7.out.below stp)
    replace HL8 := hide (HL8.out.below stp)
    replace HMv := hide (HMv.out.below stp)
    replace HNv := hide (HNv.out.below stp)
    replace HW := hid_below HW stp
    have HOv := hide (hv1.below hbP)
    have HTv := hide (hv2.below hbP)
    have HN := hide hx
    clear stp hbP hx hb hv1 hv2
    obtain ⟨PW, hPW, hbP, hx⟩ := enter1 P4 (.cells #[.int .i64 F, .int .i64 G] 3)
    have C := lworst2 P4.heap.size F G PW hx
    rw [EH.out] at C
    go_wp2_with fail
    refine C.mono ?_
    rintro e wn ⟨rfl, hw⟩; rw [hw]; clear hw wn C
    have hb := hbP
    clear hbP hx hP4
    replace HS := hide (block_upW hb HS.out)
    replace HR := hide (block_upW hb HR.out)
    replace HP := hide (block_upW hb HP.out)
    replace HQ := hide (block_upW hb HQ.out)
    replace HM := hide (block_upW hb HM.out)
    replace HN := hide (block_upW hb HN.out)
    replace HT := hide (HT.out.below hb)
    replace HA0 := hide (HA0.out.below hb)
    replace HA1 := hide (HA1.out.below hb)
    replace HA2 := hide (HA2.out.below hb)
    replace HA3 := hide (HA3.out.below hb)
    replace HL1 := hide (HL1.out.below hb)
    replace HL2 := hide (HL2.out.below hb)
    replace HL3 := hide (HL3.out.below hb)
    replace HL4 := hide (HL4.out.below hb)
    replace HL5 := hide (HL5.out.below hb)
    replace HL6 := hide (HL6.out.below hb)
    replace HL7 := hide (HL7.out.below hb)
    replace HL8 := hide (HL8.out.below hb)
    replace HMv := hide (HMv.out.below hb)
    replace HNv := hide (HNv.out.below hb)
    replace HOv := hide (HOv.out.below hb)
    replace HTv := hide (HTv.out.below hb)
    replace HW := hid_below HW hb
    clear hb hPW
    have HL1B := HL1
    have HL2B := HL2
    have HL5B := HL5
    have HL6B := HL6
    have HA0B := HA0
    have HA1B := HA1
    have HA2B := HA2
    have HA3B := HA3
    have HTB := HT
    have HWB := HW
    have HBB : Hid (Below PW.heap.size PW PW) := hide (Below.refl _ _)
    have HAP := hide (Aparts.none10 PW PW.heap.size)
    have fo := fltOf2_any b0 px pcx z0 e0 b1 py pcy z1 e1 b2 qx qcx z2 e2 b3 qy qcy z3 e3 L PW HL3.out HL4.out HL7.out HL8.out s0 s1 s2 s3 LL.out
    rw [EV0.out, EV1.out, EV2.out, EV3.out, EF.out, EG.out] at fo
    rw [EH.out] at fo
    obtain ⟨ca0, ca1, ca2, ca3, ca4, ca5, ca6, ca7⟩ := octa HP.out
    obtain ⟨cb0, cb1, cb2, cb3, cb4, cb5, cb6, cb7⟩ := octa HQ.out
    have C := smin_any b0 px z0.length pcx e0 b1 py z1.length pcy e1 b2 qx z2.length qcx e2 b3 qy z3.length qcy e3 H L V0 V1 V2 V3 PW fo (fun h => ⟨⟨⟨z0, rfl, HL3.out, s0, (FITS.out h).1.1, EV0.out⟩, ⟨z1, rfl, HL4.out, s1, (FITS.out h).1.2.1, EV1.out⟩, ⟨z2, rfl, HL7.out, s2, (FITS.out h).1.2.2.1, EV2.out⟩, ⟨z3, rfl, HL8.out, s3, (FITS.out h).1.2.2.2, EV3.out⟩⟩, (FITS.out h).2⟩) HT.out LL.out
    go_wp2_with fail
    refine C.mono ?_
    rintro e Q5 ⟨⟨ga, gaa, gan, gak, gae, gb, gba, gbn, gbk, gbe, gac, rfl, hs⟩, hb⟩
    clear C ca0 ca1 ca2 ca3 ca4 ca5 ca6 ca7 cb0 cb1 cb2 cb3 cb4 cb5 cb6 cb7 fo
    obtain ⟨r1, r2, x1, x2, j0a, j0b, iap⟩ := hs.lists
    have HAPn := hide (HAP.out.two10 hb HBB.out.size x1 x2 iap)
    have JL0 := hide (And.intro j0a j0b)
    clear HAP x1 x2 iap j0a j0b
    have HAP := HAPn
    clear HAPn
    obtain ⟨P6, hP6, hbP, hx⟩ := enter1 Q5 (.cells #[.bool ga, .slice gaa gan gak, .int .i64 gae, .bool gb, .slice gba gbn gbk, .int .i64 gbe] 33)
    have stp := bl_trans8 hb hbP
    replace HS := hide (block_upW stp HS.out)
    replace HR := hide (block_upW stp HR.out)
    replace HP := hide (block_upW stp HP.out)
    replace HQ := hide (block_upW stp HQ.out)
    replace HM := hide (block_upW stp HM.out)
    replace HN := hide (block_upW stp HN.out)
    replace HT := hide (HT.out.below stp)
    replace HA0 := hide (HA0.out.below stp)
    replace HA1 := hide (HA1.out.below stp)
    replace HA2 := hide (HA2.out.below stp)
    replace HA3 := hide (HA3.out.below stp)
    replace HL1 := hide (HL1.out.below stp)
    replace HL2 := hide (HL2.out.below stp)
    replace HL3 := hide (HL3.out.below stp)
    replace HL4 := hide (HL4.out.below stp)
    replace HL5 := hide (HL5.out.below stp)
    replace HL6 := hide (HL6.out.below stp)
    replace HL7 := hide (HL7.out.below stp)
    replace HL8 := hide (HL8.out.below stp)
    replace HMv := hide (HMv.out.below stp)
    replace HNv := hide (HNv.out.below stp)
    replace HOv := hide (HOv.out.below stp)
    replace HTv := hide (HTv.out.below stp)
    replace HW := hid_below HW stp
    replace HBB := hid_below HBB stp
    have HVga := hide (hs.below hbP)
    have HGA9 := hide hx
    replace HAP := hide (HAP.out.below hbP)
    clear stp hbP hx hb hs
    have fo := fltOf2_any b0 px pcx z0 e0 b1 py pcy z1 e1 b2 qx qcx z2 e2 b3 qy qcy z3 e3 L P6 HL3.out HL4.out HL7.out HL8.out s0 s1 s2 s3 LL.out
    rw [EV0.out, EV1.out, EV2.out, EV3.out, EF.out, EG.out] at fo
    rw [EH.out] at fo
    obtain ⟨ca0, ca1, ca2, ca3, ca4, ca5, ca6, ca7⟩ := octa HP.out
    obtain ⟨cb0, cb1, cb2, cb3, cb4, cb5, cb6, cb7⟩ := octa HQ.out
    have C := smax_any b0 px z0.length pcx e0 b1 py z1.length pcy e1 b2 qx z2.length qcx e2 b3 qy z3.length qcy e3 H L V0 V1 V2 V3 P6 fo (fun h => ⟨⟨⟨z0, rfl, HL3.out, s0, (FITS.out h).1.1, EV0.out⟩, ⟨z1, rfl, HL4.out, s1, (FITS.out h).1.2.1, EV1.out⟩, ⟨z2, rfl, HL7.out, s2, (FITS.out h).1.2.2.1, EV2.out⟩, ⟨z3, rfl, HL8.out, s3, (FITS.out h).1.2.2.2, EV3.out⟩⟩, (FITS.out h).2⟩) HT.out LL.out
    go_wp2_with fail
    refine C.mono ?_
    rintro e Q7 ⟨⟨gc, gca, gcn, gck, gce, gd, gda, gdn, gdk, gde, gcc, rfl, hs⟩, hb⟩
    clear C ca0 ca1 ca2 ca3 ca4 ca5 ca6 ca7 cb0 cb1 cb2 cb3 cb4 cb5 cb6 cb7 hP6 fo
    obtain ⟨r1, r2, x1, x2, j1a, j1b, iap⟩ := hs.lists
    have HAPn := hide (HAP.out.two10 hb HBB.out.size x1 x2 iap)
    have JL1 := hide (And.intro j1a j1b)
    clear HAP x1 x2 iap j1a j1b
    have HAP := HAPn
    clear HAPn
    obtain ⟨P8, hP8, hbP, hx⟩ := enter1 Q7 (.cells #[.bool gc, .slice gca gcn gck, .int .i64 gce, .bool gd, .slice gda gdn gdk, .int .i64 gde] 33)
    have stp := bl_trans8 hb hbP
    replace HS := hide (block_upW stp HS.out)
    replace HR := hide (block_upW stp HR.out)
    replace HP := hide (block_upW stp HP.out)
    replace HQ := hide (block_upW stp HQ.out)
    replace HM := hide (block_upW stp HM.out)
    replace HN := hide (block_upW stp HN.out)
    replace HGA9 := hide (block_upW stp HGA9.out)
    replace HT := hide (HT.out.below stp)
    replace HA0 := hide (HA0.out.below stp)
    replace HA1 := hide (HA1.out.below stp)
    replace HA2 := hide (HA2.out.below stp)
    replace HA3 := hide (HA3.out.below stp)
    replace HL1 := hide (HL1.out.below stp)
    replace HL2 := hide (HL2.out.below stp)
    replace HL3 := hide (HL3.out.below stp)
    replace HL4 := hide (HL4.out.below stp)
    replace HL5 := hide (HL5.out.below stp)
    replace HL6 := hide (HL6.out.below stp)
    replace HL7 := hide (HL7.out.below stp)
    replace HL8 := hide (HL8.out.below stp)
    replace HMv := hide (HMv.out.below stp)
    replace HNv := hide (HNv.out.below stp)
    replace HOv := hide (HOv.out.below stp)
    replace HTv := hide (HTv.out.below stp)
    replace HVga := hide (HVga.out.below stp)
    replace HW := hid_below HW stp
    replace HBB := hid_below HBB stp
    have HVgc := hide (hs.below hbP)
    have HGC9 := hide hx
    replace HAP := hide (HAP.out.below hbP)
    clear stp hbP hx hb hs
    have fo := fltOf2_any b0 px pcx z0 e0 b1 py pcy z1 e1 b2 qx qcx z2 e2 b3 qy qcy z3 e3 L P8 HL3.out HL4.out HL7.out HL8.out s0 s1 s2 s3 LL.out
    rw [EV0.out, EV1.out, EV2.out, EV3.out, EF.out, EG.out] at fo
    rw [EH.out] at fo
    obtain ⟨ca0, ca1, ca2, ca3, ca4, ca5, ca6, ca7⟩ := octa HP.out
    obtain ⟨cb0, cb1, cb2, cb3, cb4, cb5, cb6, cb7⟩ := octa HQ.out
    have C := shull_any b0 px z0.length pcx e0 b1 py z1.length pcy e1 b2 qx z2.length qcx e2 b3 qy z3.length qcy e3 H L V0 V1 V2 V3 P8 fo (fun h => ⟨⟨⟨z0, rfl, HL3.out, s0, (FITS.out h).1.1, EV0.out⟩, ⟨z1, rfl, HL4.out, s1, (FITS.out h).1.2.1, EV1.out⟩, ⟨z2, rfl, HL7.out, s2, (FITS.out h).1.2.2.1, EV2.out⟩, ⟨z3, rfl, HL8.out, s3, (FITS.out h).1.2.2.2, EV3.out⟩⟩, (FITS.out h).2⟩) HT.out LL.out
    go_wp2_with fail
    refine C.mono ?_
    rintro e Q9 ⟨⟨ge, gea, gen, gek, gee, gf, gfa, gfn, gfk, gfe, gec, rfl, hs⟩, hb⟩
    clear C ca0 ca1 ca2 ca3 ca4 ca5 ca6 ca7 cb0 cb1 cb2 cb3 cb4 cb5 cb6 cb7 hP8 fo
    obtain ⟨r1, r2, x1, x2, j2a, j2b, iap⟩ := hs.lists
    have HAPn := hide (HAP.out.two10 hb HBB.out.size x1 x2 iap)
    have JL2 := hide (And.intro j2a j2b)
    clear HAP x1 x2 iap j2a j2b
    have HAP := HAPn
    clear HAPn
    obtain ⟨P10, hP10, hbP, hx⟩ := enter1 Q9 (.cells #[.bool ge, .slice gea gen gek, .int .i64 gee, .bool gf, .slice gfa gfn gfk, .int .i64 gfe] 33)
    have stp := bl_trans8 hb hbP
    replace HS := hide (block_upW stp HS.out)
    replace HR := hide (block_upW stp HR.out)
    replace HP := hide (block_upW stp HP.out)
    replace HQ := hide (block_upW stp HQ.out)
    replace HM := hide (block_upW stp HM.out)
    replace HN := hide (block_upW stp HN.out)
    replace HGA9 := hide (block_upW stp HGA9.out)
    replace HGC9 := hide (block_upW stp HGC9.out)
    replace HT := hide (HT.out.below stp)
    replace HA0 := hide (HA0.out.below stp)
    replace HA1 := hide (HA1.out.below stp)
    replace HA2 := hide (HA2.out.below stp)
    replace HA3 := hide (HA3.out.below stp)
    replace HL1 := hide (HL1.out.below stp)
    replace HL2 := hide (HL2.out.below stp)
    replace HL3 := hide (HL3.out.below stp)
    replace HL4 := hide (HL4.out.below stp)
    replace HL5 := hide (HL5.out.below stp)
    replace HL6 := hide (HL6.out.below stp)
    replace HL7 := hide (HL7.out.below stp)
    replace HL8 := hide (HL8.out.below stp)
    replace HMv := hide (HMv.out.below stp)
    replace HNv := hide (HNv.out.below stp)
    replace HOv := hide (HOv.out.below stp)
    replace HTv := hide (HTv.out.below stp)
    replace HVga := hide (HVga.out.below stp)
    replace HVgc := hide (HVgc.out.below stp)
    replace HW := hid_below HW stp
    replace HBB := hid_below HBB stp
    have HVge := hide (hs.below hbP)
    have HGE9 := hide hx
    replace HAP := hide (HAP.out.below hbP)
    clear stp hbP hx hb hs
    have fo := fltOf2_any b0 px pcx z0 e0 b1 py pcy z1 e1 b2 qx qcx z2 e2 b3 qy qcy z3 e3 L P10 HL3.out HL4.out HL7.out HL8.out s0 s1 s2 s3 LL.out
    rw [EV0.out, EV1.out, EV2.out, EV3.out, EF.out, EG.out] at fo
    rw [EH.out] at fo
    obtain ⟨ca0, ca1, ca2, ca3, ca4, ca5, ca6, ca7⟩ := octa HP.out
    obtain ⟨cb0, cb1, cb2, cb3, cb4, cb5, cb6, cb7⟩ := octa HQ.out
    have C := smeet_any b0 px z0.length pcx e0 b1 py z1.length pcy e1 b2 qx z2.length qcx e2 b3 qy z3.length qcy e3 H L V0 V1 V2 V3 P10 fo (fun h => ⟨⟨⟨z0, rfl, HL3.out, s0, (FITS.out h).1.1, EV0.out⟩, ⟨z1, rfl, HL4.out, s1, (FITS.out h).1.2.1, EV1.out⟩, ⟨z2, rfl, HL7.out, s2, (FITS.out h).1.2.2.1, EV2.out⟩, ⟨z3, rfl, HL8.out, s3, (FITS.out h).1.2.2.2, EV3.out⟩⟩, (FITS.out h).2⟩) HT.out LL.out
    rw [EMF.out] at C
    go_wp2_with fail
    refine C.mono ?_
    rintro e Q11 ⟨⟨gx, gxa, gxn, gxk, gxe, gy, gya, gyn, gyk, gye, gxc, rfl, hs⟩, hb⟩
    clear C ca0 ca1 ca2 ca3 ca4 ca5 ca6 ca7 cb0 cb1 cb2 cb3 cb4 cb5 cb6 cb7 hP10 fo
    obtain ⟨r1, r2, x1, x2, j3a, j3b, iap⟩ := hs.lists
    have HAPn := hide (HAP.out.two10 hb HBB.out.size x1 x2 iap)
    have JL3 := hide (And.intro j3a j3b)
    clear HAP x1 x2 iap j3a j3b
    have HAP := HAPn
    clear HAPn
    obtain ⟨P12, hP12, hbP, hx⟩ := enter1 Q11 (.cells #[.bool gx, .slice gxa gxn gxk, .int .i64 gxe, .bool gy, .slice gya gyn gyk, .int .i64 gye] 33)
    have stp := bl_trans8 hb hbP
    replace HS := hide (block_upW stp HS.out)
    replace HR := hide (block_upW stp HR.out)
    replace HP := hide (block_upW stp HP.out)
    replace HQ := hide (block_upW stp HQ.out)
    replace HM := hide (block_upW stp HM.out)
    replace HN := hide (block_upW stp HN.out)
    replace HGA9 := hide (block_upW stp HGA9.out)
    replace HGC9 := hide (block_upW stp HGC9.out)
    replace HGE9 := hide (block_upW stp HGE9.out)
    replace HT := hide (HT.out.below stp)
    replace HA0 := hide (HA0.out.below stp)
    replace HA1 := hide (HA1.out.below stp)
    replace HA2 := hide (HA2.out.below stp)
    replace HA3 := hide (HA3.out.below stp)
    replace HL1 := hide (HL1.out.below stp)
    replace HL2 := hide (HL2.out.below stp)
    replace HL3 := hide (HL3.out.below stp)
    replace HL4 := hide (HL4.out.below stp)
    replace HL5 := hide (HL5.out.below stp)
    replace HL6 := hide (HL6.out.below stp)
    replace HL7 := hide (HL7.out.below stp)
    replace HL8 := hide (HL8.out.below stp)
    replace HMv := hide (HMv.out.below stp)
    replace HNv := hide (HNv.out.below stp)
    replace HOv := hide (HOv.out.below stp)
    replace HTv := hide (HTv.out.below stp)
    replace HVga := hide (HVga.out.below stp)
    replace HVgc := hide (HVgc.out.below stp)
    replace HVge := hide (HVge.out.below stp)
    replace HW := hid_below HW stp
    replace HBB := hid_below HBB stp
    have HVgx := hide (hs.below hbP)
    have HGX9 := hide hx
    replace HAP := hide (HAP.out.below hbP)
    clear stp hbP hx hb hs
    obtain ⟨ca0, ca1, ca2, ca3, ca4, ca5⟩ := hexa HM.out
    obtain ⟨cb0, cb1, cb2, cb3, cb4, cb5⟩ := hexa HN.out
    have C := rmeetV m ma mn mk me n na nn nk ne o oa on ok oe t ta tn tk te L W0 W1 W2 W3 P12 HMv.out HNv.out HOv.out HTv.out
    obtain ⟨DA, hDA⟩ : ∃ D, decide (max W0 W2 ≤ min W1 W3) = D := ⟨_, rfl⟩
    rw [hDA] at C
    have EDA := hide hDA
    clear hDA
    go_wp2_with fail
    refine C.mono ?_
    rintro e Q13 ⟨⟨f, fa, fn, fk, fe, l, la, ln, lk, le, rfl, hv1, hv2⟩, hb⟩
    clear C ca0 ca1 ca2 ca3 ca4 ca5 cb0 cb1 cb2 cb3 cb4 cb5 hP12
    obtain ⟨P14, hP14, hbP, hx⟩ := enter1 Q13 (.cells #[.bool f, .slice fa fn fk, .int .i64 fe, .bool l, .slice la ln lk, .int .i64 le] 47)
    have stp := bl_trans8 hb hbP
    replace HS := hide (block_upW stp HS.out)
    replace HR := hide (block_upW stp HR.out)
    replace HP := hide (block_upW stp HP.out)
    replace HQ := hide (block_upW stp HQ.out)
    replace HM := hide (block_upW stp HM.out)
    replace HN := hide (block_upW stp HN.out)
    replace HGA9 := hide (block_upW stp HGA9.out)
    replace HGC9 := hide (block_upW stp HGC9.out)
    replace HGE9 := hide (block_upW stp HGE9.out)
    replace HGX9 := hide (block_upW stp HGX9.out)
    replace HT := hide (HT.out.below stp)
    replace HA0 := hide (HA0.out.below stp)
    replace HA1 := hide (HA1.out.below stp)
    replace HA2 := hide (HA2.out.below stp)
    replace HA3 := hide (HA3.out.below stp)
    replace HL1 := hide (HL1.out.below stp)
    replace HL2 := hide (HL2.out.below stp)
    replace HL3 := hide (HL3.out.below stp)
    replace HL4 := hide (HL4.out.below stp)
    replace HL5 := hide (HL5.out.below stp)
    replace HL6 := hide (HL6.out.below stp)
    replace HL7 := hide (HL7.out.below stp)
    replace HL8 := hide (HL8.out.below stp)
    replace HMv := hide (HMv.out.below stp)
    replace HNv := hide (HNv.out.below stp)
    replace HOv := hide (HOv.out.below stp)
    replace HTv := hide (HTv.out.below stp)
    replace HVga := hide (HVga.out.below stp)
    replace HVgc := hide (HVgc.out.below stp)
    replace HVge := hide (HVge.out.below stp)
    replace HVgx := hide (HVgx.out.below stp)
    replace HAP := hide (HAP.out.below stp)
    replace HW := hid_below HW stp
    replace HBB := hid_below HBB stp
    have HFv := hide (hv1.below hbP)
    have HLv := hide (hv2.below hbP)
    have HF := hide hx
    clear stp hbP hx hb hv1 hv2
    obtain ⟨BB, hBB⟩ : ∃ x, (decide (H = 0) && !DA) = x := ⟨_, rfl⟩
    have EBT : Hid (BB = true → MF = 103) := hide (fun h => by
      rw [← hBB] at h
      simp only [Bool.and_eq_true, decide_eq_true_eq, Bool.not_eq_true'] at h
      obtain ⟨h0, hd⟩ := h
      obtain ⟨q0, q1, q2, q3⟩ := EWV.out h0
      rw [hd] at EDA
      have g := of_decide_eq_false EDA.out
      rw [← EMF.out, if_pos h0, if_pos (by omega)])
    have EBF : Hid (BB = false → H = MF) := hide (fun h => by
      rw [← hBB] at h
      by_cases h0 : H = 0
      · rw [decide_eq_true h0, Bool.true_and] at h
        have hd : DA = true := by simpa using h
        obtain ⟨q0, q1, q2, q3⟩ := EWV.out h0
        rw [hd] at EDA
        have g := of_decide_eq_true EDA.out
        rw [← EMF.out, if_pos h0, if_neg (by omega), h0]
      · rw [← EMF.out, if_neg h0])
    have EBB := hide hBB
    clear hBB
    go_upto_region 11 with fail
    go_cut [85] from 80 to 84 (fun s wx => s = .bool BB ∧ wx = P14)
    case first =>
      by_cases h0 : H = 0
      · have i1 : (H == 0) = true := by rw [h0]; rfl
        have i2 := EBB.out
        rw [decide_eq_true h0, Bool.true_and] at i2
        have HI := hide i2
        clear h0 i2
        go_wp2_with fail
        go_meet
        exact ⟨by rw [HI.out], rfl⟩
      · have i1 : (H == 0) = false := by rw [beq_eq_false_iff_ne]; exact h0
        have i2 := EBB.out
        rw [decide_eq_false h0, Bool.false_and] at i2
        have HI := hide i2
        clear h0 i2
        go_wp2_with fail
        go_meet
        exact ⟨by rw [HI.out], rfl⟩
    case rest =>
      obtain ⟨rfl, hwc⟩ := hcut
      rw [hwc]
      clear hwc
      go_upto_if 85 with fail
      go_cut [22] from 85 to 85 (fun s wx => s = .int .i64 MF ∧ wx = P14)
      case first =>
        cases hBB : BB
        · have HM0 := hide (EBF.out hBB)
          clear hBB
          go_wp2_with fail
          go_meet
          exact ⟨by rw [HM0.out], rfl⟩
        · have HM0 := hide (EBT.out hBB)
          clear hBB
          go_wp2_with fail
          go_meet
          exact ⟨by rw [HM0.out], rfl⟩
      case rest =>
        obtain ⟨rfl, hwc⟩ := hcut
        rw [hwc]
        clear hwc
        obtain ⟨LST, hLST⟩ : ∃ lst0 : List (Nat × Obj), [(Q5.heap.size, .cells #[.bool ga, .slice gaa gan gak, .int .i64 gae, .bool gb, .slice gba gbn gbk, .int .i64 gbe] 33), (Q7.heap.size, .cells #[.bool gc, .slice gca gcn gck, .int .i64 gce, .bool gd, .slice gda gdn gdk, .int .i64 gde] 33), (Q9.heap.size, .cells #[.bool ge, .slice gea gen gek, .int .i64 gee, .bool gf, .slice gfa gfn gfk, .int .i64 gfe] 33), (Q11.heap.size, .cells #[.bool gx, .slice gxa gxn gxk, .int .i64 gxe, .bool gy, .slice gya gyn gyk, .int .i64 gye] 33), (Q1.heap.size, .cells #[.bool m, .slice ma mn mk, .int .i64 me, .bool n, .slice na nn nk, .int .i64 ne] 47), (Q3.heap.size, .cells #[.bool o, .slice oa on ok, .int .i64 oe, .bool t, .slice ta tn tk, .int .i64 te] 47), (Q13.heap.size, .cells #[.bool f, .slice fa fn fk, .int .i64 fe, .bool l, .slice la ln lk, .int .i64 le] 47), (gp, .cells #[.slice pu pmu pnu, .slice pv pmv pnv, .bool b0, .slice px z0.length pcx, .int .i64 e0, .bool b1, .slice py z1.length pcy, .int .i64 e1] 35), (gq, .cells #[.slice qu qmu qnu, .slice qv qmv qnv, .bool b2, .slice qx z2.length qcx, .int .i64 e2, .bool b3, .slice qy z3.length qcy, .int .i64 e3] 35), (w.heap.size, .cells #[.bool b0, .slice a0 z0.length k0, .int .i64 e0, .bool b1, .slice a1 z1.length k1, .int .i64 e1] 26), (w.heap.size + 1, .cells #[.bool b2, .slice a2 z2.length k2, .int .i64 e2, .bool b3, .slice a3 z3.length k3, .int .i64 e3] 26)] = lst0 := ⟨_, rfl⟩
        have KS := hide (fun (W : World) (h : Bx W LST) => show W.cell? ⟨Q5.heap.size, 0, none⟩ = some (.bool ga) ∧ W.cell? ⟨Q5.heap.size, 1, none⟩ = some (.slice gaa gan gak) ∧ W.cell? ⟨Q5.heap.size, 2, none⟩ = some (.int .i64 gae) ∧ W.cell? ⟨Q5.heap.size, 3, none⟩ = some (.bool gb) ∧ W.cell? ⟨Q5.heap.size, 4, none⟩ = some (.slice gba gbn gbk) ∧ W.cell? ⟨Q5.heap.size, 5, none⟩ = some (.int .i64 gbe) ∧ W.cell? ⟨Q7.heap.size, 0, none⟩ = some (.bool gc) ∧ W.cell? ⟨Q7.heap.size, 1, none⟩ = some (.slice gca gcn gck) ∧ W.cell? ⟨Q7.heap.size, 2, none⟩ = some (.int .i64 gce) ∧ W.cell? ⟨Q7.heap.size, 3, none⟩ = some (.bool gd) ∧ W.cell? ⟨Q7.heap.size, 4, none⟩ = some (.slice gda gdn gdk) ∧ W.cell? ⟨Q7.heap.size, 5, none⟩ = some (.int .i64 gde) ∧ W.cell? ⟨Q9.heap.size, 0, none⟩ = some (.bool ge) ∧ W.cell? ⟨Q9.heap.size, 1, none⟩ = some (.slice gea gen gek) ∧ W.cell? ⟨Q9.heap.size, 2, none⟩ = some (.int .i64 gee) ∧ W.cell? ⟨Q9.heap.size, 3, none⟩ = some (.bool gf) ∧ W.cell? ⟨Q9.heap.size, 4, none⟩ = some (.slice gfa gfn gfk) ∧ W.cell? ⟨Q9.heap.size, 5, none⟩ = some (.int .i64 gfe) ∧ W.cell? ⟨Q11.heap.size, 0, none⟩ = some (.bool gx) ∧ W.cell? ⟨Q11.heap.size, 1, none⟩ = some (.slice gxa gxn gxk) ∧ W.cell? ⟨Q11.heap.size, 2, none⟩ = some (.int .i64 gxe) ∧ W.cell? ⟨Q11.heap.size, 3, none⟩ = some (.bool gy) ∧ W.cell? ⟨Q11.heap.size, 4, none⟩ = some (.slice gya gyn gyk) ∧ W.cell? ⟨Q11.heap.size, 5, none⟩ = some (.int .i64 gye) ∧ W.cell? ⟨Q1.heap.size, 0, none⟩ = some (.bool m) ∧ W.cell? ⟨Q1.heap.size, 1, none⟩ = some (.slice ma mn mk) ∧ W.cell? ⟨Q1.heap.size, 2, none⟩ = some (.int .i64 me) ∧ W.cell? ⟨Q1.heap.size, 3, none⟩ = some (.bool n) ∧ W.cell? ⟨Q1.heap.size, 4, none⟩ = some (.slice na nn nk) ∧ W.cell? ⟨Q1.heap.size, 5, none⟩ = some (.int .i64 ne) ∧ W.cell? ⟨Q3.heap.size, 0, none⟩ = some (.bool o) ∧ W.cell? ⟨Q3.heap.size, 1, none⟩ = some (.slice oa on ok) ∧ W.cell? ⟨Q3.heap.size, 2, none⟩ = some (.int .i64 oe) ∧ W.cell? ⟨Q3.heap.size, 3, none⟩ = some (.bool t) ∧ W.cell? ⟨Q3.heap.size, 4, none⟩ = some (.slice ta tn tk) ∧ W.cell? ⟨Q3.heap.size, 5, none⟩ = some (.int .i64 te) ∧ W.cell? ⟨Q13.heap.size, 0, none⟩ = some (.bool f) ∧ W.cell? ⟨Q13.heap.size, 1, none⟩ = some (.slice fa fn fk) ∧ W.cell? ⟨Q13.heap.size, 2, none⟩ = some (.int .i64 fe) ∧ W.cell? ⟨Q13.heap.size, 3, none⟩ = some (.bool l) ∧ W.cell? ⟨Q13.heap.size, 4, none⟩ = some (.slice la ln lk) ∧ W.cell? ⟨Q13.heap.size, 5, none⟩ = some (.int .i64 le) ∧ W.cell? ⟨gp, 0, none⟩ = some (.slice pu pmu pnu) ∧ W.cell? ⟨gp, 1, none⟩ = some (.slice pv pmv pnv) ∧ W.cell? ⟨gp, 2, none⟩ = some (.bool b0) ∧ W.cell? ⟨gp, 3, none⟩ = some (.slice px z0.length pcx) ∧ W.cell? ⟨gp, 4, none⟩ = some (.int .i64 e0) ∧ W.cell? ⟨gp, 5, none⟩ = some (.bool b1) ∧ W.cell? ⟨gp, 6, none⟩ = some (.slice py z1.length pcy) ∧ W.cell? ⟨gp, 7, none⟩ = some (.int .i64 e1) ∧ W.cell? ⟨gq, 0, none⟩ = some (.slice qu qmu qnu) ∧ W.cell? ⟨gq, 1, none⟩ = some (.slice qv qmv qnv) ∧ W.cell? ⟨gq, 2, none⟩ = some (.bool b2) ∧ W.cell? ⟨gq, 3, none⟩ = some (.slice qx z2.length qcx) ∧ W.cell? ⟨gq, 4, none⟩ = some (.int .i64 e2) ∧ W.cell? ⟨gq, 5, none⟩ = some (.bool b3) ∧ W.cell? ⟨gq, 6, none⟩ = some (.slice qy z3.length qcy) ∧ W.cell? ⟨gq, 7, none⟩ = some (.int .i64 e3) ∧ W.cell? ⟨w.heap.size, 0, none⟩ = some (.bool b0) ∧ W.cell? ⟨w.heap.size, 1, none⟩ = some (.slice a0 z0.length k0) ∧ W.cell? ⟨w.heap.size, 2, none⟩ = some (.int .i64 e0) ∧ W.cell? ⟨w.heap.size, 3, none⟩ = some (.bool b1) ∧ W.cell? ⟨w.heap.size, 4, none⟩ = some (.slice a1 z1.length k1) ∧ W.cell? ⟨w.heap.size, 5, none⟩ = some (.int .i64 e1) ∧ W.cell? ⟨w.heap.size + 1, 0, none⟩ = some (.bool b2) ∧ W.cell? ⟨w.heap.size + 1, 1, none⟩ = some (.slice a2 z2.length k2) ∧ W.cell? ⟨w.heap.size + 1, 2, none⟩ = some (.int .i64 e2) ∧ W.cell? ⟨w.heap.size + 1, 3, none⟩ = some (.bool b3) ∧ W.cell? ⟨w.heap.size + 1, 4, none⟩ = some (.slice a3 z3.length k3) ∧ W.cell? ⟨w.heap.size + 1, 5, none⟩ = some (.int .i64 e3) from (by
          rw [← hLST] at h
          obtain ⟨x0_0, x0_1, x0_2, x0_3, x0_4, x0_5⟩ := hexa (h 0 _ _ rfl)
          obtain ⟨x1_0, x1_1, x1_2, x1_3, x1_4, x1_5⟩ := hexa (h 1 _ _ rfl)
          obtain ⟨x2_0, x2_1, x2_2, x2_3, x2_4, x2_5⟩ := hexa (h 2 _ _ rfl)
          obtain ⟨x3_0, x3_1, x3_2, x3_3, x3_4, x3_5⟩ := hexa (h 3 _ _ rfl)
          obtain ⟨x4_0, x4_1, x4_2, x4_3, x4_4, x4_5⟩ := hexa (h 4 _ _ rfl)
          obtain ⟨x5_0, x5_1, x5_2, x5_3, x5_4, x5_5⟩ := hexa (h 5 _ _ rfl)
          obtain ⟨x6_0, x6_1, x6_2, x6_3, x6_4, x6_5⟩ := hexa (h 6 _ _ rfl)
          obtain ⟨x7_0, x7_1, x7_2, x7_3, x7_4, x7_5, x7_6, x7_7⟩ := octa (h 7 _ _ rfl)
          obtain ⟨x8_0, x8_1, x8_2, x8_3, x8_4, x8_5, x8_6, x8_7⟩ := octa (h 8 _ _ rfl)
          obtain ⟨x9_0, x9_1, x9_2, x9_3, x9_4, x9_5⟩ := hexa (h 9 _ _ rfl)
          obtain ⟨x10_0, x10_1, x10_2, x10_3, x10_4, x10_5⟩ := hexa (h 10 _ _ rfl)
          exact ⟨x0_0, x0_1, x0_2, x0_3, x0_4, x0_5, x1_0, x1_1, x1_2, x1_3, x1_4, x1_5, x2_0, x2_1, x2_2, x2_3, x2_4, x2_5, x3_0, x3_1, x3_2, x3_3, x3_4, x3_5, x4_0, x4_1, x4_2, x4_3, x4_4, x4_5, x5_0, x5_1, x5_2, x5_3, x5_4, x5_5, x6_0, x6_1, x6_2, x6_3, x6_4, x6_5, x7_0, x7_1, x7_2, x7_3, x7_4, x7_5, x7_6, x7_7, x8_0, x8_1, x8_2, x8_3, x8_4, x8_5, x8_6, x8_7, x9_0, x9_1, x9_2, x9_3, x9_4, x9_5, x10_0, x10_1, x10_2, x10_3, x10_4, x10_5⟩))
        have HPL : Hid ((LST.all fun p => plainBox p.2) = true) := hide (by rw [← hLST]; rfl)
        have b0x : Bx P14 LST := by rw [← hLST]; exact Bx.cons HGA9.out (Bx.cons HGC9.out (Bx.cons HGE9.out (Bx.cons HGX9.out (Bx.cons HM.out (Bx.cons HN.out (Bx.cons HF.out (Bx.cons HP.out (Bx.cons HQ.out (Bx.cons HS.out (Bx.cons HR.out (Bx.nil _)))))))))))
        clear hLST
        go_upto_region 13 with fail
        refine wp_region_held_drew (S := fun w' => w'.cell? ⟨Q5.heap.size, 0, none⟩ = some (.bool ga) ∧ w'.cell? ⟨Q5.heap.size, 1, none⟩ = some (.slice gaa gan gak) ∧ w'.cell? ⟨Q5.heap.size, 2, none⟩ = some (.int .i64 gae) ∧ w'.cell? ⟨Q5.heap.size, 3, none⟩ = some (.bool gb) ∧ w'.cell? ⟨Q5.heap.size, 4, none⟩ = some (.slice gba gbn gbk) ∧ w'.cell? ⟨Q5.heap.size, 5, none⟩ = some (.int .i64 gbe) ∧ w'.cell? ⟨Q7.heap.size, 0, none⟩ = some (.bool gc) ∧ w'.cell? ⟨Q7.heap.size, 1, none⟩ = some (.slice gca gcn gck) ∧ w'.cell? ⟨Q7.heap.size, 2, none⟩ = some (.int .i64 gce) ∧ w'.cell? ⟨Q7.heap.size, 3, none⟩ = some (.bool gd) ∧ w'.cell? ⟨Q7.heap.size, 4, none⟩ = some (.slice gda gdn gdk) ∧ w'.cell? ⟨Q7.heap.size, 5, none⟩ = some (.int .i64 gde) ∧ w'.cell? ⟨Q9.heap.size, 0, none⟩ = some (.bool ge) ∧ w'.cell? ⟨Q9.heap.size, 1, none⟩ = some (.slice gea gen gek) ∧ w'.cell? ⟨Q9.heap.size, 2, none⟩ = some (.int .i64 gee) ∧ w'.cell? ⟨Q9.heap.size, 3, none⟩ = some (.bool gf) ∧ w'.cell? ⟨Q9.heap.size, 4, none⟩ = some (.slice gfa gfn gfk) ∧ w'.cell? ⟨Q9.heap.size, 5, none⟩ = some (.int .i64 gfe) ∧ w'.cell? ⟨Q11.heap.size, 0, none⟩ = some (.bool gx) ∧ w'.cell? ⟨Q11.heap.size, 1, none⟩ = some (.slice gxa gxn gxk) ∧ w'.cell? ⟨Q11.heap.size, 2, none⟩ = some (.int .i64 gxe) ∧ w'.cell? ⟨Q11.heap.size, 3, none⟩ = some (.bool gy) ∧ w'.cell? ⟨Q11.heap.size, 4, none⟩ = some (.slice gya gyn gyk) ∧ w'.cell? ⟨Q11.heap.size, 5, none⟩ = some (.int .i64 gye) ∧ w'.cell? ⟨Q1.heap.size, 0, none⟩ = some (.bool m) ∧ w'.cell? ⟨Q1.heap.size, 1, none⟩ = some (.slice ma mn mk) ∧ w'.cell? ⟨Q1.heap.size, 2, none⟩ = some (.int .i64 me) ∧ w'.cell? ⟨Q1.heap.size, 3, none⟩ = some (.bool n) ∧ w'.cell? ⟨Q1.heap.size, 4, none⟩ = some (.slice na nn nk) ∧ w'.cell? ⟨Q1.heap.size, 5, none⟩ = some (.int .i64 ne) ∧ w'.cell? ⟨Q3.heap.size, 0, none⟩ = some (.bool o) ∧ w'.cell? ⟨Q3.heap.size, 1, none⟩ = some (.slice oa on ok) ∧ w'.cell? ⟨Q3.heap.size, 2, none⟩ = some (.int .i64 oe) ∧ w'.cell? ⟨Q3.heap.size, 3, none⟩ = some (.bool t) ∧ w'.cell? ⟨Q3.heap.size, 4, none⟩ = some (.slice ta tn tk) ∧ w'.cell? ⟨Q3.heap.size, 5, none⟩ = some (.int .i64 te) ∧ w'.cell? ⟨Q13.heap.size, 0, none⟩ = some (.bool f) ∧ w'.cell? ⟨Q13.heap.size, 1, none⟩ = some (.slice fa fn fk) ∧ w'.cell? ⟨Q13.heap.size, 2, none⟩ = some (.int .i64 fe) ∧ w'.cell? ⟨Q13.heap.size, 3, none⟩ = some (.bool l) ∧ w'.cell? ⟨Q13.heap.size, 4, none⟩ = some (.slice la ln lk) ∧ w'.cell? ⟨Q13.heap.size, 5, none⟩ = some (.int .i64 le) ∧ w'.cell? ⟨gp, 0, none⟩ = some (.slice pu pmu pnu) ∧ w'.cell? ⟨gp, 1, none⟩ = some (.slice pv pmv pnv) ∧ w'.cell? ⟨gp, 2, none⟩ = some (.bool b0) ∧ w'.cell? ⟨gp, 3, none⟩ = some (.slice px z0.length pcx) ∧ w'.cell? ⟨gp, 4, none⟩ = some (.int .i64 e0) ∧ w'.cell? ⟨gp, 5, none⟩ = some (.bool b1) ∧ w'.cell? ⟨gp, 6, none⟩ = some (.slice py z1.length pcy) ∧ w'.cell? ⟨gp, 7, none⟩ = some (.int .i64 e1) ∧ w'.cell? ⟨gq, 0, none⟩ = some (.slice qu qmu qnu) ∧ w'.cell? ⟨gq, 1, none⟩ = some (.slice qv qmv qnv) ∧ w'.cell? ⟨gq, 2, none⟩ = some (.bool b2) ∧ w'.cell? ⟨gq, 3, none⟩ = some (.slice qx z2.length qcx) ∧ w'.cell? ⟨gq, 4, none⟩ = some (.int .i64 e2) ∧ w'.cell? ⟨gq, 5, none⟩ = some (.bool b3) ∧ w'.cell? ⟨gq, 6, none⟩ = some (.slice qy z3.length qcy) ∧ w'.cell? ⟨gq, 7, none⟩ = some (.int .i64 e3) ∧ w'.cell? ⟨w.heap.size, 0, none⟩ = some (.bool b0) ∧ w'.cell? ⟨w.heap.size, 1, none⟩ = some (.slice a0 z0.length k0) ∧ w'.cell? ⟨w.heap.size, 2, none⟩ = some (.int .i64 e0) ∧ w'.cell? ⟨w.heap.size, 3, none⟩ = some (.bool b1) ∧ w'.cell? ⟨w.heap.size, 4, none⟩ = some (.slice a1 z1.length k1) ∧ w'.cell? ⟨w.heap.size, 5, none⟩ = some (.int .i64 e1) ∧ w'.cell? ⟨w.heap.size + 1, 0, none⟩ = some (.bool b2) ∧ w'.cell? ⟨w.heap.size + 1, 1, none⟩ = some (.slice a2 z2.length k2) ∧ w'.cell? ⟨w.heap.size + 1, 2, none⟩ = some (.int .i64 e2) ∧ w'.cell? ⟨w.heap.size + 1, 3, none⟩ = some (.bool b3) ∧ w'.cell? ⟨w.heap.size + 1, 4, none⟩ = some (.slice a3 z3.length k3) ∧ w'.cell? ⟨w.heap.size + 1, 5, none⟩ = some (.int .i64 e3)) (by kernel_rfl) (KS.out _ (b0x.drew)) (fun hHeld0 => ?_)
        obtain ⟨UD, hUD⟩ : ∃ x, P14.drew = x := ⟨_, rfl⟩
        have bUD : Bx UD LST := by rw [← hUD]; exact (b0x.drew)
        have hb : Below P14.heap.size P14 UD := by rw [← hUD]; exact bl_drew10 (Below.refl _ _)
        rw [hUD] at hHeld0 ⊢
        clear hUD
        replace HT := hide (HT.out.below hb)
        replace HA0 := hide (HA0.out.below hb)
        replace HA1 := hide (HA1.out.below hb)
        replace HA2 := hide (HA2.out.below hb)
        replace HA3 := hide (HA3.out.below hb)
        replace HL1 := hide (HL1.out.below hb)
        replace HL2 := hide (HL2.out.below hb)
        replace HL3 := hide (HL3.out.below hb)
        replace HL4 := hide (HL4.out.below hb)
        replace HL5 := hide (HL5.out.below hb)
        replace HL6 := hide (HL6.out.below hb)
        replace HL7 := hide (HL7.out.below hb)
        replace HL8 := hide (HL8.out.below hb)
        replace HMv := hide (HMv.out.below hb)
        replace HNv := hide (HNv.out.below hb)
        replace HOv := hide (HOv.out.below hb)
        replace HTv := hide (HTv.out.below hb)
        replace HVga := hide (HVga.out.below hb)
        replace HVgc := hide (HVgc.out.below hb)
        replace HVge := hide (HVge.out.below hb)
        replace HVgx := hide (HVgx.out.below hb)
        replace HAP := hide (HAP.out.below hb)
        replace HFv := hide (HFv.out.below hb)
        replace HLv := hide (HLv.out.below hb)
        replace HW := hid_below HW hb
        replace HBB := hid_below HBB hb
        clear hb
        refine wpAnyH_take (i := 0) (oi := { dst := some 86, op := Op.load 33 (Operand.tmp 12), type := 33, pos := "law.go:183", after := #[], guard := none }) (v := .agg #[.bool ga, .slice gaa gan gak, .int .i64 gae, .bool gb, .slice gba gbn gbk, .int .i64 gbe]) rfl (by kernel_rfl) (by kernel_rfl) (by kernel_rfl) (fun _ _ _ h => h) (Or.inl ⟨by rfl, fun w9 hSw => ?_⟩) hHeld0 ?_
        · (try dsimp only at hSw); go_simp
        try simp only [Act.put, List.setIfInBounds_toArray, List.set_cons_zero, List.set_cons_succ]
        refine wpAnyH_take (i := 1) (oi := { dst := some 87, op := Op.move (Operand.tmp 13), type := 37, pos := "law.go:183", after := #[], guard := none }) (v := .int .i64 gac) rfl (by kernel_rfl) (by kernel_rfl) (by kernel_rfl) (fun _ _ _ h => h) (Or.inl ⟨by rfl, fun w9 hSw => ?_⟩) hHeld0 ?_
        · (try dsimp only at hSw); go_simp
        try simp only [Act.put, List.setIfInBounds_toArray, List.set_cons_zero, List.set_cons_succ]
        refine wpAnyH_take (i := 2) (oi := { dst := some 88, op := Op.load 47 (Operand.tmp 7), type := 47, pos := "law.go:183", after := #[], guard := none }) (v := .agg #[.bool m, .slice ma mn mk, .int .i64 me, .bool n, .slice na nn nk, .int .i64 ne]) rfl (by kernel_rfl) (by kernel_rfl) (by kernel_rfl) (fun _ _ _ h => h) (Or.inl ⟨by rfl, fun w9 hSw => ?_⟩) hHeld0 ?_
        · (try dsimp only at hSw); go_simp
        try simp only [Act.put, List.setIfInBounds_toArray, List.set_cons_zero, List.set_cons_succ]
        refine wpAnyH_take (i := 3) (oi := { dst := some 89, op := Op.load 47 (Operand.tmp 9), type := 47, pos := "law.go:183", after := #[], guard := none }) (v := .agg #[.bool o, .slice oa on ok, .int .i64 oe, .bool t, .slice ta tn tk, .int .i64 te]) rfl (by kernel_rfl) (by kernel_rfl) (by kernel_rfl) (fun _ _ _ h => h) (Or.inl ⟨by rfl, fun w9 hSw => ?_⟩) hHeld0 ?_
        · (try dsimp only at hSw); go_simp
        try simp only [Act.put, List.setIfInBounds_toArray, List.set_cons_zero, List.set_cons_succ]
        refine wpAnyH_take (i := 5) (oi := { dst := some 91, op := Op.move (Operand.tmp 11), type := 3, pos := "law.go:183", after := #[], guard := none }) (v := .int .i64 H) rfl (by kernel_rfl) (by kernel_rfl) (by kernel_rfl) (fun _ _ _ h => h) (Or.inl ⟨by rfl, fun w9 hSw => ?_⟩) hHeld0 ?_
        · (try dsimp only at hSw); go_simp
        try simp only [Act.put, List.setIfInBounds_toArray, List.set_cons_zero, List.set_cons_succ]
        refine wpAnyH_ready (rs := [4]) (by kernel_rfl) (by simp) ?_
        refine AllReadyH.cons rfl (fun K hK => ?_) AllReadyH.nil
        go_simp
        refine (rminV m ma mn mk me n na nn nk ne o oa on ok oe t ta tn tk te L W0 W1 W2 W3 UD (HMv.out.below (Below.refl _ _)) (HNv.out.below (Below.refl _ _)) (HOv.out.below (Below.refl _ _)) (HTv.out.below (Below.refl _ _))).mono ?_
        rintro e' T1 ⟨⟨kga, kgaa, kgan, kgak, kgae, kgb, kgba, kgbn, kgbk, kgbe, rfl, hv1T1, hv2T1⟩, hbT1⟩
        have bT1 := bUD.below hbT1
        refine hK.out _ _ (KS.out _ bT1) (fun hHeld1 => ?_)
        clear hK K
        try simp only [Act.put, List.setIfInBounds_toArray, List.set_cons_zero, List.set_cons_succ]
        refine wpAnyH_ready (rs := [6]) (by kernel_rfl) (by simp) ?_
        refine AllReadyH.cons rfl (fun K hK => ?_) AllReadyH.nil
        go_simp
        refine (alikeV ga gaa gan gak gae gb gba gbn gbk gbe gac H kga kgaa kgan kgak kgae kgb kgba kgbn kgbk kgbe L (min V0 V2) (min V1 V3) _ T1 (HVga.out.below hbT1) (fun h => by obtain ⟨q0, q1, q2, q3⟩ := EWV.out h; rw [← q0, ← q2]; exact hv1T1) (fun h => by obtain ⟨q0, q1, q2, q3⟩ := EWV.out h; rw [← q1, ← q3]; exact hv2T1)).mono ?_
        rintro e' T2 ⟨rfl, hbT2⟩
        have bT2 := bT1.below hbT2
        refine hK.out _ _ (KS.out _ bT2) (fun hHeld2 => ?_)
        clear hK K
        try simp only [Act.put, List.setIfInBounds_toArray, List.set_cons_zero, List.set_cons_succ]
        refine wpAnyH_take (i := 7) (oi := { dst := some 93, op := Op.move (Operand.tmp 92), type := 4, pos := "law.go:183", after := #[{ on := 6, ground := Ground.data }, { on := 6, ground := Ground.chain }], guard := none }) (v := .bool true) rfl (by kernel_rfl) (by kernel_rfl) (by kernel_rfl) (fun _ _ _ h => h) (Or.inl ⟨by rfl, fun w9 hSw => ?_⟩) hHeld2 ?_
        · (try dsimp only at hSw); go_simp
        try simp only [Act.put, List.setIfInBounds_toArray, List.set_cons_zero, List.set_cons_succ]
        refine wpAnyH_take (i := 8) (oi := { dst := some 94, op := Op.load 33 (Operand.tmp 14), type := 33, pos := "law.go:183", after := #[{ on := 7, ground := Ground.guard }], guard := some (7, true) }) (v := .agg #[.bool gc, .slice gca gcn gck, .int .i64 gce, .bool gd, .slice gda gdn gdk, .int .i64 gde]) rfl (by kernel_rfl) (by kernel_rfl) (by kernel_rfl) (fun _ _ _ h => h) (Or.inl ⟨by rfl, fun w9 hSw => ?_⟩) hHeld2 ?_
        · (try dsimp only at hSw); go_simp
        try simp only [Act.put, List.setIfInBounds_toArray, List.set_cons_zero, List.set_cons_succ]
        refine wpAnyH_take (i := 9) (oi := { dst := some 95, op := Op.move (Operand.tmp 15), type := 37, pos := "law.go:183", after := #[{ on := 7, ground := Ground.guard }], guard := some (7, true) }) (v := .int .i64 gcc) rfl (by kernel_rfl) (by kernel_rfl) (by kernel_rfl) (fun _ _ _ h => h) (Or.inl ⟨by rfl, fun w9 hSw => ?_⟩) hHeld2 ?_
        · (try dsimp only at hSw); go_simp
        try simp only [Act.put, List.setIfInBounds_toArray, List.set_cons_zero, List.set_cons_succ]
        refine wpAnyH_take (i := 10) (oi := { dst := some 96, op := Op.load 47 (Operand.tmp 7), type := 47, pos := "law.go:183", after := #[{ on := 7, ground := Ground.guard }], guard := some (7, true) }) (v := .agg #[.bool m, .slice ma mn mk, .int .i64 me, .bool n, .slice na nn nk, .int .i64 ne]) rfl (by kernel_rfl) (by kernel_rfl) (by kernel_rfl) (fun _ _ _ h => h) (Or.inl ⟨by rfl, fun w9 hSw => ?_⟩) hHeld2 ?_
        · (try dsimp only at hSw); go_simp
        try simp only [Act.put, List.setIfInBounds_toArray, List.set_cons_zero, List.set_cons_succ]
        refine wpAnyH_take (i := 11) (oi := { dst := some 97, op := Op.load 47 (Operand.tmp 9), type := 47, pos := "law.go:183", after := #[{ on := 7, ground := Ground.guard }], guard := some (7, true) }) (v := .agg #[.bool o, .slice oa on ok, .int .i64 oe, .bool t, .slice ta tn tk, .int .i64 te]) rfl (by kernel_rfl) (by kernel_rfl) (by kernel_rfl) (fun _ _ _ h => h) (Or.inl ⟨by rfl, fun w9 hSw => ?_⟩) hHeld2 ?_
        · (try dsimp only at hSw); go_simp
        try simp only [Act.put, List.setIfInBounds_toArray, List.set_cons_zero, List.set_cons_succ]
        refine wpAnyH_take (i := 13) (oi := { dst := some 99, op := Op.move (Operand.tmp 11), type := 3, pos := "law.go:183", after := #[{ on := 7, ground := Ground.guard }], guard := some (7, true) }) (v := .int .i64 H) rfl (by kernel_rfl) (by kernel_rfl) (by kernel_rfl) (fun _ _ _ h => h) (Or.inl ⟨by rfl, fun w9 hSw => ?_⟩) hHeld2 ?_
        · (try dsimp only at hSw); go_simp
        try simp only [Act.put, List.setIfInBounds_toArray, List.set_cons_zero, List.set_cons_succ]
        refine wpAnyH_ready (rs := [12]) (by kernel_rfl) (by simp) ?_
        refine AllReadyH.cons rfl (fun K hK => ?_) AllReadyH.nil
        go_simp
        refine (rmaxV m ma mn mk me n na nn nk ne o oa on ok oe t ta tn tk te L W0 W1 W2 W3 T2 (HMv.out.below (bl_trans8 hbT1 hbT2)) (HNv.out.below (bl_trans8 hbT1 hbT2)) (HOv.out.below (bl_trans8 hbT1 hbT2)) (HTv.out.below (bl_trans8 hbT1 hbT2))).mono ?_
        rintro e' T3 ⟨⟨kgc, kgca, kgcn, kgck, kgce, kgd, kgda, kgdn, kgdk, kgde, rfl, hv1T3, hv2T3⟩, hbT3⟩
        have bT3 := bT2.below hbT3
        refine hK.out _ _ (KS.out _ bT3) (fun hHeld3 => ?_)
        clear hK K
        try simp only [Act.put, List.setIfInBounds_toArray, List.set_cons_zero, List.set_cons_succ]
        refine wpAnyH_ready (rs := [14]) (by kernel_rfl) (by simp) ?_
        refine AllReadyH.cons rfl (fun K hK => ?_) AllReadyH.nil
        go_simp
        refine (alikeV gc gca gcn gck gce gd gda gdn gdk gde gcc H kgc kgca kgcn kgck kgce kgd kgda kgdn kgdk kgde L (max V0 V2) (max V1 V3) _ T3 (HVgc.out.below (bl_trans8 (bl_trans8 hbT1 hbT2) hbT3)) (fun h => by obtain ⟨q0, q1, q2, q3⟩ := EWV.out h; rw [← q0, ← q2]; exact hv1T3) (fun h => by obtain ⟨q0, q1, q2, q3⟩ := EWV.out h; rw [← q1, ← q3]; exact hv2T3)).mono ?_
        rintro e' T4 ⟨rfl, hbT4⟩
        have bT4 := bT3.below hbT4
        refine hK.out _ _ (KS.out _ bT4) (fun hHeld4 => ?_)
        clear hK K
        try simp only [Act.put, List.setIfInBounds_toArray, List.set_cons_zero, List.set_cons_succ]
        refine wpAnyH_take (i := 15) (oi := { dst := some 101, op := Op.pick (Operand.tmp 93) (Operand.tmp 100) (Operand.const (Value.bool false)), type := 4, pos := "law.go:183", after := #[{ on := 7, ground := Ground.data }, { on := 14, ground := Ground.data }], guard := none }) (v := .bool true) rfl (by kernel_rfl) (by kernel_rfl) (by kernel_rfl) (fun _ _ _ h => h) (Or.inl ⟨by rfl, fun w9 hSw => ?_⟩) hHeld4 ?_
        · (try dsimp only at hSw); go_simp
        try simp only [Act.put, List.setIfInBounds_toArray, List.set_cons_zero, List.set_cons_succ]
        refine wpAnyH_take (i := 16) (oi := { dst := some 102, op := Op.move (Operand.tmp 101), type := 4, pos := "law.go:183", after := #[{ on := 15, ground := Ground.data }, { on := 14, ground := Ground.chain }], guard := none }) (v := .bool true) rfl (by kernel_rfl) (by kernel_rfl) (by kernel_rfl) (fun _ _ _ h => h) (Or.inl ⟨by rfl, fun w9 hSw => ?_⟩) hHeld4 ?_
        · (try dsimp only at hSw); go_simp
        try simp only [Act.put, List.setIfInBounds_toArray, List.set_cons_zero, List.set_cons_succ]
        refine wpAnyH_take (i := 17) (oi := { dst := some 103, op := Op.load 33 (Operand.tmp 16), type := 33, pos := "law.go:183", after := #[{ on := 16, ground := Ground.guard }], guard := some (16, true) }) (v := .agg #[.bool ge, .slice gea gen gek, .int .i64 gee, .bool gf, .slice gfa gfn gfk, .int .i64 gfe]) rfl (by kernel_rfl) (by kernel_rfl) (by kernel_rfl) (fun _ _ _ h => h) (Or.inl ⟨by rfl, fun w9 hSw => ?_⟩) hHeld4 ?_
        · (try dsimp only at hSw); go_simp
        try simp only [Act.put, List.setIfInBounds_toArray, List.set_cons_zero, List.set_cons_succ]
        refine wpAnyH_take (i := 18) (oi := { dst := some 104, op := Op.move (Operand.tmp 17), type := 37, pos := "law.go:183", after := #[{ on := 16, ground := Ground.guard }], guard := some (16, true) }) (v := .int .i64 gec) rfl (by kernel_rfl) (by kernel_rfl) (by kernel_rfl) (fun _ _ _ h => h) (Or.inl ⟨by rfl, fun w9 hSw => ?_⟩) hHeld4 ?_
        · (try dsimp only at hSw); go_simp
        try simp only [Act.put, List.setIfInBounds_toArray, List.set_cons_zero, List.set_cons_succ]
        refine wpAnyH_take (i := 19) (oi := { dst := some 105, op := Op.load 47 (Operand.tmp 7), type := 47, pos := "law.go:183", after := #[{ on := 16, ground := Ground.guard }], guard := some (16, true) }) (v := .agg #[.bool m, .slice ma mn mk, .int .i64 me, .bool n, .slice na nn nk, .int .i64 ne]) rfl (by kernel_rfl) (by kernel_rfl) (by kernel_rfl) (fun _ _ _ h => h) (Or.inl ⟨by rfl, fun w9 hSw => ?_⟩) hHeld4 ?_
        · (try dsimp only at hSw); go_simp
        try simp only [Act.put, List.setIfInBounds_toArray, List.set_cons_zero, List.set_cons_succ]
        refine wpAnyH_take (i := 20) (oi := { dst := some 106, op := Op.load 47 (Operand.tmp 9), type := 47, pos := "law.go:183", after := #[{ on := 16, ground := Ground.guard }], guard := some (16, true) }) (v := .agg #[.bool o, .slice oa on ok, .int .i64 oe, .bool t, .slice ta tn tk, .int .i64 te]) rfl (by kernel_rfl) (by kernel_rfl) (by kernel_rfl) (fun _ _ _ h => h) (Or.inl ⟨by rfl, fun w9 hSw => ?_⟩) hHeld4 ?_
        · (try dsimp only at hSw); go_simp
        try simp only [Act.put, List.setIfInBounds_toArray, List.set_cons_zero, List.set_cons_succ]
        refine wpAnyH_take (i := 22) (oi := { dst := some 108, op := Op.move (Operand.tmp 11), type := 3, pos := "law.go:183", after := #[{ on := 16, ground := Ground.guard }], guard := some (16, true) }) (v := .int .i64 H) rfl (by kernel_rfl) (by kernel_rfl) (by kernel_rfl) (fun _ _ _ h => h) (Or.inl ⟨by rfl, fun w9 hSw => ?_⟩) hHeld4 ?_
        · (try dsimp only at hSw); go_simp
        try simp only [Act.put, List.setIfInBounds_toArray, List.set_cons_zero, List.set_cons_succ]
        refine wpAnyH_ready (rs := [21]) (by kernel_rfl) (by simp) ?_
        refine AllReadyH.cons rfl (fun K hK => ?_) AllReadyH.nil
        go_simp
        refine (rhullV m ma mn mk me n na nn nk ne o oa on ok oe t ta tn tk te L W0 W1 W2 W3 T4 (HMv.out.below (bl_trans8 (bl_trans8 (bl_trans8 hbT1 hbT2) hbT3) hbT4)) (HNv.out.below (bl_trans8 (bl_trans8 (bl_trans8 hbT1 hbT2) hbT3) hbT4)) (HOv.out.below (bl_trans8 (bl_trans8 (bl_trans8 hbT1 hbT2) hbT3) hbT4)) (HTv.out.below (bl_trans8 (bl_trans8 (bl_trans8 hbT1 hbT2) hbT3) hbT4))).mono ?_
        rintro e' T5 ⟨⟨kge, kgea, kgen, kgek, kgee, kgf, kgfa, kgfn, kgfk, kgfe, rfl, hv1T5, hv2T5⟩, hbT5⟩
        have bT5 := bT4.below hbT5
        refine hK.out _ _ (KS.out _ bT5) (fun hHeld5 => ?_)
        clear hK K
        try simp only [Act.put, List.setIfInBounds_toArray, List.set_cons_zero, List.set_cons_succ]
        refine wpAnyH_ready (rs := [23]) (by kernel_rfl) (by simp) ?_
        refine AllReadyH.cons rfl (fun K hK => ?_) AllReadyH.nil
        go_simp
        refine (alikeV ge gea gen gek gee gf gfa gfn gfk gfe gec H kge kgea kgen kgek kgee kgf kgfa kgfn kgfk kgfe L (min V0 V2) (max V1 V3) _ T5 (HVge.out.below (bl_trans8 (bl_trans8 (bl_trans8 (bl_trans8 hbT1 hbT2) hbT3) hbT4) hbT5)) (fun h => by obtain ⟨q0, q1, q2, q3⟩ := EWV.out h; rw [← q0, ← q2]; exact hv1T5) (fun h => by obtain ⟨q0, q1, q2, q3⟩ := EWV.out h; rw [← q1, ← q3]; exact hv2T5)).mono ?_
        rintro e' T6 ⟨rfl, hbT6⟩
        have bT6 := bT5.below hbT6
        refine hK.out _ _ (KS.out _ bT6) (fun hHeld6 => ?_)
        clear hK K
        try simp only [Act.put, List.setIfInBounds_toArray, List.set_cons_zero, List.set_cons_succ]
        refine wpAnyH_take (i := 24) (oi := { dst := some 110, op := Op.pick (Operand.tmp 102) (Operand.tmp 109) (Operand.const (Value.bool false)), type := 4, pos := "law.go:183", after := #[{ on := 16, ground := Ground.data }, { on := 23, ground := Ground.data }], guard := none }) (v := .bool true) rfl (by kernel_rfl) (by kernel_rfl) (by kernel_rfl) (fun _ _ _ h => h) (Or.inl ⟨by rfl, fun w9 hSw => ?_⟩) hHeld6 ?_
        · (try dsimp only at hSw); go_simp
        try simp only [Act.put, List.setIfInBounds_toArray, List.set_cons_zero, List.set_cons_succ]
        refine wpAnyH_take (i := 25) (oi := { dst := some 111, op := Op.move (Operand.tmp 110), type := 4, pos := "law.go:183", after := #[{ on := 24, ground := Ground.data }, { on := 23, ground := Ground.chain }], guard := none }) (v := .bool true) rfl (by kernel_rfl) (by kernel_rfl) (by kernel_rfl) (fun _ _ _ h => h) (Or.inl ⟨by rfl, fun w9 hSw => ?_⟩) hHeld6 ?_
        · (try dsimp only at hSw); go_simp
        try simp only [Act.put, List.setIfInBounds_toArray, List.set_cons_zero, List.set_cons_succ]
        refine wpAnyH_take (i := 26) (oi := { dst := some 112, op := Op.load 33 (Operand.tmp 18), type := 33, pos := "law.go:183", after := #[{ on := 25, ground := Ground.guard }], guard := some (25, true) }) (v := .agg #[.bool gx, .slice gxa gxn gxk, .int .i64 gxe, .bool gy, .slice gya gyn gyk, .int .i64 gye]) rfl (by kernel_rfl) (by kernel_rfl) (by kernel_rfl) (fun _ _ _ h => h) (Or.inl ⟨by rfl, fun w9 hSw => ?_⟩) hHeld6 ?_
        · (try dsimp only at hSw); go_simp
        try simp only [Act.put, List.setIfInBounds_toArray, List.set_cons_zero, List.set_cons_succ]
        refine wpAnyH_take (i := 27) (oi := { dst := some 113, op := Op.move (Operand.tmp 19), type := 37, pos := "law.go:183", after := #[{ on := 25, ground := Ground.guard }], guard := some (25, true) }) (v := .int .i64 gxc) rfl (by kernel_rfl) (by kernel_rfl) (by kernel_rfl) (fun _ _ _ h => h) (Or.inl ⟨by rfl, fun w9 hSw => ?_⟩) hHeld6 ?_
        · (try dsimp only at hSw); go_simp
        try simp only [Act.put, List.setIfInBounds_toArray, List.set_cons_zero, List.set_cons_succ]
        refine wpAnyH_take (i := 28) (oi := { dst := some 114, op := Op.load 47 (Operand.tmp 20), type := 47, pos := "law.go:183", after := #[{ on := 25, ground := Ground.guard }], guard := some (25, true) }) (v := .agg #[.bool f, .slice fa fn fk, .int .i64 fe, .bool l, .slice la ln lk, .int .i64 le]) rfl (by kernel_rfl) (by kernel_rfl) (by kernel_rfl) (fun _ _ _ h => h) (Or.inl ⟨by rfl, fun w9 hSw => ?_⟩) hHeld6 ?_
        · (try dsimp only at hSw); go_simp
        try simp only [Act.put, List.setIfInBounds_toArray, List.set_cons_zero, List.set_cons_succ]
        refine wpAnyH_take (i := 29) (oi := { dst := some 115, op := Op.move (Operand.tmp 22), type := 3, pos := "law.go:183", after := #[{ on := 25, ground := Ground.guard }], guard := some (25, true) }) (v := .int .i64 MF) rfl (by kernel_rfl) (by kernel_rfl) (by kernel_rfl) (fun _ _ _ h => h) (Or.inl ⟨by rfl, fun w9 hSw => ?_⟩) hHeld6 ?_
        · (try dsimp only at hSw); go_simp
        try simp only [Act.put, List.setIfInBounds_toArray, List.set_cons_zero, List.set_cons_succ]
        refine wpAnyH_ready (rs := [30]) (by kernel_rfl) (by simp) ?_
        refine AllReadyH.cons rfl (fun K hK => ?_) AllReadyH.nil
        go_simp
        refine (alikeV gx gxa gxn gxk gxe gy gya gyn gyk gye gxc MF f fa fn fk fe l la ln lk le L (max V0 V2) (min V1 V3) _ T6 (HVgx.out.below (bl_trans8 (bl_trans8 (bl_trans8 (bl_trans8 (bl_trans8 hbT1 hbT2) hbT3) hbT4) hbT5) hbT6)) (fun h => by obtain ⟨q0, q1, q2, q3⟩ := EWV.out (EM0.out h); rw [← q0, ← q2]; exact HFv.out.below (bl_trans8 (bl_trans8 (bl_trans8 (bl_trans8 (bl_trans8 hbT1 hbT2) hbT3) hbT4) hbT5) hbT6)) (fun h => by obtain ⟨q0, q1, q2, q3⟩ := EWV.out (EM0.out h); rw [← q1, ← q3]; exact HLv.out.below (bl_trans8 (bl_trans8 (bl_trans8 (bl_trans8 (bl_trans8 hbT1 hbT2) hbT3) hbT4) hbT5) hbT6))).mono ?_
        rintro e' T7 ⟨rfl, hbT7⟩
        have bT7 := bT6.below hbT7
        refine hK.out _ _ (KS.out _ bT7) (fun hHeld7 => ?_)
        clear hK K
        try simp only [Act.put, List.setIfInBounds_toArray, List.set_cons_zero, List.set_cons_succ]
        refine wpAnyH_take (i := 31) (oi := { dst := some 117, op := Op.pick (Operand.tmp 111) (Operand.tmp 116) (Operand.const (Value.bool false)), type := 4, pos := "law.go:183", after := #[{ on := 25, ground := Ground.data }, { on := 30, ground := Ground.data }], guard := none }) (v := .bool true) rfl (by kernel_rfl) (by kernel_rfl) (by kernel_rfl) (fun _ _ _ h => h) (Or.inl ⟨by rfl, fun w9 hSw => ?_⟩) hHeld7 ?_
        · (try dsimp only at hSw); go_simp
        try simp only [Act.put, List.setIfInBounds_toArray, List.set_cons_zero, List.set_cons_succ]
        refine wpAnyH_take (i := 32) (oi := { dst := some 118, op := Op.move (Operand.tmp 117), type := 4, pos := "law.go:183", after := #[{ on := 31, ground := Ground.data }, { on := 30, ground := Ground.chain }], guard := none }) (v := .bool true) rfl (by kernel_rfl) (by kernel_rfl) (by kernel_rfl) (fun _ _ _ h => h) (Or.inl ⟨by rfl, fun w9 hSw => ?_⟩) hHeld7 ?_
        · (try dsimp only at hSw); go_simp
        try simp only [Act.put, List.setIfInBounds_toArray, List.set_cons_zero, List.set_cons_succ]
        refine wpAnyH_take (i := 33) (oi := { dst := some 119, op := Op.load 33 (Operand.tmp 12), type := 33, pos := "law.go:183", after := #[{ on := 32, ground := Ground.guard }], guard := some (32, true) }) (v := .agg #[.bool ga, .slice gaa gan gak, .int .i64 gae, .bool gb, .slice gba gbn gbk, .int .i64 gbe]) rfl (by kernel_rfl) (by kernel_rfl) (by kernel_rfl) (fun _ _ _ h => h) (Or.inl ⟨by rfl, fun w9 hSw => ?_⟩) hHeld7 ?_
        · (try dsimp only at hSw); go_simp
        try simp only [Act.put, List.setIfInBounds_toArray, List.set_cons_zero, List.set_cons_succ]
        refine wpAnyH_take (i := 34) (oi := { dst := some 120, op := Op.load 33 (Operand.tmp 14), type := 33, pos := "law.go:183", after := #[{ on := 32, ground := Ground.guard }], guard := some (32, true) }) (v := .agg #[.bool gc, .slice gca gcn gck, .int .i64 gce, .bool gd, .slice gda gdn gdk, .int .i64 gde]) rfl (by kernel_rfl) (by kernel_rfl) (by kernel_rfl) (fun _ _ _ h => h) (Or.inl ⟨by rfl, fun w9 hSw => ?_⟩) hHeld7 ?_
        · (try dsimp only at hSw); go_simp
        try simp only [Act.put, List.setIfInBounds_toArray, List.set_cons_zero, List.set_cons_succ]
        refine wpAnyH_take (i := 35) (oi := { dst := some 121, op := Op.load 33 (Operand.tmp 16), type := 33, pos := "law.go:183", after := #[{ on := 32, ground := Ground.guard }], guard := some (32, true) }) (v := .agg #[.bool ge, .slice gea gen gek, .int .i64 gee, .bool gf, .slice gfa gfn gfk, .int .i64 gfe]) rfl (by kernel_rfl) (by kernel_rfl) (by kernel_rfl) (fun _ _ _ h => h) (Or.inl ⟨by rfl, fun w9 hSw => ?_⟩) hHeld7 ?_
        · (try dsimp only at hSw); go_simp
        try simp only [Act.put, List.setIfInBounds_toArray, List.set_cons_zero, List.set_cons_succ]
        refine wpAnyH_take (i := 36) (oi := { dst := some 122, op := Op.load 33 (Operand.tmp 18), type := 33, pos := "law.go:183", after := #[{ on := 32, ground := Ground.guard }], guard := some (32, true) }) (v := .agg #[.bool gx, .slice gxa gxn gxk, .int .i64 gxe, .bool gy, .slice gya gyn gyk, .int .i64 gye]) rfl (by kernel_rfl) (by kernel_rfl) (by kernel_rfl) (fun _ _ _ h => h) (Or.inl ⟨by rfl, fun w9 hSw => ?_⟩) hHeld7 ?_
        · (try dsimp only at hSw); go_simp
        try simp only [Act.put, List.setIfInBounds_toArray, List.set_cons_zero, List.set_cons_succ]
        refine wpAnyH_ready (rs := [37]) (by kernel_rfl) (by simp) ?_
        refine AllReadyH.cons rfl (fun K hK => ?_) AllReadyH.nil
        go_simp
        refine hK.out _ _ (KS.out _ (bT7.alloc _)) (fun hHeld8 => ?_)
        clear hK K
        try simp only [Act.put, List.setIfInBounds_toArray, List.set_cons_zero, List.set_cons_succ]
        obtain ⟨PB8, hPB8, hbPB8, hxPB8⟩ := enter1 T7 (.cells #[.bool ga, .slice gaa gan gak, .int .i64 gae, .bool gb, .slice gba gbn gbk, .int .i64 gbe, .bool gc, .slice gca gcn gck, .int .i64 gce, .bool gd, .slice gda gdn gdk, .int .i64 gde, .bool ge, .slice gea gen gek, .int .i64 gee, .bool gf, .slice gfa gfn gfk, .int .i64 gfe, .bool gx, .slice gxa gxn gxk, .int .i64 gxe, .bool gy, .slice gya gyn gyk, .int .i64 gye] 33)
        rw [hPB8] at hHeld8 ⊢
        have bPB8 := bT7.below hbPB8
        clear hPB8
        refine wpAnyH_ready (rs := [38]) (by kernel_rfl) (by simp) ?_
        refine AllReadyH.cons rfl (fun K hK => ?_) AllReadyH.nil
        go_simp
        refine (own10_4 T7.heap.size ga gaa gan gak gae gb gba gbn gbk gbe gc gca gcn gck gce gd gda gdn gdk gde ge gea gen gek gee gf gfa gfn gfk gfe gx gxa gxn gxk gxe gy gya gyn gyk gye PW.heap.size _ PB8 (hxPB8) (HAP.out.below (bl_trans8 (bl_trans8 (bl_trans8 (bl_trans8 (bl_trans8 (bl_trans8 (bl_trans8 hbT1 hbT2) hbT3) hbT4) hbT5) hbT6) hbT7) hbPB8)) (by intro rr hr; simp at hr; have q0 := JL0.out; have q1 := JL1.out; have q2 := JL2.out; have q3 := JL3.out; rcases hr with rfl | rfl | rfl | rfl | rfl | rfl | rfl | rfl <;> omega) (bl_trans8 HBB.out (bl_trans8 (bl_trans8 (bl_trans8 (bl_trans8 (bl_trans8 (bl_trans8 (bl_trans8 hbT1 hbT2) hbT3) hbT4) hbT5) hbT6) hbT7) hbPB8)).size).mono ?_
        rintro e' T8 ⟨rfl, hk⟩
        have bT8 := bPB8.bk hk HPL.out
        have oT8 : Below PW.heap.size PW T8 := (bl_trans8 HBB.out (bl_trans8 (bl_trans8 (bl_trans8 (bl_trans8 (bl_trans8 (bl_trans8 (bl_trans8 hbT1 hbT2) hbT3) hbT4) hbT5) hbT6) hbT7) hbPB8)).trans hk.below
        refine hK.out _ _ (KS.out _ bT8) (fun hHeld9 => ?_)
        clear hK K
        try simp only [Act.put, List.setIfInBounds_toArray, List.set_cons_zero, List.set_cons_succ]
        refine wpAnyH_take (i := 39) (oi := { dst := some 125, op := Op.pick (Operand.tmp 118) (Operand.tmp 124) (Operand.const (Value.bool false)), type := 4, pos := "law.go:183", after := #[{ on := 32, ground := Ground.data }, { on := 38, ground := Ground.data }], guard := none }) (v := .bool true) rfl (by kernel_rfl) (by kernel_rfl) (by kernel_rfl) (fun _ _ _ h => h) (Or.inl ⟨by rfl, fun w9 hSw => ?_⟩) hHeld9 ?_
        · (try dsimp only at hSw); go_simp
        try simp only [Act.put, List.setIfInBounds_toArray, List.set_cons_zero, List.set_cons_succ]
        refine wpAnyH_take (i := 40) (oi := { dst := some 126, op := Op.move (Operand.tmp 125), type := 4, pos := "law.go:183", after := #[{ on := 39, ground := Ground.data }, { on := 38, ground := Ground.chain }], guard := none }) (v := .bool true) rfl (by kernel_rfl) (by kernel_rfl) (by kernel_rfl) (fun _ _ _ h => h) (Or.inl ⟨by rfl, fun w9 hSw => ?_⟩) hHeld9 ?_
        · (try dsimp only at hSw); go_simp
        try simp only [Act.put, List.setIfInBounds_toArray, List.set_cons_zero, List.set_cons_succ]
        refine wpAnyH_take (i := 41) (oi := { dst := some 127, op := Op.load 35 (Operand.tmp 5), type := 35, pos := "law.go:183", after := #[{ on := 40, ground := Ground.guard }], guard := some (40, true) }) (v := .agg #[.slice pu pmu pnu, .slice pv pmv pnv, .bool b0, .slice px z0.length pcx, .int .i64 e0, .bool b1, .slice py z1.length pcy, .int .i64 e1]) rfl (by kernel_rfl) (by kernel_rfl) (by kernel_rfl) (fun _ _ _ h => h) (Or.inl ⟨by rfl, fun w9 hSw => ?_⟩) hHeld9 ?_
        · (try dsimp only at hSw); go_simp
        try simp only [Act.put, List.setIfInBounds_toArray, List.set_cons_zero, List.set_cons_succ]
        refine wpAnyH_take (i := 42) (oi := { dst := some 128, op := Op.load 26 (Operand.tmp 2), type := 26, pos := "law.go:183", after := #[{ on := 40, ground := Ground.guard }], guard := some (40, true) }) (v := .agg #[.bool b0, .slice a0 z0.length k0, .int .i64 e0, .bool b1, .slice a1 z1.length k1, .int .i64 e1]) rfl (by kernel_rfl) (by kernel_rfl) (by kernel_rfl) (fun _ _ _ h => h) (Or.inl ⟨by rfl, fun w9 hSw => ?_⟩) hHeld9 ?_
        · (try dsimp only at hSw); go_simp
        try simp only [Act.put, List.setIfInBounds_toArray, List.set_cons_zero, List.set_cons_succ]
        refine wpAnyH_ready (rs := [43]) (by kernel_rfl) (by simp) ?_
        refine AllReadyH.cons rfl (fun K hK => ?_) AllReadyH.nil
        go_simp
        refine (kept10_any pu pmu pnu pv pmv pnv b0 px z0.length pcx e0 b1 py z1.length pcy e1 b0 a0 k0 z0 e0 b1 a1 k1 z1 e1 T8 (HL1B.out.below oT8) (HL2B.out.below oT8) (HA0B.out.below oT8) (HA1B.out.below oT8) (by omega) (by omega)).mono ?_
        rintro e' T9 ⟨rfl, hbT9⟩
        have bT9 := bT8.below hbT9
        have oT9 := bl_trans8 oT8 hbT9
        refine hK.out _ _ (KS.out _ bT9) (fun hHeld10 => ?_)
        clear hK K
        try simp only [Act.put, List.setIfInBounds_toArray, List.set_cons_zero, List.set_cons_succ]
        refine wpAnyH_take (i := 44) (oi := { dst := some 130, op := Op.pick (Operand.tmp 126) (Operand.tmp 129) (Operand.const (Value.bool false)), type := 4, pos := "law.go:183", after := #[{ on := 40, ground := Ground.data }, { on := 43, ground := Ground.data }], guard := none }) (v := .bool true) rfl (by kernel_rfl) (by kernel_rfl) (by kernel_rfl) (fun _ _ _ h => h) (Or.inl ⟨by rfl, fun w9 hSw => ?_⟩) hHeld10 ?_
        · (try dsimp only at hSw); go_simp
        try simp only [Act.put, List.setIfInBounds_toArray, List.set_cons_zero, List.set_cons_succ]
        refine wpAnyH_take (i := 45) (oi := { dst := some 131, op := Op.move (Operand.tmp 130), type := 4, pos := "law.go:183", after := #[{ on := 44, ground := Ground.data }, { on := 43, ground := Ground.chain }], guard := none }) (v := .bool true) rfl (by kernel_rfl) (by kernel_rfl) (by kernel_rfl) (fun _ _ _ h => h) (Or.inl ⟨by rfl, fun w9 hSw => ?_⟩) hHeld10 ?_
        · (try dsimp only at hSw); go_simp
        try simp only [Act.put, List.setIfInBounds_toArray, List.set_cons_zero, List.set_cons_succ]
        refine wpAnyH_take (i := 46) (oi := { dst := some 132, op := Op.load 35 (Operand.tmp 6), type := 35, pos := "law.go:183", after := #[{ on := 45, ground := Ground.guard }], guard := some (45, true) }) (v := .agg #[.slice qu qmu qnu, .slice qv qmv qnv, .bool b2, .slice qx z2.length qcx, .int .i64 e2, .bool b3, .slice qy z3.length qcy, .int .i64 e3]) rfl (by kernel_rfl) (by kernel_rfl) (by kernel_rfl) (fun _ _ _ h => h) (Or.inl ⟨by rfl, fun w9 hSw => ?_⟩) hHeld10 ?_
        · (try dsimp only at hSw); go_simp
        try simp only [Act.put, List.setIfInBounds_toArray, List.set_cons_zero, List.set_cons_succ]
        refine wpAnyH_take (i := 47) (oi := { dst := some 133, op := Op.load 26 (Operand.tmp 3), type := 26, pos := "law.go:183", after := #[{ on := 45, ground := Ground.guard }], guard := some (45, true) }) (v := .agg #[.bool b2, .slice a2 z2.length k2, .int .i64 e2, .bool b3, .slice a3 z3.length k3, .int .i64 e3]) rfl (by kernel_rfl) (by kernel_rfl) (by kernel_rfl) (fun _ _ _ h => h) (Or.inl ⟨by rfl, fun w9 hSw => ?_⟩) hHeld10 ?_
        · (try dsimp only at hSw); go_simp
        try simp only [Act.put, List.setIfInBounds_toArray, List.set_cons_zero, List.set_cons_succ]
        refine wpAnyH_ready (rs := [48]) (by kernel_rfl) (by simp) ?_
        refine AllReadyH.cons rfl (fun K hK => ?_) AllReadyH.nil
        go_simp
        refine (kept10_any qu qmu qnu qv qmv qnv b2 qx z2.length qcx e2 b3 qy z3.length qcy e3 b2 a2 k2 z2 e2 b3 a3 k3 z3 e3 T9 (HL5B.out.below oT9) (HL6B.out.below oT9) (HA2B.out.below oT9) (HA3B.out.below oT9) (by omega) (by omega)).mono ?_
        rintro e' T10 ⟨rfl, hbT10⟩
        have bT10 := bT9.below hbT10
        have oT10 := bl_trans8 oT9 hbT10
        refine hK.out _ _ (KS.out _ bT10) (fun hHeld11 => ?_)
        clear hK K
        try simp only [Act.put, List.setIfInBounds_toArray, List.set_cons_zero, List.set_cons_succ]
        refine wpAnyH_take (i := 49) (oi := { dst := some 135, op := Op.pick (Operand.tmp 131) (Operand.tmp 134) (Operand.const (Value.bool false)), type := 4, pos := "law.go:183", after := #[{ on := 45, ground := Ground.data }, { on := 48, ground := Ground.data }], guard := none }) (v := .bool true) rfl (by kernel_rfl) (by kernel_rfl) (by kernel_rfl) (fun _ _ _ h => h) (Or.inl ⟨by rfl, fun w9 hSw => ?_⟩) hHeld11 ?_
        · (try dsimp only at hSw); go_simp
        try simp only [Act.put, List.setIfInBounds_toArray, List.set_cons_zero, List.set_cons_succ]
        refine wpAnyH_take (i := 50) (oi := { dst := some 136, op := Op.move (Operand.tmp 135), type := 4, pos := "law.go:183", after := #[{ on := 49, ground := Ground.data }, { on := 48, ground := Ground.chain }], guard := none }) (v := .bool true) rfl (by kernel_rfl) (by kernel_rfl) (by kernel_rfl) (fun _ _ _ h => h) (Or.inl ⟨by rfl, fun w9 hSw => ?_⟩) hHeld11 ?_
        · (try dsimp only at hSw); go_simp
        try simp only [Act.put, List.setIfInBounds_toArray, List.set_cons_zero, List.set_cons_succ]
        refine wpAnyH_ready (rs := [51]) (by kernel_rfl) (by simp) ?_
        refine AllReadyH.cons rfl (fun K hK => ?_) AllReadyH.nil
        go_simp
        refine (awake10_any T10 (HTB.out.below oT10)).mono ?_
        rintro e' T11 ⟨rfl, hbT11⟩
        have bT11 := bT10.below hbT11
        have oT11 := bl_trans8 oT10 hbT11
        refine hK.out _ _ (KS.out _ bT11) (fun hHeld12 => ?_)
        clear hK K
        try simp only [Act.put, List.setIfInBounds_toArray, List.set_cons_zero, List.set_cons_succ]
        refine wpAnyH_take (i := 52) (oi := { dst := some 138, op := Op.pick (Operand.tmp 136) (Operand.tmp 137) (Operand.const (Value.bool false)), type := 4, pos := "law.go:183", after := #[{ on := 50, ground := Ground.data }, { on := 51, ground := Ground.data }], guard := none }) (v := .bool true) rfl (by kernel_rfl) (by kernel_rfl) (by kernel_rfl) (fun _ _ _ h => h) (Or.inl ⟨by rfl, fun w9 hSw => ?_⟩) hHeld12 ?_
        · (try dsimp only at hSw); go_simp
        try simp only [Act.put, List.setIfInBounds_toArray, List.set_cons_zero, List.set_cons_succ]
        refine wpAnyH_take (i := 53) (oi := { dst := some 4, op := Op.assign (Operand.tmp 138), type := 4, pos := "law.go:183", after := #[{ on := 52, ground := Ground.data }, { on := 51, ground := Ground.chain }, { on := 0, ground := Ground.phase }, { on := 1, ground := Ground.phase }, { on := 2, ground := Ground.phase }, { on := 3, ground := Ground.phase }, { on := 4, ground := Ground.phase }, { on := 5, ground := Ground.phase }, { on := 6, ground := Ground.phase }, { on := 7, ground := Ground.phase }, { on := 8, ground := Ground.phase }, { on := 9, ground := Ground.phase }, { on := 10, ground := Ground.phase }, { on := 11, ground := Ground.phase }, { on := 12, ground := Ground.phase }, { on := 13, ground := Ground.phase }, { on := 14, ground := Ground.phase }, { on := 15, ground := Ground.phase }, { on := 16, ground := Ground.phase }, { on := 17, ground := Ground.phase }, { on := 18, ground := Ground.phase }, { on := 19, ground := Ground.phase }, { on := 20, ground := Ground.phase }, { on := 21, ground := Ground.phase }, { on := 22, ground := Ground.phase }, { on := 23, ground := Ground.phase }, { on := 24, ground := Ground.phase }, { on := 25, ground := Ground.phase }, { on := 26, ground := Ground.phase }, { on := 27, ground := Ground.phase }, { on := 28, ground := Ground.phase }, { on := 29, ground := Ground.phase }, { on := 30, ground := Ground.phase }, { on := 31, ground := Ground.phase }, { on := 32, ground := Ground.phase }, { on := 33, ground := Ground.phase }, { on := 34, ground := Ground.phase }, { on := 35, ground := Ground.phase }, { on := 36, ground := Ground.phase }, { on := 37, ground := Ground.phase }, { on := 38, ground := Ground.phase }, { on := 39, ground := Ground.phase }, { on := 40, ground := Ground.phase }, { on := 41, ground := Ground.phase }, { on := 42, ground := Ground.phase }, { on := 43, ground := Ground.phase }, { on := 44, ground := Ground.phase }, { on := 45, ground := Ground.phase }, { on := 46, ground := Ground.phase }, { on := 47, ground := Ground.phase }, { on := 48, ground := Ground.phase }, { on := 49, ground := Ground.phase }, { on := 50, ground := Ground.phase }, { on := 51, ground := Ground.phase }, { on := 52, ground := Ground.phase }], guard := none }) (v := .bool true) rfl (by kernel_rfl) (by kernel_rfl) (by kernel_rfl) (fun _ _ _ h => h) (Or.inl ⟨by rfl, fun w9 hSw => ?_⟩) hHeld12 ?_
        · (try dsimp only at hSw); go_simp
        try simp only [Act.put, List.setIfInBounds_toArray, List.set_cons_zero, List.set_cons_succ]
        refine wpAnyH_done (by kernel_rfl) ?_ _
        clear hHeld0 hHeld1 hHeld2 hHeld3 hHeld4 hHeld5 hHeld6 hHeld7 hHeld8 hHeld9 hHeld10 hHeld11 hHeld12
        have HFI := hide (bl_trans8 HWB.out oT11)
        go_wp2
        go_ret
        exact ⟨rfl, HFI.out⟩

end Go.Proofs.YtppkhhbhnhijpaaGreatDoor
