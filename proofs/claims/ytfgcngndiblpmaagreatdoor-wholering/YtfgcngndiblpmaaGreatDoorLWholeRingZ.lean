/- The walk of the law WholeRing. -/
import Derived.Test.YtfgcngndiblpmaaGreatDoorDp3Z
import Derived.Test.YtfgcngndiblpmaaGreatDoorQ5
namespace Go.Proofs.YtfgcngndiblpmaaGreatDoor
open Go.RowKit
open Lm
attribute [local go_sem ↓] Go.wp_at_zero Go.wp_at_succ

theorem ZR.get {w : World} {base : Nat} {b : Bool} {v : Value} {z : Int} (h : ZR w base b v 0 z) : ∃ rs, Arg w v rs ∧ zz b (val rs) = z ∧ rs.length ≤ 1048576 := by
  obtain ⟨rs, hA, hc⟩ := h
  have hl := ZR.few hc
  rcases hc with ⟨_, h2, h3, _, _⟩ | ⟨h, _⟩
  · exact ⟨rs, hA.arg (by omega), by rw [h2, h3]; exact zz_self z, hl⟩
  · cases h

theorem cmpZ_anti (y z : Int) : cmpZ z y = -(cmpZ y z) := by
  unfold cmpZ
  split <;> split <;> first | omega | (split <;> omega) | skip

theorem cmpZ_sub (y z : Int) : cmpZ y z = (y - z).sign := by
  unfold cmpZ
  split
  · rw [Int.sign_eq_neg_one_of_neg (by omega)]
  · split
    · rw [Int.sign_eq_one_of_pos (by omega)]
    · have : y - z = 0 := by omega
      rw [this, Int.sign_zero]

theorem cmpZ_range (y z : Int) : cmpZ y z = -1 ∨ cmpZ y z = 0 ∨ cmpZ y z = 1 := by
  unfold cmpZ
  split
  · exact .inl rfl
  · split
    · exact .inr (.inr rfl)
    · exact .inr (.inl rfl)

theorem zz_eq_zero0 {b : Bool} {x : Nat} : zz b x = 0 ↔ x = 0 := by cases b <;> simp [zz]

set_option maxRecDepth 20000 in
set_option maxHeartbeats 16000000 in
theorem wholeRing_walk (b0 : Bool) (v0 : Value) (z0 : List Nat) (b1 : Bool) (v1 : Value) (z1 : List Nat) (b2 : Bool) (v2 : Value) (z2 : List Nat) (w : World) (hT : Tab w) (A0 : Arg w v0 z0) (s0 : z0.length ≤ 17592186043904) (A1 : Arg w v1 z1) (s1 : z1.length ≤ 17592186043904) (A2 : Arg w v2 z2) (s2 : z2.length ≤ 17592186043904) :
    Calls Tryz.prog 5 #[.agg #[.bool b0, v0], .agg #[.bool b1, v1], .agg #[.bool b2, v2]] w fun e w' => e = .returned (.bool true) ∧ Below w.heap.size w w' := by
  obtain ⟨a0, n0, rfl, _, _, _⟩ := A0.form
  obtain ⟨a1, n1, rfl, _, _, _⟩ := A1.form
  obtain ⟨a2, n2, rfl, _, _, _⟩ := A2.form
  obtain ⟨w0, hw0, hb0, h0, h1, h2⟩ := enter3 w (.cells #[.bool b0, .slice a0 z0.length n0] 24) (.cells #[.bool b1, .slice a1 z1.length n1] 24) (.cells #[.bool b2, .slice a2 z2.length n2] 24)
  have HA := hide h0
  have HBb := hide h1
  have HC := hide h2
  have HA0 := hide (A0.below hb0)
  have HA1 := hide (A1.below hb0)
  have HA2 := hide (A2.below hb0)
  have HT := hide (hT.below hb0)
  have HW := hide hb0
  clear A0 A1 A2 hT hb0 h0 h1 h2
  go_enter Tryz.func5, Tryz.ntmps5
  go_upto_region 1 with fail
  go_cut [7, 8, 9] from 34 to 40 (fun s t r wx => ThreeBox w0 b0 b1 b2 (.slice a0 z0.length n0) (.slice a1 z1.length n1) (.slice a2 z2.length n2) s t r wx)
  case first =>
    have KS := hide (fun (W : World) (hg : Below w0.heap.size w0 W) => show W.cell? ⟨w.heap.size, 0, none⟩ = some (.bool b0) ∧ W.cell? ⟨w.heap.size, 1, none⟩ = some (.slice a0 z0.length n0) ∧ W.cell? ⟨w.heap.size + 1, 0, none⟩ = some (.bool b1) ∧ W.cell? ⟨w.heap.size + 1, 1, none⟩ = some (.slice a1 z1.length n1) ∧ W.cell? ⟨w.heap.size + 2, 0, none⟩ = some (.bool b2) ∧ W.cell? ⟨w.heap.size + 2, 1, none⟩ = some (.slice a2 z2.length n2) from ⟨(duo (block_upW hg HA.out)).1, (duo (block_upW hg HA.out)).2, (duo (block_upW hg HBb.out)).1, (duo (block_upW hg HBb.out)).2, (duo (block_upW hg HC.out)).1, (duo (block_upW hg HC.out)).2⟩)
    have IN1 := hide (fun (W : World) (_ : Below w0.heap.size w0 W) => wlawIn_any b0 a0 z0.length n0 W)
    have IN2 := hide (fun (W : World) (_ : Below w0.heap.size w0 W) => wlawIn_any b1 a1 z1.length n1 W)
    have IN3 := hide (fun (W : World) (_ : Below w0.heap.size w0 W) => wlawIn_any b2 a2 z2.length n2 W)
    refine wp_region_held_drew (S := fun w' => w'.cell? ⟨w.heap.size, 0, none⟩ = some (.bool b0) ∧ w'.cell? ⟨w.heap.size, 1, none⟩ = some (.slice a0 z0.length n0) ∧ w'.cell? ⟨w.heap.size + 1, 0, none⟩ = some (.bool b1) ∧ w'.cell? ⟨w.heap.size + 1, 1, none⟩ = some (.slice a1 z1.length n1) ∧ w'.cell? ⟨w.heap.size + 2, 0, none⟩ = some (.bool b2) ∧ w'.cell? ⟨w.heap.size + 2, 1, none⟩ = some (.slice a2 z2.length n2)) (by kernel_rfl) (KS.out _ (bl_drew (Below.refl _ _))) (fun hHeld => ?_)
    refine wpAnyH_take (i := 0) (v := .agg #[.bool b0, .slice a0 z0.length n0]) rfl (by kernel_rfl) (by kernel_rfl) (by kernel_rfl) (fun _ _ _ h => h) (Or.inl ⟨by rfl, fun w9 hSw => ?_⟩) hHeld ?_
    · (try dsimp only at hSw); go_simp
    refine wpAnyH_take (i := 2) (v := .agg #[.bool b1, .slice a1 z1.length n1]) rfl (by kernel_rfl) (by kernel_rfl) (by kernel_rfl) (fun _ _ _ h => h) (Or.inl ⟨by rfl, fun w9 hSw => ?_⟩) hHeld ?_
    · (try dsimp only at hSw); go_simp
    refine wpAnyH_take (i := 4) (v := .agg #[.bool b2, .slice a2 z2.length n2]) rfl (by kernel_rfl) (by kernel_rfl) (by kernel_rfl) (fun _ _ _ h => h) (Or.inl ⟨by rfl, fun w9 hSw => ?_⟩) hHeld ?_
    · (try dsimp only at hSw); go_simp
    refine dp3 w0 (.agg #[.bool b0, .slice a0 z0.length n0]) (.agg #[.bool b1, .slice a1 z1.length n1]) (.agg #[.bool b2, .slice a2 z2.length n2]) (fun x1 x2 x3 y1 y2 y3 => { tmps := #[.agg #[.bool b0, .slice a0 z0.length n0], .agg #[.bool b1, .slice a1 z1.length n1], .agg #[.bool b2, .slice a2 z2.length n2], .pointer (some ⟨w.heap.size, 0, none⟩), .pointer (some ⟨w.heap.size + 1, 0, none⟩), .pointer (some ⟨w.heap.size + 2, 0, none⟩), .bool false, y1, y2, y3, undef, undef, undef, undef, undef, undef, undef, undef, undef, undef, undef, undef, undef, undef, undef, undef, undef, undef, undef, undef, undef, undef, undef, undef, .agg #[.bool b0, .slice a0 z0.length n0], x1, .agg #[.bool b1, .slice a1 z1.length n1], x2, .agg #[.bool b2, .slice a2 z2.length n2], x3, undef, undef, undef, undef, undef, undef, undef, undef, undef, undef, undef, undef, undef, undef, undef, undef, undef, undef, undef, undef, undef, undef, undef, undef, undef, undef, undef, undef, undef, undef, undef, undef, undef, undef, undef, undef, undef, undef, undef, undef, undef, undef, undef, undef, undef, undef, undef, undef, undef, undef, undef, undef, undef, undef, undef, undef, undef, undef, undef, undef, undef, undef, undef, undef, undef, undef, undef, undef, undef, undef, undef, undef, undef, undef, undef, undef, undef, undef, undef, undef, undef, undef, undef, undef, undef, undef, undef, undef, undef, undef, undef, undef, undef, undef, undef, undef, undef, undef, undef, undef, undef, undef, undef, undef, undef, undef, undef, undef, undef, undef, undef, undef, undef, undef, undef, undef, undef, undef, undef, undef, undef, undef, undef, undef, undef, undef, undef, undef, undef, undef, undef, undef, undef], defers := [] }) (fun c1 c2 c3 k1 k2 k3 => #[true, c1, true, c2, true, c3, k1, k2, k3, false, false, false]) (by kernel_rfl) (by kernel_rfl) rfl (bl_drew (Below.refl _ _)) ?_
    clear hHeld
    intro n
    induction n with
    | zero =>
      intro c1 c2 c3 k1 k2 k3 x1 x2 x3 y1 y2 y3 W hf J
      exact absurd hf (by unfold left6; omega)
    | succ n ih =>
      intro c1 c2 c3 k1 k2 k3 x1 x2 x3 y1 y2 y3 W hf J
      clear hw0
      cases c1
      · skip
        cases c2
        · skip
          cases c3
          · skip
            cases k1
            · skip
              cases k2
              · skip
                cases k3
                · skip
                  refine wpAnyH_ready (rs := [1, 6, 7, 8]) (by kernel_rfl) (by simp) ?_
                  refine AllReadyH.cons rfl (fun K hK => ?_) ?_
                  · go_simp
                    refine (IN1.out W J.up).mono ?_
                    rintro e' W2 ⟨rfl, hb⟩
                    refine hK.out _ _ (KS.out _ (bl_trans J.up hb)) (fun _ => ?_)
                    simp only [List.setIfInBounds_toArray, List.set_cons_zero, List.set_cons_succ]
                    exact ih _ _ _ _ _ _ _ _ _ _ _ _ _ (by simp [left6] at hf ⊢; omega) (J.call1 hb)
                  refine AllReadyH.cons rfl (fun K hK => ?_) ?_
                  · go_simp
                    refine hK.out _ _ (KS.out _ (bl_alloc J.up _)) (fun _ => ?_)
                    simp only [List.setIfInBounds_toArray, List.set_cons_zero, List.set_cons_succ]
                    exact ih _ _ _ _ _ _ _ _ _ _ _ _ _ (by simp [left6] at hf ⊢; omega) J.make1
                  refine AllReadyH.cons rfl (fun K hK => ?_) ?_
                  · go_simp
                    refine hK.out _ _ (KS.out _ (bl_alloc J.up _)) (fun _ => ?_)
                    simp only [List.setIfInBounds_toArray, List.set_cons_zero, List.set_cons_succ]
                    exact ih _ _ _ _ _ _ _ _ _ _ _ _ _ (by simp [left6] at hf ⊢; omega) J.make2
                  refine AllReadyH.cons rfl (fun K hK => ?_) ?_
                  · go_simp
                    refine hK.out _ _ (KS.out _ (bl_alloc J.up _)) (fun _ => ?_)
                    simp only [List.setIfInBounds_toArray, List.set_cons_zero, List.set_cons_succ]
                    exact ih _ _ _ _ _ _ _ _ _ _ _ _ _ (by simp [left6] at hf ⊢; omega) J.make3
                  exact AllReadyH.nil
                · skip
                  refine wpAnyH_ready (rs := [1, 6, 7]) (by kernel_rfl) (by simp) ?_
                  refine AllReadyH.cons rfl (fun K hK => ?_) ?_
                  · go_simp
                    refine (IN1.out W J.up).mono ?_
                    rintro e' W2 ⟨rfl, hb⟩
                    refine hK.out _ _ (KS.out _ (bl_trans J.up hb)) (fun _ => ?_)
                    simp only [List.setIfInBounds_toArray, List.set_cons_zero, List.set_cons_succ]
                    exact ih _ _ _ _ _ _ _ _ _ _ _ _ _ (by simp [left6] at hf ⊢; omega) (J.call1 hb)
                  refine AllReadyH.cons rfl (fun K hK => ?_) ?_
                  · go_simp
                    refine hK.out _ _ (KS.out _ (bl_alloc J.up _)) (fun _ => ?_)
                    simp only [List.setIfInBounds_toArray, List.set_cons_zero, List.set_cons_succ]
                    exact ih _ _ _ _ _ _ _ _ _ _ _ _ _ (by simp [left6] at hf ⊢; omega) J.make1
                  refine AllReadyH.cons rfl (fun K hK => ?_) ?_
                  · go_simp
                    refine hK.out _ _ (KS.out _ (bl_alloc J.up _)) (fun _ => ?_)
                    simp only [List.setIfInBounds_toArray, List.set_cons_zero, List.set_cons_succ]
                    exact ih _ _ _ _ _ _ _ _ _ _ _ _ _ (by simp [left6] at hf ⊢; omega) J.make2
                  exact AllReadyH.nil
              · skip
                cases k3
                · skip
                  refine wpAnyH_ready (rs := [1, 6, 8]) (by kernel_rfl) (by simp) ?_
                  refine AllReadyH.cons rfl (fun K hK => ?_) ?_
                  · go_simp
                    refine (IN1.out W J.up).mono ?_
                    rintro e' W2 ⟨rfl, hb⟩
                    refine hK.out _ _ (KS.out _ (bl_trans J.up hb)) (fun _ => ?_)
                    simp only [List.setIfInBounds_toArray, List.set_cons_zero, List.set_cons_succ]
                    exact ih _ _ _ _ _ _ _ _ _ _ _ _ _ (by simp [left6] at hf ⊢; omega) (J.call1 hb)
                  refine AllReadyH.cons rfl (fun K hK => ?_) ?_
                  · go_simp
                    refine hK.out _ _ (KS.out _ (bl_alloc J.up _)) (fun _ => ?_)
                    simp only [List.setIfInBounds_toArray, List.set_cons_zero, List.set_cons_succ]
                    exact ih _ _ _ _ _ _ _ _ _ _ _ _ _ (by simp [left6] at hf ⊢; omega) J.make1
                  refine AllReadyH.cons rfl (fun K hK => ?_) ?_
                  · go_simp
                    refine hK.out _ _ (KS.out _ (bl_alloc J.up _)) (fun _ => ?_)
                    simp only [List.setIfInBounds_toArray, List.set_cons_zero, List.set_cons_succ]
                    exact ih _ _ _ _ _ _ _ _ _ _ _ _ _ (by simp [left6] at hf ⊢; omega) J.make3
                  exact AllReadyH.nil
                · skip
                  refine wpAnyH_ready (rs := [1, 6]) (by kernel_rfl) (by simp) ?_
                  refine AllReadyH.cons rfl (fun K hK => ?_) ?_
                  · go_simp
                    refine (IN1.out W J.up).mono ?_
                    rintro e' W2 ⟨rfl, hb⟩
                    refine hK.out _ _ (KS.out _ (bl_trans J.up hb)) (fun _ => ?_)
                    simp only [List.setIfInBounds_toArray, List.set_cons_zero, List.set_cons_succ]
                    exact ih _ _ _ _ _ _ _ _ _ _ _ _ _ (by simp [left6] at hf ⊢; omega) (J.call1 hb)
                  refine AllReadyH.cons rfl (fun K hK => ?_) ?_
                  · go_simp
                    refine hK.out _ _ (KS.out _ (bl_alloc J.up _)) (fun _ => ?_)
                    simp only [List.setIfInBounds_toArray, List.set_cons_zero, List.set_cons_succ]
                    exact ih _ _ _ _ _ _ _ _ _ _ _ _ _ (by simp [left6] at hf ⊢; omega) J.make1
                  exact AllReadyH.nil
            · skip
              cases k2
              · skip
                cases k3
                · skip
                  refine wpAnyH_ready (rs := [1, 7, 8]) (by kernel_rfl) (by simp) ?_
                  refine AllReadyH.cons rfl (fun K hK => ?_) ?_
                  · go_simp
                    refine (IN1.out W J.up).mono ?_
                    rintro e' W2 ⟨rfl, hb⟩
                    refine hK.out _ _ (KS.out _ (bl_trans J.up hb)) (fun _ => ?_)
                    simp only [List.setIfInBounds_toArray, List.set_cons_zero, List.set_cons_succ]
                    exact ih _ _ _ _ _ _ _ _ _ _ _ _ _ (by simp [left6] at hf ⊢; omega) (J.call1 hb)
                  refine AllReadyH.cons rfl (fun K hK => ?_) ?_
                  · go_simp
                    refine hK.out _ _ (KS.out _ (bl_alloc J.up _)) (fun _ => ?_)
                    simp only [List.setIfInBounds_toArray, List.set_cons_zero, List.set_cons_succ]
                    exact ih _ _ _ _ _ _ _ _ _ _ _ _ _ (by simp [left6] at hf ⊢; omega) J.make2
                  refine AllReadyH.cons rfl (fun K hK => ?_) ?_
                  · go_simp
                    refine hK.out _ _ (KS.out _ (bl_alloc J.up _)) (fun _ => ?_)
                    simp only [List.setIfInBounds_toArray, List.set_cons_zero, List.set_cons_succ]
                    exact ih _ _ _ _ _ _ _ _ _ _ _ _ _ (by simp [left6] at hf ⊢; omega) J.make3
                  exact AllReadyH.nil
                · skip
                  refine wpAnyH_ready (rs := [1, 7]) (by kernel_rfl) (by simp) ?_
                  refine AllReadyH.cons rfl (fun K hK => ?_) ?_
                  · go_simp
                    refine (IN1.out W J.up).mono ?_
                    rintro e' W2 ⟨rfl, hb⟩
                    refine hK.out _ _ (KS.out _ (bl_trans J.up hb)) (fun _ => ?_)
                    simp only [List.setIfInBounds_toArray, List.set_cons_zero, List.set_cons_succ]
                    exact ih _ _ _ _ _ _ _ _ _ _ _ _ _ (by simp [left6] at hf ⊢; omega) (J.call1 hb)
                  refine AllReadyH.cons rfl (fun K hK => ?_) ?_
                  · go_simp
                    refine hK.out _ _ (KS.out _ (bl_alloc J.up _)) (fun _ => ?_)
                    simp only [List.setIfInBounds_toArray, List.set_cons_zero, List.set_cons_succ]
                    exact ih _ _ _ _ _ _ _ _ _ _ _ _ _ (by simp [left6] at hf ⊢; omega) J.make2
                  exact AllReadyH.nil
              · skip
                cases k3
                · skip
                  refine wpAnyH_ready (rs := [1, 8]) (by kernel_rfl) (by simp) ?_
                  refine AllReadyH.cons rfl (fun K hK => ?_) ?_
                  · go_simp
                    refine (IN1.out W J.up).mono ?_
                    rintro e' W2 ⟨rfl, hb⟩
                    refine hK.out _ _ (KS.out _ (bl_trans J.up hb)) (fun _ => ?_)
                    simp only [List.setIfInBounds_toArray, List.set_cons_zero, List.set_cons_succ]
                    exact ih _ _ _ _ _ _ _ _ _ _ _ _ _ (by simp [left6] at hf ⊢; omega) (J.call1 hb)
                  refine AllReadyH.cons rfl (fun K hK => ?_) ?_
                  · go_simp
                    refine hK.out _ _ (KS.out _ (bl_alloc J.up _)) (fun _ => ?_)
                    simp only [List.setIfInBounds_toArray, List.set_cons_zero, List.set_cons_succ]
                    exact ih _ _ _ _ _ _ _ _ _ _ _ _ _ (by simp [left6] at hf ⊢; omega) J.make3
                  exact AllReadyH.nil
                · skip
                  refine wpAnyH_ready (rs := [1]) (by kernel_rfl) (by simp) ?_
                  refine AllReadyH.cons rfl (fun K hK => ?_) ?_
                  · go_simp
                    refine (IN1.out W J.up).mono ?_
                    rintro e' W2 ⟨rfl, hb⟩
                    refine hK.out _ _ (KS.out _ (bl_trans J.up hb)) (fun _ => ?_)
                    simp only [List.setIfInBounds_toArray, List.set_cons_zero, List.set_cons_succ]
                    exact ih _ _ _ _ _ _ _ _ _ _ _ _ _ (by simp [left6] at hf ⊢; omega) (J.call1 hb)
                  exact AllReadyH.nil
          · skip
            exact absurd (J.ch.2 rfl) (by decide)
        · skip
          exact absurd (J.ch.1 rfl) (by decide)
      · skip
        cases c2
        · skip
          cases c3
          · skip
            cases k1
            · skip
              cases k2
              · skip
                cases k3
                · skip
                  refine wpAnyH_ready (rs := [3, 6, 7, 8]) (by kernel_rfl) (by simp) ?_
                  refine AllReadyH.cons rfl (fun K hK => ?_) ?_
                  · go_simp
                    refine (IN2.out W J.up).mono ?_
                    rintro e' W2 ⟨rfl, hb⟩
                    refine hK.out _ _ (KS.out _ (bl_trans J.up hb)) (fun _ => ?_)
                    simp only [List.setIfInBounds_toArray, List.set_cons_zero, List.set_cons_succ]
                    exact ih _ _ _ _ _ _ _ _ _ _ _ _ _ (by simp [left6] at hf ⊢; omega) (J.call2 hb)
                  refine AllReadyH.cons rfl (fun K hK => ?_) ?_
                  · go_simp
                    refine hK.out _ _ (KS.out _ (bl_alloc J.up _)) (fun _ => ?_)
                    simp only [List.setIfInBounds_toArray, List.set_cons_zero, List.set_cons_succ]
                    exact ih _ _ _ _ _ _ _ _ _ _ _ _ _ (by simp [left6] at hf ⊢; omega) J.make1
                  refine AllReadyH.cons rfl (fun K hK => ?_) ?_
                  · go_simp
                    refine hK.out _ _ (KS.out _ (bl_alloc J.up _)) (fun _ => ?_)
                    simp only [List.setIfInBounds_toArray, List.set_cons_zero, List.set_cons_succ]
                    exact ih _ _ _ _ _ _ _ _ _ _ _ _ _ (by simp [left6] at hf ⊢; omega) J.make2
                  refine AllReadyH.cons rfl (fun K hK => ?_) ?_
                  · go_simp
                    refine hK.out _ _ (KS.out _ (bl_alloc J.up _)) (fun _ => ?_)
                    simp only [List.setIfInBounds_toArray, List.set_cons_zero, List.set_cons_succ]
                    exact ih _ _ _ _ _ _ _ _ _ _ _ _ _ (by simp [left6] at hf ⊢; omega) J.make3
                  exact AllReadyH.nil
                · skip
                  refine wpAnyH_ready (rs := [3, 6, 7]) (by kernel_rfl) (by simp) ?_
                  refine AllReadyH.cons rfl (fun K hK => ?_) ?_
                  · go_simp
                    refine (IN2.out W J.up).mono ?_
                    rintro e' W2 ⟨rfl, hb⟩
                    refine hK.out _ _ (KS.out _ (bl_trans J.up hb)) (fun _ => ?_)
                    simp only [List.setIfInBounds_toArray, List.set_cons_zero, List.set_cons_succ]
                    exact ih _ _ _ _ _ _ _ _ _ _ _ _ _ (by simp [left6] at hf ⊢; omega) (J.call2 hb)
                  refine AllReadyH.cons rfl (fun K hK => ?_) ?_
                  · go_simp
                    refine hK.out _ _ (KS.out _ (bl_alloc J.up _)) (fun _ => ?_)
                    simp only [List.setIfInBounds_toArray, List.set_cons_zero, List.set_cons_succ]
                    exact ih _ _ _ _ _ _ _ _ _ _ _ _ _ (by simp [left6] at hf ⊢; omega) J.make1
                  refine AllReadyH.cons rfl (fun K hK => ?_) ?_
                  · go_simp
                    refine hK.out _ _ (KS.out _ (bl_alloc J.up _)) (fun _ => ?_)
                    simp only [List.setIfInBounds_toArray, List.set_cons_zero, List.set_cons_succ]
                    exact ih _ _ _ _ _ _ _ _ _ _ _ _ _ (by simp [left6] at hf ⊢; omega) J.make2
                  exact AllReadyH.nil
              · skip
                cases k3
                · skip
                  refine wpAnyH_ready (rs := [3, 6, 8]) (by kernel_rfl) (by simp) ?_
                  refine AllReadyH.cons rfl (fun K hK => ?_) ?_
                  · go_simp
                    refine (IN2.out W J.up).mono ?_
                    rintro e' W2 ⟨rfl, hb⟩
                    refine hK.out _ _ (KS.out _ (bl_trans J.up hb)) (fun _ => ?_)
                    simp only [List.setIfInBounds_toArray, List.set_cons_zero, List.set_cons_succ]
                    exact ih _ _ _ _ _ _ _ _ _ _ _ _ _ (by simp [left6] at hf ⊢; omega) (J.call2 hb)
                  refine AllReadyH.cons rfl (fun K hK => ?_) ?_
                  · go_simp
                    refine hK.out _ _ (KS.out _ (bl_alloc J.up _)) (fun _ => ?_)
                    simp only [List.setIfInBounds_toArray, List.set_cons_zero, List.set_cons_succ]
                    exact ih _ _ _ _ _ _ _ _ _ _ _ _ _ (by simp [left6] at hf ⊢; omega) J.make1
                  refine AllReadyH.cons rfl (fun K hK => ?_) ?_
                  · go_simp
                    refine hK.out _ _ (KS.out _ (bl_alloc J.up _)) (fun _ => ?_)
                    simp only [List.setIfInBounds_toArray, List.set_cons_zero, List.set_cons_succ]
                    exact ih _ _ _ _ _ _ _ _ _ _ _ _ _ (by simp [left6] at hf ⊢; omega) J.make3
                  exact AllReadyH.nil
                · skip
                  refine wpAnyH_ready (rs := [3, 6]) (by kernel_rfl) (by simp) ?_
                  refine AllReadyH.cons rfl (fun K hK => ?_) ?_
                  · go_simp
                    refine (IN2.out W J.up).mono ?_
                    rintro e' W2 ⟨rfl, hb⟩
                    refine hK.out _ _ (KS.out _ (bl_trans J.up hb)) (fun _ => ?_)
                    simp only [List.setIfInBounds_toArray, List.set_cons_zero, List.set_cons_succ]
                    exact ih _ _ _ _ _ _ _ _ _ _ _ _ _ (by simp [left6] at hf ⊢; omega) (J.call2 hb)
                  refine AllReadyH.cons rfl (fun K hK => ?_) ?_
                  · go_simp
                    refine hK.out _ _ (KS.out _ (bl_alloc J.up _)) (fun _ => ?_)
                    simp only [List.setIfInBounds_toArray, List.set_cons_zero, List.set_cons_succ]
                    exact ih _ _ _ _ _ _ _ _ _ _ _ _ _ (by simp [left6] at hf ⊢; omega) J.make1
                  exact AllReadyH.nil
            · skip
              cases k2
              · skip
                cases k3
                · skip
                  refine wpAnyH_ready (rs := [3, 7, 8]) (by kernel_rfl) (by simp) ?_
                  refine AllReadyH.cons rfl (fun K hK => ?_) ?_
                  · go_simp
                    refine (IN2.out W J.up).mono ?_
                    rintro e' W2 ⟨rfl, hb⟩
                    refine hK.out _ _ (KS.out _ (bl_trans J.up hb)) (fun _ => ?_)
                    simp only [List.setIfInBounds_toArray, List.set_cons_zero, List.set_cons_succ]
                    exact ih _ _ _ _ _ _ _ _ _ _ _ _ _ (by simp [left6] at hf ⊢; omega) (J.call2 hb)
                  refine AllReadyH.cons rfl (fun K hK => ?_) ?_
                  · go_simp
                    refine hK.out _ _ (KS.out _ (bl_alloc J.up _)) (fun _ => ?_)
                    simp only [List.setIfInBounds_toArray, List.set_cons_zero, List.set_cons_succ]
                    exact ih _ _ _ _ _ _ _ _ _ _ _ _ _ (by simp [left6] at hf ⊢; omega) J.make2
                  refine AllReadyH.cons rfl (fun K hK => ?_) ?_
                  · go_simp
                    refine hK.out _ _ (KS.out _ (bl_alloc J.up _)) (fun _ => ?_)
                    simp only [List.setIfInBounds_toArray, List.set_cons_zero, List.set_cons_succ]
                    exact ih _ _ _ _ _ _ _ _ _ _ _ _ _ (by simp [left6] at hf ⊢; omega) J.make3
                  exact AllReadyH.nil
                · skip
                  refine wpAnyH_ready (rs := [3, 7]) (by kernel_rfl) (by simp) ?_
                  refine AllReadyH.cons rfl (fun K hK => ?_) ?_
                  · go_simp
                    refine (IN2.out W J.up).mono ?_
                    rintro e' W2 ⟨rfl, hb⟩
                    refine hK.out _ _ (KS.out _ (bl_trans J.up hb)) (fun _ => ?_)
                    simp only [List.setIfInBounds_toArray, List.set_cons_zero, List.set_cons_succ]
                    exact ih _ _ _ _ _ _ _ _ _ _ _ _ _ (by simp [left6] at hf ⊢; omega) (J.call2 hb)
                  refine AllReadyH.cons rfl (fun K hK => ?_) ?_
                  · go_simp
                    refine hK.out _ _ (KS.out _ (bl_alloc J.up _)) (fun _ => ?_)
                    simp only [List.setIfInBounds_toArray, List.set_cons_zero, List.set_cons_succ]
                    exact ih _ _ _ _ _ _ _ _ _ _ _ _ _ (by simp [left6] at hf ⊢; omega) J.make2
                  exact AllReadyH.nil
              · skip
                cases k3
                · skip
                  refine wpAnyH_ready (rs := [3, 8]) (by kernel_rfl) (by simp) ?_
                  refine AllReadyH.cons rfl (fun K hK => ?_) ?_
                  · go_simp
                    refine (IN2.out W J.up).mono ?_
                    rintro e' W2 ⟨rfl, hb⟩
                    refine hK.out _ _ (KS.out _ (bl_trans J.up hb)) (fun _ => ?_)
                    simp only [List.setIfInBounds_toArray, List.set_cons_zero, List.set_cons_succ]
                    exact ih _ _ _ _ _ _ _ _ _ _ _ _ _ (by simp [left6] at hf ⊢; omega) (J.call2 hb)
                  refine AllReadyH.cons rfl (fun K hK => ?_) ?_
                  · go_simp
                    refine hK.out _ _ (KS.out _ (bl_alloc J.up _)) (fun _ => ?_)
                    simp only [List.setIfInBounds_toArray, List.set_cons_zero, List.set_cons_succ]
                    exact ih _ _ _ _ _ _ _ _ _ _ _ _ _ (by simp [left6] at hf ⊢; omega) J.make3
                  exact AllReadyH.nil
                · skip
                  refine wpAnyH_ready (rs := [3]) (by kernel_rfl) (by simp) ?_
                  refine AllReadyH.cons rfl (fun K hK => ?_) ?_
                  · go_simp
                    refine (IN2.out W J.up).mono ?_
                    rintro e' W2 ⟨rfl, hb⟩
                    refine hK.out _ _ (KS.out _ (bl_trans J.up hb)) (fun _ => ?_)
                    simp only [List.setIfInBounds_toArray, List.set_cons_zero, List.set_cons_succ]
                    exact ih _ _ _ _ _ _ _ _ _ _ _ _ _ (by simp [left6] at hf ⊢; omega) (J.call2 hb)
                  exact AllReadyH.nil
          · skip
            exact absurd (J.ch.2 rfl) (by decide)
        · skip
          cases c3
          · skip
            cases k1
            · skip
              cases k2
              · skip
                cases k3
                · skip
                  refine wpAnyH_ready (rs := [5, 6, 7, 8]) (by kernel_rfl) (by simp) ?_
                  refine AllReadyH.cons rfl (fun K hK => ?_) ?_
                  · go_simp
                    refine (IN3.out W J.up).mono ?_
                    rintro e' W2 ⟨rfl, hb⟩
                    refine hK.out _ _ (KS.out _ (bl_trans J.up hb)) (fun _ => ?_)
                    simp only [List.setIfInBounds_toArray, List.set_cons_zero, List.set_cons_succ]
                    exact ih _ _ _ _ _ _ _ _ _ _ _ _ _ (by simp [left6] at hf ⊢; omega) (J.call3 hb)
                  refine AllReadyH.cons rfl (fun K hK => ?_) ?_
                  · go_simp
                    refine hK.out _ _ (KS.out _ (bl_alloc J.up _)) (fun _ => ?_)
                    simp only [List.setIfInBounds_toArray, List.set_cons_zero, List.set_cons_succ]
                    exact ih _ _ _ _ _ _ _ _ _ _ _ _ _ (by simp [left6] at hf ⊢; omega) J.make1
                  refine AllReadyH.cons rfl (fun K hK => ?_) ?_
                  · go_simp
                    refine hK.out _ _ (KS.out _ (bl_alloc J.up _)) (fun _ => ?_)
                    simp only [List.setIfInBounds_toArray, List.set_cons_zero, List.set_cons_succ]
                    exact ih _ _ _ _ _ _ _ _ _ _ _ _ _ (by simp [left6] at hf ⊢; omega) J.make2
                  refine AllReadyH.cons rfl (fun K hK => ?_) ?_
                  · go_simp
                    refine hK.out _ _ (KS.out _ (bl_alloc J.up _)) (fun _ => ?_)
                    simp only [List.setIfInBounds_toArray, List.set_cons_zero, List.set_cons_succ]
                    exact ih _ _ _ _ _ _ _ _ _ _ _ _ _ (by simp [left6] at hf ⊢; omega) J.make3
                  exact AllReadyH.nil
                · skip
                  refine wpAnyH_ready (rs := [5, 6, 7]) (by kernel_rfl) (by simp) ?_
                  refine AllReadyH.cons rfl (fun K hK => ?_) ?_
                  · go_simp
                    refine (IN3.out W J.up).mono ?_
                    rintro e' W2 ⟨rfl, hb⟩
                    refine hK.out _ _ (KS.out _ (bl_trans J.up hb)) (fun _ => ?_)
                    simp only [List.setIfInBounds_toArray, List.set_cons_zero, List.set_cons_succ]
                    exact ih _ _ _ _ _ _ _ _ _ _ _ _ _ (by simp [left6] at hf ⊢; omega) (J.call3 hb)
                  refine AllReadyH.cons rfl (fun K hK => ?_) ?_
                  · go_simp
                    refine hK.out _ _ (KS.out _ (bl_alloc J.up _)) (fun _ => ?_)
                    simp only [List.setIfInBounds_toArray, List.set_cons_zero, List.set_cons_succ]
                    exact ih _ _ _ _ _ _ _ _ _ _ _ _ _ (by simp [left6] at hf ⊢; omega) J.make1
                  refine AllReadyH.cons rfl (fun K hK => ?_) ?_
                  · go_simp
                    refine hK.out _ _ (KS.out _ (bl_alloc J.up _)) (fun _ => ?_)
                    simp only [List.setIfInBounds_toArray, List.set_cons_zero, List.set_cons_succ]
                    exact ih _ _ _ _ _ _ _ _ _ _ _ _ _ (by simp [left6] at hf ⊢; omega) J.make2
                  exact AllReadyH.nil
              · skip
                cases k3
                · skip
                  refine wpAnyH_ready (rs := [5, 6, 8]) (by kernel_rfl) (by simp) ?_
                  refine AllReadyH.cons rfl (fun K hK => ?_) ?_
                  · go_simp
                    refine (IN3.out W J.up).mono ?_
                    rintro e' W2 ⟨rfl, hb⟩
                    refine hK.out _ _ (KS.out _ (bl_trans J.up hb)) (fun _ => ?_)
                    simp only [List.setIfInBounds_toArray, List.set_cons_zero, List.set_cons_succ]
                    exact ih _ _ _ _ _ _ _ _ _ _ _ _ _ (by simp [left6] at hf ⊢; omega) (J.call3 hb)
                  refine AllReadyH.cons rfl (fun K hK => ?_) ?_
                  · go_simp
                    refine hK.out _ _ (KS.out _ (bl_alloc J.up _)) (fun _ => ?_)
                    simp only [List.setIfInBounds_toArray, List.set_cons_zero, List.set_cons_succ]
                    exact ih _ _ _ _ _ _ _ _ _ _ _ _ _ (by simp [left6] at hf ⊢; omega) J.make1
                  refine AllReadyH.cons rfl (fun K hK => ?_) ?_
                  · go_simp
                    refine hK.out _ _ (KS.out _ (bl_alloc J.up _)) (fun _ => ?_)
                    simp only [List.setIfInBounds_toArray, List.set_cons_zero, List.set_cons_succ]
                    exact ih _ _ _ _ _ _ _ _ _ _ _ _ _ (by simp [left6] at hf ⊢; omega) J.make3
                  exact AllReadyH.nil
                · skip
                  refine wpAnyH_ready (rs := [5, 6]) (by kernel_rfl) (by simp) ?_
                  refine AllReadyH.cons rfl (fun K hK => ?_) ?_
                  · go_simp
                    refine (IN3.out W J.up).mono ?_
                    rintro e' W2 ⟨rfl, hb⟩
                    refine hK.out _ _ (KS.out _ (bl_trans J.up hb)) (fun _ => ?_)
                    simp only [List.setIfInBounds_toArray, List.set_cons_zero, List.set_cons_succ]
                    exact ih _ _ _ _ _ _ _ _ _ _ _ _ _ (by simp [left6] at hf ⊢; omega) (J.call3 hb)
                  refine AllReadyH.cons rfl (fun K hK => ?_) ?_
                  · go_simp
                    refine hK.out _ _ (KS.out _ (bl_alloc J.up _)) (fun _ => ?_)
                    simp only [List.setIfInBounds_toArray, List.set_cons_zero, List.set_cons_succ]
                    exact ih _ _ _ _ _ _ _ _ _ _ _ _ _ (by simp [left6] at hf ⊢; omega) J.make1
                  exact AllReadyH.nil
            · skip
              cases k2
              · skip
                cases k3
                · skip
                  refine wpAnyH_ready (rs := [5, 7, 8]) (by kernel_rfl) (by simp) ?_
                  refine AllReadyH.cons rfl (fun K hK => ?_) ?_
                  · go_simp
                    refine (IN3.out W J.up).mono ?_
                    rintro e' W2 ⟨rfl, hb⟩
                    refine hK.out _ _ (KS.out _ (bl_trans J.up hb)) (fun _ => ?_)
                    simp only [List.setIfInBounds_toArray, List.set_cons_zero, List.set_cons_succ]
                    exact ih _ _ _ _ _ _ _ _ _ _ _ _ _ (by simp [left6] at hf ⊢; omega) (J.call3 hb)
                  refine AllReadyH.cons rfl (fun K hK => ?_) ?_
                  · go_simp
                    refine hK.out _ _ (KS.out _ (bl_alloc J.up _)) (fun _ => ?_)
                    simp only [List.setIfInBounds_toArray, List.set_cons_zero, List.set_cons_succ]
                    exact ih _ _ _ _ _ _ _ _ _ _ _ _ _ (by simp [left6] at hf ⊢; omega) J.make2
                  refine AllReadyH.cons rfl (fun K hK => ?_) ?_
                  · go_simp
                    refine hK.out _ _ (KS.out _ (bl_alloc J.up _)) (fun _ => ?_)
                    simp only [List.setIfInBounds_toArray, List.set_cons_zero, List.set_cons_succ]
                    exact ih _ _ _ _ _ _ _ _ _ _ _ _ _ (by simp [left6] at hf ⊢; omega) J.make3
                  exact AllReadyH.nil
                · skip
                  refine wpAnyH_ready (rs := [5, 7]) (by kernel_rfl) (by simp) ?_
                  refine AllReadyH.cons rfl (fun K hK => ?_) ?_
                  · go_simp
                    refine (IN3.out W J.up).mono ?_
                    rintro e' W2 ⟨rfl, hb⟩
                    refine hK.out _ _ (KS.out _ (bl_trans J.up hb)) (fun _ => ?_)
                    simp only [List.setIfInBounds_toArray, List.set_cons_zero, List.set_cons_succ]
                    exact ih _ _ _ _ _ _ _ _ _ _ _ _ _ (by simp [left6] at hf ⊢; omega) (J.call3 hb)
                  refine AllReadyH.cons rfl (fun K hK => ?_) ?_
                  · go_simp
                    refine hK.out _ _ (KS.out _ (bl_alloc J.up _)) (fun _ => ?_)
                    simp only [List.setIfInBounds_toArray, List.set_cons_zero, List.set_cons_succ]
                    exact ih _ _ _ _ _ _ _ _ _ _ _ _ _ (by simp [left6] at hf ⊢; omega) J.make2
                  exact AllReadyH.nil
              · skip
                cases k3
                · skip
                  refine wpAnyH_ready (rs := [5, 8]) (by kernel_rfl) (by simp) ?_
                  refine AllReadyH.cons rfl (fun K hK => ?_) ?_
                  · go_simp
                    refine (IN3.out W J.up).mono ?_
                    rintro e' W2 ⟨rfl, hb⟩
                    refine hK.out _ _ (KS.out _ (bl_trans J.up hb)) (fun _ => ?_)
                    simp only [List.setIfInBounds_toArray, List.set_cons_zero, List.set_cons_succ]
                    exact ih _ _ _ _ _ _ _ _ _ _ _ _ _ (by simp [left6] at hf ⊢; omega) (J.call3 hb)
                  refine AllReadyH.cons rfl (fun K hK => ?_) ?_
                  · go_simp
                    refine hK.out _ _ (KS.out _ (bl_alloc J.up _)) (fun _ => ?_)
                    simp only [List.setIfInBounds_toArray, List.set_cons_zero, List.set_cons_succ]
                    exact ih _ _ _ _ _ _ _ _ _ _ _ _ _ (by simp [left6] at hf ⊢; omega) J.make3
                  exact AllReadyH.nil
                · skip
                  refine wpAnyH_ready (rs := [5]) (by kernel_rfl) (by simp) ?_
                  refine AllReadyH.cons rfl (fun K hK => ?_) ?_
                  · go_simp
                    refine (IN3.out W J.up).mono ?_
                    rintro e' W2 ⟨rfl, hb⟩
                    refine hK.out _ _ (KS.out _ (bl_trans J.up hb)) (fun _ => ?_)
                    simp only [List.setIfInBounds_toArray, List.set_cons_zero, List.set_cons_succ]
                    exact ih _ _ _ _ _ _ _ _ _ _ _ _ _ (by simp [left6] at hf ⊢; omega) (J.call3 hb)
                  exact AllReadyH.nil
          · skip
            cases k1
            · skip
              cases k2
              · skip
                cases k3
                · skip
                  refine wpAnyH_ready (rs := [6, 7, 8]) (by kernel_rfl) (by simp) ?_
                  refine AllReadyH.cons rfl (fun K hK => ?_) ?_
                  · go_simp
                    refine hK.out _ _ (KS.out _ (bl_alloc J.up _)) (fun _ => ?_)
                    simp only [List.setIfInBounds_toArray, List.set_cons_zero, List.set_cons_succ]
                    exact ih _ _ _ _ _ _ _ _ _ _ _ _ _ (by simp [left6] at hf ⊢; omega) J.make1
                  refine AllReadyH.cons rfl (fun K hK => ?_) ?_
                  · go_simp
                    refine hK.out _ _ (KS.out _ (bl_alloc J.up _)) (fun _ => ?_)
                    simp only [List.setIfInBounds_toArray, List.set_cons_zero, List.set_cons_succ]
                    exact ih _ _ _ _ _ _ _ _ _ _ _ _ _ (by simp [left6] at hf ⊢; omega) J.make2
                  refine AllReadyH.cons rfl (fun K hK => ?_) ?_
                  · go_simp
                    refine hK.out _ _ (KS.out _ (bl_alloc J.up _)) (fun _ => ?_)
                    simp only [List.setIfInBounds_toArray, List.set_cons_zero, List.set_cons_succ]
                    exact ih _ _ _ _ _ _ _ _ _ _ _ _ _ (by simp [left6] at hf ⊢; omega) J.make3
                  exact AllReadyH.nil
                · skip
                  refine wpAnyH_ready (rs := [6, 7]) (by kernel_rfl) (by simp) ?_
                  refine AllReadyH.cons rfl (fun K hK => ?_) ?_
                  · go_simp
                    refine hK.out _ _ (KS.out _ (bl_alloc J.up _)) (fun _ => ?_)
                    simp only [List.setIfInBounds_toArray, List.set_cons_zero, List.set_cons_succ]
                    exact ih _ _ _ _ _ _ _ _ _ _ _ _ _ (by simp [left6] at hf ⊢; omega) J.make1
                  refine AllReadyH.cons rfl (fun K hK => ?_) ?_
                  · go_simp
                    refine hK.out _ _ (KS.out _ (bl_alloc J.up _)) (fun _ => ?_)
                    simp only [List.setIfInBounds_toArray, List.set_cons_zero, List.set_cons_succ]
                    exact ih _ _ _ _ _ _ _ _ _ _ _ _ _ (by simp [left6] at hf ⊢; omega) J.make2
                  exact AllReadyH.nil
              · skip
                cases k3
                · skip
                  refine wpAnyH_ready (rs := [6, 8]) (by kernel_rfl) (by simp) ?_
                  refine AllReadyH.cons rfl (fun K hK => ?_) ?_
                  · go_simp
                    refine hK.out _ _ (KS.out _ (bl_alloc J.up _)) (fun _ => ?_)
                    simp only [List.setIfInBounds_toArray, List.set_cons_zero, List.set_cons_succ]
                    exact ih _ _ _ _ _ _ _ _ _ _ _ _ _ (by simp [left6] at hf ⊢; omega) J.make1
                  refine AllReadyH.cons rfl (fun K hK => ?_) ?_
                  · go_simp
                    refine hK.out _ _ (KS.out _ (bl_alloc J.up _)) (fun _ => ?_)
                    simp only [List.setIfInBounds_toArray, List.set_cons_zero, List.set_cons_succ]
                    exact ih _ _ _ _ _ _ _ _ _ _ _ _ _ (by simp [left6] at hf ⊢; omega) J.make3
                  exact AllReadyH.nil
                · skip
                  refine wpAnyH_ready (rs := [6]) (by kernel_rfl) (by simp) ?_
                  refine AllReadyH.cons rfl (fun K hK => ?_) ?_
                  · go_simp
                    refine hK.out _ _ (KS.out _ (bl_alloc J.up _)) (fun _ => ?_)
                    simp only [List.setIfInBounds_toArray, List.set_cons_zero, List.set_cons_succ]
                    exact ih _ _ _ _ _ _ _ _ _ _ _ _ _ (by simp [left6] at hf ⊢; omega) J.make1
                  exact AllReadyH.nil
            · skip
              cases k2
              · skip
                cases k3
                · skip
                  refine wpAnyH_ready (rs := [7, 8]) (by kernel_rfl) (by simp) ?_
                  refine AllReadyH.cons rfl (fun K hK => ?_) ?_
                  · go_simp
                    refine hK.out _ _ (KS.out _ (bl_alloc J.up _)) (fun _ => ?_)
                    simp only [List.setIfInBounds_toArray, List.set_cons_zero, List.set_cons_succ]
                    exact ih _ _ _ _ _ _ _ _ _ _ _ _ _ (by simp [left6] at hf ⊢; omega) J.make2
                  refine AllReadyH.cons rfl (fun K hK => ?_) ?_
                  · go_simp
                    refine hK.out _ _ (KS.out _ (bl_alloc J.up _)) (fun _ => ?_)
                    simp only [List.setIfInBounds_toArray, List.set_cons_zero, List.set_cons_succ]
                    exact ih _ _ _ _ _ _ _ _ _ _ _ _ _ (by simp [left6] at hf ⊢; omega) J.make3
                  exact AllReadyH.nil
                · skip
                  refine wpAnyH_ready (rs := [7]) (by kernel_rfl) (by simp) ?_
                  refine AllReadyH.cons rfl (fun K hK => ?_) ?_
                  · go_simp
                    refine hK.out _ _ (KS.out _ (bl_alloc J.up _)) (fun _ => ?_)
                    simp only [List.setIfInBounds_toArray, List.set_cons_zero, List.set_cons_succ]
                    exact ih _ _ _ _ _ _ _ _ _ _ _ _ _ (by simp [left6] at hf ⊢; omega) J.make2
                  exact AllReadyH.nil
              · skip
                cases k3
                · skip
                  refine wpAnyH_ready (rs := [8]) (by kernel_rfl) (by simp) ?_
                  refine AllReadyH.cons rfl (fun K hK => ?_) ?_
                  · go_simp
                    refine hK.out _ _ (KS.out _ (bl_alloc J.up _)) (fun _ => ?_)
                    simp only [List.setIfInBounds_toArray, List.set_cons_zero, List.set_cons_succ]
                    exact ih _ _ _ _ _ _ _ _ _ _ _ _ _ (by simp [left6] at hf ⊢; omega) J.make3
                  exact AllReadyH.nil
                · skip
                  obtain rfl := J.q1 rfl
                  obtain rfl := J.q2 rfl
                  obtain rfl := J.q3 rfl
                  have D12 := J.d12 rfl rfl
                  have D13 := J.d13 rfl rfl
                  have D23 := J.d23 rfl rfl
                  obtain ⟨g1, rfl, l1, e1⟩ := J.r1 rfl
                  obtain ⟨g2, rfl, l2, e2⟩ := J.r2 rfl
                  obtain ⟨g3, rfl, l3, e3⟩ := J.r3 rfl
                  have HU := hide J.up
                  obtain rfl : n = 2 := by simp [left6] at hf; omega
                  clear J ih hf
                  obtain ⟨m0, m1⟩ := duo e1
                  have hf1 := duof e1
                  have D12g : g1 ≠ g2 := fun e => D12 (by rw [e])
                  have D13g : g1 ≠ g3 := fun e => D13 (by rw [e])
                  have D23g : g2 ≠ g3 := fun e => D23 (by rw [e])
                  have FIN := three_ss (b0 := b0) (b1 := b1) (b2 := b2) (v0 := .slice a0 z0.length n0) (v1 := .slice a1 z1.length n1) (v2 := .slice a2 z2.length n2) e1 e2 e3 l1 l2 l3 D12g D13g D23g HU.out
                  have HFIN := hide FIN
                  clear FIN D12 D13 D23
                  have t2 := duo_other (u0 := .bool b0) (u1 := .slice a0 z0.length n0) e2 (Ne.symm D12g)
                  have t3 := duo_other (u0 := .bool b1) (u1 := .slice a1 z1.length n1) (duo_other (u0 := .bool b0) (u1 := .slice a0 z0.length n0) e3 (Ne.symm D13g)) (Ne.symm D23g)
                  obtain ⟨m2, m3⟩ := duo t2
                  have hf2 := duof t2
                  obtain ⟨m4, m5⟩ := duo t3
                  have hf3 := duof t3
                  have HB1 := hide (below_duo (u0 := .bool b0) (u1 := .slice a0 z0.length n0) HU.out l1)
                  have HB2 := hide (below_duo (u0 := .bool b1) (u1 := .slice a1 z1.length n1) HB1.out l2)
                  have HB3 := hide (below_duo (u0 := .bool b2) (u1 := .slice a2 z2.length n2) HB2.out l3)
                  clear t2 t3 e1 e2 e3
                  refine wpAnyH_ready (rs := [9]) (by kernel_rfl) (by simp) ?_
                  refine AllReadyH.cons rfl (fun K hK => ?_) AllReadyH.nil
                  go_simp
                  refine hK.out _ _ (KS.out _ HB1.out) (fun _ => ?_)
                  clear hK K
                  try simp only [List.setIfInBounds_toArray, List.set_cons_zero, List.set_cons_succ]
                  refine wpAnyH_ready (rs := [10]) (by kernel_rfl) (by simp) ?_
                  refine AllReadyH.cons rfl (fun K hK => ?_) AllReadyH.nil
                  go_simp
                  refine hK.out _ _ (KS.out _ HB2.out) (fun _ => ?_)
                  clear hK K
                  try simp only [List.setIfInBounds_toArray, List.set_cons_zero, List.set_cons_succ]
                  refine wpAnyH_ready (rs := [11]) (by kernel_rfl) (by simp) ?_
                  refine AllReadyH.cons rfl (fun K hK => ?_) AllReadyH.nil
                  go_simp
                  refine hK.out _ _ (KS.out _ HB3.out) (fun _ => ?_)
                  clear hK K
                  try simp only [List.setIfInBounds_toArray, List.set_cons_zero, List.set_cons_succ]
                  refine wpAnyH_done (by kernel_rfl) ?_ _
                  clear m0 m1 m2 m3 m4 m5 hf1 hf2 hf3 HB1 HB2 HB3
                  go_wp2_with fail
                  go_meet
                  exact HFIN.out
  case rest =>
    obtain ⟨gx, gy, gz, rfl, rfl, rfl, hX, hY, hZ, hbx⟩ := hcut
    replace HA0 := hide (HA0.out.below hbx)
    replace HA1 := hide (HA1.out.below hbx)
    replace HA2 := hide (HA2.out.below hbx)
    replace HT := hide (HT.out.below hbx)
    replace HW := hid_below HW hbx
    have HX := hide hX
    have HY := hide hY
    have HZ := hide hZ
    clear hX hY hZ hbx HA HBb HC hw0
    generalize hzA : zz b0 (val z0) = zA at *
    generalize hzB : zz b1 (val z1) = zB at *
    generalize hzC : zz b2 (val z2) = zC at *
    have EQ := hide (And.intro hzA (And.intro hzB hzC))
    clear hzA hzB hzC
    obtain ⟨ca0, cb0⟩ := duo HX.out
    obtain ⟨ca1, cb1⟩ := duo HY.out
    have C := wmul_any b0 _ z0 b1 _ z1 wc HA0.out HA1.out HT.out (by omega) (by omega)
    rw [EQ.out.1, EQ.out.2.1] at C
    go_wp2_with fail
    refine C.mono ?_
    rintro e Q1 ⟨⟨bxy, axy, lxy, kxy, cxy, rfl, hzr⟩, hq⟩
    clear ca0 cb0 ca1 cb1
    obtain ⟨P1, hP1, hbP, hx⟩ := enter1 Q1 (.cells #[.bool bxy, .slice axy lxy kxy] 27)
    have stp := bl_trans hq hbP
    replace HX := hide (block_upW stp HX.out)
    replace HY := hide (block_upW stp HY.out)
    replace HZ := hide (block_upW stp HZ.out)
    replace HA0 := hide (HA0.out.below stp)
    replace HA1 := hide (HA1.out.below stp)
    replace HA2 := hide (HA2.out.below stp)
    replace HT := hide (HT.out.below stp)
    replace HW := hid_below HW stp
    have HRxy := hide (hzr.below hbP)
    have HBxy := hide hx
    clear C hzr hq hbP hx stp
    obtain ⟨ca0, cb0⟩ := duo HY.out
    obtain ⟨ca1, cb1⟩ := duo HX.out
    have C := wmul_any b1 _ z1 b0 _ z0 P1 HA1.out HA0.out HT.out (by omega) (by omega)
    rw [EQ.out.2.1, EQ.out.1] at C
    go_wp2_with fail
    refine C.mono ?_
    rintro e Q2 ⟨⟨byx, ayx, lyx, kyx, cyx, rfl, hzr⟩, hq⟩
    clear ca0 cb0 ca1 cb1
    obtain ⟨P2, hP2, hbP, hx⟩ := enter1 Q2 (.cells #[.bool byx, .slice ayx lyx kyx] 27)
    have stp := bl_trans hq hbP
    replace HX := hide (block_upW stp HX.out)
    replace HY := hide (block_upW stp HY.out)
    replace HZ := hide (block_upW stp HZ.out)
    replace HBxy := hide (block_upW stp HBxy.out)
    replace HA0 := hide (HA0.out.below stp)
    replace HA1 := hide (HA1.out.below stp)
    replace HA2 := hide (HA2.out.below stp)
    replace HT := hide (HT.out.below stp)
    replace HRxy := hide (HRxy.out.below stp)
    replace HW := hid_below HW stp
    have HRyx := hide (hzr.below hbP)
    have HByx := hide hx
    clear C hzr hq hbP hx stp hP1
    obtain ⟨ca0, cb0⟩ := duo HX.out
    obtain ⟨ca1, cb1⟩ := duo HZ.out
    have C := wmul_any b0 _ z0 b2 _ z2 P2 HA0.out HA2.out HT.out (by omega) (by omega)
    rw [EQ.out.1, EQ.out.2.2] at C
    go_wp2_with fail
    refine C.mono ?_
    rintro e Q3 ⟨⟨bxz, axz, lxz, kxz, cxz, rfl, hzr⟩, hq⟩
    clear ca0 cb0 ca1 cb1
    obtain ⟨P3, hP3, hbP, hx⟩ := enter1 Q3 (.cells #[.bool bxz, .slice axz lxz kxz] 27)
    have stp := bl_trans hq hbP
    replace HX := hide (block_upW stp HX.out)
    replace HY := hide (block_upW stp HY.out)
    replace HZ := hide (block_upW stp HZ.out)
    replace HBxy := hide (block_upW stp HBxy.out)
    replace HByx := hide (block_upW stp HByx.out)
    replace HA0 := hide (HA0.out.below stp)
    replace HA1 := hide (HA1.out.below stp)
    replace HA2 := hide (HA2.out.below stp)
    replace HT := hide (HT.out.below stp)
    replace HRxy := hide (HRxy.out.below stp)
    replace HRyx := hide (HRyx.out.below stp)
    replace HW := hid_below HW stp
    have HRxz := hide (hzr.below hbP)
    have HBxz := hide hx
    clear C hzr hq hbP hx stp hP2
    obtain ⟨ca0, cb0⟩ := duo HY.out
    obtain ⟨ca1, cb1⟩ := duo HZ.out
    have C := wmul_any b1 _ z1 b2 _ z2 P3 HA1.out HA2.out HT.out (by omega) (by omega)
    rw [EQ.out.2.1, EQ.out.2.2] at C
    go_wp2_with fail
    refine C.mono ?_
    rintro e Q4 ⟨⟨byz, ayz, lyz, kyz, cyz, rfl, hzr⟩, hq⟩
    clear ca0 cb0 ca1 cb1
    obtain ⟨P4, hP4, hbP, hx⟩ := enter1 Q4 (.cells #[.bool byz, .slice ayz lyz kyz] 27)
    have stp := bl_trans hq hbP
    replace HX := hide (block_upW stp HX.out)
    replace HY := hide (block_upW stp HY.out)
    replace HZ := hide (block_upW stp HZ.out)
    replace HBxy := hide (block_upW stp HBxy.out)
    replace HByx := hide (block_upW stp HByx.out)
    replace HBxz := hide (block_upW stp HBxz.out)
    replace HA0 := hide (HA0.out.below stp)
    replace HA1 := hide (HA1.out.below stp)
    replace HA2 := hide (HA2.out.below stp)
    replace HT := hide (HT.out.below stp)
    replace HRxy := hide (HRxy.out.below stp)
    replace HRyx := hide (HRyx.out.below stp)
    replace HRxz := hide (HRxz.out.below stp)
    replace HW := hid_below HW stp
    have HRyz := hide (hzr.below hbP)
    have HByz := hide hx
    clear C hzr hq hbP hx stp hP3
    obtain ⟨ca0, cb0⟩ := duo HY.out
    obtain ⟨ca1, cb1⟩ := duo HZ.out
    have C := wadd_any b1 _ z1 b2 _ z2 P4 HA1.out HA2.out (by omega) (by omega)
    rw [EQ.out.2.1, EQ.out.2.2] at C
    go_wp2_with fail
    refine C.mono ?_
    rintro e Q5 ⟨⟨bsm, asm, lsm, ksm, csm, rfl, hzr⟩, hq⟩
    clear ca0 cb0 ca1 cb1
    obtain ⟨P5, hP5, hbP, hx⟩ := enter1 Q5 (.cells #[.bool bsm, .slice asm lsm ksm] 27)
    have stp := bl_trans hq hbP
    replace HX := hide (block_upW stp HX.out)
    replace HY := hide (block_upW stp HY.out)
    replace HZ := hide (block_upW stp HZ.out)
    replace HBxy := hide (block_upW stp HBxy.out)
    replace HByx := hide (block_upW stp HByx.out)
    replace HBxz := hide (block_upW stp HBxz.out)
    replace HByz := hide (block_upW stp HByz.out)
    replace HA0 := hide (HA0.out.below stp)
    replace HA1 := hide (HA1.out.below stp)
    replace HA2 := hide (HA2.out.below stp)
    replace HT := hide (HT.out.below stp)
    replace HRxy := hide (HRxy.out.below stp)
    replace HRyx := hide (HRyx.out.below stp)
    replace HRxz := hide (HRxz.out.below stp)
    replace HRyz := hide (HRyz.out.below stp)
    replace HW := hid_below HW stp
    have HRsm := hide (hzr.below hbP)
    have HBsm := hide hx
    clear C hzr hq hbP hx stp hP4
    obtain ⟨ca0, cb0⟩ := duo HX.out
    obtain ⟨ca1, cb1⟩ := duo HY.out
    have C := wsub_any b0 _ z0 b1 _ z1 P5 HA0.out HA1.out (by omega) (by omega)
    rw [EQ.out.1, EQ.out.2.1] at C
    go_wp2_with fail
    refine C.mono ?_
    rintro e Q6 ⟨⟨bd, ad, ld, kd, cd, rfl, hzr⟩, hq⟩
    clear ca0 cb0 ca1 cb1
    obtain ⟨P6, hP6, hbP, hx⟩ := enter1 Q6 (.cells #[.bool bd, .slice ad ld kd] 27)
    have stp := bl_trans hq hbP
    replace HX := hide (block_upW stp HX.out)
    replace HY := hide (block_upW stp HY.out)
    replace HZ := hide (block_upW stp HZ.out)
    replace HBxy := hide (block_upW stp HBxy.out)
    replace HByx := hide (block_upW stp HByx.out)
    replace HBxz := hide (block_upW stp HBxz.out)
    replace HByz := hide (block_upW stp HByz.out)
    replace HBsm := hide (block_upW stp HBsm.out)
    replace HA0 := hide (HA0.out.below stp)
    replace HA1 := hide (HA1.out.below stp)
    replace HA2 := hide (HA2.out.below stp)
    replace HT := hide (HT.out.below stp)
    replace HRxy := hide (HRxy.out.below stp)
    replace HRyx := hide (HRyx.out.below stp)
    replace HRxz := hide (HRxz.out.below stp)
    replace HRyz := hide (HRyz.out.below stp)
    replace HRsm := hide (HRsm.out.below stp)
    replace HW := hid_below HW stp
    have HRd := hide (hzr.below hbP)
    have HBd := hide hx
    clear C hzr hq hbP hx stp hP5
    obtain ⟨ca0, cb0⟩ := duo HX.out
    have C := wneg_any b0 _ z0 P6 HA0.out (by omega)
    rw [EQ.out.1] at C
    go_wp2_with fail
    refine C.mono ?_
    rintro e Q7 ⟨⟨bn, an, ln, kn, cn, rfl, hzr⟩, hq⟩
    clear ca0 cb0
    obtain ⟨P7, hP7, hbP, hx⟩ := enter1 Q7 (.cells #[.bool bn, .slice an ln kn] 27)
    have stp := bl_trans hq hbP
    replace HX := hide (block_upW stp HX.out)
    replace HY := hide (block_upW stp HY.out)
    replace HZ := hide (block_upW stp HZ.out)
    replace HBxy := hide (block_upW stp HBxy.out)
    replace HByx := hide (block_upW stp HByx.out)
    replace HBxz := hide (block_upW stp HBxz.out)
    replace HByz := hide (block_upW stp HByz.out)
    replace HBsm := hide (block_upW stp HBsm.out)
    replace HBd := hide (block_upW stp HBd.out)
    replace HA0 := hide (HA0.out.below stp)
    replace HA1 := hide (HA1.out.below stp)
    replace HA2 := hide (HA2.out.below stp)
    replace HT := hide (HT.out.below stp)
    replace HRxy := hide (HRxy.out.below stp)
    replace HRyx := hide (HRyx.out.below stp)
    replace HRxz := hide (HRxz.out.below stp)
    replace HRyz := hide (HRyz.out.below stp)
    replace HRsm := hide (HRsm.out.below stp)
    replace HRd := hide (HRd.out.below stp)
    replace HW := hid_below HW stp
    have HRn := hide (hzr.below hbP)
    have HBn := hide hx
    clear C hzr hq hbP hx stp hP6
    obtain ⟨U1, hU1, hst, hLb⟩ := enter1 P7 (.cells #[.int .i64 cxy, .int .i64 cyx, .int .i64 cxz, .int .i64 cyz, .int .i64 csm, .int .i64 cd, .int .i64 cn] 38)
    have AL := wall_any P7.heap.size 7 [cxy, cyx, cxz, cyz, csm, cd, cn] U1 rfl (by omega) hLb
    replace HX := hide (block_upW hst HX.out)
    replace HY := hide (block_upW hst HY.out)
    replace HZ := hide (block_upW hst HZ.out)
    replace HBxy := hide (block_upW hst HBxy.out)
    replace HByx := hide (block_upW hst HByx.out)
    replace HBxz := hide (block_upW hst HBxz.out)
    replace HByz := hide (block_upW hst HByz.out)
    replace HBsm := hide (block_upW hst HBsm.out)
    replace HBd := hide (block_upW hst HBd.out)
    replace HBn := hide (block_upW hst HBn.out)
    replace HA0 := hide (HA0.out.below hst)
    replace HA1 := hide (HA1.out.below hst)
    replace HA2 := hide (HA2.out.below hst)
    replace HT := hide (HT.out.below hst)
    replace HRxy := hide (HRxy.out.below hst)
    replace HRyx := hide (HRyx.out.below hst)
    replace HRxz := hide (HRxz.out.below hst)
    replace HRyz := hide (HRyz.out.below hst)
    replace HRsm := hide (HRsm.out.below hst)
    replace HRd := hide (HRd.out.below hst)
    replace HRn := hide (HRn.out.below hst)
    replace HW := hid_below HW hst
    clear hst hLb
    by_cases hc : cxy = 0 ∧ cyx = 0 ∧ cxz = 0 ∧ cyz = 0 ∧ csm = 0 ∧ cd = 0 ∧ cn = 0
    · skip
      obtain ⟨rfl, rfl, rfl, rfl, rfl, rfl, rfl⟩ := hc
      have hyes : (([0, 0, 0, 0, 0, 0, 0] : List Int).all (· == 0)) = true := by decide
      rw [hyes] at AL
      clear hyes
      go_wp2_with fail
      refine AL.mono ?_
      rintro e wn ⟨rfl, hw⟩; rw [hw]; clear hw wn AL
      obtain ⟨rxy, hr1, hr2, hr3⟩ := HRxy.out.get
      have HGxy := hide hr1
      have HExy := hide hr2
      have HLxy := hr3
      clear hr1 hr2 hr3 HRxy
      obtain ⟨ryx, hr1, hr2, hr3⟩ := HRyx.out.get
      have HGyx := hide hr1
      have HEyx := hide hr2
      have HLyx := hr3
      clear hr1 hr2 hr3 HRyx
      obtain ⟨rxz, hr1, hr2, hr3⟩ := HRxz.out.get
      have HGxz := hide hr1
      have HExz := hide hr2
      have HLxz := hr3
      clear hr1 hr2 hr3 HRxz
      obtain ⟨ryz, hr1, hr2, hr3⟩ := HRyz.out.get
      have HGyz := hide hr1
      have HEyz := hide hr2
      have HLyz := hr3
      clear hr1 hr2 hr3 HRyz
      obtain ⟨rsm, hr1, hr2, hr3⟩ := HRsm.out.get
      have HGsm := hide hr1
      have HEsm := hide hr2
      have HLsm := hr3
      clear hr1 hr2 hr3 HRsm
      obtain ⟨rd, hr1, hr2, hr3⟩ := HRd.out.get
      have HGd := hide hr1
      have HEd := hide hr2
      have HLd := hr3
      clear hr1 hr2 hr3 HRd
      obtain ⟨rn, hr1, hr2, hr3⟩ := HRn.out.get
      have HGn := hide hr1
      have HEn := hide hr2
      have HLn := hr3
      clear hr1 hr2 hr3 HRn
      clear hP7
      obtain ⟨ca0, cb0⟩ := duo HBxy.out
      obtain ⟨ca1, cb1⟩ := duo HZ.out
      have C := wmul_any bxy _ rxy b2 _ z2 U1 HGxy.out HA2.out HT.out (by omega) (by omega)
      rw [HExy.out, EQ.out.2.2] at C
      go_wp2_with fail
      refine C.mono ?_
      rintro e Q8 ⟨⟨bp, ap, lp, kp, cp, rfl, hzr⟩, hq⟩
      clear ca0 cb0 ca1 cb1
      obtain ⟨P8, hP8, hbP, hx⟩ := enter1 Q8 (.cells #[.bool bp, .slice ap lp kp] 27)
      have stp := bl_trans hq hbP
      replace HX := hide (block_upW stp HX.out)
      replace HY := hide (block_upW stp HY.out)
      replace HZ := hide (block_upW stp HZ.out)
      replace HBxy := hide (block_upW stp HBxy.out)
      replace HByx := hide (block_upW stp HByx.out)
      replace HBxz := hide (block_upW stp HBxz.out)
      replace HByz := hide (block_upW stp HByz.out)
      replace HBsm := hide (block_upW stp HBsm.out)
      replace HBd := hide (block_upW stp HBd.out)
      replace HBn := hide (block_upW stp HBn.out)
      replace HA0 := hide (HA0.out.below stp)
      replace HA1 := hide (HA1.out.below stp)
      replace HA2 := hide (HA2.out.below stp)
      replace HT := hide (HT.out.below stp)
      replace HGxy := hide (HGxy.out.below stp)
      replace HGyx := hide (HGyx.out.below stp)
      replace HGxz := hide (HGxz.out.below stp)
      replace HGyz := hide (HGyz.out.below stp)
      replace HGsm := hide (HGsm.out.below stp)
      replace HGd := hide (HGd.out.below stp)
      replace HGn := hide (HGn.out.below stp)
      replace HW := hid_below HW stp
      have HRp := hide (hzr.below hbP)
      have HBp := hide hx
      clear C hzr hq hbP hx stp
      obtain ⟨ca0, cb0⟩ := duo HX.out
      obtain ⟨ca1, cb1⟩ := duo HByz.out
      have C := wmul_any b0 _ z0 byz _ ryz P8 HA0.out HGyz.out HT.out (by omega) (by omega)
      rw [EQ.out.1, HEyz.out] at C
      go_wp2_with fail
      refine C.mono ?_
      rintro e Q9 ⟨⟨bq, aq, lq, kq, cq, rfl, hzr⟩, hq⟩
      clear ca0 cb0 ca1 cb1
      obtain ⟨P9, hP9, hbP, hx⟩ := enter1 Q9 (.cells #[.bool bq, .slice aq lq kq] 27)
      have stp := bl_trans hq hbP
      replace HX := hide (block_upW stp HX.out)
      replace HY := hide (block_upW stp HY.out)
      replace HZ := hide (block_upW stp HZ.out)
      replace HBxy := hide (block_upW stp HBxy.out)
      replace HByx := hide (block_upW stp HByx.out)
      replace HBxz := hide (block_upW stp HBxz.out)
      replace HByz := hide (block_upW stp HByz.out)
      replace HBsm := hide (block_upW stp HBsm.out)
      replace HBd := hide (block_upW stp HBd.out)
      replace HBn := hide (block_upW stp HBn.out)
      replace HBp := hide (block_upW stp HBp.out)
      replace HA0 := hide (HA0.out.below stp)
      replace HA1 := hide (HA1.out.below stp)
      replace HA2 := hide (HA2.out.below stp)
      replace HT := hide (HT.out.below stp)
      replace HGxy := hide (HGxy.out.below stp)
      replace HGyx := hide (HGyx.out.below stp)
      replace HGxz := hide (HGxz.out.below stp)
      replace HGyz := hide (HGyz.out.below stp)
      replace HGsm := hide (HGsm.out.below stp)
      replace HGd := hide (HGd.out.below stp)
      replace HGn := hide (HGn.out.below stp)
      replace HRp := hide (HRp.out.below stp)
      replace HW := hid_below HW stp
      have HRq := hide (hzr.below hbP)
      have HBq := hide hx
      clear C hzr hq hbP hx stp hP8
      obtain ⟨ca0, cb0⟩ := duo HX.out
      obtain ⟨ca1, cb1⟩ := duo HBsm.out
      have C := wmul_any b0 _ z0 bsm _ rsm P9 HA0.out HGsm.out HT.out (by omega) (by omega)
      rw [EQ.out.1, HEsm.out] at C
      go_wp2_with fail
      refine C.mono ?_
      rintro e Q10 ⟨⟨br, ar, lr, kr, cr, rfl, hzr⟩, hq⟩
      clear ca0 cb0 ca1 cb1
      obtain ⟨P10, hP10, hbP, hx⟩ := enter1 Q10 (.cells #[.bool br, .slice ar lr kr] 27)
      have stp := bl_trans hq hbP
      replace HX := hide (block_upW stp HX.out)
      replace HY := hide (block_upW stp HY.out)
      replace HZ := hide (block_upW stp HZ.out)
      replace HBxy := hide (block_upW stp HBxy.out)
      replace HByx := hide (block_upW stp HByx.out)
      replace HBxz := hide (block_upW stp HBxz.out)
      replace HByz := hide (block_upW stp HByz.out)
      replace HBsm := hide (block_upW stp HBsm.out)
      replace HBd := hide (block_upW stp HBd.out)
      replace HBn := hide (block_upW stp HBn.out)
      replace HBp := hide (block_upW stp HBp.out)
      replace HBq := hide (block_upW stp HBq.out)
      replace HA0 := hide (HA0.out.below stp)
      replace HA1 := hide (HA1.out.below stp)
      replace HA2 := hide (HA2.out.below stp)
      replace HT := hide (HT.out.below stp)
      replace HGxy := hide (HGxy.out.below stp)
      replace HGyx := hide (HGyx.out.below stp)
      replace HGxz := hide (HGxz.out.below stp)
      replace HGyz := hide (HGyz.out.below stp)
      replace HGsm := hide (HGsm.out.below stp)
      replace HGd := hide (HGd.out.below stp)
      replace HGn := hide (HGn.out.below stp)
      replace HRp := hide (HRp.out.below stp)
      replace HRq := hide (HRq.out.below stp)
      replace HW := hid_below HW stp
      have HRr := hide (hzr.below hbP)
      have HBr := hide hx
      clear C hzr hq hbP hx stp hP9
      obtain ⟨ca0, cb0⟩ := duo HBxy.out
      obtain ⟨ca1, cb1⟩ := duo HBxz.out
      have C := wadd_any bxy _ rxy bxz _ rxz P10 HGxy.out HGxz.out (by omega) (by omega)
      rw [HExy.out, HExz.out] at C
      go_wp2_with fail
      refine C.mono ?_
      rintro e Q11 ⟨⟨btt, att, ltt, ktt, ctt, rfl, hzr⟩, hq⟩
      clear ca0 cb0 ca1 cb1
      obtain ⟨P11, hP11, hbP, hx⟩ := enter1 Q11 (.cells #[.bool btt, .slice att ltt ktt] 27)
      have stp := bl_trans hq hbP
      replace HX := hide (block_upW stp HX.out)
      replace HY := hide (block_upW stp HY.out)
      replace HZ := hide (block_upW stp HZ.out)
      replace HBxy := hide (block_upW stp HBxy.out)
      replace HByx := hide (block_upW stp HByx.out)
      replace HBxz := hide (block_upW stp HBxz.out)
      replace HByz := hide (block_upW stp HByz.out)
      replace HBsm := hide (block_upW stp HBsm.out)
      replace HBd := hide (block_upW stp HBd.out)
      replace HBn := hide (block_upW stp HBn.out)
      replace HBp := hide (block_upW stp HBp.out)
      replace HBq := hide (block_upW stp HBq.out)
      replace HBr := hide (block_upW stp HBr.out)
      replace HA0 := hide (HA0.out.below stp)
      replace HA1 := hide (HA1.out.below stp)
      replace HA2 := hide (HA2.out.below stp)
      replace HT := hide (HT.out.below stp)
      replace HGxy := hide (HGxy.out.below stp)
      replace HGyx := hide (HGyx.out.below stp)
      replace HGxz := hide (HGxz.out.below stp)
      replace HGyz := hide (HGyz.out.below stp)
      replace HGsm := hide (HGsm.out.below stp)
      replace HGd := hide (HGd.out.below stp)
      replace HGn := hide (HGn.out.below stp)
      replace HRp := hide (HRp.out.below stp)
      replace HRq := hide (HRq.out.below stp)
      replace HRr := hide (HRr.out.below stp)
      replace HW := hid_below HW stp
      have HRtt := hide (hzr.below hbP)
      have HBtt := hide hx
      clear C hzr hq hbP hx stp hP10
      obtain ⟨ca0, cb0⟩ := duo HX.out
      obtain ⟨ca1, cb1⟩ := duo HBn.out
      have C := wadd_any b0 _ z0 bn _ rn P11 HA0.out HGn.out (by omega) (by omega)
      rw [EQ.out.1, HEn.out] at C
      go_wp2_with fail
      refine C.mono ?_
      rintro e Q12 ⟨⟨bo, ao, lo, ko, co, rfl, hzr⟩, hq⟩
      clear ca0 cb0 ca1 cb1
      obtain ⟨P12, hP12, hbP, hx⟩ := enter1 Q12 (.cells #[.bool bo, .slice ao lo ko] 27)
      have stp := bl_trans hq hbP
      replace HX := hide (block_upW stp HX.out)
      replace HY := hide (block_upW stp HY.out)
      replace HZ := hide (block_upW stp HZ.out)
      replace HBxy := hide (block_upW stp HBxy.out)
      replace HByx := hide (block_upW stp HByx.out)
      replace HBxz := hide (block_upW stp HBxz.out)
      replace HByz := hide (block_upW stp HByz.out)
      replace HBsm := hide (block_upW stp HBsm.out)
      replace HBd := hide (block_upW stp HBd.out)
      replace HBn := hide (block_upW stp HBn.out)
      replace HBp := hide (block_upW stp HBp.out)
      replace HBq := hide (block_upW stp HBq.out)
      replace HBr := hide (block_upW stp HBr.out)
      replace HBtt := hide (block_upW stp HBtt.out)
      replace HA0 := hide (HA0.out.below stp)
      replace HA1 := hide (HA1.out.below stp)
      replace HA2 := hide (HA2.out.below stp)
      replace HT := hide (HT.out.below stp)
      replace HGxy := hide (HGxy.out.below stp)
      replace HGyx := hide (HGyx.out.below stp)
      replace HGxz := hide (HGxz.out.below stp)
      replace HGyz := hide (HGyz.out.below stp)
      replace HGsm := hide (HGsm.out.below stp)
      replace HGd := hide (HGd.out.below stp)
      replace HGn := hide (HGn.out.below stp)
      replace HRp := hide (HRp.out.below stp)
      replace HRq := hide (HRq.out.below stp)
      replace HRr := hide (HRr.out.below stp)
      replace HRtt := hide (HRtt.out.below stp)
      replace HW := hid_below HW stp
      have HRo := hide (hzr.below hbP)
      have HBo := hide hx
      clear C hzr hq hbP hx stp hP11
      obtain ⟨U2, hU2, hst, hLb⟩ := enter1 P12 (.cells #[.int .i64 cp, .int .i64 cq, .int .i64 cr, .int .i64 ctt, .int .i64 co] 38)
      have AL := wall_any P12.heap.size 5 [cp, cq, cr, ctt, co] U2 rfl (by omega) hLb
      replace HX := hide (block_upW hst HX.out)
      replace HY := hide (block_upW hst HY.out)
      replace HZ := hide (block_upW hst HZ.out)
      replace HBxy := hide (block_upW hst HBxy.out)
      replace HByx := hide (block_upW hst HByx.out)
      replace HBxz := hide (block_upW hst HBxz.out)
      replace HByz := hide (block_upW hst HByz.out)
      replace HBsm := hide (block_upW hst HBsm.out)
      replace HBd := hide (block_upW hst HBd.out)
      replace HBn := hide (block_upW hst HBn.out)
      replace HBp := hide (block_upW hst HBp.out)
      replace HBq := hide (block_upW hst HBq.out)
      replace HBr := hide (block_upW hst HBr.out)
      replace HBtt := hide (block_upW hst HBtt.out)
      replace HBo := hide (block_upW hst HBo.out)
      replace HA0 := hide (HA0.out.below hst)
      replace HA1 := hide (HA1.out.below hst)
      replace HA2 := hide (HA2.out.below hst)
      replace HT := hide (HT.out.below hst)
      replace HGxy := hide (HGxy.out.below hst)
      replace HGyx := hide (HGyx.out.below hst)
      replace HGxz := hide (HGxz.out.below hst)
      replace HGyz := hide (HGyz.out.below hst)
      replace HGsm := hide (HGsm.out.below hst)
      replace HGd := hide (HGd.out.below hst)
      replace HGn := hide (HGn.out.below hst)
      replace HRp := hide (HRp.out.below hst)
      replace HRq := hide (HRq.out.below hst)
      replace HRr := hide (HRr.out.below hst)
      replace HRtt := hide (HRtt.out.below hst)
      replace HRo := hide (HRo.out.below hst)
      replace HW := hid_below HW hst
      clear hst hLb
      by_cases hd : cp = 0 ∧ cq = 0 ∧ cr = 0 ∧ ctt = 0 ∧ co = 0
      · skip
        obtain ⟨rfl, rfl, rfl, rfl, rfl⟩ := hd
        have hyes : (([0, 0, 0, 0, 0] : List Int).all (· == 0)) = true := by decide
        rw [hyes] at AL
        clear hyes
        go_wp2_with fail
        refine AL.mono ?_
        rintro e wn ⟨rfl, hw⟩; rw [hw]; clear hw wn AL
        obtain ⟨rp, hr1, hr2, hr3⟩ := HRp.out.get
        have HGp := hide hr1
        have HEp := hide hr2
        have HLp := hr3
        clear hr1 hr2 hr3 HRp
        obtain ⟨rq, hr1, hr2, hr3⟩ := HRq.out.get
        have HGq := hide hr1
        have HEq := hide hr2
        have HLq := hr3
        clear hr1 hr2 hr3 HRq
        obtain ⟨rr, hr1, hr2, hr3⟩ := HRr.out.get
        have HGr := hide hr1
        have HEr := hide hr2
        have HLr := hr3
        clear hr1 hr2 hr3 HRr
        obtain ⟨rtt, hr1, hr2, hr3⟩ := HRtt.out.get
        have HGtt := hide hr1
        have HEtt := hide hr2
        have HLtt := hr3
        clear hr1 hr2 hr3 HRtt
        obtain ⟨ro, hr1, hr2, hr3⟩ := HRo.out.get
        have HGo := hide hr1
        have HEo := hide hr2
        have HLo := hr3
        clear hr1 hr2 hr3 HRo
        have hbd : Below U2.heap.size U2 U2.drew := (Below.refl _ _).drew
        replace HX := hide (block_upW hbd HX.out)
        replace HY := hide (block_upW hbd HY.out)
        replace HZ := hide (block_upW hbd HZ.out)
        replace HBxy := hide (block_upW hbd HBxy.out)
        replace HByx := hide (block_upW hbd HByx.out)
        replace HBxz := hide (block_upW hbd HBxz.out)
        replace HByz := hide (block_upW hbd HByz.out)
        replace HBsm := hide (block_upW hbd HBsm.out)
        replace HBd := hide (block_upW hbd HBd.out)
        replace HBn := hide (block_upW hbd HBn.out)
        replace HBp := hide (block_upW hbd HBp.out)
        replace HBq := hide (block_upW hbd HBq.out)
        replace HBr := hide (block_upW hbd HBr.out)
        replace HBtt := hide (block_upW hbd HBtt.out)
        replace HBo := hide (block_upW hbd HBo.out)
        replace HA0 := hide (HA0.out.below hbd)
        replace HA1 := hide (HA1.out.below hbd)
        replace HA2 := hide (HA2.out.below hbd)
        replace HT := hide (HT.out.below hbd)
        replace HGxy := hide (HGxy.out.below hbd)
        replace HGyx := hide (HGyx.out.below hbd)
        replace HGxz := hide (HGxz.out.below hbd)
        replace HGyz := hide (HGyz.out.below hbd)
        replace HGsm := hide (HGsm.out.below hbd)
        replace HGd := hide (HGd.out.below hbd)
        replace HGn := hide (HGn.out.below hbd)
        replace HGp := hide (HGp.out.below hbd)
        replace HGq := hide (HGq.out.below hbd)
        replace HGr := hide (HGr.out.below hbd)
        replace HGtt := hide (HGtt.out.below hbd)
        replace HGo := hide (HGo.out.below hbd)
        replace HW := hid_below HW hbd
        clear hbd
        have KS := hide (fun (W : World) (hg : Below U2.drew.heap.size U2.drew W) => show W.cell? ⟨Q1.heap.size, 0, none⟩ = some (.bool bxy) ∧ W.cell? ⟨Q1.heap.size, 1, none⟩ = some (.slice axy lxy kxy) ∧ W.cell? ⟨Q2.heap.size, 0, none⟩ = some (.bool byx) ∧ W.cell? ⟨Q2.heap.size, 1, none⟩ = some (.slice ayx lyx kyx) ∧ W.cell? ⟨Q8.heap.size, 0, none⟩ = some (.bool bp) ∧ W.cell? ⟨Q8.heap.size, 1, none⟩ = some (.slice ap lp kp) ∧ W.cell? ⟨Q9.heap.size, 0, none⟩ = some (.bool bq) ∧ W.cell? ⟨Q9.heap.size, 1, none⟩ = some (.slice aq lq kq) ∧ W.cell? ⟨Q10.heap.size, 0, none⟩ = some (.bool br) ∧ W.cell? ⟨Q10.heap.size, 1, none⟩ = some (.slice ar lr kr) ∧ W.cell? ⟨Q11.heap.size, 0, none⟩ = some (.bool btt) ∧ W.cell? ⟨Q11.heap.size, 1, none⟩ = some (.slice att ltt ktt) ∧ W.cell? ⟨Q12.heap.size, 0, none⟩ = some (.bool bo) ∧ W.cell? ⟨Q12.heap.size, 1, none⟩ = some (.slice ao lo ko) ∧ W.cell? ⟨gx, 0, none⟩ = some (.bool b0) ∧ W.cell? ⟨gx, 1, none⟩ = some (.slice a0 z0.length n0) ∧ W.cell? ⟨gy, 0, none⟩ = some (.bool b1) ∧ W.cell? ⟨gy, 1, none⟩ = some (.slice a1 z1.length n1) ∧ W.cell? ⟨Q6.heap.size, 0, none⟩ = some (.bool bd) ∧ W.cell? ⟨Q6.heap.size, 1, none⟩ = some (.slice ad ld kd) from ⟨(duo (block_upW hg HBxy.out)).1, (duo (block_upW hg HBxy.out)).2, (duo (block_upW hg HByx.out)).1, (duo (block_upW hg HByx.out)).2, (duo (block_upW hg HBp.out)).1, (duo (block_upW hg HBp.out)).2, (duo (block_upW hg HBq.out)).1, (duo (block_upW hg HBq.out)).2, (duo (block_upW hg HBr.out)).1, (duo (block_upW hg HBr.out)).2, (duo (block_upW hg HBtt.out)).1, (duo (block_upW hg HBtt.out)).2, (duo (block_upW hg HBo.out)).1, (duo (block_upW hg HBo.out)).2, (duo (block_upW hg HX.out)).1, (duo (block_upW hg HX.out)).2, (duo (block_upW hg HY.out)).1, (duo (block_upW hg HY.out)).2, (duo (block_upW hg HBd.out)).1, (duo (block_upW hg HBd.out)).2⟩)
        obtain ⟨sd, hsd, hcn⟩ : ∃ sd : Int, cmpZ zA zB = sd ∧ cmpZ zB zA = -sd := ⟨_, rfl, cmpZ_anti _ _⟩
        have hsg : sg bd (val rd) = sd := by rw [sg_sign, HEd.out, ← hsd]; exact (cmpZ_sub zA zB).symm
        have hwr : IntKind.i64.wrap (-sd) = -sd := by
          have h : sd = -1 ∨ sd = 0 ∨ sd = 1 := by rw [← hsd]; exact cmpZ_range _ _
          rcases h with rfl | rfl | rfl <;> decide
        have hse : (sd == sd) = true := by simp
        have hsn : (-sd == -sd) = true := by simp
        have g0 : Below U2.drew.heap.size U2.drew U2.drew := Below.refl _ _
        have C1 := hide (fun (W : World) (hg : Below U2.drew.heap.size U2.drew W) => wsame_any bxy _ rxy byx _ ryx W (HGxy.out.below hg) (HGyx.out.below hg) (by rw [HExy.out, HEyx.out]; exact Int.mul_comm _ _))
        have C2 := hide (fun (W : World) (hg : Below U2.drew.heap.size U2.drew W) => wsame_any bp _ rp bq _ rq W (HGp.out.below hg) (HGq.out.below hg) (by rw [HEp.out, HEq.out]; exact Int.mul_assoc _ _ _))
        have C3 := hide (fun (W : World) (hg : Below U2.drew.heap.size U2.drew W) => wsame_any br _ rr btt _ rtt W (HGr.out.below hg) (HGtt.out.below hg) (by rw [HEr.out, HEtt.out]; exact Int.mul_add _ _ _))
        have hz0 : val ro = 0 := by
          have h := HEo.out
          have e : zA + -zA = 0 := by omega
          rw [e] at h
          exact zz_eq_zero0.1 h
        have C4 := hide (fun (W : World) (hg : Below U2.drew.heap.size U2.drew W) => show Calls Tryz.prog 26 #[.agg #[.bool bo, .slice ao lo ko]] W (fun e w' => e = .returned (.bool true) ∧ Below W.heap.size W w') by have h := wzero_any bo _ ro W (HGo.out.below hg); rw [decide_eq_true hz0] at h; exact h)
        have C5 := hide (fun (W : World) (hg : Below U2.drew.heap.size U2.drew W) => show Calls Tryz.prog 42 #[.agg #[.bool b0, .slice a0 z0.length n0], .agg #[.bool b1, .slice a1 z1.length n1]] W (fun e w' => e = .returned (.int .i64 sd) ∧ Below W.heap.size W w') by have h := wcompare_any b0 _ z0 b1 _ z1 W (HA0.out.below hg) (HA1.out.below hg); rw [EQ.out.1, EQ.out.2.1, hsd] at h; exact h)
        have C6 := hide (fun (W : World) (hg : Below U2.drew.heap.size U2.drew W) => show Calls Tryz.prog 42 #[.agg #[.bool b1, .slice a1 z1.length n1], .agg #[.bool b0, .slice a0 z0.length n0]] W (fun e w' => e = .returned (.int .i64 (-sd)) ∧ Below W.heap.size W w') by have h := wcompare_any b1 _ z1 b0 _ z0 W (HA1.out.below hg) (HA0.out.below hg); rw [EQ.out.1, EQ.out.2.1, hcn] at h; exact h)
        have C7 := hide (fun (W : World) (hg : Below U2.drew.heap.size U2.drew W) => show Calls Tryz.prog 34 #[.agg #[.bool bd, .slice ad ld kd]] W (fun e w' => e = .returned (.int .i64 sd) ∧ Below W.heap.size W w') by have h := wsign_any bd _ rd W (HGd.out.below hg); rw [hsg] at h; exact h)
        clear hsg hsd hcn hz0
        go_wp2
        go_region_held3 (fun w' => w'.cell? ⟨Q1.heap.size, 0, none⟩ = some (.bool bxy) ∧ w'.cell? ⟨Q1.heap.size, 1, none⟩ = some (.slice axy lxy kxy) ∧ w'.cell? ⟨Q2.heap.size, 0, none⟩ = some (.bool byx) ∧ w'.cell? ⟨Q2.heap.size, 1, none⟩ = some (.slice ayx lyx kyx) ∧ w'.cell? ⟨Q8.heap.size, 0, none⟩ = some (.bool bp) ∧ w'.cell? ⟨Q8.heap.size, 1, none⟩ = some (.slice ap lp kp) ∧ w'.cell? ⟨Q9.heap.size, 0, none⟩ = some (.bool bq) ∧ w'.cell? ⟨Q9.heap.size, 1, none⟩ = some (.slice aq lq kq) ∧ w'.cell? ⟨Q10.heap.size, 0, none⟩ = some (.bool br) ∧ w'.cell? ⟨Q10.heap.size, 1, none⟩ = some (.slice ar lr kr) ∧ w'.cell? ⟨Q11.heap.size, 0, none⟩ = some (.bool btt) ∧ w'.cell? ⟨Q11.heap.size, 1, none⟩ = some (.slice att ltt ktt) ∧ w'.cell? ⟨Q12.heap.size, 0, none⟩ = some (.bool bo) ∧ w'.cell? ⟨Q12.heap.size, 1, none⟩ = some (.slice ao lo ko) ∧ w'.cell? ⟨gx, 0, none⟩ = some (.bool b0) ∧ w'.cell? ⟨gx, 1, none⟩ = some (.slice a0 z0.length n0) ∧ w'.cell? ⟨gy, 0, none⟩ = some (.bool b1) ∧ w'.cell? ⟨gy, 1, none⟩ = some (.slice a1 z1.length n1) ∧ w'.cell? ⟨Q6.heap.size, 0, none⟩ = some (.bool bd) ∧ w'.cell? ⟨Q6.heap.size, 1, none⟩ = some (.slice ad ld kd)) (first | with_reducible exact KS.out _ g9 | with_reducible exact KS.out _ g8 | with_reducible exact KS.out _ g7 | with_reducible exact KS.out _ g6 | with_reducible exact KS.out _ g5 | with_reducible exact KS.out _ g4 | with_reducible exact KS.out _ g3 | with_reducible exact KS.out _ g2 | with_reducible exact KS.out _ g1 | with_reducible exact KS.out _ g0) (first
          | (go_at_call 24; refine (awake6_any t8 (HT.out.below g8)).mono ?_; rintro e' t9 ⟨rfl, hb9⟩; have g9 := bl_trans g8 hb9)
          | (go_at_call 34; refine (C7.out t7 g7).mono ?_; rintro e' t8 ⟨rfl, hb8⟩; have g8 := bl_trans g7 hb8)
          | (go_at_call 42; refine (C6.out t6 g6).mono ?_; rintro e' t7 ⟨rfl, hb7⟩; have g7 := bl_trans g6 hb7)
          | (go_at_call 34; refine (C7.out t5 g5).mono ?_; rintro e' t6 ⟨rfl, hb6⟩; have g6 := bl_trans g5 hb6)
          | (go_at_call 42; refine (C5.out t4 g4).mono ?_; rintro e' t5 ⟨rfl, hb5⟩; have g5 := bl_trans g4 hb5)
          | (go_at_call 26; refine (C4.out t3 g3).mono ?_; rintro e' t4 ⟨rfl, hb4⟩; have g4 := bl_trans g3 hb4)
          | (go_at_call_of 41 ar; refine (C3.out t2 g2).mono ?_; rintro e' t3 ⟨rfl, hb3⟩; have g3 := bl_trans g2 hb3)
          | (go_at_call_of 41 ap; refine (C2.out t1 g1).mono ?_; rintro e' t2 ⟨rfl, hb2⟩; have g2 := bl_trans g1 hb2)
          | (go_at_call_of 41 axy; refine (C1.out U2.drew g0).mono ?_; rintro e' t1 ⟨rfl, hb1⟩; have g1 := bl_trans g0 hb1))
        have HFIN := hide (HW.out.trans (g9.mono HW.out.size))
        clear hb1 hb2 hb3 hb4 hb5 hb6 hb7 hb8 hb9 KS C1 C2 C3 C4 C5 C6 C7
        go_wp2
        go_ret
        exact ⟨rfl, HFIN.out⟩
      · skip
        have hno : ([cp, cq, cr, ctt, co].all (· == 0)) = false := by
          rw [Bool.eq_false_iff]
          intro h
          simp only [List.all_cons, List.all_nil, Bool.and_true, Bool.and_eq_true, beq_iff_eq] at h
          exact hd h
        rw [hno] at AL
        clear hno
        go_wp2_with fail
        refine AL.mono ?_
        rintro e wn ⟨rfl, hw⟩; rw [hw]; clear hw wn AL
        obtain ⟨ca0, cb0⟩ := duo HBxy.out
        obtain ⟨ca1, cb1⟩ := duo HByx.out
        have C1 := wsame_any bxy _ rxy byx _ ryx U2 HGxy.out HGyx.out (by rw [HExy.out, HEyx.out]; exact Int.mul_comm _ _)
        go_wp2_with fail
        refine C1.mono ?_
        rintro e t1 ⟨rfl, hb1⟩
        have AW := awake6_any t1 (HT.out.below hb1)
        replace HW := hid_below HW hb1
        clear C1 hb1
        go_wp2_with fail
        refine AW.mono ?_
        rintro e t2 ⟨rfl, hb2⟩
        replace HW := hid_below HW hb2
        clear AW hb2
        go_wp2
        go_ret
        exact ⟨rfl, HW.out⟩
    · skip
      have hno : ([cxy, cyx, cxz, cyz, csm, cd, cn].all (· == 0)) = false := by
        rw [Bool.eq_false_iff]
        intro h
        simp only [List.all_cons, List.all_nil, Bool.and_true, Bool.and_eq_true, beq_iff_eq] at h
        exact hc h
      rw [hno] at AL
      clear hno
      go_wp2_with fail
      refine AL.mono ?_
      rintro e wn ⟨rfl, hw⟩; rw [hw]; clear hw wn AL
      have AW := awake6_any U1 HT.out
      go_wp2_with fail
      refine AW.mono ?_
      rintro e t2 ⟨rfl, hb2⟩
      replace HW := hid_below HW hb2
      clear AW hb2
      go_wp2
      go_ret
      exact ⟨rfl, HW.out⟩

end Go.Proofs.YtfgcngndiblpmaaGreatDoor
