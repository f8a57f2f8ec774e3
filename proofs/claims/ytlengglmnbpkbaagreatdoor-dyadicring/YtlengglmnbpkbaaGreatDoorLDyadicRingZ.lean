/- The walk of the law DyadicRing. -/
import Derived.Test.YtlengglmnbpkbaaGreatDoorDp3dZ
namespace Go.Proofs.YtlengglmnbpkbaaGreatDoor
open Go.RowKit
open Lm
attribute [local go_sem ↓] Go.wp_at_zero Go.wp_at_succ

theorem cmpZ_sub8 (y z : Int) : (y + -z).sign = cmpZ y z := by
  unfold cmpZ
  split
  · rw [Int.sign_eq_neg_one_of_neg (by omega)]
  · split
    · rw [Int.sign_eq_one_of_pos (by omega)]
    · have : y + -z = 0 := by omega
      rw [this, Int.sign_zero]

theorem i8_of {w : World} {b : Bool} {a : Option Addr} {X : List Nat} {k : Nat} {ex : Int} (L : Nat) (hA : Arg w (.slice a X.length k) X) (hf : X.length ≤ 17592186043904) (hL : L = 9223372036854775808) (h : -9223372036854775808 ≤ ex) : ∃ V, I8 w b a X.length k ex L V :=
  ⟨_, X, rfl, hA, hf, Rp.make L _ ex (by omega)⟩

set_option maxRecDepth 20000 in
set_option maxHeartbeats 16000000 in
theorem dyadicRing_walk (b0 : Bool) (v0 : Value) (z0 : List Nat) (p0 : Int) (b1 : Bool) (v1 : Value) (z1 : List Nat) (p1 : Int) (b2 : Bool) (v2 : Value) (z2 : List Nat) (p2 : Int) (w : World) (hT : Tab w) (A0 : Arg w v0 z0) (s0 : z0.length ≤ 17592186043904) (lo0 : -9223372036854775808 ≤ p0) (_ : p0 ≤ 9223372036854775807) (A1 : Arg w v1 z1) (s1 : z1.length ≤ 17592186043904) (lo1 : -9223372036854775808 ≤ p1) (_ : p1 ≤ 9223372036854775807) (A2 : Arg w v2 z2) (s2 : z2.length ≤ 17592186043904) (lo2 : -9223372036854775808 ≤ p2) (_ : p2 ≤ 9223372036854775807) :
    Calls Tryz.prog 4 #[.agg #[.bool b0, v0, .int .i64 p0], .agg #[.bool b1, v1, .int .i64 p1], .agg #[.bool b2, v2, .int .i64 p2]] w fun e w' => e = .returned (.bool true) ∧ Below w.heap.size w w' := by
  obtain ⟨a0, n0, rfl, _, _, _⟩ := A0.form
  obtain ⟨a1, n1, rfl, _, _, _⟩ := A1.form
  obtain ⟨a2, n2, rfl, _, _, _⟩ := A2.form
  obtain ⟨L, hL⟩ : ∃ L : Nat, L = 9223372036854775808 := ⟨_, rfl⟩
  obtain ⟨V0, I0⟩ := i8_of (b := b0) L A0 s0 hL lo0
  obtain ⟨V1, I1⟩ := i8_of (b := b1) L A1 s1 hL lo1
  obtain ⟨V2, I2⟩ := i8_of (b := b2) L A2 s2 hL lo2
  have HL := hide (show 4611686018427387904 ≤ L by omega)
  clear A0 A1 A2 s0 s1 s2 lo0 lo1 lo2 hL
  generalize z0.length = d0 at *
  generalize z1.length = d1 at *
  generalize z2.length = d2 at *
  obtain ⟨w0, hw0, hb0, h0, h1, h2⟩ := enter3 w (.cells #[.bool b0, .slice a0 d0 n0, .int .i64 p0] 24) (.cells #[.bool b1, .slice a1 d1 n1, .int .i64 p1] 24) (.cells #[.bool b2, .slice a2 d2 n2, .int .i64 p2] 24)
  have HA := hide h0
  have HBb := hide h1
  have HC := hide h2
  have HA0 := hide (I0.below hb0)
  have HA1 := hide (I1.below hb0)
  have HA2 := hide (I2.below hb0)
  have HT := hide (hT.below hb0)
  have HW := hide hb0
  clear I0 I1 I2 hT hb0 h0 h1 h2
  go_enter Tryz.func4, Tryz.ntmps4
  go_upto_region 1 with fail
  go_cut [7, 8, 9] from 38 to 44 (fun s t r wx => ThreeD w0 b0 b1 b2 (.slice a0 d0 n0) (.slice a1 d1 n1) (.slice a2 d2 n2) p0 p1 p2 s t r wx)
  case first =>
    have KS := hide (fun (W : World) (hg : Below w0.heap.size w0 W) => show W.cell? ⟨w.heap.size, 0, none⟩ = some (.bool b0) ∧ W.cell? ⟨w.heap.size, 1, none⟩ = some (.slice a0 d0 n0) ∧ W.cell? ⟨w.heap.size, 2, none⟩ = some (.int .i64 p0) ∧ W.cell? ⟨w.heap.size + 1, 0, none⟩ = some (.bool b1) ∧ W.cell? ⟨w.heap.size + 1, 1, none⟩ = some (.slice a1 d1 n1) ∧ W.cell? ⟨w.heap.size + 1, 2, none⟩ = some (.int .i64 p1) ∧ W.cell? ⟨w.heap.size + 2, 0, none⟩ = some (.bool b2) ∧ W.cell? ⟨w.heap.size + 2, 1, none⟩ = some (.slice a2 d2 n2) ∧ W.cell? ⟨w.heap.size + 2, 2, none⟩ = some (.int .i64 p2) from ⟨(tri8 (block_upW hg HA.out)).1, (tri8 (block_upW hg HA.out)).2.1, (tri8 (block_upW hg HA.out)).2.2, (tri8 (block_upW hg HBb.out)).1, (tri8 (block_upW hg HBb.out)).2.1, (tri8 (block_upW hg HBb.out)).2.2, (tri8 (block_upW hg HC.out)).1, (tri8 (block_upW hg HC.out)).2.1, (tri8 (block_upW hg HC.out)).2.2⟩)
    have IN1 := hide (fun (W : World) (_ : Below w0.heap.size w0 W) => in8_any b0 a0 d0 n0 p0 W)
    have IN2 := hide (fun (W : World) (_ : Below w0.heap.size w0 W) => in8_any b1 a1 d1 n1 p1 W)
    have IN3 := hide (fun (W : World) (_ : Below w0.heap.size w0 W) => in8_any b2 a2 d2 n2 p2 W)
    refine wp_region_held_drew (S := fun w' => w'.cell? ⟨w.heap.size, 0, none⟩ = some (.bool b0) ∧ w'.cell? ⟨w.heap.size, 1, none⟩ = some (.slice a0 d0 n0) ∧ w'.cell? ⟨w.heap.size, 2, none⟩ = some (.int .i64 p0) ∧ w'.cell? ⟨w.heap.size + 1, 0, none⟩ = some (.bool b1) ∧ w'.cell? ⟨w.heap.size + 1, 1, none⟩ = some (.slice a1 d1 n1) ∧ w'.cell? ⟨w.heap.size + 1, 2, none⟩ = some (.int .i64 p1) ∧ w'.cell? ⟨w.heap.size + 2, 0, none⟩ = some (.bool b2) ∧ w'.cell? ⟨w.heap.size + 2, 1, none⟩ = some (.slice a2 d2 n2) ∧ w'.cell? ⟨w.heap.size + 2, 2, none⟩ = some (.int .i64 p2)) (by kernel_rfl) (KS.out _ (bl_drew8 (Below.refl _ _))) (fun hHeld => ?_)
    refine wpAnyH_take (i := 0) (v := .agg #[.bool b0, .slice a0 d0 n0, .int .i64 p0]) rfl (by kernel_rfl) (by kernel_rfl) (by kernel_rfl) (fun _ _ _ h => h) (Or.inl ⟨by rfl, fun w9 hSw => ?_⟩) hHeld ?_
    · (try dsimp only at hSw); go_simp
    refine wpAnyH_take (i := 2) (v := .agg #[.bool b1, .slice a1 d1 n1, .int .i64 p1]) rfl (by kernel_rfl) (by kernel_rfl) (by kernel_rfl) (fun _ _ _ h => h) (Or.inl ⟨by rfl, fun w9 hSw => ?_⟩) hHeld ?_
    · (try dsimp only at hSw); go_simp
    refine wpAnyH_take (i := 4) (v := .agg #[.bool b2, .slice a2 d2 n2, .int .i64 p2]) rfl (by kernel_rfl) (by kernel_rfl) (by kernel_rfl) (fun _ _ _ h => h) (Or.inl ⟨by rfl, fun w9 hSw => ?_⟩) hHeld ?_
    · (try dsimp only at hSw); go_simp
    refine dp3d w0 (.agg #[.bool b0, .slice a0 d0 n0, .int .i64 p0]) (.agg #[.bool b1, .slice a1 d1 n1, .int .i64 p1]) (.agg #[.bool b2, .slice a2 d2 n2, .int .i64 p2]) (fun x1 x2 x3 y1 y2 y3 => { tmps := #[.agg #[.bool b0, .slice a0 d0 n0, .int .i64 p0], .agg #[.bool b1, .slice a1 d1 n1, .int .i64 p1], .agg #[.bool b2, .slice a2 d2 n2, .int .i64 p2], .pointer (some ⟨w.heap.size, 0, none⟩), .pointer (some ⟨w.heap.size + 1, 0, none⟩), .pointer (some ⟨w.heap.size + 2, 0, none⟩), .bool false, y1, y2, y3, undef, undef, undef, undef, undef, undef, undef, undef, undef, undef, undef, undef, undef, undef, undef, undef, undef, undef, undef, undef, undef, undef, undef, undef, undef, undef, undef, undef, .agg #[.bool b0, .slice a0 d0 n0, .int .i64 p0], x1, .agg #[.bool b1, .slice a1 d1 n1, .int .i64 p1], x2, .agg #[.bool b2, .slice a2 d2 n2, .int .i64 p2], x3, undef, undef, undef, undef, undef, undef, undef, undef, undef, undef, undef, undef, undef, undef, undef, undef, undef, undef, undef, undef, undef, undef, undef, undef, undef, undef, undef, undef, undef, undef, undef, undef, undef, undef, undef, undef, undef, undef, undef, undef, undef, undef, undef, undef, undef, undef, undef, undef, undef, undef, undef, undef, undef, undef, undef, undef, undef, undef, undef, undef, undef, undef, undef, undef, undef, undef, undef, undef, undef, undef, undef, undef, undef, undef, undef, undef, undef, undef, undef, undef, undef, undef, undef, undef, undef, undef, undef, undef, undef, undef, undef, undef, undef, undef, undef, undef, undef, undef, undef, undef, undef, undef, undef, undef, undef, undef, undef, undef, undef, undef, undef, undef, undef, undef, undef, undef, undef, undef, undef, undef, undef, undef, undef, undef, undef, undef, undef, undef, undef, undef, undef, undef, undef, undef, undef, undef, undef, undef, undef, undef, undef, undef, undef, undef, undef, undef, undef, undef, undef, undef, undef, undef, undef], defers := [] }) (fun c1 c2 c3 k1 k2 k3 => #[true, c1, true, c2, true, c3, k1, k2, k3, false, false, false]) (by kernel_rfl) (by kernel_rfl) rfl (bl_drew8 (Below.refl _ _)) ?_
    clear hHeld
    intro n
    induction n with
    | zero =>
      intro c1 c2 c3 k1 k2 k3 x1 x2 x3 y1 y2 y3 W hf J
      exact absurd hf (by unfold left6d; omega)
    | succ n ih =>
      intro c1 c2 c3 k1 k2 k3 x1 x2 x3 y1 y2 y3 W hf J
      clear hw0
      cases c1
      · skip
        cases c2
        · skip
          cases c3
          · skip
            cases k1
            · skip
              cases k2
              · skip
                cases k3
                · skip
                  refine wpAnyH_ready (rs := [1, 6, 7, 8]) (by kernel_rfl) (by simp) ?_
                  refine AllReadyH.cons rfl (fun K hK => ?_) ?_
                  · go_simp
                    refine (IN1.out W J.up).mono ?_
                    rintro e' W2 ⟨rfl, hb⟩
                    refine hK.out _ _ (KS.out _ (bl_trans8 J.up hb)) (fun _ => ?_)
                    simp only [List.setIfInBounds_toArray, List.set_cons_zero, List.set_cons_succ]
                    exact ih _ _ _ _ _ _ _ _ _ _ _ _ _ (by simp [left6d] at hf ⊢; omega) (J.call1 hb)
                  refine AllReadyH.cons rfl (fun K hK => ?_) ?_
                  · go_simp
                    refine hK.out _ _ (KS.out _ (bl_alloc8 J.up _)) (fun _ => ?_)
                    simp only [List.setIfInBounds_toArray, List.set_cons_zero, List.set_cons_succ]
                    exact ih _ _ _ _ _ _ _ _ _ _ _ _ _ (by simp [left6d] at hf ⊢; omega) J.make1
                  refine AllReadyH.cons rfl (fun K hK => ?_) ?_
                  · go_simp
                    refine hK.out _ _ (KS.out _ (bl_alloc8 J.up _)) (fun _ => ?_)
                    simp only [List.setIfInBounds_toArray, List.set_cons_zero, List.set_cons_succ]
                    exact ih _ _ _ _ _ _ _ _ _ _ _ _ _ (by simp [left6d] at hf ⊢; omega) J.make2
                  refine AllReadyH.cons rfl (fun K hK => ?_) ?_
                  · go_simp
                    refine hK.out _ _ (KS.out _ (bl_alloc8 J.up _)) (fun _ => ?_)
                    simp only [List.setIfInBounds_toArray, List.set_cons_zero, List.set_cons_succ]
                    exact ih _ _ _ _ _ _ _ _ _ _ _ _ _ (by simp [left6d] at hf ⊢; omega) J.make3
                  exact AllReadyH.nil
                · skip
                  refine wpAnyH_ready (rs := [1, 6, 7]) (by kernel_rfl) (by simp) ?_
                  refine AllReadyH.cons rfl (fun K hK => ?_) ?_
                  · go_simp
                    refine (IN1.out W J.up).mono ?_
                    rintro e' W2 ⟨rfl, hb⟩
                    refine hK.out _ _ (KS.out _ (bl_trans8 J.up hb)) (fun _ => ?_)
                    simp only [List.setIfInBounds_toArray, List.set_cons_zero, List.set_cons_succ]
                    exact ih _ _ _ _ _ _ _ _ _ _ _ _ _ (by simp [left6d] at hf ⊢; omega) (J.call1 hb)
                  refine AllReadyH.cons rfl (fun K hK => ?_) ?_
                  · go_simp
                    refine hK.out _ _ (KS.out _ (bl_alloc8 J.up _)) (fun _ => ?_)
                    simp only [List.setIfInBounds_toArray, List.set_cons_zero, List.set_cons_succ]
                    exact ih _ _ _ _ _ _ _ _ _ _ _ _ _ (by simp [left6d] at hf ⊢; omega) J.make1
                  refine AllReadyH.cons rfl (fun K hK => ?_) ?_
                  · go_simp
                    refine hK.out _ _ (KS.out _ (bl_alloc8 J.up _)) (fun _ => ?_)
                    simp only [List.setIfInBounds_toArray, List.set_cons_zero, List.set_cons_succ]
                    exact ih _ _ _ _ _ _ _ _ _ _ _ _ _ (by simp [left6d] at hf ⊢; omega) J.make2
                  exact AllReadyH.nil
              · skip
                cases k3
                · skip
                  refine wpAnyH_ready (rs := [1, 6, 8]) (by kernel_rfl) (by simp) ?_
                  refine AllReadyH.cons rfl (fun K hK => ?_) ?_
                  · go_simp
                    refine (IN1.out W J.up).mono ?_
                    rintro e' W2 ⟨rfl, hb⟩
                    refine hK.out _ _ (KS.out _ (bl_trans8 J.up hb)) (fun _ => ?_)
                    simp only [List.setIfInBounds_toArray, List.set_cons_zero, List.set_cons_succ]
                    exact ih _ _ _ _ _ _ _ _ _ _ _ _ _ (by simp [left6d] at hf ⊢; omega) (J.call1 hb)
                  refine AllReadyH.cons rfl (fun K hK => ?_) ?_
                  · go_simp
                    refine hK.out _ _ (KS.out _ (bl_alloc8 J.up _)) (fun _ => ?_)
                    simp only [List.setIfInBounds_toArray, List.set_cons_zero, List.set_cons_succ]
                    exact ih _ _ _ _ _ _ _ _ _ _ _ _ _ (by simp [left6d] at hf ⊢; omega) J.make1
                  refine AllReadyH.cons rfl (fun K hK => ?_) ?_
                  · go_simp
                    refine hK.out _ _ (KS.out _ (bl_alloc8 J.up _)) (fun _ => ?_)
                    simp only [List.setIfInBounds_toArray, List.set_cons_zero, List.set_cons_succ]
                    exact ih _ _ _ _ _ _ _ _ _ _ _ _ _ (by simp [left6d] at hf ⊢; omega) J.make3
                  exact AllReadyH.nil
                · skip
                  refine wpAnyH_ready (rs := [1, 6]) (by kernel_rfl) (by simp) ?_
                  refine AllReadyH.cons rfl (fun K hK => ?_) ?_
                  · go_simp
                    refine (IN1.out W J.up).mono ?_
                    rintro e' W2 ⟨rfl, hb⟩
                    refine hK.out _ _ (KS.out _ (bl_trans8 J.up hb)) (fun _ => ?_)
                    simp only [List.setIfInBounds_toArray, List.set_cons_zero, List.set_cons_succ]
                    exact ih _ _ _ _ _ _ _ _ _ _ _ _ _ (by simp [left6d] at hf ⊢; omega) (J.call1 hb)
                  refine AllReadyH.cons rfl (fun K hK => ?_) ?_
                  · go_simp
                    refine hK.out _ _ (KS.out _ (bl_alloc8 J.up _)) (fun _ => ?_)
                    simp only [List.setIfInBounds_toArray, List.set_cons_zero, List.set_cons_succ]
                    exact ih _ _ _ _ _ _ _ _ _ _ _ _ _ (by simp [left6d] at hf ⊢; omega) J.make1
                  exact AllReadyH.nil
            · skip
              cases k2
              · skip
                cases k3
                · skip
                  refine wpAnyH_ready (rs := [1, 7, 8]) (by kernel_rfl) (by simp) ?_
                  refine AllReadyH.cons rfl (fun K hK => ?_) ?_
                  · go_simp
                    refine (IN1.out W J.up).mono ?_
                    rintro e' W2 ⟨rfl, hb⟩
                    refine hK.out _ _ (KS.out _ (bl_trans8 J.up hb)) (fun _ => ?_)
                    simp only [List.setIfInBounds_toArray, List.set_cons_zero, List.set_cons_succ]
                    exact ih _ _ _ _ _ _ _ _ _ _ _ _ _ (by simp [left6d] at hf ⊢; omega) (J.call1 hb)
                  refine AllReadyH.cons rfl (fun K hK => ?_) ?_
                  · go_simp
                    refine hK.out _ _ (KS.out _ (bl_alloc8 J.up _)) (fun _ => ?_)
                    simp only [List.setIfInBounds_toArray, List.set_cons_zero, List.set_cons_succ]
                    exact ih _ _ _ _ _ _ _ _ _ _ _ _ _ (by simp [left6d] at hf ⊢; omega) J.make2
                  refine AllReadyH.cons rfl (fun K hK => ?_) ?_
                  · go_simp
                    refine hK.out _ _ (KS.out _ (bl_alloc8 J.up _)) (fun _ => ?_)
                    simp only [List.setIfInBounds_toArray, List.set_cons_zero, List.set_cons_succ]
                    exact ih _ _ _ _ _ _ _ _ _ _ _ _ _ (by simp [left6d] at hf ⊢; omega) J.make3
                  exact AllReadyH.nil
                · skip
                  refine wpAnyH_ready (rs := [1, 7]) (by kernel_rfl) (by simp) ?_
                  refine AllReadyH.cons rfl (fun K hK => ?_) ?_
                  · go_simp
                    refine (IN1.out W J.up).mono ?_
                    rintro e' W2 ⟨rfl, hb⟩
                    refine hK.out _ _ (KS.out _ (bl_trans8 J.up hb)) (fun _ => ?_)
                    simp only [List.setIfInBounds_toArray, List.set_cons_zero, List.set_cons_succ]
                    exact ih _ _ _ _ _ _ _ _ _ _ _ _ _ (by simp [left6d] at hf ⊢; omega) (J.call1 hb)
                  refine AllReadyH.cons rfl (fun K hK => ?_) ?_
                  · go_simp
                    refine hK.out _ _ (KS.out _ (bl_alloc8 J.up _)) (fun _ => ?_)
                    simp only [List.setIfInBounds_toArray, List.set_cons_zero, List.set_cons_succ]
                    exact ih _ _ _ _ _ _ _ _ _ _ _ _ _ (by simp [left6d] at hf ⊢; omega) J.make2
                  exact AllReadyH.nil
              · skip
                cases k3
                · skip
                  refine wpAnyH_ready (rs := [1, 8]) (by kernel_rfl) (by simp) ?_
                  refine AllReadyH.cons rfl (fun K hK => ?_) ?_
                  · go_simp
                    refine (IN1.out W J.up).mono ?_
                    rintro e' W2 ⟨rfl, hb⟩
                    refine hK.out _ _ (KS.out _ (bl_trans8 J.up hb)) (fun _ => ?_)
                    simp only [List.setIfInBounds_toArray, List.set_cons_zero, List.set_cons_succ]
                    exact ih _ _ _ _ _ _ _ _ _ _ _ _ _ (by simp [left6d] at hf ⊢; omega) (J.call1 hb)
                  refine AllReadyH.cons rfl (fun K hK => ?_) ?_
                  · go_simp
                    refine hK.out _ _ (KS.out _ (bl_alloc8 J.up _)) (fun _ => ?_)
                    simp only [List.setIfInBounds_toArray, List.set_cons_zero, List.set_cons_succ]
                    exact ih _ _ _ _ _ _ _ _ _ _ _ _ _ (by simp [left6d] at hf ⊢; omega) J.make3
                  exact AllReadyH.nil
                · skip
                  refine wpAnyH_ready (rs := [1]) (by kernel_rfl) (by simp) ?_
                  refine AllReadyH.cons rfl (fun K hK => ?_) ?_
                  · go_simp
                    refine (IN1.out W J.up).mono ?_
                    rintro e' W2 ⟨rfl, hb⟩
                    refine hK.out _ _ (KS.out _ (bl_trans8 J.up hb)) (fun _ => ?_)
                    simp only [List.setIfInBounds_toArray, List.set_cons_zero, List.set_cons_succ]
                    exact ih _ _ _ _ _ _ _ _ _ _ _ _ _ (by simp [left6d] at hf ⊢; omega) (J.call1 hb)
                  exact AllReadyH.nil
          · skip
            exact absurd (J.ch.2 rfl) (by decide)
        · skip
          exact absurd (J.ch.1 rfl) (by decide)
      · skip
        cases c2
        · skip
          cases c3
          · skip
            cases k1
            · skip
              cases k2
              · skip
                cases k3
                · skip
                  refine wpAnyH_ready (rs := [3, 6, 7, 8]) (by kernel_rfl) (by simp) ?_
                  refine AllReadyH.cons rfl (fun K hK => ?_) ?_
                  · go_simp
                    refine (IN2.out W J.up).mono ?_
                    rintro e' W2 ⟨rfl, hb⟩
                    refine hK.out _ _ (KS.out _ (bl_trans8 J.up hb)) (fun _ => ?_)
                    simp only [List.setIfInBounds_toArray, List.set_cons_zero, List.set_cons_succ]
                    exact ih _ _ _ _ _ _ _ _ _ _ _ _ _ (by simp [left6d] at hf ⊢; omega) (J.call2 hb)
                  refine AllReadyH.cons rfl (fun K hK => ?_) ?_
                  · go_simp
                    refine hK.out _ _ (KS.out _ (bl_alloc8 J.up _)) (fun _ => ?_)
                    simp only [List.setIfInBounds_toArray, List.set_cons_zero, List.set_cons_succ]
                    exact ih _ _ _ _ _ _ _ _ _ _ _ _ _ (by simp [left6d] at hf ⊢; omega) J.make1
                  refine AllReadyH.cons rfl (fun K hK => ?_) ?_
                  · go_simp
                    refine hK.out _ _ (KS.out _ (bl_alloc8 J.up _)) (fun _ => ?_)
                    simp only [List.setIfInBounds_toArray, List.set_cons_zero, List.set_cons_succ]
                    exact ih _ _ _ _ _ _ _ _ _ _ _ _ _ (by simp [left6d] at hf ⊢; omega) J.make2
                  refine AllReadyH.cons rfl (fun K hK => ?_) ?_
                  · go_simp
                    refine hK.out _ _ (KS.out _ (bl_alloc8 J.up _)) (fun _ => ?_)
                    simp only [List.setIfInBounds_toArray, List.set_cons_zero, List.set_cons_succ]
                    exact ih _ _ _ _ _ _ _ _ _ _ _ _ _ (by simp [left6d] at hf ⊢; omega) J.make3
                  exact AllReadyH.nil
                · skip
                  refine wpAnyH_ready (rs := [3, 6, 7]) (by kernel_rfl) (by simp) ?_
                  refine AllReadyH.cons rfl (fun K hK => ?_) ?_
                  · go_simp
                    refine (IN2.out W J.up).mono ?_
                    rintro e' W2 ⟨rfl, hb⟩
                    refine hK.out _ _ (KS.out _ (bl_trans8 J.up hb)) (fun _ => ?_)
                    simp only [List.setIfInBounds_toArray, List.set_cons_zero, List.set_cons_succ]
                    exact ih _ _ _ _ _ _ _ _ _ _ _ _ _ (by simp [left6d] at hf ⊢; omega) (J.call2 hb)
                  refine AllReadyH.cons rfl (fun K hK => ?_) ?_
                  · go_simp
                    refine hK.out _ _ (KS.out _ (bl_alloc8 J.up _)) (fun _ => ?_)
                    simp only [List.setIfInBounds_toArray, List.set_cons_zero, List.set_cons_succ]
                    exact ih _ _ _ _ _ _ _ _ _ _ _ _ _ (by simp [left6d] at hf ⊢; omega) J.make1
                  refine AllReadyH.cons rfl (fun K hK => ?_) ?_
                  · go_simp
                    refine hK.out _ _ (KS.out _ (bl_alloc8 J.up _)) (fun _ => ?_)
                    simp only [List.setIfInBounds_toArray, List.set_cons_zero, List.set_cons_succ]
                    exact ih _ _ _ _ _ _ _ _ _ _ _ _ _ (by simp [left6d] at hf ⊢; omega) J.make2
                  exact AllReadyH.nil
              · skip
                cases k3
                · skip
                  refine wpAnyH_ready (rs := [3, 6, 8]) (by kernel_rfl) (by simp) ?_
                  refine AllReadyH.cons rfl (fun K hK => ?_) ?_
                  · go_simp
                    refine (IN2.out W J.up).mono ?_
                    rintro e' W2 ⟨rfl, hb⟩
                    refine hK.out _ _ (KS.out _ (bl_trans8 J.up hb)) (fun _ => ?_)
                    simp only [List.setIfInBounds_toArray, List.set_cons_zero, List.set_cons_succ]
                    exact ih _ _ _ _ _ _ _ _ _ _ _ _ _ (by simp [left6d] at hf ⊢; omega) (J.call2 hb)
                  refine AllReadyH.cons rfl (fun K hK => ?_) ?_
                  · go_simp
                    refine hK.out _ _ (KS.out _ (bl_alloc8 J.up _)) (fun _ => ?_)
                    simp only [List.setIfInBounds_toArray, List.set_cons_zero, List.set_cons_succ]
                    exact ih _ _ _ _ _ _ _ _ _ _ _ _ _ (by simp [left6d] at hf ⊢; omega) J.make1
                  refine AllReadyH.cons rfl (fun K hK => ?_) ?_
                  · go_simp
                    refine hK.out _ _ (KS.out _ (bl_alloc8 J.up _)) (fun _ => ?_)
                    simp only [List.setIfInBounds_toArray, List.set_cons_zero, List.set_cons_succ]
                    exact ih _ _ _ _ _ _ _ _ _ _ _ _ _ (by simp [left6d] at hf ⊢; omega) J.make3
                  exact AllReadyH.nil
                · skip
                  refine wpAnyH_ready (rs := [3, 6]) (by kernel_rfl) (by simp) ?_
                  refine AllReadyH.cons rfl (fun K hK => ?_) ?_
                  · go_simp
                    refine (IN2.out W J.up).mono ?_
                    rintro e' W2 ⟨rfl, hb⟩
                    refine hK.out _ _ (KS.out _ (bl_trans8 J.up hb)) (fun _ => ?_)
                    simp only [List.setIfInBounds_toArray, List.set_cons_zero, List.set_cons_succ]
                    exact ih _ _ _ _ _ _ _ _ _ _ _ _ _ (by simp [left6d] at hf ⊢; omega) (J.call2 hb)
                  refine AllReadyH.cons rfl (fun K hK => ?_) ?_
                  · go_simp
                    refine hK.out _ _ (KS.out _ (bl_alloc8 J.up _)) (fun _ => ?_)
                    simp only [List.setIfInBounds_toArray, List.set_cons_zero, List.set_cons_succ]
                    exact ih _ _ _ _ _ _ _ _ _ _ _ _ _ (by simp [left6d] at hf ⊢; omega) J.make1
                  exact AllReadyH.nil
            · skip
              cases k2
              · skip
                cases k3
                · skip
                  refine wpAnyH_ready (rs := [3, 7, 8]) (by kernel_rfl) (by simp) ?_
                  refine AllReadyH.cons rfl (fun K hK => ?_) ?_
                  · go_simp
                    refine (IN2.out W J.up).mono ?_
                    rintro e' W2 ⟨rfl, hb⟩
                    refine hK.out _ _ (KS.out _ (bl_trans8 J.up hb)) (fun _ => ?_)
                    simp only [List.setIfInBounds_toArray, List.set_cons_zero, List.set_cons_succ]
                    exact ih _ _ _ _ _ _ _ _ _ _ _ _ _ (by simp [left6d] at hf ⊢; omega) (J.call2 hb)
                  refine AllReadyH.cons rfl (fun K hK => ?_) ?_
                  · go_simp
                    refine hK.out _ _ (KS.out _ (bl_alloc8 J.up _)) (fun _ => ?_)
                    simp only [List.setIfInBounds_toArray, List.set_cons_zero, List.set_cons_succ]
                    exact ih _ _ _ _ _ _ _ _ _ _ _ _ _ (by simp [left6d] at hf ⊢; omega) J.make2
                  refine AllReadyH.cons rfl (fun K hK => ?_) ?_
                  · go_simp
                    refine hK.out _ _ (KS.out _ (bl_alloc8 J.up _)) (fun _ => ?_)
                    simp only [List.setIfInBounds_toArray, List.set_cons_zero, List.set_cons_succ]
                    exact ih _ _ _ _ _ _ _ _ _ _ _ _ _ (by simp [left6d] at hf ⊢; omega) J.make3
                  exact AllReadyH.nil
                · skip
                  refine wpAnyH_ready (rs := [3, 7]) (by kernel_rfl) (by simp) ?_
                  refine AllReadyH.cons rfl (fun K hK => ?_) ?_
                  · go_simp
                    refine (IN2.out W J.up).mono ?_
                    rintro e' W2 ⟨rfl, hb⟩
                    refine hK.out _ _ (KS.out _ (bl_trans8 J.up hb)) (fun _ => ?_)
                    simp only [List.setIfInBounds_toArray, List.set_cons_zero, List.set_cons_succ]
                    exact ih _ _ _ _ _ _ _ _ _ _ _ _ _ (by simp [left6d] at hf ⊢; omega) (J.call2 hb)
                  refine AllReadyH.cons rfl (fun K hK => ?_) ?_
                  · go_simp
                    refine hK.out _ _ (KS.out _ (bl_alloc8 J.up _)) (fun _ => ?_)
                    simp only [List.setIfInBounds_toArray, List.set_cons_zero, List.set_cons_succ]
                    exact ih _ _ _ _ _ _ _ _ _ _ _ _ _ (by simp [left6d] at hf ⊢; omega) J.make2
                  exact AllReadyH.nil
              · skip
                cases k3
                · skip
                  refine wpAnyH_ready (rs := [3, 8]) (by kernel_rfl) (by simp) ?_
                  refine AllReadyH.cons rfl (fun K hK => ?_) ?_
                  · go_simp
                    refine (IN2.out W J.up).mono ?_
                    rintro e' W2 ⟨rfl, hb⟩
                    refine hK.out _ _ (KS.out _ (bl_trans8 J.up hb)) (fun _ => ?_)
                    simp only [List.setIfInBounds_toArray, List.set_cons_zero, List.set_cons_succ]
                    exact ih _ _ _ _ _ _ _ _ _ _ _ _ _ (by simp [left6d] at hf ⊢; omega) (J.call2 hb)
                  refine AllReadyH.cons rfl (fun K hK => ?_) ?_
                  · go_simp
                    refine hK.out _ _ (KS.out _ (bl_alloc8 J.up _)) (fun _ => ?_)
                    simp only [List.setIfInBounds_toArray, List.set_cons_zero, List.set_cons_succ]
                    exact ih _ _ _ _ _ _ _ _ _ _ _ _ _ (by simp [left6d] at hf ⊢; omega) J.make3
                  exact AllReadyH.nil
                · skip
                  refine wpAnyH_ready (rs := [3]) (by kernel_rfl) (by simp) ?_
                  refine AllReadyH.cons rfl (fun K hK => ?_) ?_
                  · go_simp
                    refine (IN2.out W J.up).mono ?_
                    rintro e' W2 ⟨rfl, hb⟩
                    refine hK.out _ _ (KS.out _ (bl_trans8 J.up hb)) (fun _ => ?_)
                    simp only [List.setIfInBounds_toArray, List.set_cons_zero, List.set_cons_succ]
                    exact ih _ _ _ _ _ _ _ _ _ _ _ _ _ (by simp [left6d] at hf ⊢; omega) (J.call2 hb)
                  exact AllReadyH.nil
          · skip
            exact absurd (J.ch.2 rfl) (by decide)
        · skip
          cases c3
          · skip
            cases k1
            · skip
              cases k2
              · skip
                cases k3
                · skip
                  refine wpAnyH_ready (rs := [5, 6, 7, 8]) (by kernel_rfl) (by simp) ?_
                  refine AllReadyH.cons rfl (fun K hK => ?_) ?_
                  · go_simp
                    refine (IN3.out W J.up).mono ?_
                    rintro e' W2 ⟨rfl, hb⟩
                    refine hK.out _ _ (KS.out _ (bl_trans8 J.up hb)) (fun _ => ?_)
                    simp only [List.setIfInBounds_toArray, List.set_cons_zero, List.set_cons_succ]
                    exact ih _ _ _ _ _ _ _ _ _ _ _ _ _ (by simp [left6d] at hf ⊢; omega) (J.call3 hb)
                  refine AllReadyH.cons rfl (fun K hK => ?_) ?_
                  · go_simp
                    refine hK.out _ _ (KS.out _ (bl_alloc8 J.up _)) (fun _ => ?_)
                    simp only [List.setIfInBounds_toArray, List.set_cons_zero, List.set_cons_succ]
                    exact ih _ _ _ _ _ _ _ _ _ _ _ _ _ (by simp [left6d] at hf ⊢; omega) J.make1
                  refine AllReadyH.cons rfl (fun K hK => ?_) ?_
                  · go_simp
                    refine hK.out _ _ (KS.out _ (bl_alloc8 J.up _)) (fun _ => ?_)
                    simp only [List.setIfInBounds_toArray, List.set_cons_zero, List.set_cons_succ]
                    exact ih _ _ _ _ _ _ _ _ _ _ _ _ _ (by simp [left6d] at hf ⊢; omega) J.make2
                  refine AllReadyH.cons rfl (fun K hK => ?_) ?_
                  · go_simp
                    refine hK.out _ _ (KS.out _ (bl_alloc8 J.up _)) (fun _ => ?_)
                    simp only [List.setIfInBounds_toArray, List.set_cons_zero, List.set_cons_succ]
                    exact ih _ _ _ _ _ _ _ _ _ _ _ _ _ (by simp [left6d] at hf ⊢; omega) J.make3
                  exact AllReadyH.nil
                · skip
                  refine wpAnyH_ready (rs := [5, 6, 7]) (by kernel_rfl) (by simp) ?_
                  refine AllReadyH.cons rfl (fun K hK => ?_) ?_
                  · go_simp
                    refine (IN3.out W J.up).mono ?_
                    rintro e' W2 ⟨rfl, hb⟩
                    refine hK.out _ _ (KS.out _ (bl_trans8 J.up hb)) (fun _ => ?_)
                    simp only [List.setIfInBounds_toArray, List.set_cons_zero, List.set_cons_succ]
                    exact ih _ _ _ _ _ _ _ _ _ _ _ _ _ (by simp [left6d] at hf ⊢; omega) (J.call3 hb)
                  refine AllReadyH.cons rfl (fun K hK => ?_) ?_
                  · go_simp
                    refine hK.out _ _ (KS.out _ (bl_alloc8 J.up _)) (fun _ => ?_)
                    simp only [List.setIfInBounds_toArray, List.set_cons_zero, List.set_cons_succ]
                    exact ih _ _ _ _ _ _ _ _ _ _ _ _ _ (by simp [left6d] at hf ⊢; omega) J.make1
                  refine AllReadyH.cons rfl (fun K hK => ?_) ?_
                  · go_simp
                    refine hK.out _ _ (KS.out _ (bl_alloc8 J.up _)) (fun _ => ?_)
                    simp only [List.setIfInBounds_toArray, List.set_cons_zero, List.set_cons_succ]
                    exact ih _ _ _ _ _ _ _ _ _ _ _ _ _ (by simp [left6d] at hf ⊢; omega) J.make2
                  exact AllReadyH.nil
              · skip
                cases k3
                · skip
                  refine wpAnyH_ready (rs := [5, 6, 8]) (by kernel_rfl) (by simp) ?_
                  refine AllReadyH.cons rfl (fun K hK => ?_) ?_
                  · go_simp
                    refine (IN3.out W J.up).mono ?_
                    rintro e' W2 ⟨rfl, hb⟩
                    refine hK.out _ _ (KS.out _ (bl_trans8 J.up hb)) (fun _ => ?_)
                    simp only [List.setIfInBounds_toArray, List.set_cons_zero, List.set_cons_succ]
                    exact ih _ _ _ _ _ _ _ _ _ _ _ _ _ (by simp [left6d] at hf ⊢; omega) (J.call3 hb)
                  refine AllReadyH.cons rfl (fun K hK => ?_) ?_
                  · go_simp
                    refine hK.out _ _ (KS.out _ (bl_alloc8 J.up _)) (fun _ => ?_)
                    simp only [List.setIfInBounds_toArray, List.set_cons_zero, List.set_cons_succ]
                    exact ih _ _ _ _ _ _ _ _ _ _ _ _ _ (by simp [left6d] at hf ⊢; omega) J.make1
                  refine AllReadyH.cons rfl (fun K hK => ?_) ?_
                  · go_simp
                    refine hK.out _ _ (KS.out _ (bl_alloc8 J.up _)) (fun _ => ?_)
                    simp only [List.setIfInBounds_toArray, List.set_cons_zero, List.set_cons_succ]
                    exact ih _ _ _ _ _ _ _ _ _ _ _ _ _ (by simp [left6d] at hf ⊢; omega) J.make3
                  exact AllReadyH.nil
                · skip
                  refine wpAnyH_ready (rs := [5, 6]) (by kernel_rfl) (by simp) ?_
                  refine AllReadyH.cons rfl (fun K hK => ?_) ?_
                  · go_simp
                    refine (IN3.out W J.up).mono ?_
                    rintro e' W2 ⟨rfl, hb⟩
                    refine hK.out _ _ (KS.out _ (bl_trans8 J.up hb)) (fun _ => ?_)
                    simp only [List.setIfInBounds_toArray, List.set_cons_zero, List.set_cons_succ]
                    exact ih _ _ _ _ _ _ _ _ _ _ _ _ _ (by simp [left6d] at hf ⊢; omega) (J.call3 hb)
                  refine AllReadyH.cons rfl (fun K hK => ?_) ?_
                  · go_simp
                    refine hK.out _ _ (KS.out _ (bl_alloc8 J.up _)) (fun _ => ?_)
                    simp only [List.setIfInBounds_toArray, List.set_cons_zero, List.set_cons_succ]
                    exact ih _ _ _ _ _ _ _ _ _ _ _ _ _ (by simp [left6d] at hf ⊢; omega) J.make1
                  exact AllReadyH.nil
            · skip
              cases k2
              · skip
                cases k3
                · skip
                  refine wpAnyH_ready (rs := [5, 7, 8]) (by kernel_rfl) (by simp) ?_
                  refine AllReadyH.cons rfl (fun K hK => ?_) ?_
                  · go_simp
                    refine (IN3.out W J.up).mono ?_
                    rintro e' W2 ⟨rfl, hb⟩
                    refine hK.out _ _ (KS.out _ (bl_trans8 J.up hb)) (fun _ => ?_)
                    simp only [List.setIfInBounds_toArray, List.set_cons_zero, List.set_cons_succ]
                    exact ih _ _ _ _ _ _ _ _ _ _ _ _ _ (by simp [left6d] at hf ⊢; omega) (J.call3 hb)
                  refine AllReadyH.cons rfl (fun K hK => ?_) ?_
                  · go_simp
                    refine hK.out _ _ (KS.out _ (bl_alloc8 J.up _)) (fun _ => ?_)
                    simp only [List.setIfInBounds_toArray, List.set_cons_zero, List.set_cons_succ]
                    exact ih _ _ _ _ _ _ _ _ _ _ _ _ _ (by simp [left6d] at hf ⊢; omega) J.make2
                  refine AllReadyH.cons rfl (fun K hK => ?_) ?_
                  · go_simp
                    refine hK.out _ _ (KS.out _ (bl_alloc8 J.up _)) (fun _ => ?_)
                    simp only [List.setIfInBounds_toArray, List.set_cons_zero, List.set_cons_succ]
                    exact ih _ _ _ _ _ _ _ _ _ _ _ _ _ (by simp [left6d] at hf ⊢; omega) J.make3
                  exact AllReadyH.nil
                · skip
                  refine wpAnyH_ready (rs := [5, 7]) (by kernel_rfl) (by simp) ?_
                  refine AllReadyH.cons rfl (fun K hK => ?_) ?_
                  · go_simp
                    refine (IN3.out W J.up).mono ?_
                    rintro e' W2 ⟨rfl, hb⟩
                    refine hK.out _ _ (KS.out _ (bl_trans8 J.up hb)) (fun _ => ?_)
                    simp only [List.setIfInBounds_toArray, List.set_cons_zero, List.set_cons_succ]
                    exact ih _ _ _ _ _ _ _ _ _ _ _ _ _ (by simp [left6d] at hf ⊢; omega) (J.call3 hb)
                  refine AllReadyH.cons rfl (fun K hK => ?_) ?_
                  · go_simp
                    refine hK.out _ _ (KS.out _ (bl_alloc8 J.up _)) (fun _ => ?_)
                    simp only [List.setIfInBounds_toArray, List.set_cons_zero, List.set_cons_succ]
                    exact ih _ _ _ _ _ _ _ _ _ _ _ _ _ (by simp [left6d] at hf ⊢; omega) J.make2
                  exact AllReadyH.nil
              · skip
                cases k3
                · skip
                  refine wpAnyH_ready (rs := [5, 8]) (by kernel_rfl) (by simp) ?_
                  refine AllReadyH.cons rfl (fun K hK => ?_) ?_
                  · go_simp
                    refine (IN3.out W J.up).mono ?_
                    rintro e' W2 ⟨rfl, hb⟩
                    refine hK.out _ _ (KS.out _ (bl_trans8 J.up hb)) (fun _ => ?_)
                    simp only [List.setIfInBounds_toArray, List.set_cons_zero, List.set_cons_succ]
                    exact ih _ _ _ _ _ _ _ _ _ _ _ _ _ (by simp [left6d] at hf ⊢; omega) (J.call3 hb)
                  refine AllReadyH.cons rfl (fun K hK => ?_) ?_
                  · go_simp
                    refine hK.out _ _ (KS.out _ (bl_alloc8 J.up _)) (fun _ => ?_)
                    simp only [List.setIfInBounds_toArray, List.set_cons_zero, List.set_cons_succ]
                    exact ih _ _ _ _ _ _ _ _ _ _ _ _ _ (by simp [left6d] at hf ⊢; omega) J.make3
                  exact AllReadyH.nil
                · skip
                  refine wpAnyH_ready (rs := [5]) (by kernel_rfl) (by simp) ?_
                  refine AllReadyH.cons rfl (fun K hK => ?_) ?_
                  · go_simp
                    refine (IN3.out W J.up).mono ?_
                    rintro e' W2 ⟨rfl, hb⟩
                    refine hK.out _ _ (KS.out _ (bl_trans8 J.up hb)) (fun _ => ?_)
                    simp only [List.setIfInBounds_toArray, List.set_cons_zero, List.set_cons_succ]
                    exact ih _ _ _ _ _ _ _ _ _ _ _ _ _ (by simp [left6d] at hf ⊢; omega) (J.call3 hb)
                  exact AllReadyH.nil
          · skip
            cases k1
            · skip
              cases k2
              · skip
                cases k3
                · skip
                  refine wpAnyH_ready (rs := [6, 7, 8]) (by kernel_rfl) (by simp) ?_
                  refine AllReadyH.cons rfl (fun K hK => ?_) ?_
                  · go_simp
                    refine hK.out _ _ (KS.out _ (bl_alloc8 J.up _)) (fun _ => ?_)
                    simp only [List.setIfInBounds_toArray, List.set_cons_zero, List.set_cons_succ]
                    exact ih _ _ _ _ _ _ _ _ _ _ _ _ _ (by simp [left6d] at hf ⊢; omega) J.make1
                  refine AllReadyH.cons rfl (fun K hK => ?_) ?_
                  · go_simp
                    refine hK.out _ _ (KS.out _ (bl_alloc8 J.up _)) (fun _ => ?_)
                    simp only [List.setIfInBounds_toArray, List.set_cons_zero, List.set_cons_succ]
                    exact ih _ _ _ _ _ _ _ _ _ _ _ _ _ (by simp [left6d] at hf ⊢; omega) J.make2
                  refine AllReadyH.cons rfl (fun K hK => ?_) ?_
                  · go_simp
                    refine hK.out _ _ (KS.out _ (bl_alloc8 J.up _)) (fun _ => ?_)
                    simp only [List.setIfInBounds_toArray, List.set_cons_zero, List.set_cons_succ]
                    exact ih _ _ _ _ _ _ _ _ _ _ _ _ _ (by simp [left6d] at hf ⊢; omega) J.make3
                  exact AllReadyH.nil
                · skip
                  refine wpAnyH_ready (rs := [6, 7]) (by kernel_rfl) (by simp) ?_
                  refine AllReadyH.cons rfl (fun K hK => ?_) ?_
                  · go_simp
                    refine hK.out _ _ (KS.out _ (bl_alloc8 J.up _)) (fun _ => ?_)
                    simp only [List.setIfInBounds_toArray, List.set_cons_zero, List.set_cons_succ]
                    exact ih _ _ _ _ _ _ _ _ _ _ _ _ _ (by simp [left6d] at hf ⊢; omega) J.make1
                  refine AllReadyH.cons rfl (fun K hK => ?_) ?_
                  · go_simp
                    refine hK.out _ _ (KS.out _ (bl_alloc8 J.up _)) (fun _ => ?_)
                    simp only [List.setIfInBounds_toArray, List.set_cons_zero, List.set_cons_succ]
                    exact ih _ _ _ _ _ _ _ _ _ _ _ _ _ (by simp [left6d] at hf ⊢; omega) J.make2
                  exact AllReadyH.nil
              · skip
                cases k3
                · skip
                  refine wpAnyH_ready (rs := [6, 8]) (by kernel_rfl) (by simp) ?_
                  refine AllReadyH.cons rfl (fun K hK => ?_) ?_
                  · go_simp
                    refine hK.out _ _ (KS.out _ (bl_alloc8 J.up _)) (fun _ => ?_)
                    simp only [List.setIfInBounds_toArray, List.set_cons_zero, List.set_cons_succ]
                    exact ih _ _ _ _ _ _ _ _ _ _ _ _ _ (by simp [left6d] at hf ⊢; omega) J.make1
                  refine AllReadyH.cons rfl (fun K hK => ?_) ?_
                  · go_simp
                    refine hK.out _ _ (KS.out _ (bl_alloc8 J.up _)) (fun _ => ?_)
                    simp only [List.setIfInBounds_toArray, List.set_cons_zero, List.set_cons_succ]
                    exact ih _ _ _ _ _ _ _ _ _ _ _ _ _ (by simp [left6d] at hf ⊢; omega) J.make3
                  exact AllReadyH.nil
                · skip
                  refine wpAnyH_ready (rs := [6]) (by kernel_rfl) (by simp) ?_
                  refine AllReadyH.cons rfl (fun K hK => ?_) ?_
                  · go_simp
                    refine hK.out _ _ (KS.out _ (bl_alloc8 J.up _)) (fun _ => ?_)
                    simp only [List.setIfInBounds_toArray, List.set_cons_zero, List.set_cons_succ]
                    exact ih _ _ _ _ _ _ _ _ _ _ _ _ _ (by simp [left6d] at hf ⊢; omega) J.make1
                  exact AllReadyH.nil
            · skip
              cases k2
              · skip
                cases k3
                · skip
                  refine wpAnyH_ready (rs := [7, 8]) (by kernel_rfl) (by simp) ?_
                  refine AllReadyH.cons rfl (fun K hK => ?_) ?_
                  · go_simp
                    refine hK.out _ _ (KS.out _ (bl_alloc8 J.up _)) (fun _ => ?_)
                    simp only [List.setIfInBounds_toArray, List.set_cons_zero, List.set_cons_succ]
                    exact ih _ _ _ _ _ _ _ _ _ _ _ _ _ (by simp [left6d] at hf ⊢; omega) J.make2
                  refine AllReadyH.cons rfl (fun K hK => ?_) ?_
                  · go_simp
                    refine hK.out _ _ (KS.out _ (bl_alloc8 J.up _)) (fun _ => ?_)
                    simp only [List.setIfInBounds_toArray, List.set_cons_zero, List.set_cons_succ]
                    exact ih _ _ _ _ _ _ _ _ _ _ _ _ _ (by simp [left6d] at hf ⊢; omega) J.make3
                  exact AllReadyH.nil
                · skip
                  refine wpAnyH_ready (rs := [7]) (by kernel_rfl) (by simp) ?_
                  refine AllReadyH.cons rfl (fun K hK => ?_) ?_
                  · go_simp
                    refine hK.out _ _ (KS.out _ (bl_alloc8 J.up _)) (fun _ => ?_)
                    simp only [List.setIfInBounds_toArray, List.set_cons_zero, List.set_cons_succ]
                    exact ih _ _ _ _ _ _ _ _ _ _ _ _ _ (by simp [left6d] at hf ⊢; omega) J.make2
                  exact AllReadyH.nil
              · skip
                cases k3
                · skip
                  refine wpAnyH_ready (rs := [8]) (by kernel_rfl) (by simp) ?_
                  refine AllReadyH.cons rfl (fun K hK => ?_) ?_
                  · go_simp
                    refine hK.out _ _ (KS.out _ (bl_alloc8 J.up _)) (fun _ => ?_)
                    simp only [List.setIfInBounds_toArray, List.set_cons_zero, List.set_cons_succ]
                    exact ih _ _ _ _ _ _ _ _ _ _ _ _ _ (by simp [left6d] at hf ⊢; omega) J.make3
                  exact AllReadyH.nil
                · skip
                  obtain rfl := J.q1 rfl
                  obtain rfl := J.q2 rfl
                  obtain rfl := J.q3 rfl
                  have D12 := J.d12 rfl rfl
                  have D13 := J.d13 rfl rfl
                  have D23 := J.d23 rfl rfl
                  obtain ⟨g1, rfl, l1, e1⟩ := J.r1 rfl
                  obtain ⟨g2, rfl, l2, e2⟩ := J.r2 rfl
                  obtain ⟨g3, rfl, l3, e3⟩ := J.r3 rfl
                  have HU := hide J.up
                  obtain rfl : n = 2 := by simp [left6d] at hf; omega
                  clear J ih hf
                  obtain ⟨m0, m1, m1c⟩ := tri8 e1
                  have hf1 := tri8f e1
                  have D12g : g1 ≠ g2 := fun e => D12 (by rw [e])
                  have D13g : g1 ≠ g3 := fun e => D13 (by rw [e])
                  have D23g : g2 ≠ g3 := fun e => D23 (by rw [e])
                  have FIN := three_d (b0 := b0) (b1 := b1) (b2 := b2) (v0 := .slice a0 d0 n0) (v1 := .slice a1 d1 n1) (v2 := .slice a2 d2 n2) (x0 := p0) (x1 := p1) (x2 := p2) e1 e2 e3 l1 l2 l3 D12g D13g D23g HU.out
                  have HFIN := hide FIN
                  clear FIN D12 D13 D23
                  have t2 := tri8_other (u0 := .bool b0) (u1 := .slice a0 d0 n0) (u2 := .int .i64 p0) e2 (Ne.symm D12g)
                  have t3 := tri8_other (u0 := .bool b1) (u1 := .slice a1 d1 n1) (u2 := .int .i64 p1) (tri8_other (u0 := .bool b0) (u1 := .slice a0 d0 n0) (u2 := .int .i64 p0) e3 (Ne.symm D13g)) (Ne.symm D23g)
                  obtain ⟨m2, m3, m3c⟩ := tri8 t2
                  have hf2 := tri8f t2
                  obtain ⟨m4, m5, m5c⟩ := tri8 t3
                  have hf3 := tri8f t3
                  have HB1 := hide (below_tri8 HU.out l1 (.bool b0) (.slice a0 d0 n0) (.int .i64 p0))
                  have HB2 := hide (below_tri8 HB1.out l2 (.bool b1) (.slice a1 d1 n1) (.int .i64 p1))
                  have HB3 := hide (below_tri8 HB2.out l3 (.bool b2) (.slice a2 d2 n2) (.int .i64 p2))
                  clear t2 t3 e1 e2 e3
                  refine wpAnyH_ready (rs := [9]) (by kernel_rfl) (by simp) ?_
                  refine AllReadyH.cons rfl (fun K hK => ?_) AllReadyH.nil
                  go_simp
                  refine hK.out _ _ (KS.out _ HB1.out) (fun _ => ?_)
                  clear hK K
                  try simp only [List.setIfInBounds_toArray, List.set_cons_zero, List.set_cons_succ]
                  refine wpAnyH_ready (rs := [10]) (by kernel_rfl) (by simp) ?_
                  refine AllReadyH.cons rfl (fun K hK => ?_) AllReadyH.nil
                  go_simp
                  refine hK.out _ _ (KS.out _ HB2.out) (fun _ => ?_)
                  clear hK K
                  try simp only [List.setIfInBounds_toArray, List.set_cons_zero, List.set_cons_succ]
                  refine wpAnyH_ready (rs := [11]) (by kernel_rfl) (by simp) ?_
                  refine AllReadyH.cons rfl (fun K hK => ?_) AllReadyH.nil
                  go_simp
                  refine hK.out _ _ (KS.out _ HB3.out) (fun _ => ?_)
                  clear hK K
                  try simp only [List.setIfInBounds_toArray, List.set_cons_zero, List.set_cons_succ]
                  refine wpAnyH_done (by kernel_rfl) ?_ _
                  clear m0 m1 m1c m2 m3 m3c m4 m5 m5c hf1 hf2 hf3 HB1 HB2 HB3
                  go_wp2_with fail
                  go_meet
                  exact HFIN.out
  case rest =>
    obtain ⟨gx, gy, gz, rfl, rfl, rfl, hX, hY, hZ, hbx⟩ := hcut
    replace HA0 := hide (HA0.out.below hbx)
    replace HA1 := hide (HA1.out.below hbx)
    replace HA2 := hide (HA2.out.below hbx)
    replace HT := hide (HT.out.below hbx)
    replace HW := hid_below HW hbx
    have HX := hide hX
    have HY := hide hY
    have HZ := hide hZ
    clear hX hY hZ hbx HA HBb HC hw0
    obtain ⟨ca0, cb0, cc0⟩ := tri8 HX.out
    obtain ⟨ca1, cb1, cc1⟩ := tri8 HY.out
    have C := ymul8 b0 a0 d0 n0 p0 b1 a1 d1 n1 p1 L L V0 V1 wc HT.out HA0.out HA1.out
    go_wp2_with fail
    refine C.mono ?_
    rintro e Q1 ⟨⟨bxy, axy, lxy, kxy, exy, cxy, rfl, hzr⟩, hq⟩
    clear ca0 cb0 cc0 ca1 cb1 cc1
    obtain ⟨P1, hP1, hbP, hx⟩ := enter1 Q1 (.cells #[.bool bxy, .slice axy lxy kxy, .int .i64 exy] 29)
    have stp := bl_trans8 hq hbP
    replace HX := hide (block_upW stp HX.out)
    replace HY := hide (block_upW stp HY.out)
    replace HZ := hide (block_upW stp HZ.out)
    replace HA0 := hide (HA0.out.below stp)
    replace HA1 := hide (HA1.out.below stp)
    replace HA2 := hide (HA2.out.below stp)
    replace HT := hide (HT.out.below stp)
    replace HW := hid_below HW stp
    have HRxy := hide (hzr.below hbP)
    have HBxy := hide hx
    clear C hzr hq hbP hx stp
    obtain ⟨ca0, cb0, cc0⟩ := tri8 HY.out
    obtain ⟨ca1, cb1, cc1⟩ := tri8 HX.out
    have C := ymul8 b1 a1 d1 n1 p1 b0 a0 d0 n0 p0 L L V1 V0 P1 HT.out HA1.out HA0.out
    go_wp2_with fail
    refine C.mono ?_
    rintro e Q2 ⟨⟨byx, ayx, lyx, kyx, eyx, cyx, rfl, hzr⟩, hq⟩
    clear ca0 cb0 cc0 ca1 cb1 cc1
    obtain ⟨P2, hP2, hbP, hx⟩ := enter1 Q2 (.cells #[.bool byx, .slice ayx lyx kyx, .int .i64 eyx] 29)
    have stp := bl_trans8 hq hbP
    replace HX := hide (block_upW stp HX.out)
    replace HY := hide (block_upW stp HY.out)
    replace HZ := hide (block_upW stp HZ.out)
    replace HBxy := hide (block_upW stp HBxy.out)
    replace HA0 := hide (HA0.out.below stp)
    replace HA1 := hide (HA1.out.below stp)
    replace HA2 := hide (HA2.out.below stp)
    replace HT := hide (HT.out.below stp)
    replace HRxy := hide (HRxy.out.below stp)
    replace HW := hid_below HW stp
    have HRyx := hide (hzr.below hbP)
    have HByx := hide hx
    clear C hzr hq hbP hx stp hP1
    obtain ⟨ca0, cb0, cc0⟩ := tri8 HX.out
    obtain ⟨ca1, cb1, cc1⟩ := tri8 HZ.out
    have C := ymul8 b0 a0 d0 n0 p0 b2 a2 d2 n2 p2 L L V0 V2 P2 HT.out HA0.out HA2.out
    go_wp2_with fail
    refine C.mono ?_
    rintro e Q3 ⟨⟨bxz, axz, lxz, kxz, exz, cxz, rfl, hzr⟩, hq⟩
    clear ca0 cb0 cc0 ca1 cb1 cc1
    obtain ⟨P3, hP3, hbP, hx⟩ := enter1 Q3 (.cells #[.bool bxz, .slice axz lxz kxz, .int .i64 exz] 29)
    have stp := bl_trans8 hq hbP
    replace HX := hide (block_upW stp HX.out)
    replace HY := hide (block_upW stp HY.out)
    replace HZ := hide (block_upW stp HZ.out)
    replace HBxy := hide (block_upW stp HBxy.out)
    replace HByx := hide (block_upW stp HByx.out)
    replace HA0 := hide (HA0.out.below stp)
    replace HA1 := hide (HA1.out.below stp)
    replace HA2 := hide (HA2.out.below stp)
    replace HT := hide (HT.out.below stp)
    replace HRxy := hide (HRxy.out.below stp)
    replace HRyx := hide (HRyx.out.below stp)
    replace HW := hid_below HW stp
    have HRxz := hide (hzr.below hbP)
    have HBxz := hide hx
    clear C hzr hq hbP hx stp hP2
    obtain ⟨ca0, cb0, cc0⟩ := tri8 HY.out
    obtain ⟨ca1, cb1, cc1⟩ := tri8 HZ.out
    have C := ymul8 b1 a1 d1 n1 p1 b2 a2 d2 n2 p2 L L V1 V2 P3 HT.out HA1.out HA2.out
    go_wp2_with fail
    refine C.mono ?_
    rintro e Q4 ⟨⟨byz, ayz, lyz, kyz, eyz, cyz, rfl, hzr⟩, hq⟩
    clear ca0 cb0 cc0 ca1 cb1 cc1
    obtain ⟨P4, hP4, hbP, hx⟩ := enter1 Q4 (.cells #[.bool byz, .slice ayz lyz kyz, .int .i64 eyz] 29)
    have stp := bl_trans8 hq hbP
    replace HX := hide (block_upW stp HX.out)
    replace HY := hide (block_upW stp HY.out)
    replace HZ := hide (block_upW stp HZ.out)
    replace HBxy := hide (block_upW stp HBxy.out)
    replace HByx := hide (block_upW stp HByx.out)
    replace HBxz := hide (block_upW stp HBxz.out)
    replace HA0 := hide (HA0.out.below stp)
    replace HA1 := hide (HA1.out.below stp)
    replace HA2 := hide (HA2.out.below stp)
    replace HT := hide (HT.out.below stp)
    replace HRxy := hide (HRxy.out.below stp)
    replace HRyx := hide (HRyx.out.below stp)
    replace HRxz := hide (HRxz.out.below stp)
    replace HW := hid_below HW stp
    have HRyz := hide (hzr.below hbP)
    have HByz := hide hx
    clear C hzr hq hbP hx stp hP3
    obtain ⟨ca0, cb0, cc0⟩ := tri8 HY.out
    obtain ⟨ca1, cb1, cc1⟩ := tri8 HZ.out
    have C := yadd8 b1 a1 d1 n1 p1 b2 a2 d2 n2 p2 L V1 V2 P4 HT.out HA1.out HA2.out
    go_wp2_with fail
    refine C.mono ?_
    rintro e Q5 ⟨⟨bsm, asm, lsm, ksm, esm, csm, rfl, hzr⟩, hq⟩
    clear ca0 cb0 cc0 ca1 cb1 cc1
    obtain ⟨P5, hP5, hbP, hx⟩ := enter1 Q5 (.cells #[.bool bsm, .slice asm lsm ksm, .int .i64 esm] 29)
    have stp := bl_trans8 hq hbP
    replace HX := hide (block_upW stp HX.out)
    replace HY := hide (block_upW stp HY.out)
    replace HZ := hide (block_upW stp HZ.out)
    replace HBxy := hide (block_upW stp HBxy.out)
    replace HByx := hide (block_upW stp HByx.out)
    replace HBxz := hide (block_upW stp HBxz.out)
    replace HByz := hide (block_upW stp HByz.out)
    replace HA0 := hide (HA0.out.below stp)
    replace HA1 := hide (HA1.out.below stp)
    replace HA2 := hide (HA2.out.below stp)
    replace HT := hide (HT.out.below stp)
    replace HRxy := hide (HRxy.out.below stp)
    replace HRyx := hide (HRyx.out.below stp)
    replace HRxz := hide (HRxz.out.below stp)
    replace HRyz := hide (HRyz.out.below stp)
    replace HW := hid_below HW stp
    have HRsm := hide (hzr.below hbP)
    have HBsm := hide hx
    clear C hzr hq hbP hx stp hP4
    obtain ⟨ca0, cb0, cc0⟩ := tri8 HZ.out
    obtain ⟨ca1, cb1, cc1⟩ := tri8 HY.out
    have C := yadd8 b2 a2 d2 n2 p2 b1 a1 d1 n1 p1 L V2 V1 P5 HT.out HA2.out HA1.out
    go_wp2_with fail
    refine C.mono ?_
    rintro e Q6 ⟨⟨btm, atm, ltm, ktm, etm, ctm, rfl, hzr⟩, hq⟩
    clear ca0 cb0 cc0 ca1 cb1 cc1
    obtain ⟨P6, hP6, hbP, hx⟩ := enter1 Q6 (.cells #[.bool btm, .slice atm ltm ktm, .int .i64 etm] 29)
    have stp := bl_trans8 hq hbP
    replace HX := hide (block_upW stp HX.out)
    replace HY := hide (block_upW stp HY.out)
    replace HZ := hide (block_upW stp HZ.out)
    replace HBxy := hide (block_upW stp HBxy.out)
    replace HByx := hide (block_upW stp HByx.out)
    replace HBxz := hide (block_upW stp HBxz.out)
    replace HByz := hide (block_upW stp HByz.out)
    replace HBsm := hide (block_upW stp HBsm.out)
    replace HA0 := hide (HA0.out.below stp)
    replace HA1 := hide (HA1.out.below stp)
    replace HA2 := hide (HA2.out.below stp)
    replace HT := hide (HT.out.below stp)
    replace HRxy := hide (HRxy.out.below stp)
    replace HRyx := hide (HRyx.out.below stp)
    replace HRxz := hide (HRxz.out.below stp)
    replace HRyz := hide (HRyz.out.below stp)
    replace HRsm := hide (HRsm.out.below stp)
    replace HW := hid_below HW stp
    have HRtm := hide (hzr.below hbP)
    have HBtm := hide hx
    clear C hzr hq hbP hx stp hP5
    obtain ⟨ca0, cb0, cc0⟩ := tri8 HX.out
    obtain ⟨ca1, cb1, cc1⟩ := tri8 HY.out
    have C := ysub8 b0 a0 d0 n0 p0 b1 a1 d1 n1 p1 L V0 V1 P6 HT.out HA0.out HA1.out
    go_wp2_with fail
    refine C.mono ?_
    rintro e Q7 ⟨⟨bd, ad, ld, kd, ed, cd, rfl, hzr⟩, hq⟩
    clear ca0 cb0 cc0 ca1 cb1 cc1
    obtain ⟨P7, hP7, hbP, hx⟩ := enter1 Q7 (.cells #[.bool bd, .slice ad ld kd, .int .i64 ed] 29)
    have stp := bl_trans8 hq hbP
    replace HX := hide (block_upW stp HX.out)
    replace HY := hide (block_upW stp HY.out)
    replace HZ := hide (block_upW stp HZ.out)
    replace HBxy := hide (block_upW stp HBxy.out)
    replace HByx := hide (block_upW stp HByx.out)
    replace HBxz := hide (block_upW stp HBxz.out)
    replace HByz := hide (block_upW stp HByz.out)
    replace HBsm := hide (block_upW stp HBsm.out)
    replace HBtm := hide (block_upW stp HBtm.out)
    replace HA0 := hide (HA0.out.below stp)
    replace HA1 := hide (HA1.out.below stp)
    replace HA2 := hide (HA2.out.below stp)
    replace HT := hide (HT.out.below stp)
    replace HRxy := hide (HRxy.out.below stp)
    replace HRyx := hide (HRyx.out.below stp)
    replace HRxz := hide (HRxz.out.below stp)
    replace HRyz := hide (HRyz.out.below stp)
    replace HRsm := hide (HRsm.out.below stp)
    replace HRtm := hide (HRtm.out.below stp)
    replace HW := hid_below HW stp
    have HRd := hide (hzr.below hbP)
    have HBd := hide hx
    clear C hzr hq hbP hx stp hP6
    obtain ⟨ca0, cb0, cc0⟩ := tri8 HX.out
    obtain ⟨ca1, cb1, cc1⟩ := tri8 HY.out
    have C := ycmp8 b0 a0 d0 n0 p0 b1 a1 d1 n1 p1 L V0 V1 P7 HL.out HA0.out HA1.out
    go_wp2_with fail
    refine C.mono ?_
    rintro e Q8 ⟨⟨kq0, cq0, rfl, hkc⟩, stp⟩
    clear ca0 cb0 cc0 ca1 cb1 cc1
    replace HX := hide (block_upW stp HX.out)
    replace HY := hide (block_upW stp HY.out)
    replace HZ := hide (block_upW stp HZ.out)
    replace HBxy := hide (block_upW stp HBxy.out)
    replace HByx := hide (block_upW stp HByx.out)
    replace HBxz := hide (block_upW stp HBxz.out)
    replace HByz := hide (block_upW stp HByz.out)
    replace HBsm := hide (block_upW stp HBsm.out)
    replace HBtm := hide (block_upW stp HBtm.out)
    replace HBd := hide (block_upW stp HBd.out)
    replace HA0 := hide (HA0.out.below stp)
    replace HA1 := hide (HA1.out.below stp)
    replace HA2 := hide (HA2.out.below stp)
    replace HT := hide (HT.out.below stp)
    replace HRxy := hide (HRxy.out.below stp)
    replace HRyx := hide (HRyx.out.below stp)
    replace HRxz := hide (HRxz.out.below stp)
    replace HRyz := hide (HRyz.out.below stp)
    replace HRsm := hide (HRsm.out.below stp)
    replace HRtm := hide (HRtm.out.below stp)
    replace HRd := hide (HRd.out.below stp)
    replace HW := hid_below HW stp
    have HKC := hide hkc
    clear C hkc stp hP7
    obtain ⟨U1, hU1, hst, hLb⟩ := enter1 Q8 (.cells #[.int .i64 cxy, .int .i64 cyx, .int .i64 cxz, .int .i64 cyz, .int .i64 csm, .int .i64 ctm, .int .i64 cd, .int .i64 cq0] 39)
    have AL := yall_any Q8.heap.size 8 [cxy, cyx, cxz, cyz, csm, ctm, cd, cq0] U1 rfl (by omega) hLb
    replace HX := hide (block_upW hst HX.out)
    replace HY := hide (block_upW hst HY.out)
    replace HZ := hide (block_upW hst HZ.out)
    replace HBxy := hide (block_upW hst HBxy.out)
    replace HByx := hide (block_upW hst HByx.out)
    replace HBxz := hide (block_upW hst HBxz.out)
    replace HByz := hide (block_upW hst HByz.out)
    replace HBsm := hide (block_upW hst HBsm.out)
    replace HBtm := hide (block_upW hst HBtm.out)
    replace HBd := hide (block_upW hst HBd.out)
    replace HA0 := hide (HA0.out.below hst)
    replace HA1 := hide (HA1.out.below hst)
    replace HA2 := hide (HA2.out.below hst)
    replace HT := hide (HT.out.below hst)
    replace HRxy := hide (HRxy.out.below hst)
    replace HRyx := hide (HRyx.out.below hst)
    replace HRxz := hide (HRxz.out.below hst)
    replace HRyz := hide (HRyz.out.below hst)
    replace HRsm := hide (HRsm.out.below hst)
    replace HRtm := hide (HRtm.out.below hst)
    replace HRd := hide (HRd.out.below hst)
    replace HW := hid_below HW hst
    clear hst hLb
    by_cases hc : cxy = 0 ∧ cyx = 0 ∧ cxz = 0 ∧ cyz = 0 ∧ csm = 0 ∧ ctm = 0 ∧ cd = 0 ∧ cq0 = 0
    · skip
      obtain ⟨rfl, rfl, rfl, rfl, rfl, rfl, rfl, rfl⟩ := hc
      have hyes : (([0, 0, 0, 0, 0, 0, 0, 0] : List Int).all (· == 0)) = true := by decide
      rw [hyes] at AL
      clear hyes
      replace HKC := hide (HKC.out rfl)
      go_wp2_with fail
      refine AL.mono ?_
      rintro e wn ⟨rfl, hw⟩; rw [hw]; clear hw wn AL
      have HGxy := hide (HRxy.out rfl)
      clear HRxy
      have HGyx := hide (HRyx.out rfl)
      clear HRyx
      have HGxz := hide (HRxz.out rfl)
      clear HRxz
      have HGyz := hide (HRyz.out rfl)
      clear HRyz
      have HGsm := hide (HRsm.out rfl)
      clear HRsm
      have HGtm := hide (HRtm.out rfl)
      clear HRtm
      have HGd := hide (HRd.out rfl)
      clear HRd
      have hqq : (kq0 == kq0) = true := by simp
      obtain ⟨ca0, cb0, cc0⟩ := tri8 HBxy.out
      obtain ⟨ca1, cb1, cc1⟩ := tri8 HZ.out
      have C := ymul8 bxy axy lxy kxy exy b2 a2 d2 n2 p2 (L + L) L (V0 * V1) V2 U1 HT.out HGxy.out.inn HA2.out
      go_wp2_with fail
      refine C.mono ?_
      rintro e Q9 ⟨⟨bp, ap, lp, kp, ep, cp, rfl, hzr⟩, hq⟩
      clear ca0 cb0 cc0 ca1 cb1 cc1
      obtain ⟨P9, hP9, hbP, hx⟩ := enter1 Q9 (.cells #[.bool bp, .slice ap lp kp, .int .i64 ep] 29)
      have stp := bl_trans8 hq hbP
      replace HX := hide (block_upW stp HX.out)
      replace HY := hide (block_upW stp HY.out)
      replace HZ := hide (block_upW stp HZ.out)
      replace HBxy := hide (block_upW stp HBxy.out)
      replace HByx := hide (block_upW stp HByx.out)
      replace HBxz := hide (block_upW stp HBxz.out)
      replace HByz := hide (block_upW stp HByz.out)
      replace HBsm := hide (block_upW stp HBsm.out)
      replace HBtm := hide (block_upW stp HBtm.out)
      replace HBd := hide (block_upW stp HBd.out)
      replace HA0 := hide (HA0.out.below stp)
      replace HA1 := hide (HA1.out.below stp)
      replace HA2 := hide (HA2.out.below stp)
      replace HT := hide (HT.out.below stp)
      replace HGxy := hide (HGxy.out.below stp)
      replace HGyx := hide (HGyx.out.below stp)
      replace HGxz := hide (HGxz.out.below stp)
      replace HGyz := hide (HGyz.out.below stp)
      replace HGsm := hide (HGsm.out.below stp)
      replace HGtm := hide (HGtm.out.below stp)
      replace HGd := hide (HGd.out.below stp)
      replace HW := hid_below HW stp
      have HRp := hide (hzr.below hbP)
      have HBp := hide hx
      clear C hzr hq hbP hx stp hU1
      obtain ⟨ca0, cb0, cc0⟩ := tri8 HX.out
      obtain ⟨ca1, cb1, cc1⟩ := tri8 HByz.out
      have C := ymul8 b0 a0 d0 n0 p0 byz ayz lyz kyz eyz L (L + L) V0 (V1 * V2) P9 HT.out HA0.out HGyz.out.inn
      go_wp2_with fail
      refine C.mono ?_
      rintro e Q10 ⟨⟨bq, aq, lq, kq, eq, cq, rfl, hzr⟩, hq⟩
      clear ca0 cb0 cc0 ca1 cb1 cc1
      obtain ⟨P10, hP10, hbP, hx⟩ := enter1 Q10 (.cells #[.bool bq, .slice aq lq kq, .int .i64 eq] 29)
      have stp := bl_trans8 hq hbP
      replace HX := hide (block_upW stp HX.out)
      replace HY := hide (block_upW stp HY.out)
      replace HZ := hide (block_upW stp HZ.out)
      replace HBxy := hide (block_upW stp HBxy.out)
      replace HByx := hide (block_upW stp HByx.out)
      replace HBxz := hide (block_upW stp HBxz.out)
      replace HByz := hide (block_upW stp HByz.out)
      replace HBsm := hide (block_upW stp HBsm.out)
      replace HBtm := hide (block_upW stp HBtm.out)
      replace HBd := hide (block_upW stp HBd.out)
      replace HBp := hide (block_upW stp HBp.out)
      replace HA0 := hide (HA0.out.below stp)
      replace HA1 := hide (HA1.out.below stp)
      replace HA2 := hide (HA2.out.below stp)
      replace HT := hide (HT.out.below stp)
      replace HGxy := hide (HGxy.out.below stp)
      replace HGyx := hide (HGyx.out.below stp)
      replace HGxz := hide (HGxz.out.below stp)
      replace HGyz := hide (HGyz.out.below stp)
      replace HGsm := hide (HGsm.out.below stp)
      replace HGtm := hide (HGtm.out.below stp)
      replace HGd := hide (HGd.out.below stp)
      replace HRp := hide (HRp.out.below stp)
      replace HW := hid_below HW stp
      have HRq := hide (hzr.below hbP)
      have HBq := hide hx
      clear C hzr hq hbP hx stp hP9
      obtain ⟨ca0, cb0, cc0⟩ := tri8 HX.out
      obtain ⟨ca1, cb1, cc1⟩ := tri8 HBsm.out
      have C := ymul8 b0 a0 d0 n0 p0 bsm asm lsm ksm esm L L V0 (V1 + V2) P10 HT.out HA0.out HGsm.out.inn
      go_wp2_with fail
      refine C.mono ?_
      rintro e Q11 ⟨⟨br, ar, lr, kr, er, cr, rfl, hzr⟩, hq⟩
      clear ca0 cb0 cc0 ca1 cb1 cc1
      obtain ⟨P11, hP11, hbP, hx⟩ := enter1 Q11 (.cells #[.bool br, .slice ar lr kr, .int .i64 er] 29)
      have stp := bl_trans8 hq hbP
      replace HX := hide (block_upW stp HX.out)
      replace HY := hide (block_upW stp HY.out)
      replace HZ := hide (block_upW stp HZ.out)
      replace HBxy := hide (block_upW stp HBxy.out)
      replace HByx := hide (block_upW stp HByx.out)
      replace HBxz := hide (block_upW stp HBxz.out)
      replace HByz := hide (block_upW stp HByz.out)
      replace HBsm := hide (block_upW stp HBsm.out)
      replace HBtm := hide (block_upW stp HBtm.out)
      replace HBd := hide (block_upW stp HBd.out)
      replace HBp := hide (block_upW stp HBp.out)
      replace HBq := hide (block_upW stp HBq.out)
      replace HA0 := hide (HA0.out.below stp)
      replace HA1 := hide (HA1.out.below stp)
      replace HA2 := hide (HA2.out.below stp)
      replace HT := hide (HT.out.below stp)
      replace HGxy := hide (HGxy.out.below stp)
      replace HGyx := hide (HGyx.out.below stp)
      replace HGxz := hide (HGxz.out.below stp)
      replace HGyz := hide (HGyz.out.below stp)
      replace HGsm := hide (HGsm.out.below stp)
      replace HGtm := hide (HGtm.out.below stp)
      replace HGd := hide (HGd.out.below stp)
      replace HRp := hide (HRp.out.below stp)
      replace HRq := hide (HRq.out.below stp)
      replace HW := hid_below HW stp
      have HRr := hide (hzr.below hbP)
      have HBr := hide hx
      clear C hzr hq hbP hx stp hP10
      obtain ⟨ca0, cb0, cc0⟩ := tri8 HBxy.out
      obtain ⟨ca1, cb1, cc1⟩ := tri8 HBxz.out
      have C := yadd8 bxy axy lxy kxy exy bxz axz lxz kxz exz (L + L) (V0 * V1) (V0 * V2) P11 HT.out HGxy.out.inn HGxz.out.inn
      go_wp2_with fail
      refine C.mono ?_
      rintro e Q12 ⟨⟨bu, au, lu, ku, eu, cu, rfl, hzr⟩, hq⟩
      clear ca0 cb0 cc0 ca1 cb1 cc1
      obtain ⟨P12, hP12, hbP, hx⟩ := enter1 Q12 (.cells #[.bool bu, .slice au lu ku, .int .i64 eu] 29)
      have stp := bl_trans8 hq hbP
      replace HX := hide (block_upW stp HX.out)
      replace HY := hide (block_upW stp HY.out)
      replace HZ := hide (block_upW stp HZ.out)
      replace HBxy := hide (block_upW stp HBxy.out)
      replace HByx := hide (block_upW stp HByx.out)
      replace HBxz := hide (block_upW stp HBxz.out)
      replace HByz := hide (block_upW stp HByz.out)
      replace HBsm := hide (block_upW stp HBsm.out)
      replace HBtm := hide (block_upW stp HBtm.out)
      replace HBd := hide (block_upW stp HBd.out)
      replace HBp := hide (block_upW stp HBp.out)
      replace HBq := hide (block_upW stp HBq.out)
      replace HBr := hide (block_upW stp HBr.out)
      replace HA0 := hide (HA0.out.below stp)
      replace HA1 := hide (HA1.out.below stp)
      replace HA2 := hide (HA2.out.below stp)
      replace HT := hide (HT.out.below stp)
      replace HGxy := hide (HGxy.out.below stp)
      replace HGyx := hide (HGyx.out.below stp)
      replace HGxz := hide (HGxz.out.below stp)
      replace HGyz := hide (HGyz.out.below stp)
      replace HGsm := hide (HGsm.out.below stp)
      replace HGtm := hide (HGtm.out.below stp)
      replace HGd := hide (HGd.out.below stp)
      replace HRp := hide (HRp.out.below stp)
      replace HRq := hide (HRq.out.below stp)
      replace HRr := hide (HRr.out.below stp)
      replace HW := hid_below HW stp
      have HRu := hide (hzr.below hbP)
      have HBu := hide hx
      clear C hzr hq hbP hx stp hP11
      obtain ⟨ca0, cb0, cc0⟩ := tri8 HBd.out
      obtain ⟨ca1, cb1, cc1⟩ := tri8 HY.out
      have C := yadd8 bd ad ld kd ed b1 a1 d1 n1 p1 L (V0 + -V1) V1 P12 HT.out HGd.out.inn HA1.out
      go_wp2_with fail
      refine C.mono ?_
      rintro e Q13 ⟨⟨bv, av, lv, kv, ev, cv, rfl, hzr⟩, hq⟩
      clear ca0 cb0 cc0 ca1 cb1 cc1
      obtain ⟨P13, hP13, hbP, hx⟩ := enter1 Q13 (.cells #[.bool bv, .slice av lv kv, .int .i64 ev] 29)
      have stp := bl_trans8 hq hbP
      replace HX := hide (block_upW stp HX.out)
      replace HY := hide (block_upW stp HY.out)
      replace HZ := hide (block_upW stp HZ.out)
      replace HBxy := hide (block_upW stp HBxy.out)
      replace HByx := hide (block_upW stp HByx.out)
      replace HBxz := hide (block_upW stp HBxz.out)
      replace HByz := hide (block_upW stp HByz.out)
      replace HBsm := hide (block_upW stp HBsm.out)
      replace HBtm := hide (block_upW stp HBtm.out)
      replace HBd := hide (block_upW stp HBd.out)
      replace HBp := hide (block_upW stp HBp.out)
      replace HBq := hide (block_upW stp HBq.out)
      replace HBr := hide (block_upW stp HBr.out)
      replace HBu := hide (block_upW stp HBu.out)
      replace HA0 := hide (HA0.out.below stp)
      replace HA1 := hide (HA1.out.below stp)
      replace HA2 := hide (HA2.out.below stp)
      replace HT := hide (HT.out.below stp)
      replace HGxy := hide (HGxy.out.below stp)
      replace HGyx := hide (HGyx.out.below stp)
      replace HGxz := hide (HGxz.out.below stp)
      replace HGyz := hide (HGyz.out.below stp)
      replace HGsm := hide (HGsm.out.below stp)
      replace HGtm := hide (HGtm.out.below stp)
      replace HGd := hide (HGd.out.below stp)
      replace HRp := hide (HRp.out.below stp)
      replace HRq := hide (HRq.out.below stp)
      replace HRr := hide (HRr.out.below stp)
      replace HRu := hide (HRu.out.below stp)
      replace HW := hid_below HW stp
      have HRv := hide (hzr.below hbP)
      have HBv := hide hx
      clear C hzr hq hbP hx stp hP12
      obtain ⟨ca0, cb0, cc0⟩ := tri8 HX.out
      have C := yscale8 b0 a0 d0 n0 p0 L V0 P13 HT.out HA0.out
      go_wp2_with fail
      refine C.mono ?_
      rintro e Q14 ⟨⟨bw9, aw9, lw9, kw9, ew9, cw9, rfl, hzr⟩, hq⟩
      clear ca0 cb0 cc0
      obtain ⟨P14, hP14, hbP, hx⟩ := enter1 Q14 (.cells #[.bool bw9, .slice aw9 lw9 kw9, .int .i64 ew9] 29)
      have stp := bl_trans8 hq hbP
      replace HX := hide (block_upW stp HX.out)
      replace HY := hide (block_upW stp HY.out)
      replace HZ := hide (block_upW stp HZ.out)
      replace HBxy := hide (block_upW stp HBxy.out)
      replace HByx := hide (block_upW stp HByx.out)
      replace HBxz := hide (block_upW stp HBxz.out)
      replace HByz := hide (block_upW stp HByz.out)
      replace HBsm := hide (block_upW stp HBsm.out)
      replace HBtm := hide (block_upW stp HBtm.out)
      replace HBd := hide (block_upW stp HBd.out)
      replace HBp := hide (block_upW stp HBp.out)
      replace HBq := hide (block_upW stp HBq.out)
      replace HBr := hide (block_upW stp HBr.out)
      replace HBu := hide (block_upW stp HBu.out)
      replace HBv := hide (block_upW stp HBv.out)
      replace HA0 := hide (HA0.out.below stp)
      replace HA1 := hide (HA1.out.below stp)
      replace HA2 := hide (HA2.out.below stp)
      replace HT := hide (HT.out.below stp)
      replace HGxy := hide (HGxy.out.below stp)
      replace HGyx := hide (HGyx.out.below stp)
      replace HGxz := hide (HGxz.out.below stp)
      replace HGyz := hide (HGyz.out.below stp)
      replace HGsm := hide (HGsm.out.below stp)
      replace HGtm := hide (HGtm.out.below stp)
      replace HGd := hide (HGd.out.below stp)
      replace HRp := hide (HRp.out.below stp)
      replace HRq := hide (HRq.out.below stp)
      replace HRr := hide (HRr.out.below stp)
      replace HRu := hide (HRu.out.below stp)
      replace HRv := hide (HRv.out.below stp)
      replace HW := hid_below HW stp
      have HRw9 := hide (hzr.below hbP)
      have HBw9 := hide hx
      clear C hzr hq hbP hx stp hP13
      obtain ⟨U2, hU2, hst, hLb⟩ := enter1 P14 (.cells #[.int .i64 cp, .int .i64 cq, .int .i64 cr, .int .i64 cu, .int .i64 cv, .int .i64 cw9] 39)
      have AL := yall_any P14.heap.size 6 [cp, cq, cr, cu, cv, cw9] U2 rfl (by omega) hLb
      replace HX := hide (block_upW hst HX.out)
      replace HY := hide (block_upW hst HY.out)
      replace HZ := hide (block_upW hst HZ.out)
      replace HBxy := hide (block_upW hst HBxy.out)
      replace HByx := hide (block_upW hst HByx.out)
      replace HBxz := hide (block_upW hst HBxz.out)
      replace HByz := hide (block_upW hst HByz.out)
      replace HBsm := hide (block_upW hst HBsm.out)
      replace HBtm := hide (block_upW hst HBtm.out)
      replace HBd := hide (block_upW hst HBd.out)
      replace HBp := hide (block_upW hst HBp.out)
      replace HBq := hide (block_upW hst HBq.out)
      replace HBr := hide (block_upW hst HBr.out)
      replace HBu := hide (block_upW hst HBu.out)
      replace HBv := hide (block_upW hst HBv.out)
      replace HBw9 := hide (block_upW hst HBw9.out)
      replace HA0 := hide (HA0.out.below hst)
      replace HA1 := hide (HA1.out.below hst)
      replace HA2 := hide (HA2.out.below hst)
      replace HT := hide (HT.out.below hst)
      replace HGxy := hide (HGxy.out.below hst)
      replace HGyx := hide (HGyx.out.below hst)
      replace HGxz := hide (HGxz.out.below hst)
      replace HGyz := hide (HGyz.out.below hst)
      replace HGsm := hide (HGsm.out.below hst)
      replace HGtm := hide (HGtm.out.below hst)
      replace HGd := hide (HGd.out.below hst)
      replace HRp := hide (HRp.out.below hst)
      replace HRq := hide (HRq.out.below hst)
      replace HRr := hide (HRr.out.below hst)
      replace HRu := hide (HRu.out.below hst)
      replace HRv := hide (HRv.out.below hst)
      replace HRw9 := hide (HRw9.out.below hst)
      replace HW := hid_below HW hst
      clear hst hLb
      by_cases hd : cp = 0 ∧ cq = 0 ∧ cr = 0 ∧ cu = 0 ∧ cv = 0 ∧ cw9 = 0
      · skip
        obtain ⟨rfl, rfl, rfl, rfl, rfl, rfl⟩ := hd
        have hyes : (([0, 0, 0, 0, 0, 0] : List Int).all (· == 0)) = true := by decide
        rw [hyes] at AL
        clear hyes
        go_wp2_with fail
        refine AL.mono ?_
        rintro e wn ⟨rfl, hw⟩; rw [hw]; clear hw wn AL
        have HGp := hide (HRp.out rfl)
        clear HRp
        have HGq := hide (HRq.out rfl)
        clear HRq
        have HGr := hide (HRr.out rfl)
        clear HRr
        have HGu := hide (HRu.out rfl)
        clear HRu
        have HGv := hide (HRv.out rfl)
        clear HRv
        have HGw9 := hide (HRw9.out rfl)
        clear HRw9
        obtain ⟨ca0, cb0, cc0⟩ := tri8 HBxy.out
        obtain ⟨ca1, cb1, cc1⟩ := tri8 HByx.out
        have C := ysame8 bxy axy lxy kxy exy byx ayx lyx kyx eyx (L + L) (V0 * V1) U2 HGxy.out ((show ∀ W : World, G8 W byx ayx lyx kyx eyx (L + L) (V1 * V0) → G8 W byx ayx lyx kyx eyx (L + L) (V0 * V1) from fun _ h => by rw [Int.mul_comm V0 V1]; exact h) _ HGyx.out)
        go_wp2_with fail
        refine C.mono ?_
        rintro e Q15 ⟨rfl, stp⟩
        clear ca0 cb0 cc0 ca1 cb1 cc1
        replace HX := hide (block_upW stp HX.out)
        replace HY := hide (block_upW stp HY.out)
        replace HZ := hide (block_upW stp HZ.out)
        replace HBxy := hide (block_upW stp HBxy.out)
        replace HByx := hide (block_upW stp HByx.out)
        replace HBxz := hide (block_upW stp HBxz.out)
        replace HByz := hide (block_upW stp HByz.out)
        replace HBsm := hide (block_upW stp HBsm.out)
        replace HBtm := hide (block_upW stp HBtm.out)
        replace HBd := hide (block_upW stp HBd.out)
        replace HBp := hide (block_upW stp HBp.out)
        replace HBq := hide (block_upW stp HBq.out)
        replace HBr := hide (block_upW stp HBr.out)
        replace HBu := hide (block_upW stp HBu.out)
        replace HBv := hide (block_upW stp HBv.out)
        replace HBw9 := hide (block_upW stp HBw9.out)
        replace HA0 := hide (HA0.out.below stp)
        replace HA1 := hide (HA1.out.below stp)
        replace HA2 := hide (HA2.out.below stp)
        replace HT := hide (HT.out.below stp)
        replace HGxy := hide (HGxy.out.below stp)
        replace HGyx := hide (HGyx.out.below stp)
        replace HGxz := hide (HGxz.out.below stp)
        replace HGyz := hide (HGyz.out.below stp)
        replace HGsm := hide (HGsm.out.below stp)
        replace HGtm := hide (HGtm.out.below stp)
        replace HGd := hide (HGd.out.below stp)
        replace HGp := hide (HGp.out.below stp)
        replace HGq := hide (HGq.out.below stp)
        replace HGr := hide (HGr.out.below stp)
        replace HGu := hide (HGu.out.below stp)
        replace HGv := hide (HGv.out.below stp)
        replace HGw9 := hide (HGw9.out.below stp)
        replace HW := hid_below HW stp
        clear C stp hP14 hU2
        obtain ⟨ca0, cb0, cc0⟩ := tri8 HBsm.out
        obtain ⟨ca1, cb1, cc1⟩ := tri8 HBtm.out
        have C := ysame8 bsm asm lsm ksm esm btm atm ltm ktm etm L (V1 + V2) Q15 HGsm.out ((show ∀ W : World, G8 W btm atm ltm ktm etm L (V2 + V1) → G8 W btm atm ltm ktm etm L (V1 + V2) from fun _ h => by rw [Int.add_comm V1 V2]; exact h) _ HGtm.out)
        go_wp2_with fail
        refine C.mono ?_
        rintro e Q16 ⟨rfl, stp⟩
        clear ca0 cb0 cc0 ca1 cb1 cc1
        replace HX := hide (block_upW stp HX.out)
        replace HY := hide (block_upW stp HY.out)
        replace HZ := hide (block_upW stp HZ.out)
        replace HBxy := hide (block_upW stp HBxy.out)
        replace HByx := hide (block_upW stp HByx.out)
        replace HBxz := hide (block_upW stp HBxz.out)
        replace HByz := hide (block_upW stp HByz.out)
        replace HBsm := hide (block_upW stp HBsm.out)
        replace HBtm := hide (block_upW stp HBtm.out)
        replace HBd := hide (block_upW stp HBd.out)
        replace HBp := hide (block_upW stp HBp.out)
        replace HBq := hide (block_upW stp HBq.out)
        replace HBr := hide (block_upW stp HBr.out)
        replace HBu := hide (block_upW stp HBu.out)
        replace HBv := hide (block_upW stp HBv.out)
        replace HBw9 := hide (block_upW stp HBw9.out)
        replace HA0 := hide (HA0.out.below stp)
        replace HA1 := hide (HA1.out.below stp)
        replace HA2 := hide (HA2.out.below stp)
        replace HT := hide (HT.out.below stp)
        replace HGxy := hide (HGxy.out.below stp)
        replace HGyx := hide (HGyx.out.below stp)
        replace HGxz := hide (HGxz.out.below stp)
        replace HGyz := hide (HGyz.out.below stp)
        replace HGsm := hide (HGsm.out.below stp)
        replace HGtm := hide (HGtm.out.below stp)
        replace HGd := hide (HGd.out.below stp)
        replace HGp := hide (HGp.out.below stp)
        replace HGq := hide (HGq.out.below stp)
        replace HGr := hide (HGr.out.below stp)
        replace HGu := hide (HGu.out.below stp)
        replace HGv := hide (HGv.out.below stp)
        replace HGw9 := hide (HGw9.out.below stp)
        replace HW := hid_below HW stp
        clear C stp
        obtain ⟨ca0, cb0, cc0⟩ := tri8 HBd.out
        have C := ysign8 bd ad ld kd ed L (V0 + -V1) Q16 HGd.out.inn
        rw [cmpZ_sub8, ← HKC.out] at C
        go_wp2_with fail
        refine C.mono ?_
        rintro e Q17 ⟨rfl, stp⟩
        clear ca0 cb0 cc0
        replace HX := hide (block_upW stp HX.out)
        replace HY := hide (block_upW stp HY.out)
        replace HZ := hide (block_upW stp HZ.out)
        replace HBxy := hide (block_upW stp HBxy.out)
        replace HByx := hide (block_upW stp HByx.out)
        replace HBxz := hide (block_upW stp HBxz.out)
        replace HByz := hide (block_upW stp HByz.out)
        replace HBsm := hide (block_upW stp HBsm.out)
        replace HBtm := hide (block_upW stp HBtm.out)
        replace HBd := hide (block_upW stp HBd.out)
        replace HBp := hide (block_upW stp HBp.out)
        replace HBq := hide (block_upW stp HBq.out)
        replace HBr := hide (block_upW stp HBr.out)
        replace HBu := hide (block_upW stp HBu.out)
        replace HBv := hide (block_upW stp HBv.out)
        replace HBw9 := hide (block_upW stp HBw9.out)
        replace HA0 := hide (HA0.out.below stp)
        replace HA1 := hide (HA1.out.below stp)
        replace HA2 := hide (HA2.out.below stp)
        replace HT := hide (HT.out.below stp)
        replace HGxy := hide (HGxy.out.below stp)
        replace HGyx := hide (HGyx.out.below stp)
        replace HGxz := hide (HGxz.out.below stp)
        replace HGyz := hide (HGyz.out.below stp)
        replace HGsm := hide (HGsm.out.below stp)
        replace HGtm := hide (HGtm.out.below stp)
        replace HGd := hide (HGd.out.below stp)
        replace HGp := hide (HGp.out.below stp)
        replace HGq := hide (HGq.out.below stp)
        replace HGr := hide (HGr.out.below stp)
        replace HGu := hide (HGu.out.below stp)
        replace HGv := hide (HGv.out.below stp)
        replace HGw9 := hide (HGw9.out.below stp)
        replace HW := hid_below HW stp
        clear C stp
        obtain ⟨ca0, cb0, cc0⟩ := tri8 HBp.out
        obtain ⟨ca1, cb1, cc1⟩ := tri8 HBq.out
        have C := ysame8 bp ap lp kp ep bq aq lq kq eq ((L + L) + L) ((V0 * V1) * V2) Q17 HGp.out ((show ∀ W : World, G8 W bq aq lq kq eq (L + (L + L)) (V0 * (V1 * V2)) → G8 W bq aq lq kq eq ((L + L) + L) ((V0 * V1) * V2) from fun _ h => by rw [Nat.add_assoc, Int.mul_assoc]; exact h) _ HGq.out)
        go_wp2_with fail
        refine C.mono ?_
        rintro e Q18 ⟨rfl, stp⟩
        clear ca0 cb0 cc0 ca1 cb1 cc1
        replace HX := hide (block_upW stp HX.out)
        replace HY := hide (block_upW stp HY.out)
        replace HZ := hide (block_upW stp HZ.out)
        replace HBxy := hide (block_upW stp HBxy.out)
        replace HByx := hide (block_upW stp HByx.out)
        replace HBxz := hide (block_upW stp HBxz.out)
        replace HByz := hide (block_upW stp HByz.out)
        replace HBsm := hide (block_upW stp HBsm.out)
        replace HBtm := hide (block_upW stp HBtm.out)
        replace HBd := hide (block_upW stp HBd.out)
        replace HBp := hide (block_upW stp HBp.out)
        replace HBq := hide (block_upW stp HBq.out)
        replace HBr := hide (block_upW stp HBr.out)
        replace HBu := hide (block_upW stp HBu.out)
        replace HBv := hide (block_upW stp HBv.out)
        replace HBw9 := hide (block_upW stp HBw9.out)
        replace HA0 := hide (HA0.out.below stp)
        replace HA1 := hide (HA1.out.below stp)
        replace HA2 := hide (HA2.out.below stp)
        replace HT := hide (HT.out.below stp)
        replace HGxy := hide (HGxy.out.below stp)
        replace HGyx := hide (HGyx.out.below stp)
        replace HGxz := hide (HGxz.out.below stp)
        replace HGyz := hide (HGyz.out.below stp)
        replace HGsm := hide (HGsm.out.below stp)
        replace HGtm := hide (HGtm.out.below stp)
        replace HGd := hide (HGd.out.below stp)
        replace HGp := hide (HGp.out.below stp)
        replace HGq := hide (HGq.out.below stp)
        replace HGr := hide (HGr.out.below stp)
        replace HGu := hide (HGu.out.below stp)
        replace HGv := hide (HGv.out.below stp)
        replace HGw9 := hide (HGw9.out.below stp)
        replace HW := hid_below HW stp
        clear C stp
        obtain ⟨ca0, cb0, cc0⟩ := tri8 HBr.out
        obtain ⟨ca1, cb1, cc1⟩ := tri8 HBu.out
        have C := ysame8 br ar lr kr er bu au lu ku eu (L + L) (V0 * (V1 + V2)) Q18 HGr.out ((show ∀ W : World, G8 W bu au lu ku eu (L + L) ((V0 * V1) + (V0 * V2)) → G8 W bu au lu ku eu (L + L) (V0 * (V1 + V2)) from fun _ h => by rw [Int.mul_add]; exact h) _ HGu.out)
        go_wp2_with fail
        refine C.mono ?_
        rintro e Q19 ⟨rfl, stp⟩
        clear ca0 cb0 cc0 ca1 cb1 cc1
        replace HX := hide (block_upW stp HX.out)
        replace HY := hide (block_upW stp HY.out)
        replace HZ := hide (block_upW stp HZ.out)
        replace HBxy := hide (block_upW stp HBxy.out)
        replace HByx := hide (block_upW stp HByx.out)
        replace HBxz := hide (block_upW stp HBxz.out)
        replace HByz := hide (block_upW stp HByz.out)
        replace HBsm := hide (block_upW stp HBsm.out)
        replace HBtm := hide (block_upW stp HBtm.out)
        replace HBd := hide (block_upW stp HBd.out)
        replace HBp := hide (block_upW stp HBp.out)
        replace HBq := hide (block_upW stp HBq.out)
        replace HBr := hide (block_upW stp HBr.out)
        replace HBu := hide (block_upW stp HBu.out)
        replace HBv := hide (block_upW stp HBv.out)
        replace HBw9 := hide (block_upW stp HBw9.out)
        replace HA0 := hide (HA0.out.below stp)
        replace HA1 := hide (HA1.out.below stp)
        replace HA2 := hide (HA2.out.below stp)
        replace HT := hide (HT.out.below stp)
        replace HGxy := hide (HGxy.out.below stp)
        replace HGyx := hide (HGyx.out.below stp)
        replace HGxz := hide (HGxz.out.below stp)
        replace HGyz := hide (HGyz.out.below stp)
        replace HGsm := hide (HGsm.out.below stp)
        replace HGtm := hide (HGtm.out.below stp)
        replace HGd := hide (HGd.out.below stp)
        replace HGp := hide (HGp.out.below stp)
        replace HGq := hide (HGq.out.below stp)
        replace HGr := hide (HGr.out.below stp)
        replace HGu := hide (HGu.out.below stp)
        replace HGv := hide (HGv.out.below stp)
        replace HGw9 := hide (HGw9.out.below stp)
        replace HW := hid_below HW stp
        clear C stp
        obtain ⟨ca0, cb0, cc0⟩ := tri8 HBv.out
        obtain ⟨ca1, cb1, cc1⟩ := tri8 HBw9.out
        have C := ysame8 bv av lv kv ev bw9 aw9 lw9 kw9 ew9 L ((V0 + -V1) + V1) Q19 HGv.out ((show ∀ W : World, G8 W bw9 aw9 lw9 kw9 ew9 L V0 → G8 W bw9 aw9 lw9 kw9 ew9 L ((V0 + -V1) + V1) from fun _ h => by rw [show (V0 + -V1) + V1 = V0 by omega]; exact h) _ HGw9.out)
        go_wp2_with fail
        refine C.mono ?_
        rintro e Q20 ⟨rfl, stp⟩
        clear ca0 cb0 cc0 ca1 cb1 cc1
        replace HX := hide (block_upW stp HX.out)
        replace HY := hide (block_upW stp HY.out)
        replace HZ := hide (block_upW stp HZ.out)
        replace HBxy := hide (block_upW stp HBxy.out)
        replace HByx := hide (block_upW stp HByx.out)
        replace HBxz := hide (block_upW stp HBxz.out)
        replace HByz := hide (block_upW stp HByz.out)
        replace HBsm := hide (block_upW stp HBsm.out)
        replace HBtm := hide (block_upW stp HBtm.out)
        replace HBd := hide (block_upW stp HBd.out)
        replace HBp := hide (block_upW stp HBp.out)
        replace HBq := hide (block_upW stp HBq.out)
        replace HBr := hide (block_upW stp HBr.out)
        replace HBu := hide (block_upW stp HBu.out)
        replace HBv := hide (block_upW stp HBv.out)
        replace HBw9 := hide (block_upW stp HBw9.out)
        replace HA0 := hide (HA0.out.below stp)
        replace HA1 := hide (HA1.out.below stp)
        replace HA2 := hide (HA2.out.below stp)
        replace HT := hide (HT.out.below stp)
        replace HGxy := hide (HGxy.out.below stp)
        replace HGyx := hide (HGyx.out.below stp)
        replace HGxz := hide (HGxz.out.below stp)
        replace HGyz := hide (HGyz.out.below stp)
        replace HGsm := hide (HGsm.out.below stp)
        replace HGtm := hide (HGtm.out.below stp)
        replace HGd := hide (HGd.out.below stp)
        replace HGp := hide (HGp.out.below stp)
        replace HGq := hide (HGq.out.below stp)
        replace HGr := hide (HGr.out.below stp)
        replace HGu := hide (HGu.out.below stp)
        replace HGv := hide (HGv.out.below stp)
        replace HGw9 := hide (HGw9.out.below stp)
        replace HW := hid_below HW stp
        clear C stp
        have AW := awake8_any Q20 HT.out
        go_wp2_with fail
        refine AW.mono ?_
        rintro e t9 ⟨rfl, hb9⟩
        replace HW := hid_below HW hb9
        clear AW hb9
        go_wp2
        go_ret
        exact ⟨rfl, HW.out⟩
      · skip
        have hno : ([cp, cq, cr, cu, cv, cw9].all (· == 0)) = false := by
          rw [Bool.eq_false_iff]
          intro h
          simp only [List.all_cons, List.all_nil, Bool.and_true, Bool.and_eq_true, beq_iff_eq] at h
          exact hd h
        rw [hno] at AL
        clear hno
        go_wp2_with fail
        refine AL.mono ?_
        rintro e wn ⟨rfl, hw⟩; rw [hw]; clear hw wn AL
        obtain ⟨ca0, cb0, cc0⟩ := tri8 HBxy.out
        obtain ⟨ca1, cb1, cc1⟩ := tri8 HByx.out
        have C := ysame8 bxy axy lxy kxy exy byx ayx lyx kyx eyx (L + L) (V0 * V1) U2 HGxy.out ((show ∀ W : World, G8 W byx ayx lyx kyx eyx (L + L) (V1 * V0) → G8 W byx ayx lyx kyx eyx (L + L) (V0 * V1) from fun _ h => by rw [Int.mul_comm V0 V1]; exact h) _ HGyx.out)
        go_wp2_with fail
        refine C.mono ?_
        rintro e Q21 ⟨rfl, stp⟩
        clear ca0 cb0 cc0 ca1 cb1 cc1
        replace HX := hide (block_upW stp HX.out)
        replace HY := hide (block_upW stp HY.out)
        replace HZ := hide (block_upW stp HZ.out)
        replace HBxy := hide (block_upW stp HBxy.out)
        replace HByx := hide (block_upW stp HByx.out)
        replace HBxz := hide (block_upW stp HBxz.out)
        replace HByz := hide (block_upW stp HByz.out)
        replace HBsm := hide (block_upW stp HBsm.out)
        replace HBtm := hide (block_upW stp HBtm.out)
        replace HBd := hide (block_upW stp HBd.out)
        replace HBp := hide (block_upW stp HBp.out)
        replace HBq := hide (block_upW stp HBq.out)
        replace HBr := hide (block_upW stp HBr.out)
        replace HBu := hide (block_upW stp HBu.out)
        replace HBv := hide (block_upW stp HBv.out)
        replace HBw9 := hide (block_upW stp HBw9.out)
        replace HA0 := hide (HA0.out.below stp)
        replace HA1 := hide (HA1.out.below stp)
        replace HA2 := hide (HA2.out.below stp)
        replace HT := hide (HT.out.below stp)
        replace HGxy := hide (HGxy.out.below stp)
        replace HGyx := hide (HGyx.out.below stp)
        replace HGxz := hide (HGxz.out.below stp)
        replace HGyz := hide (HGyz.out.below stp)
        replace HGsm := hide (HGsm.out.below stp)
        replace HGtm := hide (HGtm.out.below stp)
        replace HGd := hide (HGd.out.below stp)
        replace HRp := hide (HRp.out.below stp)
        replace HRq := hide (HRq.out.below stp)
        replace HRr := hide (HRr.out.below stp)
        replace HRu := hide (HRu.out.below stp)
        replace HRv := hide (HRv.out.below stp)
        replace HRw9 := hide (HRw9.out.below stp)
        replace HW := hid_below HW stp
        clear C stp hP14 hU2
        obtain ⟨ca0, cb0, cc0⟩ := tri8 HBsm.out
        obtain ⟨ca1, cb1, cc1⟩ := tri8 HBtm.out
        have C := ysame8 bsm asm lsm ksm esm btm atm ltm ktm etm L (V1 + V2) Q21 HGsm.out ((show ∀ W : World, G8 W btm atm ltm ktm etm L (V2 + V1) → G8 W btm atm ltm ktm etm L (V1 + V2) from fun _ h => by rw [Int.add_comm V1 V2]; exact h) _ HGtm.out)
        go_wp2_with fail
        refine C.mono ?_
        rintro e Q22 ⟨rfl, stp⟩
        clear ca0 cb0 cc0 ca1 cb1 cc1
        replace HX := hide (block_upW stp HX.out)
        replace HY := hide (block_upW stp HY.out)
        replace HZ := hide (block_upW stp HZ.out)
        replace HBxy := hide (block_upW stp HBxy.out)
        replace HByx := hide (block_upW stp HByx.out)
        replace HBxz := hide (block_upW stp HBxz.out)
        replace HByz := hide (block_upW stp HByz.out)
        replace HBsm := hide (block_upW stp HBsm.out)
        replace HBtm := hide (block_upW stp HBtm.out)
        replace HBd := hide (block_upW stp HBd.out)
        replace HBp := hide (block_upW stp HBp.out)
        replace HBq := hide (block_upW stp HBq.out)
        replace HBr := hide (block_upW stp HBr.out)
        replace HBu := hide (block_upW stp HBu.out)
        replace HBv := hide (block_upW stp HBv.out)
        replace HBw9 := hide (block_upW stp HBw9.out)
        replace HA0 := hide (HA0.out.below stp)
        replace HA1 := hide (HA1.out.below stp)
        replace HA2 := hide (HA2.out.below stp)
        replace HT := hide (HT.out.below stp)
        replace HGxy := hide (HGxy.out.below stp)
        replace HGyx := hide (HGyx.out.below stp)
        replace HGxz := hide (HGxz.out.below stp)
        replace HGyz := hide (HGyz.out.below stp)
        replace HGsm := hide (HGsm.out.below stp)
        replace HGtm := hide (HGtm.out.below stp)
        replace HGd := hide (HGd.out.below stp)
        replace HRp := hide (HRp.out.below stp)
        replace HRq := hide (HRq.out.below stp)
        replace HRr := hide (HRr.out.below stp)
        replace HRu := hide (HRu.out.below stp)
        replace HRv := hide (HRv.out.below stp)
        replace HRw9 := hide (HRw9.out.below stp)
        replace HW := hid_below HW stp
        clear C stp
        obtain ⟨ca0, cb0, cc0⟩ := tri8 HBd.out
        have C := ysign8 bd ad ld kd ed L (V0 + -V1) Q22 HGd.out.inn
        rw [cmpZ_sub8, ← HKC.out] at C
        go_wp2_with fail
        refine C.mono ?_
        rintro e Q23 ⟨rfl, stp⟩
        clear ca0 cb0 cc0
        replace HX := hide (block_upW stp HX.out)
        replace HY := hide (block_upW stp HY.out)
        replace HZ := hide (block_upW stp HZ.out)
        replace HBxy := hide (block_upW stp HBxy.out)
        replace HByx := hide (block_upW stp HByx.out)
        replace HBxz := hide (block_upW stp HBxz.out)
        replace HByz := hide (block_upW stp HByz.out)
        replace HBsm := hide (block_upW stp HBsm.out)
        replace HBtm := hide (block_upW stp HBtm.out)
        replace HBd := hide (block_upW stp HBd.out)
        replace HBp := hide (block_upW stp HBp.out)
        replace HBq := hide (block_upW stp HBq.out)
        replace HBr := hide (block_upW stp HBr.out)
        replace HBu := hide (block_upW stp HBu.out)
        replace HBv := hide (block_upW stp HBv.out)
        replace HBw9 := hide (block_upW stp HBw9.out)
        replace HA0 := hide (HA0.out.below stp)
        replace HA1 := hide (HA1.out.below stp)
        replace HA2 := hide (HA2.out.below stp)
        replace HT := hide (HT.out.below stp)
        replace HGxy := hide (HGxy.out.below stp)
        replace HGyx := hide (HGyx.out.below stp)
        replace HGxz := hide (HGxz.out.below stp)
        replace HGyz := hide (HGyz.out.below stp)
        replace HGsm := hide (HGsm.out.below stp)
        replace HGtm := hide (HGtm.out.below stp)
        replace HGd := hide (HGd.out.below stp)
        replace HRp := hide (HRp.out.below stp)
        replace HRq := hide (HRq.out.below stp)
        replace HRr := hide (HRr.out.below stp)
        replace HRu := hide (HRu.out.below stp)
        replace HRv := hide (HRv.out.below stp)
        replace HRw9 := hide (HRw9.out.below stp)
        replace HW := hid_below HW stp
        clear C stp
        have AW := awake8_any Q23 HT.out
        go_wp2_with fail
        refine AW.mono ?_
        rintro e t9 ⟨rfl, hb9⟩
        replace HW := hid_below HW hb9
        clear AW hb9
        go_wp2
        go_ret
        exact ⟨rfl, HW.out⟩
    · skip
      have hno : ([cxy, cyx, cxz, cyz, csm, ctm, cd, cq0].all (· == 0)) = false := by
        rw [Bool.eq_false_iff]
        intro h
        simp only [List.all_cons, List.all_nil, Bool.and_true, Bool.and_eq_true, beq_iff_eq] at h
        exact hc h
      rw [hno] at AL
      clear hno
      go_wp2_with fail
      refine AL.mono ?_
      rintro e wn ⟨rfl, hw⟩; rw [hw]; clear hw wn AL
      have AW := awake8_any U1 HT.out
      go_wp2_with fail
      refine AW.mono ?_
      rintro e t9 ⟨rfl, hb9⟩
      replace HW := hid_below HW hb9
      clear AW hb9
      go_wp2
      go_ret
      exact ⟨rfl, HW.out⟩

end Go.Proofs.YtlengglmnbpkbaaGreatDoor
