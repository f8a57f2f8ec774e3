/- The walk of the law WholeRests: where it asks nothing. -/
import Derived.Test.YtfgcngndiblpmaaGreatDoorRestPZ
import Derived.Test.YtfgcngndiblpmaaGreatDoorRest6Z
import Derived.Test.YtfgcngndiblpmaaGreatDoorDp2bZ
import Derived.Test.YtfgcngndiblpmaaGreatDoorQ5
import Derived.Test.YtfgcngndiblpmaaGreatDoorQ6
import Derived.Test.YtfgcngndiblpmaaGreatDoorQ4
namespace Go.Proofs.YtfgcngndiblpmaaGreatDoor
open Go.RowKit
open Lm
attribute [local go_sem ↓] Go.wp_at_zero Go.wp_at_succ

attribute [local go_sem] fldZ in
set_option maxRecDepth 20000 in
set_option maxHeartbeats 16000000 in
theorem wholeRests_dull (b0 : Bool) (v0 : Value) (z0 : List Nat) (b1 : Bool) (v1 : Value) (z1 : List Nat) (w : World) (hT : Tab w) (A0 : Arg w v0 z0) (s0 : z0.length ≤ 17592186043904) (A1 : Arg w v1 z1) (s1 : z1.length ≤ 17592186043904) (hd : val z1 = 0 ∨ 67108864 ≤ blen (val z0) ∨ 67108864 ≤ blen (val z1)) :
    Calls Tryz.prog 4 #[.agg #[.bool b0, v0], .agg #[.bool b1, v1]] w fun e w' => e = .returned (.bool true) ∧ Below w.heap.size w w' := by
  obtain ⟨a0, n0, rfl, _, _, _⟩ := A0.form
  obtain ⟨a1, n1, rfl, _, _, _⟩ := A1.form
  obtain ⟨w0, hw0, hb0, h0, h1⟩ := enter2 w (.cells #[.bool b0, .slice a0 z0.length n0] 24) (.cells #[.bool b1, .slice a1 z1.length n1] 24)
  have HA := hide h0
  have HBb := hide h1
  have HA0 := hide (A0.below hb0)
  have HA1 := hide (A1.below hb0)
  have HT := hide (hT.below hb0)
  have HW := hide hb0
  clear A0 A1 hT hb0 h0 h1
  go_enter Tryz.func4, Tryz.ntmps4
  go_upto_region 1 with fail
  go_cut [5, 6] from 28 to 32 (fun s t wx => TwoKnown w0 b0 b1 (.slice a0 z0.length n0) (.slice a1 z1.length n1) s t wx)
  case first =>
    have KS := hide (fun (W : World) (hg : Below w0.heap.size w0 W) => show W.cell? ⟨w.heap.size, 0, none⟩ = some (.bool b0) ∧ W.cell? ⟨w.heap.size, 1, none⟩ = some (.slice a0 z0.length n0) ∧ W.cell? ⟨w.heap.size + 1, 0, none⟩ = some (.bool b1) ∧ W.cell? ⟨w.heap.size + 1, 1, none⟩ = some (.slice a1 z1.length n1) from ⟨(duo (block_upW hg HA.out)).1, (duo (block_upW hg HA.out)).2, (duo (block_upW hg HBb.out)).1, (duo (block_upW hg HBb.out)).2⟩)
    have IN1 := hide (fun (W : World) (_ : Below w0.heap.size w0 W) => wlawIn_any b0 a0 z0.length n0 W)
    have IN2 := hide (fun (W : World) (_ : Below w0.heap.size w0 W) => wlawIn_any b1 a1 z1.length n1 W)
    refine wp_region_held_drew (S := fun w' => w'.cell? ⟨w.heap.size, 0, none⟩ = some (.bool b0) ∧ w'.cell? ⟨w.heap.size, 1, none⟩ = some (.slice a0 z0.length n0) ∧ w'.cell? ⟨w.heap.size + 1, 0, none⟩ = some (.bool b1) ∧ w'.cell? ⟨w.heap.size + 1, 1, none⟩ = some (.slice a1 z1.length n1)) (by kernel_rfl) (KS.out _ (bl_drew (Below.refl _ _))) (fun hHeld => ?_)
    refine wpAnyH_take (i := 0) (oi := { dst := some 28, op := Op.load 24 (Operand.tmp 2), type := 24, pos := "outright.go:58", after := #[], guard := none }) (v := .agg #[.bool b0, .slice a0 z0.length n0]) rfl (by kernel_rfl) (by kernel_rfl) (by kernel_rfl) (fun _ _ _ h => h) (Or.inl ⟨by rfl, fun w9 hSw => ?_⟩) hHeld ?_
    · (try dsimp only at hSw); go_simp
    simp only [Act.put, List.setIfInBounds_toArray, List.set_cons_zero, List.set_cons_succ]
    refine wpAnyH_take (i := 2) (oi := { dst := some 30, op := Op.load 24 (Operand.tmp 3), type := 24, pos := "outright.go:58", after := #[], guard := none }) (v := .agg #[.bool b1, .slice a1 z1.length n1]) rfl (by kernel_rfl) (by kernel_rfl) (by kernel_rfl) (fun _ _ _ h => h) (Or.inl ⟨by rfl, fun w9 hSw => ?_⟩) hHeld ?_
    · (try dsimp only at hSw); go_simp
    simp only [Act.put, List.setIfInBounds_toArray, List.set_cons_zero, List.set_cons_succ]
    refine dp2w w0 (.agg #[.bool b0, .slice a0 z0.length n0]) (.agg #[.bool b1, .slice a1 z1.length n1]) 29 31 5 6 (fun c1 c2 k1 k2 => #[true, c1, true, c2, k1, k2, false, false]) (by kernel_rfl) (by kernel_rfl) (by simp only [Act.put, List.setIfInBounds_toArray, List.set_cons_zero, List.set_cons_succ]) (bl_drew (Below.refl _ _)) ?_
    clear hHeld
    intro n
    simp only [Act.put, List.setIfInBounds_toArray, List.set_cons_zero, List.set_cons_succ]
    induction n with
    | zero =>
      intro c1 c2 k1 k2 x1 x2 y1 y2 W hf J
      exact absurd hf (by unfold left4w; omega)
    | succ n ih =>
      intro c1 c2 k1 k2 x1 x2 y1 y2 W hf J
      cases c1
      · skip
        cases c2
        · skip
          cases k1
          · skip
            cases k2
            · skip
              refine wpAnyH_ready (rs := [1, 4, 5]) (by kernel_rfl) (by simp) ?_
              refine AllReadyH.cons rfl (fun K hK => ?_) ?_
              · go_simp
                refine (IN1.out W J.up).mono ?_
                rintro e' W2 ⟨rfl, hb⟩
                refine hK.out _ _ (KS.out _ (bl_trans J.up hb)) (fun _ => ?_)
                simp only [List.setIfInBounds_toArray, List.set_cons_zero, List.set_cons_succ]
                exact ih _ _ _ _ _ _ _ _ _ (by simp [left4w] at hf ⊢; omega) (J.call1 hb)
              refine AllReadyH.cons rfl (fun K hK => ?_) ?_
              · go_simp
                refine hK.out _ _ (KS.out _ (bl_alloc J.up _)) (fun _ => ?_)
                simp only [List.setIfInBounds_toArray, List.set_cons_zero, List.set_cons_succ]
                exact ih _ _ _ _ _ _ _ _ _ (by simp [left4w] at hf ⊢; omega) J.make1
              refine AllReadyH.cons rfl (fun K hK => ?_) ?_
              · go_simp
                refine hK.out _ _ (KS.out _ (bl_alloc J.up _)) (fun _ => ?_)
                simp only [List.setIfInBounds_toArray, List.set_cons_zero, List.set_cons_succ]
                exact ih _ _ _ _ _ _ _ _ _ (by simp [left4w] at hf ⊢; omega) J.make2
              exact AllReadyH.nil
            · skip
              refine wpAnyH_ready (rs := [1, 4]) (by kernel_rfl) (by simp) ?_
              refine AllReadyH.cons rfl (fun K hK => ?_) ?_
              · go_simp
                refine (IN1.out W J.up).mono ?_
                rintro e' W2 ⟨rfl, hb⟩
                refine hK.out _ _ (KS.out _ (bl_trans J.up hb)) (fun _ => ?_)
                simp only [List.setIfInBounds_toArray, List.set_cons_zero, List.set_cons_succ]
                exact ih _ _ _ _ _ _ _ _ _ (by simp [left4w] at hf ⊢; omega) (J.call1 hb)
              refine AllReadyH.cons rfl (fun K hK => ?_) ?_
              · go_simp
                refine hK.out _ _ (KS.out _ (bl_alloc J.up _)) (fun _ => ?_)
                simp only [List.setIfInBounds_toArray, List.set_cons_zero, List.set_cons_succ]
                exact ih _ _ _ _ _ _ _ _ _ (by simp [left4w] at hf ⊢; omega) J.make1
              exact AllReadyH.nil
          · skip
            cases k2
            · skip
              refine wpAnyH_ready (rs := [1, 5]) (by kernel_rfl) (by simp) ?_
              refine AllReadyH.cons rfl (fun K hK => ?_) ?_
              · go_simp
                refine (IN1.out W J.up).mono ?_
                rintro e' W2 ⟨rfl, hb⟩
                refine hK.out _ _ (KS.out _ (bl_trans J.up hb)) (fun _ => ?_)
                simp only [List.setIfInBounds_toArray, List.set_cons_zero, List.set_cons_succ]
                exact ih _ _ _ _ _ _ _ _ _ (by simp [left4w] at hf ⊢; omega) (J.call1 hb)
              refine AllReadyH.cons rfl (fun K hK => ?_) ?_
              · go_simp
                refine hK.out _ _ (KS.out _ (bl_alloc J.up _)) (fun _ => ?_)
                simp only [List.setIfInBounds_toArray, List.set_cons_zero, List.set_cons_succ]
                exact ih _ _ _ _ _ _ _ _ _ (by simp [left4w] at hf ⊢; omega) J.make2
              exact AllReadyH.nil
            · skip
              refine wpAnyH_ready (rs := [1]) (by kernel_rfl) (by simp) ?_
              refine AllReadyH.cons rfl (fun K hK => ?_) ?_
              · go_simp
                refine (IN1.out W J.up).mono ?_
                rintro e' W2 ⟨rfl, hb⟩
                refine hK.out _ _ (KS.out _ (bl_trans J.up hb)) (fun _ => ?_)
                simp only [List.setIfInBounds_toArray, List.set_cons_zero, List.set_cons_succ]
                exact ih _ _ _ _ _ _ _ _ _ (by simp [left4w] at hf ⊢; omega) (J.call1 hb)
              exact AllReadyH.nil
        · skip
          exact absurd (J.ch rfl) (by decide)
      · skip
        cases c2
        · skip
          cases k1
          · skip
            cases k2
            · skip
              refine wpAnyH_ready (rs := [3, 4, 5]) (by kernel_rfl) (by simp) ?_
              refine AllReadyH.cons rfl (fun K hK => ?_) ?_
              · go_simp
                refine (IN2.out W J.up).mono ?_
                rintro e' W2 ⟨rfl, hb⟩
                refine hK.out _ _ (KS.out _ (bl_trans J.up hb)) (fun _ => ?_)
                simp only [List.setIfInBounds_toArray, List.set_cons_zero, List.set_cons_succ]
                exact ih _ _ _ _ _ _ _ _ _ (by simp [left4w] at hf ⊢; omega) (J.call2 hb)
              refine AllReadyH.cons rfl (fun K hK => ?_) ?_
              · go_simp
                refine hK.out _ _ (KS.out _ (bl_alloc J.up _)) (fun _ => ?_)
                simp only [List.setIfInBounds_toArray, List.set_cons_zero, List.set_cons_succ]
                exact ih _ _ _ _ _ _ _ _ _ (by simp [left4w] at hf ⊢; omega) J.make1
              refine AllReadyH.cons rfl (fun K hK => ?_) ?_
              · go_simp
                refine hK.out _ _ (KS.out _ (bl_alloc J.up _)) (fun _ => ?_)
                simp only [List.setIfInBounds_toArray, List.set_cons_zero, List.set_cons_succ]
                exact ih _ _ _ _ _ _ _ _ _ (by simp [left4w] at hf ⊢; omega) J.make2
              exact AllReadyH.nil
            · skip
              refine wpAnyH_ready (rs := [3, 4]) (by kernel_rfl) (by simp) ?_
              refine AllReadyH.cons rfl (fun K hK => ?_) ?_
              · go_simp
                refine (IN2.out W J.up).mono ?_
                rintro e' W2 ⟨rfl, hb⟩
                refine hK.out _ _ (KS.out _ (bl_trans J.up hb)) (fun _ => ?_)
                simp only [List.setIfInBounds_toArray, List.set_cons_zero, List.set_cons_succ]
                exact ih _ _ _ _ _ _ _ _ _ (by simp [left4w] at hf ⊢; omega) (J.call2 hb)
              refine AllReadyH.cons rfl (fun K hK => ?_) ?_
              · go_simp
                refine hK.out _ _ (KS.out _ (bl_alloc J.up _)) (fun _ => ?_)
                simp only [List.setIfInBounds_toArray, List.set_cons_zero, List.set_cons_succ]
                exact ih _ _ _ _ _ _ _ _ _ (by simp [left4w] at hf ⊢; omega) J.make1
              exact AllReadyH.nil
          · skip
            cases k2
            · skip
              refine wpAnyH_ready (rs := [3, 5]) (by kernel_rfl) (by simp) ?_
              refine AllReadyH.cons rfl (fun K hK => ?_) ?_
              · go_simp
                refine (IN2.out W J.up).mono ?_
                rintro e' W2 ⟨rfl, hb⟩
                refine hK.out _ _ (KS.out _ (bl_trans J.up hb)) (fun _ => ?_)
                simp only [List.setIfInBounds_toArray, List.set_cons_zero, List.set_cons_succ]
                exact ih _ _ _ _ _ _ _ _ _ (by simp [left4w] at hf ⊢; omega) (J.call2 hb)
              refine AllReadyH.cons rfl (fun K hK => ?_) ?_
              · go_simp
                refine hK.out _ _ (KS.out _ (bl_alloc J.up _)) (fun _ => ?_)
                simp only [List.setIfInBounds_toArray, List.set_cons_zero, List.set_cons_succ]
                exact ih _ _ _ _ _ _ _ _ _ (by simp [left4w] at hf ⊢; omega) J.make2
              exact AllReadyH.nil
            · skip
              refine wpAnyH_ready (rs := [3]) (by kernel_rfl) (by simp) ?_
              refine AllReadyH.cons rfl (fun K hK => ?_) ?_
              · go_simp
                refine (IN2.out W J.up).mono ?_
                rintro e' W2 ⟨rfl, hb⟩
                refine hK.out _ _ (KS.out _ (bl_trans J.up hb)) (fun _ => ?_)
                simp only [List.setIfInBounds_toArray, List.set_cons_zero, List.set_cons_succ]
                exact ih _ _ _ _ _ _ _ _ _ (by simp [left4w] at hf ⊢; omega) (J.call2 hb)
              exact AllReadyH.nil
        · skip
          cases k1
          · skip
            cases k2
            · skip
              refine wpAnyH_ready (rs := [4, 5]) (by kernel_rfl) (by simp) ?_
              refine AllReadyH.cons rfl (fun K hK => ?_) ?_
              · go_simp
                refine hK.out _ _ (KS.out _ (bl_alloc J.up _)) (fun _ => ?_)
                simp only [List.setIfInBounds_toArray, List.set_cons_zero, List.set_cons_succ]
                exact ih _ _ _ _ _ _ _ _ _ (by simp [left4w] at hf ⊢; omega) J.make1
              refine AllReadyH.cons rfl (fun K hK => ?_) ?_
              · go_simp
                refine hK.out _ _ (KS.out _ (bl_alloc J.up _)) (fun _ => ?_)
                simp only [List.setIfInBounds_toArray, List.set_cons_zero, List.set_cons_succ]
                exact ih _ _ _ _ _ _ _ _ _ (by simp [left4w] at hf ⊢; omega) J.make2
              exact AllReadyH.nil
            · skip
              refine wpAnyH_ready (rs := [4]) (by kernel_rfl) (by simp) ?_
              refine AllReadyH.cons rfl (fun K hK => ?_) ?_
              · go_simp
                refine hK.out _ _ (KS.out _ (bl_alloc J.up _)) (fun _ => ?_)
                simp only [List.setIfInBounds_toArray, List.set_cons_zero, List.set_cons_succ]
                exact ih _ _ _ _ _ _ _ _ _ (by simp [left4w] at hf ⊢; omega) J.make1
              exact AllReadyH.nil
          · skip
            cases k2
            · skip
              refine wpAnyH_ready (rs := [5]) (by kernel_rfl) (by simp) ?_
              refine AllReadyH.cons rfl (fun K hK => ?_) ?_
              · go_simp
                refine hK.out _ _ (KS.out _ (bl_alloc J.up _)) (fun _ => ?_)
                simp only [List.setIfInBounds_toArray, List.set_cons_zero, List.set_cons_succ]
                exact ih _ _ _ _ _ _ _ _ _ (by simp [left4w] at hf ⊢; omega) J.make2
              exact AllReadyH.nil
            · skip
              obtain rfl := J.q1 rfl
              obtain rfl := J.q2 rfl
              have D12 := J.d12 rfl rfl
              obtain ⟨g1, rfl, l1, e1⟩ := J.r1 rfl
              obtain ⟨g2, rfl, l2, e2⟩ := J.r2 rfl
              have HU := hide J.up
              obtain rfl : n = 1 := by simp [left4w] at hf; omega
              clear J ih hf
              have D12g : g1 ≠ g2 := fun e => D12 (by rw [e])
              have HFIN := hide (known_ss (b0 := b0) (b1 := b1) (v0 := .slice a0 z0.length n0) (v1 := .slice a1 z1.length n1) e1 e2 l1 l2 D12g HU.out)
              clear D12
              obtain ⟨m0, m1⟩ := duo e1
              have hf1 := duof e1
              have t2 := duo_other (u0 := .bool b0) (u1 := .slice a0 z0.length n0) e2 (Ne.symm D12g)
              obtain ⟨m2, m3⟩ := duo t2
              have hf2 := duof t2
              have HB1 := hide (below_duo (u0 := .bool b0) (u1 := .slice a0 z0.length n0) HU.out l1)
              have HB2 := hide (below_duo (u0 := .bool b1) (u1 := .slice a1 z1.length n1) HB1.out l2)
              clear t2 e1 e2
              refine wpAnyH_ready (rs := [6]) (by kernel_rfl) (by simp) ?_
              refine AllReadyH.cons rfl (fun K hK => ?_) AllReadyH.nil
              go_simp
              refine hK.out _ _ (KS.out _ HB1.out) (fun _ => ?_)
              clear hK K
              try simp only [List.setIfInBounds_toArray, List.set_cons_zero, List.set_cons_succ]
              refine wpAnyH_ready (rs := [7]) (by kernel_rfl) (by simp) ?_
              refine AllReadyH.cons rfl (fun K hK => ?_) AllReadyH.nil
              go_simp
              refine hK.out _ _ (KS.out _ HB2.out) (fun _ => ?_)
              clear hK K
              try simp only [List.setIfInBounds_toArray, List.set_cons_zero, List.set_cons_succ]
              refine wpAnyH_done (by kernel_rfl) ?_ _
              clear m0 m1 m2 m3 hf1 hf2 HB1 HB2
              go_wp2_with fail
              go_meet
              exact HFIN.out
  case rest =>
    obtain ⟨gx, gy, rfl, rfl, hX, hY, hbx⟩ := hcut
    replace HA := hide (block_upW hbx HA.out)
    replace HBb := hide (block_upW hbx HBb.out)
    replace HA0 := hide (HA0.out.below hbx)
    replace HA1 := hide (HA1.out.below hbx)
    replace HT := hide (HT.out.below hbx)
    replace HW := hid_below HW hbx
    have HX := hide hX
    have HY := hide hY
    clear hX hY hbx hw0
    obtain ⟨cy0, cy1⟩ := duo HY.out
    have C := wzero_any b1 _ z1 wc HA1.out
    by_cases hz : val z1 = 0
    · rw [decide_eq_true hz] at C
      go_wp2_with fail
      refine C.mono ?_
      rintro e t1 ⟨rfl, hb1⟩
      clear C cy0 cy1
      have g1 := hide hb1
      clear hb1
      have AW := awake6_any t1 (HT.out.below g1.out)
      go_wp2_with fail
      refine AW.mono ?_
      rintro e t9 ⟨rfl, hb9⟩
      have HFIN := hide (HW.out.trans ((g1.out.trans (hb9.mono g1.out.size)).mono HW.out.size))
      clear AW hb9
      go_wp2
      go_ret
      exact ⟨rfl, HFIN.out⟩
    · rw [decide_eq_false hz] at C
      go_wp2_with fail
      refine C.mono ?_
      rintro e t1 ⟨rfl, hb1⟩
      clear C cy0 cy1
      have g1 := hide hb1
      clear hb1
      obtain ⟨ca0, ca1⟩ := duo (block_upW g1.out HA.out)
      have C := wlawOf_any b0 _ z0 t1 (HA0.out.below g1.out) (by omega)
      go_wp2_with fail
      refine C.mono ?_
      rintro e t2 ⟨⟨bm, am, nm, km, rfl, ym⟩, hb2⟩
      have g2 := hide (bl_trans g1.out hb2)
      clear C hb2 ca0 ca1
      have LN := len_any _ _ t2 ym.inv.2
      rw [zz_abs] at LN
      clear ym
      by_cases hx : 67108864 ≤ blen (val z0)
      · have i1 : (67108864 : Int) ≤ ((blen (val z0) : Nat) : Int) := by omega
        have i2 : decide ((67108864 : Int) ≤ ((blen (val z0) : Nat) : Int)) = true := decide_eq_true i1
        generalize blen (val z0) = lA at *
        go_wp2_with fail
        refine LN.mono ?_
        rintro e wn ⟨rfl, hw⟩; rw [hw]; clear hw wn LN
        have AW := awake6_any t2 (HT.out.below g2.out)
        go_wp2_with fail
        refine AW.mono ?_
        rintro e t9 ⟨rfl, hb9⟩
        have HFIN := hide (HW.out.trans ((g2.out.trans (hb9.mono g2.out.size)).mono HW.out.size))
        clear AW hb9
        go_wp2
        go_ret
        exact ⟨rfl, HFIN.out⟩
      · have i1 : ¬ (67108864 : Int) ≤ ((blen (val z0) : Nat) : Int) := by omega
        have i2 : decide ((67108864 : Int) ≤ ((blen (val z0) : Nat) : Int)) = false := decide_eq_false i1
        have hyy : 67108864 ≤ blen (val z1) := by omega
        generalize blen (val z0) = lA at *
        go_wp2_with fail
        refine LN.mono ?_
        rintro e wn ⟨rfl, hw⟩; rw [hw]; clear hw wn LN
        obtain ⟨ca0, ca1⟩ := duo (block_upW g2.out HBb.out)
        have C := wlawOf_any b1 _ z1 t2 (HA1.out.below g2.out) (by omega)
        go_wp2_with fail
        refine C.mono ?_
        rintro e t3 ⟨⟨bn, an, nn, kn, rfl, yn⟩, hb3⟩
        have g3 := hide (bl_trans g2.out hb3)
        clear C hb3 ca0 ca1
        have LN := len_any _ _ t3 yn.inv.2
        rw [zz_abs] at LN
        clear yn
        have i3 : (67108864 : Int) ≤ ((blen (val z1) : Nat) : Int) := by omega
        have i4 : decide ((67108864 : Int) ≤ ((blen (val z1) : Nat) : Int)) = true := decide_eq_true i3
        generalize blen (val z1) = lB at *
        go_wp2_with fail
        refine LN.mono ?_
        rintro e wn ⟨rfl, hw⟩; rw [hw]; clear hw wn LN
        have AW := awake6_any t3 (HT.out.below g3.out)
        go_wp2_with fail
        refine AW.mono ?_
        rintro e t9 ⟨rfl, hb9⟩
        have HFIN := hide (HW.out.trans ((g3.out.trans (hb9.mono g3.out.size)).mono HW.out.size))
        clear AW hb9
        go_wp2
        go_ret
        exact ⟨rfl, HFIN.out⟩

end Go.Proofs.YtfgcngndiblpmaaGreatDoor
