/- The walk of the law WholeRests: where it asks. -/
import Derived.Test.YtfgcngndiblpmaaGreatDoorRestPZ
import Derived.Test.YtfgcngndiblpmaaGreatDoorRest6Z
import Derived.Test.YtfgcngndiblpmaaGreatDoorDp2bZ
import Derived.Test.YtfgcngndiblpmaaGreatDoorQ5
import Derived.Test.YtfgcngndiblpmaaGreatDoorQ6
import Derived.Test.YtfgcngndiblpmaaGreatDoorQ4
namespace Go.Proofs.YtfgcngndiblpmaaGreatDoor
open Go.RowKit
open Lm
attribute [local go_sem ↓] Go.wp_at_zero Go.wp_at_succ

attribute [local go_sem] fldZ in
set_option maxRecDepth 20000 in
set_option maxHeartbeats 16000000 in
theorem wholeRests_main (b0 : Bool) (v0 : Value) (z0 : List Nat) (b1 : Bool) (v1 : Value) (z1 : List Nat) (w : World) (hT : Tab w) (A0 : Arg w v0 z0) (s0 : z0.length ≤ 17592186043904) (A1 : Arg w v1 z1) (s1 : z1.length ≤ 17592186043904) (hy : 0 < val z1) (hx : blen (val z0) < 67108864) (hyb : blen (val z1) < 67108864) :
    Calls Tryz.prog 4 #[.agg #[.bool b0, v0], .agg #[.bool b1, v1]] w fun e w' => e = .returned (.bool true) ∧ Below w.heap.size w w' := by
  obtain ⟨a0, n0, rfl, _, _, _⟩ := A0.form
  obtain ⟨a1, n1, rfl, _, _, _⟩ := A1.form
  obtain ⟨w0, hw0, hb0, h0, h1⟩ := enter2 w (.cells #[.bool b0, .slice a0 z0.length n0] 24) (.cells #[.bool b1, .slice a1 z1.length n1] 24)
  have HA := hide h0
  have HBb := hide h1
  have HA0 := hide (A0.below hb0)
  have HA1 := hide (A1.below hb0)
  have HT := hide (hT.below hb0)
  have HW := hide hb0
  clear A0 A1 hT hb0 h0 h1
  go_enter Tryz.func4, Tryz.ntmps4
  go_upto_region 1 with fail
  go_cut [5, 6] from 28 to 32 (fun s t wx => TwoKnown w0 b0 b1 (.slice a0 z0.length n0) (.slice a1 z1.length n1) s t wx)
  case first =>
    have KS := hide (fun (W : World) (hg : Below w0.heap.size w0 W) => show W.cell? ⟨w.heap.size, 0, none⟩ = some (.bool b0) ∧ W.cell? ⟨w.heap.size, 1, none⟩ = some (.slice a0 z0.length n0) ∧ W.cell? ⟨w.heap.size + 1, 0, none⟩ = some (.bool b1) ∧ W.cell? ⟨w.heap.size + 1, 1, none⟩ = some (.slice a1 z1.length n1) from ⟨(duo (block_upW hg HA.out)).1, (duo (block_upW hg HA.out)).2, (duo (block_upW hg HBb.out)).1, (duo (block_upW hg HBb.out)).2⟩)
    have IN1 := hide (fun (W : World) (_ : Below w0.heap.size w0 W) => wlawIn_any b0 a0 z0.length n0 W)
    have IN2 := hide (fun (W : World) (_ : Below w0.heap.size w0 W) => wlawIn_any b1 a1 z1.length n1 W)
    refine wp_region_held_drew (S := fun w' => w'.cell? ⟨w.heap.size, 0, none⟩ = some (.bool b0) ∧ w'.cell? ⟨w.heap.size, 1, none⟩ = some (.slice a0 z0.length n0) ∧ w'.cell? ⟨w.heap.size + 1, 0, none⟩ = some (.bool b1) ∧ w'.cell? ⟨w.heap.size + 1, 1, none⟩ = some (.slice a1 z1.length n1)) (by kernel_rfl) (KS.out _ (bl_drew (Below.refl _ _))) (fun hHeld => ?_)
    refine wpAnyH_take (i := 0) (oi := { dst := some 28, op := Op.load 24 (Operand.tmp 2), type := 24, pos := "outright.go:58", after := #[], guard := none }) (v := .agg #[.bool b0, .slice a0 z0.length n0]) rfl (by kernel_rfl) (by kernel_rfl) (by kernel_rfl) (fun _ _ _ h => h) (Or.inl ⟨by rfl, fun w9 hSw => ?_⟩) hHeld ?_
    · (try dsimp only at hSw); go_simp
    simp only [Act.put, List.setIfInBounds_toArray, List.set_cons_zero, List.set_cons_succ]
    refine wpAnyH_take (i := 2) (oi := { dst := some 30, op := Op.load 24 (Operand.tmp 3), type := 24, pos := "outright.go:58", after := #[], guard := none }) (v := .agg #[.bool b1, .slice a1 z1.length n1]) rfl (by kernel_rfl) (by kernel_rfl) (by kernel_rfl) (fun _ _ _ h => h) (Or.inl ⟨by rfl, fun w9 hSw => ?_⟩) hHeld ?_
    · (try dsimp only at hSw); go_simp
    simp only [Act.put, List.setIfInBounds_toArray, List.set_cons_zero, List.set_cons_succ]
    refine dp2w w0 (.agg #[.bool b0, .slice a0 z0.length n0]) (.agg #[.bool b1, .slice a1 z1.length n1]) 29 31 5 6 (fun c1 c2 k1 k2 => #[true, c1, true, c2, k1, k2, false, false]) (by kernel_rfl) (by kernel_rfl) (by simp only [Act.put, List.setIfInBounds_toArray, List.set_cons_zero, List.set_cons_succ]) (bl_drew (Below.refl _ _)) ?_
    clear hHeld
    intro n
    simp only [Act.put, List.setIfInBounds_toArray, List.set_cons_zero, List.set_cons_succ]
    induction n with
    | zero =>
      intro c1 c2 k1 k2 x1 x2 y1 y2 W hf J
      exact absurd hf (by unfold left4w; omega)
    | succ n ih =>
      intro c1 c2 k1 k2 x1 x2 y1 y2 W hf J
      cases c1
      · skip
        cases c2
        · skip
          cases k1
          · skip
            cases k2
            · skip
              refine wpAnyH_ready (rs := [1, 4, 5]) (by kernel_rfl) (by simp) ?_
              refine AllReadyH.cons rfl (fun K hK => ?_) ?_
              · go_simp
                refine (IN1.out W J.up).mono ?_
                rintro e' W2 ⟨rfl, hb⟩
                refine hK.out _ _ (KS.out _ (bl_trans J.up hb)) (fun _ => ?_)
                simp only [List.setIfInBounds_toArray, List.set_cons_zero, List.set_cons_succ]
                exact ih _ _ _ _ _ _ _ _ _ (by simp [left4w] at hf ⊢; omega) (J.call1 hb)
              refine AllReadyH.cons rfl (fun K hK => ?_) ?_
              · go_simp
                refine hK.out _ _ (KS.out _ (bl_alloc J.up _)) (fun _ => ?_)
                simp only [List.setIfInBounds_toArray, List.set_cons_zero, List.set_cons_succ]
                exact ih _ _ _ _ _ _ _ _ _ (by simp [left4w] at hf ⊢; omega) J.make1
              refine AllReadyH.cons rfl (fun K hK => ?_) ?_
              · go_simp
                refine hK.out _ _ (KS.out _ (bl_alloc J.up _)) (fun _ => ?_)
                simp only [List.setIfInBounds_toArray, List.set_cons_zero, List.set_cons_succ]
                exact ih _ _ _ _ _ _ _ _ _ (by simp [left4w] at hf ⊢; omega) J.make2
              exact AllReadyH.nil
            · skip
              refine wpAnyH_ready (rs := [1, 4]) (by kernel_rfl) (by simp) ?_
              refine AllReadyH.cons rfl (fun K hK => ?_) ?_
              · go_simp
                refine (IN1.out W J.up).mono ?_
                rintro e' W2 ⟨rfl, hb⟩
                refine hK.out _ _ (KS.out _ (bl_trans J.up hb)) (fun _ => ?_)
                simp only [List.setIfInBounds_toArray, List.set_cons_zero, List.set_cons_succ]
                exact ih _ _ _ _ _ _ _ _ _ (by simp [left4w] at hf ⊢; omega) (J.call1 hb)
              refine AllReadyH.cons rfl (fun K hK => ?_) ?_
              · go_simp
                refine hK.out _ _ (KS.out _ (bl_alloc J.up _)) (fun _ => ?_)
                simp only [List.setIfInBounds_toArray, List.set_cons_zero, List.set_cons_succ]
                exact ih _ _ _ _ _ _ _ _ _ (by simp [left4w] at hf ⊢; omega) J.make1
              exact AllReadyH.nil
          · skip
            cases k2
            · skip
              refine wpAnyH_ready (rs := [1, 5]) (by kernel_rfl) (by simp) ?_
              refine AllReadyH.cons rfl (fun K hK => ?_) ?_
              · go_simp
                refine (IN1.out W J.up).mono ?_
                rintro e' W2 ⟨rfl, hb⟩
                refine hK.out _ _ (KS.out _ (bl_trans J.up hb)) (fun _ => ?_)
                simp only [List.setIfInBounds_toArray, List.set_cons_zero, List.set_cons_succ]
                exact ih _ _ _ _ _ _ _ _ _ (by simp [left4w] at hf ⊢; omega) (J.call1 hb)
              refine AllReadyH.cons rfl (fun K hK => ?_) ?_
              · go_simp
                refine hK.out _ _ (KS.out _ (bl_alloc J.up _)) (fun _ => ?_)
                simp only [List.setIfInBounds_toArray, List.set_cons_zero, List.set_cons_succ]
                exact ih _ _ _ _ _ _ _ _ _ (by simp [left4w] at hf ⊢; omega) J.make2
              exact AllReadyH.nil
            · skip
              refine wpAnyH_ready (rs := [1]) (by kernel_rfl) (by simp) ?_
              refine AllReadyH.cons rfl (fun K hK => ?_) ?_
              · go_simp
                refine (IN1.out W J.up).mono ?_
                rintro e' W2 ⟨rfl, hb⟩
                refine hK.out _ _ (KS.out _ (bl_trans J.up hb)) (fun _ => ?_)
                simp only [List.setIfInBounds_toArray, List.set_cons_zero, List.set_cons_succ]
                exact ih _ _ _ _ _ _ _ _ _ (by simp [left4w] at hf ⊢; omega) (J.call1 hb)
              exact AllReadyH.nil
        · skip
          exact absurd (J.ch rfl) (by decide)
      · skip
        cases c2
        · skip
          cases k1
          · skip
            cases k2
            · skip
              refine wpAnyH_ready (rs := [3, 4, 5]) (by kernel_rfl) (by simp) ?_
              refine AllReadyH.cons rfl (fun K hK => ?_) ?_
              · go_simp
                refine (IN2.out W J.up).mono ?_
                rintro e' W2 ⟨rfl, hb⟩
                refine hK.out _ _ (KS.out _ (bl_trans J.up hb)) (fun _ => ?_)
                simp only [List.setIfInBounds_toArray, List.set_cons_zero, List.set_cons_succ]
                exact ih _ _ _ _ _ _ _ _ _ (by simp [left4w] at hf ⊢; omega) (J.call2 hb)
              refine AllReadyH.cons rfl (fun K hK => ?_) ?_
              · go_simp
                refine hK.out _ _ (KS.out _ (bl_alloc J.up _)) (fun _ => ?_)
                simp only [List.setIfInBounds_toArray, List.set_cons_zero, List.set_cons_succ]
                exact ih _ _ _ _ _ _ _ _ _ (by simp [left4w] at hf ⊢; omega) J.make1
              refine AllReadyH.cons rfl (fun K hK => ?_) ?_
              · go_simp
                refine hK.out _ _ (KS.out _ (bl_alloc J.up _)) (fun _ => ?_)
                simp only [List.setIfInBounds_toArray, List.set_cons_zero, List.set_cons_succ]
                exact ih _ _ _ _ _ _ _ _ _ (by simp [left4w] at hf ⊢; omega) J.make2
              exact AllReadyH.nil
            · skip
              refine wpAnyH_ready (rs := [3, 4]) (by kernel_rfl) (by simp) ?_
              refine AllReadyH.cons rfl (fun K hK => ?_) ?_
              · go_simp
                refine (IN2.out W J.up).mono ?_
                rintro e' W2 ⟨rfl, hb⟩
                refine hK.out _ _ (KS.out _ (bl_trans J.up hb)) (fun _ => ?_)
                simp only [List.setIfInBounds_toArray, List.set_cons_zero, List.set_cons_succ]
                exact ih _ _ _ _ _ _ _ _ _ (by simp [left4w] at hf ⊢; omega) (J.call2 hb)
              refine AllReadyH.cons rfl (fun K hK => ?_) ?_
              · go_simp
                refine hK.out _ _ (KS.out _ (bl_alloc J.up _)) (fun _ => ?_)
                simp only [List.setIfInBounds_toArray, List.set_cons_zero, List.set_cons_succ]
                exact ih _ _ _ _ _ _ _ _ _ (by simp [left4w] at hf ⊢; omega) J.make1
              exact AllReadyH.nil
          · skip
            cases k2
            · skip
              refine wpAnyH_ready (rs := [3, 5]) (by kernel_rfl) (by simp) ?_
              refine AllReadyH.cons rfl (fun K hK => ?_) ?_
              · go_simp
                refine (IN2.out W J.up).mono ?_
                rintro e' W2 ⟨rfl, hb⟩
                refine hK.out _ _ (KS.out _ (bl_trans J.up hb)) (fun _ => ?_)
                simp only [List.setIfInBounds_toArray, List.set_cons_zero, List.set_cons_succ]
                exact ih _ _ _ _ _ _ _ _ _ (by simp [left4w] at hf ⊢; omega) (J.call2 hb)
              refine AllReadyH.cons rfl (fun K hK => ?_) ?_
              · go_simp
                refine hK.out _ _ (KS.out _ (bl_alloc J.up _)) (fun _ => ?_)
                simp only [List.setIfInBounds_toArray, List.set_cons_zero, List.set_cons_succ]
                exact ih _ _ _ _ _ _ _ _ _ (by simp [left4w] at hf ⊢; omega) J.make2
              exact AllReadyH.nil
            · skip
              refine wpAnyH_ready (rs := [3]) (by kernel_rfl) (by simp) ?_
              refine AllReadyH.cons rfl (fun K hK => ?_) ?_
              · go_simp
                refine (IN2.out W J.up).mono ?_
                rintro e' W2 ⟨rfl, hb⟩
                refine hK.out _ _ (KS.out _ (bl_trans J.up hb)) (fun _ => ?_)
                simp only [List.setIfInBounds_toArray, List.set_cons_zero, List.set_cons_succ]
                exact ih _ _ _ _ _ _ _ _ _ (by simp [left4w] at hf ⊢; omega) (J.call2 hb)
              exact AllReadyH.nil
        · skip
          cases k1
          · skip
            cases k2
            · skip
              refine wpAnyH_ready (rs := [4, 5]) (by kernel_rfl) (by simp) ?_
              refine AllReadyH.cons rfl (fun K hK => ?_) ?_
              · go_simp
                refine hK.out _ _ (KS.out _ (bl_alloc J.up _)) (fun _ => ?_)
                simp only [List.setIfInBounds_toArray, List.set_cons_zero, List.set_cons_succ]
                exact ih _ _ _ _ _ _ _ _ _ (by simp [left4w] at hf ⊢; omega) J.make1
              refine AllReadyH.cons rfl (fun K hK => ?_) ?_
              · go_simp
                refine hK.out _ _ (KS.out _ (bl_alloc J.up _)) (fun _ => ?_)
                simp only [List.setIfInBounds_toArray, List.set_cons_zero, List.set_cons_succ]
                exact ih _ _ _ _ _ _ _ _ _ (by simp [left4w] at hf ⊢; omega) J.make2
              exact AllReadyH.nil
            · skip
              refine wpAnyH_ready (rs := [4]) (by kernel_rfl) (by simp) ?_
              refine AllReadyH.cons rfl (fun K hK => ?_) ?_
              · go_simp
                refine hK.out _ _ (KS.out _ (bl_alloc J.up _)) (fun _ => ?_)
                simp only [List.setIfInBounds_toArray, List.set_cons_zero, List.set_cons_succ]
                exact ih _ _ _ _ _ _ _ _ _ (by simp [left4w] at hf ⊢; omega) J.make1
              exact AllReadyH.nil
          · skip
            cases k2
            · skip
              refine wpAnyH_ready (rs := [5]) (by kernel_rfl) (by simp) ?_
              refine AllReadyH.cons rfl (fun K hK => ?_) ?_
              · go_simp
                refine hK.out _ _ (KS.out _ (bl_alloc J.up _)) (fun _ => ?_)
                simp only [List.setIfInBounds_toArray, List.set_cons_zero, List.set_cons_succ]
                exact ih _ _ _ _ _ _ _ _ _ (by simp [left4w] at hf ⊢; omega) J.make2
              exact AllReadyH.nil
            · skip
              obtain rfl := J.q1 rfl
              obtain rfl := J.q2 rfl
              have D12 := J.d12 rfl rfl
              obtain ⟨g1, rfl, l1, e1⟩ := J.r1 rfl
              obtain ⟨g2, rfl, l2, e2⟩ := J.r2 rfl
              have HU := hide J.up
              obtain rfl : n = 1 := by simp [left4w] at hf; omega
              clear J ih hf
              have D12g : g1 ≠ g2 := fun e => D12 (by rw [e])
              have HFIN := hide (known_ss (b0 := b0) (b1 := b1) (v0 := .slice a0 z0.length n0) (v1 := .slice a1 z1.length n1) e1 e2 l1 l2 D12g HU.out)
              clear D12
              obtain ⟨m0, m1⟩ := duo e1
              have hf1 := duof e1
              have t2 := duo_other (u0 := .bool b0) (u1 := .slice a0 z0.length n0) e2 (Ne.symm D12g)
              obtain ⟨m2, m3⟩ := duo t2
              have hf2 := duof t2
              have HB1 := hide (below_duo (u0 := .bool b0) (u1 := .slice a0 z0.length n0) HU.out l1)
              have HB2 := hide (below_duo (u0 := .bool b1) (u1 := .slice a1 z1.length n1) HB1.out l2)
              clear t2 e1 e2
              refine wpAnyH_ready (rs := [6]) (by kernel_rfl) (by simp) ?_
              refine AllReadyH.cons rfl (fun K hK => ?_) AllReadyH.nil
              go_simp
              refine hK.out _ _ (KS.out _ HB1.out) (fun _ => ?_)
              clear hK K
              try simp only [List.setIfInBounds_toArray, List.set_cons_zero, List.set_cons_succ]
              refine wpAnyH_ready (rs := [7]) (by kernel_rfl) (by simp) ?_
              refine AllReadyH.cons rfl (fun K hK => ?_) AllReadyH.nil
              go_simp
              refine hK.out _ _ (KS.out _ HB2.out) (fun _ => ?_)
              clear hK K
              try simp only [List.setIfInBounds_toArray, List.set_cons_zero, List.set_cons_succ]
              refine wpAnyH_done (by kernel_rfl) ?_ _
              clear m0 m1 m2 m3 hf1 hf2 HB1 HB2
              go_wp2_with fail
              go_meet
              exact HFIN.out
  case rest =>
    obtain ⟨gx, gy, rfl, rfl, hX, hY, hbx⟩ := hcut
    replace HA := hide (block_upW hbx HA.out)
    replace HBb := hide (block_upW hbx HBb.out)
    replace HA0 := hide (HA0.out.below hbx)
    replace HA1 := hide (HA1.out.below hbx)
    replace HT := hide (HT.out.below hbx)
    replace HW := hid_below HW hbx
    have HX := hide hX
    have HY := hide hY
    clear hX hY hbx hw0
    obtain ⟨cy0, cy1⟩ := duo HY.out
    have C := wzero_any b1 _ z1 wc HA1.out
    rw [decide_eq_false (show ¬ val z1 = 0 by omega)] at C
    go_wp2_with fail
    refine C.mono ?_
    rintro e t1 ⟨rfl, hb1⟩
    clear C cy0 cy1
    have g1 := hide hb1
    clear hb1
    obtain ⟨ca0, ca1⟩ := duo (block_upW g1.out HA.out)
    have C := wlawOf_any b0 _ z0 t1 (HA0.out.below g1.out) (by omega)
    go_wp2_with fail
    refine C.mono ?_
    rintro e t2 ⟨⟨bm, am, nm, km, rfl, ym⟩, hb2⟩
    have g2 := hide (bl_trans g1.out hb2)
    clear C hb2 ca0 ca1
    have LN := len_any _ _ t2 ym.inv.2
    rw [zz_abs] at LN
    clear ym
    have HXL := hide hx
    have HYL := hide hyb
    have HY0 := hide hy
    have i1 : ¬ (67108864 : Int) ≤ ((blen (val z0) : Nat) : Int) := by omega
    have i2 : decide ((67108864 : Int) ≤ ((blen (val z0) : Nat) : Int)) = false := decide_eq_false i1
    have i3 : ¬ (67108864 : Int) ≤ ((blen (val z1) : Nat) : Int) := by omega
    have i4 : decide ((67108864 : Int) ≤ ((blen (val z1) : Nat) : Int)) = false := decide_eq_false i3
    clear hx hyb hy
    go_wp2_with fail
    refine LN.mono ?_
    rintro e wn ⟨rfl, hw⟩; rw [hw]; clear hw wn LN
    obtain ⟨ca0, ca1⟩ := duo (block_upW g2.out HBb.out)
    have C := wlawOf_any b1 _ z1 t2 (HA1.out.below g2.out) (by omega)
    go_wp2_with fail
    refine C.mono ?_
    rintro e t3 ⟨⟨bn, an, nn, kn, rfl, yn⟩, hb3⟩
    have g3 := hide (bl_trans g2.out hb3)
    clear C hb3 ca0 ca1
    have LN := len_any _ _ t3 yn.inv.2
    rw [zz_abs] at LN
    clear yn
    obtain ⟨cx0, cx1⟩ := duo (block_upW g3.out HX.out)
    obtain ⟨cy0, cy1⟩ := duo (block_upW g3.out HY.out)
    go_wp2_with fail
    refine LN.mono ?_
    rintro e wn ⟨rfl, hw⟩; rw [hw]; clear hw wn LN
    go_wp2_with fail
    clear cx0 cx1 cy0 cy1 i1 i2 i3 i4
    have HG := g3
    clear g1 g2 g3
    generalize hzA : zz b0 (val z0) = zA at *
    generalize hzB : zz b1 (val z1) = zB at *
    have hmd := Nat.mod_lt (val z0) HY0.out
    have HQ1 := hide (show quq zA zB = zz (b0 != b1) (val z0 / val z1 + if false && decide (0 < val z0 % val z1) then 1 else 0) by rw [← hzA, ← hzB, quq_zz b0 b1 _ _ HY0.out]; simp)
    have HQ2 := hide (show flq zA zB = zz (b0 != b1) (val z0 / val z1 + if (b0 != b1) && decide (0 < val z0 % val z1) then 1 else 0) by rw [← hzA, ← hzB]; exact flq_zz b0 b1 _ _ HY0.out)
    have HQ3 := hide (show ceq zA zB = zz (b0 != b1) (val z0 / val z1 + if (!(b0 != b1)) && decide (0 < val z0 % val z1) then 1 else 0) by rw [← hzA, ← hzB]; exact ceq_zz b0 b1 _ _ HY0.out)
    have HQ4 := hide (show neq zA zB = zz (b0 != b1) (val z0 / val z1 + if nearB (val z0 / val z1) (val z0 % val z1) (val z1 - val z0 % val z1) && decide (0 < val z0 % val z1) then 1 else 0) by rw [← hzA, ← hzB]; exact neq_zz b0 b1 _ _ HY0.out)
    have HQ5 := hide (show euq zA zB = zz (b0 != b1) (val z0 / val z1 + if b0 && decide (0 < val z0 % val z1) then 1 else 0) by rw [← hzA, ← hzB]; exact euq_zz b0 b1 _ _ HY0.out)
    have HR1 := hide (quo_both b0 b1 _ _ _ HY0.out _ HQ1.out)
    have HR2 := hide (quo_both b0 b1 _ _ _ HY0.out _ HQ2.out)
    have HR3 := hide (quo_both b0 b1 _ _ _ HY0.out _ HQ3.out)
    have HR4 := hide (quo_both b0 b1 _ _ _ HY0.out _ HQ4.out)
    have HR5 := hide (quo_both b0 b1 _ _ _ HY0.out _ HQ5.out)
    rw [hzA, hzB] at HR1 HR2 HR3 HR4 HR5
    have EQ := hide (And.intro hzA hzB)
    have HMD := hide hmd
    clear hzA hzB hmd
    have C := wquo_any b0 _ z0 b1 _ z1 (b0 != b1) false (quq zA zB) (zA - quq zA zB * zB) t3 (HA0.out.below HG.out) (HA1.out.below HG.out) (HT.out.below HG.out) (by omega) (by omega) HY0.out rfl rfl HQ1.out HR1.out
    refine C.mono ?_
    rintro e Q1 ⟨⟨bp1, ap1, np1, kp1, bs1, as1, ns1, ks1, c1, rfl, hD⟩, hq⟩
    obtain ⟨rfl, ql1, rl1, hq1, hr1, hq2, hr2, hq3, hr3⟩ := hD.fine (by rw [HQ1.out]; exact quo_blen _ _ HXL.out) (by rw [HR1.out]; exact rz_blen b0 false HMD.out (Nat.le_of_lt HYL.out))
    obtain ⟨y1, hyy1, hbP, hx1, hx2⟩ := enter2 Q1 (.cells #[.bool bp1, .slice ap1 np1 kp1] 27) (.cells #[.bool bs1, .slice as1 ns1 ks1] 27)
    have stp := bl_trans hq hbP
    replace HG := hide (bl_trans HG.out stp)
    have HB1a := hide hx1
    have HB1b := hide hx2
    have HAq1 := hide (hq1.below hbP)
    have HAr1 := hide (hr1.below hbP)
    have HEq1 := hide hq2
    have HEr1 := hide hr2
    have HLq1 := hide hq3
    have HLr1 := hide hr3
    clear C hq hbP hx1 hx2 stp hD hq1 hr1 hq2 hr2 hq3 hr3
    obtain ⟨cx0, cx1⟩ := duo (block_upW HG.out HX.out)
    obtain ⟨cy0, cy1⟩ := duo (block_upW HG.out HY.out)
    go_wp2_with fail
    clear cx0 cx1 cy0 cy1
    have C := wfloor_any b0 _ z0 b1 _ z1 (b0 != b1) (b0 != b1) (flq zA zB) (zA - flq zA zB * zB) y1 (HA0.out.below HG.out) (HA1.out.below HG.out) (HT.out.below HG.out) (by omega) (by omega) HY0.out rfl rfl HQ2.out HR2.out
    refine C.mono ?_
    rintro e Q2 ⟨⟨bp2, ap2, np2, kp2, bs2, as2, ns2, ks2, c2, rfl, hD⟩, hq⟩
    obtain ⟨rfl, ql2, rl2, hq1, hr1, hq2, hr2, hq3, hr3⟩ := hD.fine (by rw [HQ2.out]; exact quo_blen _ _ HXL.out) (by rw [HR2.out]; exact rz_blen b0 (b0 != b1) HMD.out (Nat.le_of_lt HYL.out))
    obtain ⟨y2, hyy2, hbP, hx1, hx2⟩ := enter2 Q2 (.cells #[.bool bp2, .slice ap2 np2 kp2] 27) (.cells #[.bool bs2, .slice as2 ns2 ks2] 27)
    have stp := bl_trans hq hbP
    replace HB1a := hide (block_upW stp HB1a.out)
    replace HB1b := hide (block_upW stp HB1b.out)
    replace HAq1 := hide (HAq1.out.below stp)
    replace HAr1 := hide (HAr1.out.below stp)
    replace HG := hide (bl_trans HG.out stp)
    have HB2a := hide hx1
    have HB2b := hide hx2
    have HAq2 := hide (hq1.below hbP)
    have HAr2 := hide (hr1.below hbP)
    have HEq2 := hide hq2
    have HEr2 := hide hr2
    have HLq2 := hide hq3
    have HLr2 := hide hr3
    clear C hq hbP hx1 hx2 stp hD hq1 hr1 hq2 hr2 hq3 hr3 hyy1
    obtain ⟨cx0, cx1⟩ := duo (block_upW HG.out HX.out)
    obtain ⟨cy0, cy1⟩ := duo (block_upW HG.out HY.out)
    go_wp2_with fail
    clear cx0 cx1 cy0 cy1
    have C := wceil_any b0 _ z0 b1 _ z1 (b0 != b1) (!(b0 != b1)) (ceq zA zB) (zA - ceq zA zB * zB) y2 (HA0.out.below HG.out) (HA1.out.below HG.out) (HT.out.below HG.out) (by omega) (by omega) HY0.out rfl rfl HQ3.out HR3.out
    refine C.mono ?_
    rintro e Q3 ⟨⟨bp3, ap3, np3, kp3, bs3, as3, ns3, ks3, c3, rfl, hD⟩, hq⟩
    obtain ⟨rfl, ql3, rl3, hq1, hr1, hq2, hr2, hq3, hr3⟩ := hD.fine (by rw [HQ3.out]; exact quo_blen _ _ HXL.out) (by rw [HR3.out]; exact rz_blen b0 (!(b0 != b1)) HMD.out (Nat.le_of_lt HYL.out))
    obtain ⟨y3, hyy3, hbP, hx1, hx2⟩ := enter2 Q3 (.cells #[.bool bp3, .slice ap3 np3 kp3] 27) (.cells #[.bool bs3, .slice as3 ns3 ks3] 27)
    have stp := bl_trans hq hbP
    replace HB1a := hide (block_upW stp HB1a.out)
    replace HB1b := hide (block_upW stp HB1b.out)
    replace HB2a := hide (block_upW stp HB2a.out)
    replace HB2b := hide (block_upW stp HB2b.out)
    replace HAq1 := hide (HAq1.out.below stp)
    replace HAr1 := hide (HAr1.out.below stp)
    replace HAq2 := hide (HAq2.out.below stp)
    replace HAr2 := hide (HAr2.out.below stp)
    replace HG := hide (bl_trans HG.out stp)
    have HB3a := hide hx1
    have HB3b := hide hx2
    have HAq3 := hide (hq1.below hbP)
    have HAr3 := hide (hr1.below hbP)
    have HEq3 := hide hq2
    have HEr3 := hide hr2
    have HLq3 := hide hq3
    have HLr3 := hide hr3
    clear C hq hbP hx1 hx2 stp hD hq1 hr1 hq2 hr2 hq3 hr3 hyy2
    obtain ⟨cx0, cx1⟩ := duo (block_upW HG.out HX.out)
    obtain ⟨cy0, cy1⟩ := duo (block_upW HG.out HY.out)
    go_wp2_with fail
    clear cx0 cx1 cy0 cy1
    have C := wnear_any b0 _ z0 b1 _ z1 (b0 != b1) (nearB (val z0 / val z1) (val z0 % val z1) (val z1 - val z0 % val z1)) (neq zA zB) (zA - neq zA zB * zB) y3 (HA0.out.below HG.out) (HA1.out.below HG.out) (HT.out.below HG.out) (by omega) (by omega) HY0.out rfl rfl HQ4.out HR4.out
    refine C.mono ?_
    rintro e Q4 ⟨⟨bp4, ap4, np4, kp4, bs4, as4, ns4, ks4, c4, rfl, hD⟩, hq⟩
    obtain ⟨rfl, ql4, rl4, hq1, hr1, hq2, hr2, hq3, hr3⟩ := hD.fine (by rw [HQ4.out]; exact quo_blen _ _ HXL.out) (by rw [HR4.out]; exact rz_blen b0 (nearB (val z0 / val z1) (val z0 % val z1) (val z1 - val z0 % val z1)) HMD.out (Nat.le_of_lt HYL.out))
    obtain ⟨y4, hyy4, hbP, hx1, hx2⟩ := enter2 Q4 (.cells #[.bool bp4, .slice ap4 np4 kp4] 27) (.cells #[.bool bs4, .slice as4 ns4 ks4] 27)
    have stp := bl_trans hq hbP
    replace HB1a := hide (block_upW stp HB1a.out)
    replace HB1b := hide (block_upW stp HB1b.out)
    replace HB2a := hide (block_upW stp HB2a.out)
    replace HB2b := hide (block_upW stp HB2b.out)
    replace HB3a := hide (block_upW stp HB3a.out)
    replace HB3b := hide (block_upW stp HB3b.out)
    replace HAq1 := hide (HAq1.out.below stp)
    replace HAr1 := hide (HAr1.out.below stp)
    replace HAq2 := hide (HAq2.out.below stp)
    replace HAr2 := hide (HAr2.out.below stp)
    replace HAq3 := hide (HAq3.out.below stp)
    replace HAr3 := hide (HAr3.out.below stp)
    replace HG := hide (bl_trans HG.out stp)
    have HB4a := hide hx1
    have HB4b := hide hx2
    have HAq4 := hide (hq1.below hbP)
    have HAr4 := hide (hr1.below hbP)
    have HEq4 := hide hq2
    have HEr4 := hide hr2
    have HLq4 := hide hq3
    have HLr4 := hide hr3
    clear C hq hbP hx1 hx2 stp hD hq1 hr1 hq2 hr2 hq3 hr3 hyy3
    obtain ⟨cx0, cx1⟩ := duo (block_upW HG.out HX.out)
    obtain ⟨cy0, cy1⟩ := duo (block_upW HG.out HY.out)
    go_wp2_with fail
    clear cx0 cx1 cy0 cy1
    have C := weuclid_any b0 _ z0 b1 _ z1 (b0 != b1) b0 (euq zA zB) (zA - euq zA zB * zB) y4 (HA0.out.below HG.out) (HA1.out.below HG.out) (HT.out.below HG.out) (by omega) (by omega) HY0.out rfl rfl HQ5.out HR5.out
    refine C.mono ?_
    rintro e Q5 ⟨⟨bp5, ap5, np5, kp5, bs5, as5, ns5, ks5, c5, rfl, hD⟩, hq⟩
    obtain ⟨rfl, ql5, rl5, hq1, hr1, hq2, hr2, hq3, hr3⟩ := hD.fine (by rw [HQ5.out]; exact quo_blen _ _ HXL.out) (by rw [HR5.out]; exact rz_blen b0 b0 HMD.out (Nat.le_of_lt HYL.out))
    obtain ⟨y5, hyy5, hbP, hx1, hx2⟩ := enter2 Q5 (.cells #[.bool bp5, .slice ap5 np5 kp5] 27) (.cells #[.bool bs5, .slice as5 ns5 ks5] 27)
    have stp := bl_trans hq hbP
    replace HB1a := hide (block_upW stp HB1a.out)
    replace HB1b := hide (block_upW stp HB1b.out)
    replace HB2a := hide (block_upW stp HB2a.out)
    replace HB2b := hide (block_upW stp HB2b.out)
    replace HB3a := hide (block_upW stp HB3a.out)
    replace HB3b := hide (block_upW stp HB3b.out)
    replace HB4a := hide (block_upW stp HB4a.out)
    replace HB4b := hide (block_upW stp HB4b.out)
    replace HAq1 := hide (HAq1.out.below stp)
    replace HAr1 := hide (HAr1.out.below stp)
    replace HAq2 := hide (HAq2.out.below stp)
    replace HAr2 := hide (HAr2.out.below stp)
    replace HAq3 := hide (HAq3.out.below stp)
    replace HAr3 := hide (HAr3.out.below stp)
    replace HAq4 := hide (HAq4.out.below stp)
    replace HAr4 := hide (HAr4.out.below stp)
    replace HG := hide (bl_trans HG.out stp)
    have HB5a := hide hx1
    have HB5b := hide hx2
    have HAq5 := hide (hq1.below hbP)
    have HAr5 := hide (hr1.below hbP)
    have HEq5 := hide hq2
    have HEr5 := hide hr2
    have HLq5 := hide hq3
    have HLr5 := hide hr3
    clear C hq hbP hx1 hx2 stp hD hq1 hr1 hq2 hr2 hq3 hr3 hyy4
    obtain ⟨U1, hU1, hst, hLb⟩ := enter1 y5 (.cells #[.int .i64 0, .int .i64 0, .int .i64 0, .int .i64 0, .int .i64 0] 38)
    have AL := wall_any y5.heap.size 5 [0, 0, 0, 0, 0] U1 rfl (by omega) hLb
    have hyes : (([0, 0, 0, 0, 0] : List Int).all (· == 0)) = true := by decide
    rw [hyes] at AL
    replace HB1a := hide (block_upW hst HB1a.out)
    replace HB1b := hide (block_upW hst HB1b.out)
    replace HB2a := hide (block_upW hst HB2a.out)
    replace HB2b := hide (block_upW hst HB2b.out)
    replace HB3a := hide (block_upW hst HB3a.out)
    replace HB3b := hide (block_upW hst HB3b.out)
    replace HB4a := hide (block_upW hst HB4a.out)
    replace HB4b := hide (block_upW hst HB4b.out)
    replace HB5a := hide (block_upW hst HB5a.out)
    replace HB5b := hide (block_upW hst HB5b.out)
    replace HAq1 := hide (HAq1.out.below hst)
    replace HAr1 := hide (HAr1.out.below hst)
    replace HAq2 := hide (HAq2.out.below hst)
    replace HAr2 := hide (HAr2.out.below hst)
    replace HAq3 := hide (HAq3.out.below hst)
    replace HAr3 := hide (HAr3.out.below hst)
    replace HAq4 := hide (HAq4.out.below hst)
    replace HAr4 := hide (HAr4.out.below hst)
    replace HAq5 := hide (HAq5.out.below hst)
    replace HAr5 := hide (HAr5.out.below hst)
    replace HG := hide (bl_trans HG.out hst)
    clear hst hLb hyes
    go_wp2_with fail
    refine AL.mono ?_
    rintro e wn ⟨rfl, hw⟩; rw [hw]; clear hw wn AL hyy5
    obtain ⟨cx0, cx1⟩ := duo (block_upW HG.out HX.out)
    obtain ⟨cy0, cy1⟩ := duo (block_upW HG.out HY.out)
    obtain ⟨cq0, cq1⟩ := duo HB1a.out
    obtain ⟨cr0, cr1⟩ := duo HB1b.out
    have C := wrest_ok b0 _ z0 b1 _ z1 bp1 _ ql1 bs1 _ rl1 U1 (HA0.out.below HG.out) (HA1.out.below HG.out) HAq1.out HAr1.out (by omega) (by omega) (by have := HLq1.out; omega) (by have := HLr1.out; omega) (Nat.le_of_lt HYL.out) (by have h := blen_val_le ql1 HAq1.out.limbs; have := HLq1.out; omega) (by have h := blen_val_le rl1 HAr1.out.limbs; have := HLr1.out; omega) (by rw [HEq1.out, HEr1.out, EQ.out.1, EQ.out.2]; generalize quq zA zB * zB = t9; omega)
    go_wp2_with fail
    refine C.mono ?_
    rintro e R1 ⟨rfl, hb⟩
    clear C cx0 cx1 cy0 cy1 cq0 cq1 cr0 cr1 hU1
    replace HB1a := hide (block_upW hb HB1a.out)
    replace HB1b := hide (block_upW hb HB1b.out)
    replace HB2a := hide (block_upW hb HB2a.out)
    replace HB2b := hide (block_upW hb HB2b.out)
    replace HB3a := hide (block_upW hb HB3a.out)
    replace HB3b := hide (block_upW hb HB3b.out)
    replace HB4a := hide (block_upW hb HB4a.out)
    replace HB4b := hide (block_upW hb HB4b.out)
    replace HB5a := hide (block_upW hb HB5a.out)
    replace HB5b := hide (block_upW hb HB5b.out)
    replace HAq1 := hide (HAq1.out.below hb)
    replace HAr1 := hide (HAr1.out.below hb)
    replace HAq2 := hide (HAq2.out.below hb)
    replace HAr2 := hide (HAr2.out.below hb)
    replace HAq3 := hide (HAq3.out.below hb)
    replace HAr3 := hide (HAr3.out.below hb)
    replace HAq4 := hide (HAq4.out.below hb)
    replace HAr4 := hide (HAr4.out.below hb)
    replace HAq5 := hide (HAq5.out.below hb)
    replace HAr5 := hide (HAr5.out.below hb)
    replace HG := hide (bl_trans HG.out hb)
    clear hb
    obtain ⟨cx0, cx1⟩ := duo (block_upW HG.out HX.out)
    obtain ⟨cy0, cy1⟩ := duo (block_upW HG.out HY.out)
    obtain ⟨cq0, cq1⟩ := duo HB2a.out
    obtain ⟨cr0, cr1⟩ := duo HB2b.out
    have C := wrest_ok b0 _ z0 b1 _ z1 bp2 _ ql2 bs2 _ rl2 R1 (HA0.out.below HG.out) (HA1.out.below HG.out) HAq2.out HAr2.out (by omega) (by omega) (by have := HLq2.out; omega) (by have := HLr2.out; omega) (Nat.le_of_lt HYL.out) (by have h := blen_val_le ql2 HAq2.out.limbs; have := HLq2.out; omega) (by have h := blen_val_le rl2 HAr2.out.limbs; have := HLr2.out; omega) (by rw [HEq2.out, HEr2.out, EQ.out.1, EQ.out.2]; generalize flq zA zB * zB = t9; omega)
    go_wp2_with fail
    refine C.mono ?_
    rintro e R2 ⟨rfl, hb⟩
    clear C cx0 cx1 cy0 cy1 cq0 cq1 cr0 cr1
    replace HB1a := hide (block_upW hb HB1a.out)
    replace HB1b := hide (block_upW hb HB1b.out)
    replace HB2a := hide (block_upW hb HB2a.out)
    replace HB2b := hide (block_upW hb HB2b.out)
    replace HB3a := hide (block_upW hb HB3a.out)
    replace HB3b := hide (block_upW hb HB3b.out)
    replace HB4a := hide (block_upW hb HB4a.out)
    replace HB4b := hide (block_upW hb HB4b.out)
    replace HB5a := hide (block_upW hb HB5a.out)
    replace HB5b := hide (block_upW hb HB5b.out)
    replace HAq1 := hide (HAq1.out.below hb)
    replace HAr1 := hide (HAr1.out.below hb)
    replace HAq2 := hide (HAq2.out.below hb)
    replace HAr2 := hide (HAr2.out.below hb)
    replace HAq3 := hide (HAq3.out.below hb)
    replace HAr3 := hide (HAr3.out.below hb)
    replace HAq4 := hide (HAq4.out.below hb)
    replace HAr4 := hide (HAr4.out.below hb)
    replace HAq5 := hide (HAq5.out.below hb)
    replace HAr5 := hide (HAr5.out.below hb)
    replace HG := hide (bl_trans HG.out hb)
    clear hb
    obtain ⟨cx0, cx1⟩ := duo (block_upW HG.out HX.out)
    obtain ⟨cy0, cy1⟩ := duo (block_upW HG.out HY.out)
    obtain ⟨cq0, cq1⟩ := duo HB3a.out
    obtain ⟨cr0, cr1⟩ := duo HB3b.out
    have C := wrest_ok b0 _ z0 b1 _ z1 bp3 _ ql3 bs3 _ rl3 R2 (HA0.out.below HG.out) (HA1.out.below HG.out) HAq3.out HAr3.out (by omega) (by omega) (by have := HLq3.out; omega) (by have := HLr3.out; omega) (Nat.le_of_lt HYL.out) (by have h := blen_val_le ql3 HAq3.out.limbs; have := HLq3.out; omega) (by have h := blen_val_le rl3 HAr3.out.limbs; have := HLr3.out; omega) (by rw [HEq3.out, HEr3.out, EQ.out.1, EQ.out.2]; generalize ceq zA zB * zB = t9; omega)
    go_wp2_with fail
    refine C.mono ?_
    rintro e R3 ⟨rfl, hb⟩
    clear C cx0 cx1 cy0 cy1 cq0 cq1 cr0 cr1
    replace HB1a := hide (block_upW hb HB1a.out)
    replace HB1b := hide (block_upW hb HB1b.out)
    replace HB2a := hide (block_upW hb HB2a.out)
    replace HB2b := hide (block_upW hb HB2b.out)
    replace HB3a := hide (block_upW hb HB3a.out)
    replace HB3b := hide (block_upW hb HB3b.out)
    replace HB4a := hide (block_upW hb HB4a.out)
    replace HB4b := hide (block_upW hb HB4b.out)
    replace HB5a := hide (block_upW hb HB5a.out)
    replace HB5b := hide (block_upW hb HB5b.out)
    replace HAq1 := hide (HAq1.out.below hb)
    replace HAr1 := hide (HAr1.out.below hb)
    replace HAq2 := hide (HAq2.out.below hb)
    replace HAr2 := hide (HAr2.out.below hb)
    replace HAq3 := hide (HAq3.out.below hb)
    replace HAr3 := hide (HAr3.out.below hb)
    replace HAq4 := hide (HAq4.out.below hb)
    replace HAr4 := hide (HAr4.out.below hb)
    replace HAq5 := hide (HAq5.out.below hb)
    replace HAr5 := hide (HAr5.out.below hb)
    replace HG := hide (bl_trans HG.out hb)
    clear hb
    obtain ⟨cx0, cx1⟩ := duo (block_upW HG.out HX.out)
    obtain ⟨cy0, cy1⟩ := duo (block_upW HG.out HY.out)
    obtain ⟨cq0, cq1⟩ := duo HB4a.out
    obtain ⟨cr0, cr1⟩ := duo HB4b.out
    have C := wrest_ok b0 _ z0 b1 _ z1 bp4 _ ql4 bs4 _ rl4 R3 (HA0.out.below HG.out) (HA1.out.below HG.out) HAq4.out HAr4.out (by omega) (by omega) (by have := HLq4.out; omega) (by have := HLr4.out; omega) (Nat.le_of_lt HYL.out) (by have h := blen_val_le ql4 HAq4.out.limbs; have := HLq4.out; omega) (by have h := blen_val_le rl4 HAr4.out.limbs; have := HLr4.out; omega) (by rw [HEq4.out, HEr4.out, EQ.out.1, EQ.out.2]; generalize neq zA zB * zB = t9; omega)
    go_wp2_with fail
    refine C.mono ?_
    rintro e R4 ⟨rfl, hb⟩
    clear C cx0 cx1 cy0 cy1 cq0 cq1 cr0 cr1
    replace HB1a := hide (block_upW hb HB1a.out)
    replace HB1b := hide (block_upW hb HB1b.out)
    replace HB2a := hide (block_upW hb HB2a.out)
    replace HB2b := hide (block_upW hb HB2b.out)
    replace HB3a := hide (block_upW hb HB3a.out)
    replace HB3b := hide (block_upW hb HB3b.out)
    replace HB4a := hide (block_upW hb HB4a.out)
    replace HB4b := hide (block_upW hb HB4b.out)
    replace HB5a := hide (block_upW hb HB5a.out)
    replace HB5b := hide (block_upW hb HB5b.out)
    replace HAq1 := hide (HAq1.out.below hb)
    replace HAr1 := hide (HAr1.out.below hb)
    replace HAq2 := hide (HAq2.out.below hb)
    replace HAr2 := hide (HAr2.out.below hb)
    replace HAq3 := hide (HAq3.out.below hb)
    replace HAr3 := hide (HAr3.out.below hb)
    replace HAq4 := hide (HAq4.out.below hb)
    replace HAr4 := hide (HAr4.out.below hb)
    replace HAq5 := hide (HAq5.out.below hb)
    replace HAr5 := hide (HAr5.out.below hb)
    replace HG := hide (bl_trans HG.out hb)
    clear hb
    obtain ⟨cx0, cx1⟩ := duo (block_upW HG.out HX.out)
    obtain ⟨cy0, cy1⟩ := duo (block_upW HG.out HY.out)
    obtain ⟨cq0, cq1⟩ := duo HB5a.out
    obtain ⟨cr0, cr1⟩ := duo HB5b.out
    have C := wrest_ok b0 _ z0 b1 _ z1 bp5 _ ql5 bs5 _ rl5 R4 (HA0.out.below HG.out) (HA1.out.below HG.out) HAq5.out HAr5.out (by omega) (by omega) (by have := HLq5.out; omega) (by have := HLr5.out; omega) (Nat.le_of_lt HYL.out) (by have h := blen_val_le ql5 HAq5.out.limbs; have := HLq5.out; omega) (by have h := blen_val_le rl5 HAr5.out.limbs; have := HLr5.out; omega) (by rw [HEq5.out, HEr5.out, EQ.out.1, EQ.out.2]; generalize euq zA zB * zB = t9; omega)
    go_wp2_with fail
    refine C.mono ?_
    rintro e R5 ⟨rfl, hb⟩
    clear C cx0 cx1 cy0 cy1 cq0 cq1 cr0 cr1
    replace HB1a := hide (block_upW hb HB1a.out)
    replace HB1b := hide (block_upW hb HB1b.out)
    replace HB2a := hide (block_upW hb HB2a.out)
    replace HB2b := hide (block_upW hb HB2b.out)
    replace HB3a := hide (block_upW hb HB3a.out)
    replace HB3b := hide (block_upW hb HB3b.out)
    replace HB4a := hide (block_upW hb HB4a.out)
    replace HB4b := hide (block_upW hb HB4b.out)
    replace HB5a := hide (block_upW hb HB5a.out)
    replace HB5b := hide (block_upW hb HB5b.out)
    replace HAq1 := hide (HAq1.out.below hb)
    replace HAr1 := hide (HAr1.out.below hb)
    replace HAq2 := hide (HAq2.out.below hb)
    replace HAr2 := hide (HAr2.out.below hb)
    replace HAq3 := hide (HAq3.out.below hb)
    replace HAr3 := hide (HAr3.out.below hb)
    replace HAq4 := hide (HAq4.out.below hb)
    replace HAr4 := hide (HAr4.out.below hb)
    replace HAq5 := hide (HAq5.out.below hb)
    replace HAr5 := hide (HAr5.out.below hb)
    replace HG := hide (bl_trans HG.out hb)
    clear hb
    obtain ⟨ca0, ca1⟩ := duo (block_upW HG.out HBb.out)
    have C := wlawOf_any b1 _ z1 R5 (HA1.out.below HG.out) (by omega)
    rw [EQ.out.2] at C
    go_wp2_with fail
    refine C.mono ?_
    rintro e V1 ⟨⟨bn1, an1, nn1, kn1, rfl, yn⟩, hb⟩
    clear C ca0 ca1
    replace HB1a := hide (block_upW hb HB1a.out)
    replace HB1b := hide (block_upW hb HB1b.out)
    replace HB2a := hide (block_upW hb HB2a.out)
    replace HB2b := hide (block_upW hb HB2b.out)
    replace HB3a := hide (block_upW hb HB3a.out)
    replace HB3b := hide (block_upW hb HB3b.out)
    replace HB4a := hide (block_upW hb HB4a.out)
    replace HB4b := hide (block_upW hb HB4b.out)
    replace HB5a := hide (block_upW hb HB5a.out)
    replace HB5b := hide (block_upW hb HB5b.out)
    replace HAq1 := hide (HAq1.out.below hb)
    replace HAr1 := hide (HAr1.out.below hb)
    replace HAq2 := hide (HAq2.out.below hb)
    replace HAr2 := hide (HAr2.out.below hb)
    replace HAq3 := hide (HAq3.out.below hb)
    replace HAr3 := hide (HAr3.out.below hb)
    replace HAq4 := hide (HAq4.out.below hb)
    replace HAr4 := hide (HAr4.out.below hb)
    replace HAq5 := hide (HAq5.out.below hb)
    replace HAr5 := hide (HAr5.out.below hb)
    replace HG := hide (bl_trans HG.out hb)
    have C := rzabs_any _ _ V1 yn
    clear hb yn
    go_wp2_with fail
    refine C.mono ?_
    rintro e V2 ⟨⟨bz, az, nz, kz, rfl, yz⟩, hb⟩
    obtain ⟨V3, hV3, hbP, hx⟩ := enter1 V2 (.cells #[.bool bz, .slice az nz kz] 32)
    have stp := bl_trans hb hbP
    replace HB1a := hide (block_upW stp HB1a.out)
    replace HB1b := hide (block_upW stp HB1b.out)
    replace HB2a := hide (block_upW stp HB2a.out)
    replace HB2b := hide (block_upW stp HB2b.out)
    replace HB3a := hide (block_upW stp HB3a.out)
    replace HB3b := hide (block_upW stp HB3b.out)
    replace HB4a := hide (block_upW stp HB4a.out)
    replace HB4b := hide (block_upW stp HB4b.out)
    replace HB5a := hide (block_upW stp HB5a.out)
    replace HB5b := hide (block_upW stp HB5b.out)
    replace HAq1 := hide (HAq1.out.below stp)
    replace HAr1 := hide (HAr1.out.below stp)
    replace HAq2 := hide (HAq2.out.below stp)
    replace HAr2 := hide (HAr2.out.below stp)
    replace HAq3 := hide (HAq3.out.below stp)
    replace HAr3 := hide (HAr3.out.below stp)
    replace HAq4 := hide (HAq4.out.below stp)
    replace HAr4 := hide (HAr4.out.below stp)
    replace HAq5 := hide (HAq5.out.below stp)
    replace HAr5 := hide (HAr5.out.below stp)
    replace HG := hide (bl_trans HG.out stp)
    have HBz := hide hx
    have HZz := hide (yz.below hbP)
    clear C hb hbP hx yz stp
    obtain ⟨ca0, ca1⟩ := duo HB4b.out
    have C := rzof_any bs4 _ rl4 V3 HAr4.out (by have := HLr4.out; omega)
    rw [HEr4.out] at C
    go_wp2_with fail
    refine C.mono ?_
    rintro e V4 ⟨⟨bn1, an1, nn1, kn1, rfl, yn⟩, hb⟩
    clear C ca0 ca1 hV3
    replace HB1a := hide (block_upW hb HB1a.out)
    replace HB1b := hide (block_upW hb HB1b.out)
    replace HB2a := hide (block_upW hb HB2a.out)
    replace HB2b := hide (block_upW hb HB2b.out)
    replace HB3a := hide (block_upW hb HB3a.out)
    replace HB3b := hide (block_upW hb HB3b.out)
    replace HB4a := hide (block_upW hb HB4a.out)
    replace HB4b := hide (block_upW hb HB4b.out)
    replace HB5a := hide (block_upW hb HB5a.out)
    replace HB5b := hide (block_upW hb HB5b.out)
    replace HBz := hide (block_upW hb HBz.out)
    replace HAq1 := hide (HAq1.out.below hb)
    replace HAr1 := hide (HAr1.out.below hb)
    replace HAq2 := hide (HAq2.out.below hb)
    replace HAr2 := hide (HAr2.out.below hb)
    replace HAq3 := hide (HAq3.out.below hb)
    replace HAr3 := hide (HAr3.out.below hb)
    replace HAq4 := hide (HAq4.out.below hb)
    replace HAr4 := hide (HAr4.out.below hb)
    replace HAq5 := hide (HAq5.out.below hb)
    replace HAr5 := hide (HAr5.out.below hb)
    replace HZz := hide (HZz.out.below hb)
    replace HG := hide (bl_trans HG.out hb)
    have C := rzabs_any _ _ V4 yn
    clear hb yn
    go_wp2_with fail
    refine C.mono ?_
    rintro e V5 ⟨⟨bi, ai, ni, ki, rfl, yi⟩, hb⟩
    obtain ⟨V6, hV6, hbP, hx⟩ := enter1 V5 (.cells #[.bool bi, .slice ai ni ki] 32)
    have stp := bl_trans hb hbP
    replace HB1a := hide (block_upW stp HB1a.out)
    replace HB1b := hide (block_upW stp HB1b.out)
    replace HB2a := hide (block_upW stp HB2a.out)
    replace HB2b := hide (block_upW stp HB2b.out)
    replace HB3a := hide (block_upW stp HB3a.out)
    replace HB3b := hide (block_upW stp HB3b.out)
    replace HB4a := hide (block_upW stp HB4a.out)
    replace HB4b := hide (block_upW stp HB4b.out)
    replace HB5a := hide (block_upW stp HB5a.out)
    replace HB5b := hide (block_upW stp HB5b.out)
    replace HBz := hide (block_upW stp HBz.out)
    replace HAq1 := hide (HAq1.out.below stp)
    replace HAr1 := hide (HAr1.out.below stp)
    replace HAq2 := hide (HAq2.out.below stp)
    replace HAr2 := hide (HAr2.out.below stp)
    replace HAq3 := hide (HAq3.out.below stp)
    replace HAr3 := hide (HAr3.out.below stp)
    replace HAq4 := hide (HAq4.out.below stp)
    replace HAr4 := hide (HAr4.out.below stp)
    replace HAq5 := hide (HAq5.out.below stp)
    replace HAr5 := hide (HAr5.out.below stp)
    replace HZz := hide (HZz.out.below stp)
    replace HG := hide (bl_trans HG.out stp)
    have HBi := hide hx
    have HZi := hide (yi.below hbP)
    clear C hb hbP hx yi stp
    have hbd : Below V6.heap.size V6 V6.drew := (Below.refl _ _).drew
    replace HB1a := hide (block_upW hbd HB1a.out)
    replace HB1b := hide (block_upW hbd HB1b.out)
    replace HB2a := hide (block_upW hbd HB2a.out)
    replace HB2b := hide (block_upW hbd HB2b.out)
    replace HB3a := hide (block_upW hbd HB3a.out)
    replace HB3b := hide (block_upW hbd HB3b.out)
    replace HB4a := hide (block_upW hbd HB4a.out)
    replace HB4b := hide (block_upW hbd HB4b.out)
    replace HB5a := hide (block_upW hbd HB5a.out)
    replace HB5b := hide (block_upW hbd HB5b.out)
    replace HBz := hide (block_upW hbd HBz.out)
    replace HBi := hide (block_upW hbd HBi.out)
    replace HAq1 := hide (HAq1.out.below hbd)
    replace HAr1 := hide (HAr1.out.below hbd)
    replace HAq2 := hide (HAq2.out.below hbd)
    replace HAr2 := hide (HAr2.out.below hbd)
    replace HAq3 := hide (HAq3.out.below hbd)
    replace HAr3 := hide (HAr3.out.below hbd)
    replace HAq4 := hide (HAq4.out.below hbd)
    replace HAr4 := hide (HAr4.out.below hbd)
    replace HAq5 := hide (HAq5.out.below hbd)
    replace HAr5 := hide (HAr5.out.below hbd)
    replace HZz := hide (HZz.out.below hbd)
    replace HZi := hide (HZi.out.below hbd)
    replace HG := hide (bl_trans HG.out hbd)
    clear hbd
    have HBV := hide (show zB.natAbs = val z1 by rw [← EQ.out.2, zz_abs])
    have N4 : (zA - neq zA zB * zB).natAbs * 2 ≤ zB.natAbs := by rw [HR4.out, HBV.out]; exact rz_near b0 (val z0 / val z1) HMD.out
    have N5 : 0 ≤ zA - euq zA zB * zB := by rw [HR5.out]; exact rz_euclid b0 HMD.out
    have N6 : (zA - euq zA zB * zB).natAbs < zB.natAbs := by rw [HR5.out]; exact Nat.lt_of_lt_of_eq (rz_lt b0 b0 HMD.out) (by rw [← EQ.out.2, zz_abs])
    have hszb : blen (zA - neq zA zB * zB).natAbs ≤ 67108864 := by rw [HR4.out]; exact rz_blen b0 _ HMD.out (Nat.le_of_lt HYL.out)
    obtain ⟨k1, hk1, hk1a, hk1b⟩ : ∃ k1 : Int, cmpZ (((zA - neq zA zB * zB).natAbs : Int) + ((zA - neq zA zB * zB).natAbs : Int)) (zB.natAbs : Int) = k1 ∧ ¬ 0 < k1 ∧ decide (0 < k1) = false := ⟨_, rfl, near_cmp N4, decide_eq_false (near_cmp N4)⟩
    obtain ⟨k2, hk2, hk2a, hk2b⟩ : ∃ k2 : Int, sg bs5 (val rl5) = k2 ∧ ¬ k2 < 0 ∧ decide (k2 < 0) = false := by
      have h : ¬ sg bs5 (val rl5) < 0 := by rw [sg_sign, HEr5.out]; exact not_neg_sign N5
      exact ⟨_, rfl, h, decide_eq_false h⟩
    have hk3 : cmpZ (zA - euq zA zB * zB) (zB.natAbs : Int) = -1 := lt_cmp N6
    have hsz2 : blen (((zA - neq zA zB * zB).natAbs : Int)).natAbs ≤ 67108864 := by rw [Int.natAbs_natCast]; exact hszb
    clear N4 N5 N6 hszb
    have KS := hide (fun (W : World) (hg : Below V6.drew.heap.size V6.drew W) => show W.cell? ⟨V5.heap.size, 0, none⟩ = some (.bool bi) ∧ W.cell? ⟨V5.heap.size, 1, none⟩ = some (.slice ai ni ki) ∧ W.cell? ⟨V2.heap.size, 0, none⟩ = some (.bool bz) ∧ W.cell? ⟨V2.heap.size, 1, none⟩ = some (.slice az nz kz) ∧ W.cell? ⟨Q5.heap.size + 1, 0, none⟩ = some (.bool bs5) ∧ W.cell? ⟨Q5.heap.size + 1, 1, none⟩ = some (.slice as5 ns5 ks5) from ⟨(duo (block_upW hg HBi.out)).1, (duo (block_upW hg HBi.out)).2, (duo (block_upW hg HBz.out)).1, (duo (block_upW hg HBz.out)).2, (duo (block_upW hg HB5b.out)).1, (duo (block_upW hg HB5b.out)).2⟩)
    have g0 : Below V6.drew.heap.size V6.drew V6.drew := Below.refl _ _
    go_wp2
    go_region_held3 (fun w' => w'.cell? ⟨V5.heap.size, 0, none⟩ = some (.bool bi) ∧ w'.cell? ⟨V5.heap.size, 1, none⟩ = some (.slice ai ni ki) ∧ w'.cell? ⟨V2.heap.size, 0, none⟩ = some (.bool bz) ∧ w'.cell? ⟨V2.heap.size, 1, none⟩ = some (.slice az nz kz) ∧ w'.cell? ⟨Q5.heap.size + 1, 0, none⟩ = some (.bool bs5) ∧ w'.cell? ⟨Q5.heap.size + 1, 1, none⟩ = some (.slice as5 ns5 ks5)) (first | with_reducible exact KS.out _ g5 | with_reducible exact KS.out _ g4 | with_reducible exact KS.out _ g3 | with_reducible exact KS.out _ g2 | with_reducible exact KS.out _ g1 | with_reducible exact KS.out _ g0) (first
      | (go_at_call 32; refine (rzcmp_any _ (.agg #[.bool bz, .slice az nz kz]) _ _ s4 yo (HZz.out.below g4)).mono ?_; rintro e' s5 ⟨rfl, hb5⟩; have g5 := bl_trans g4 hb5; rw [hk3])
      | (go_at_call 31; refine (rzof_any bs5 _ rl5 s3 (HAr5.out.below g3) (by have := HLr5.out; omega)).mono ?_; rintro e' s4 ⟨⟨bo, ao, no, ko, rfl, yo⟩, hb4⟩; have g4 := bl_trans g3 hb4; rw [HEr5.out] at yo)
      | (go_at_call 34; refine (wsign_any bs5 _ rl5 s2 (HAr5.out.below g2)).mono ?_; rintro e' s3 ⟨rfl, hb3⟩; have g3 := bl_trans g2 hb3; rw [hk2])
      | (go_at_call 32; refine (rzcmp_any _ (.agg #[.bool bz, .slice az nz kz]) _ _ s1 yu (HZz.out.below g1)).mono ?_; rintro e' s2 ⟨rfl, hb2⟩; have g2 := bl_trans g1 hb2; rw [hk1])
      | (go_at_call 33; refine (rzadd_any (.agg #[.bool bi, .slice ai ni ki]) (.agg #[.bool bi, .slice ai ni ki]) _ _ V6.drew (HZi.out.below g0) (HZi.out.below g0) (Nat.le_trans hsz2 (by omega)) (Nat.le_trans hsz2 (by omega))).mono ?_; rintro e' s1 ⟨⟨bu, au, nu, ku, rfl, yu⟩, hb1⟩; have g1 := bl_trans g0 hb1))
    replace HB1a := hide (block_upW g5 HB1a.out)
    replace HB1b := hide (block_upW g5 HB1b.out)
    replace HB2a := hide (block_upW g5 HB2a.out)
    replace HB2b := hide (block_upW g5 HB2b.out)
    replace HB3a := hide (block_upW g5 HB3a.out)
    replace HB3b := hide (block_upW g5 HB3b.out)
    replace HB4a := hide (block_upW g5 HB4a.out)
    replace HB4b := hide (block_upW g5 HB4b.out)
    replace HB5a := hide (block_upW g5 HB5a.out)
    replace HB5b := hide (block_upW g5 HB5b.out)
    replace HBz := hide (block_upW g5 HBz.out)
    replace HBi := hide (block_upW g5 HBi.out)
    replace HAq1 := hide (HAq1.out.below g5)
    replace HAr1 := hide (HAr1.out.below g5)
    replace HAq2 := hide (HAq2.out.below g5)
    replace HAr2 := hide (HAr2.out.below g5)
    replace HAq3 := hide (HAq3.out.below g5)
    replace HAr3 := hide (HAr3.out.below g5)
    replace HAq4 := hide (HAq4.out.below g5)
    replace HAr4 := hide (HAr4.out.below g5)
    replace HAq5 := hide (HAq5.out.below g5)
    replace HAr5 := hide (HAr5.out.below g5)
    replace HZz := hide (HZz.out.below g5)
    replace HZi := hide (HZi.out.below g5)
    replace HG := hide (bl_trans HG.out g5)
    clear KS hb1 hb2 hb3 hb4 hb5 g0 g1 g2 g3 g4 g5
    clear yu yo hk1 hk2 hk3 hV6
    skip
    obtain ⟨ca0, ca1⟩ := duo HB1b.out
    obtain ⟨cb0, cb1⟩ := duo HB2b.out
    obtain ⟨cc0, cc1⟩ := duo HB3b.out
    obtain ⟨X0, hX0, hst, hx⟩ := enter1 s5 (.cells #[.bool bs1, .slice as1 ns1 ks1, .bool bs2, .slice as2 ns2 ks2, .bool bs3, .slice as3 ns3 ks3] 27)
    have HLS := hide hx
    replace HB1a := hide (block_upW hst HB1a.out)
    replace HB1b := hide (block_upW hst HB1b.out)
    replace HB2a := hide (block_upW hst HB2a.out)
    replace HB2b := hide (block_upW hst HB2b.out)
    replace HB3a := hide (block_upW hst HB3a.out)
    replace HB3b := hide (block_upW hst HB3b.out)
    replace HB4a := hide (block_upW hst HB4a.out)
    replace HB4b := hide (block_upW hst HB4b.out)
    replace HB5a := hide (block_upW hst HB5a.out)
    replace HB5b := hide (block_upW hst HB5b.out)
    replace HBz := hide (block_upW hst HBz.out)
    replace HBi := hide (block_upW hst HBi.out)
    replace HAq1 := hide (HAq1.out.below hst)
    replace HAr1 := hide (HAr1.out.below hst)
    replace HAq2 := hide (HAq2.out.below hst)
    replace HAr2 := hide (HAr2.out.below hst)
    replace HAq3 := hide (HAq3.out.below hst)
    replace HAr3 := hide (HAr3.out.below hst)
    replace HAq4 := hide (HAq4.out.below hst)
    replace HAr4 := hide (HAr4.out.below hst)
    replace HAq5 := hide (HAq5.out.below hst)
    replace HAr5 := hide (HAr5.out.below hst)
    replace HZz := hide (HZz.out.below hst)
    replace HZi := hide (HZi.out.below hst)
    replace HG := hide (bl_trans HG.out hst)
    clear hst hx
    go_wp2
    clear ca0 ca1 cb0 cb1 cc0 cc1
    refine wp_loop_rounds 4 ?_
    have cl0 : X0.cell? ⟨s5.heap.size, 0, none⟩ = some (.bool bs1) := by simp [World.cell?, HLS.out]
    have cl1 : X0.cell? ⟨s5.heap.size, 1, none⟩ = some (.slice as1 ns1 ks1) := by simp [World.cell?, HLS.out]
    obtain ⟨X1, hX1, hst, hx⟩ := enter1 X0 (.cells #[.bool bs1, .slice as1 ns1 ks1] 27)
    have HRx1 := hide hx
    replace HB1a := hide (block_upW hst HB1a.out)
    replace HB1b := hide (block_upW hst HB1b.out)
    replace HB2a := hide (block_upW hst HB2a.out)
    replace HB2b := hide (block_upW hst HB2b.out)
    replace HB3a := hide (block_upW hst HB3a.out)
    replace HB3b := hide (block_upW hst HB3b.out)
    replace HB4a := hide (block_upW hst HB4a.out)
    replace HB4b := hide (block_upW hst HB4b.out)
    replace HB5a := hide (block_upW hst HB5a.out)
    replace HB5b := hide (block_upW hst HB5b.out)
    replace HBz := hide (block_upW hst HBz.out)
    replace HBi := hide (block_upW hst HBi.out)
    replace HLS := hide (block_upW hst HLS.out)
    replace HAq1 := hide (HAq1.out.below hst)
    replace HAr1 := hide (HAr1.out.below hst)
    replace HAq2 := hide (HAq2.out.below hst)
    replace HAr2 := hide (HAr2.out.below hst)
    replace HAq3 := hide (HAq3.out.below hst)
    replace HAr3 := hide (HAr3.out.below hst)
    replace HAq4 := hide (HAq4.out.below hst)
    replace HAr4 := hide (HAr4.out.below hst)
    replace HAq5 := hide (HAq5.out.below hst)
    replace HAr5 := hide (HAr5.out.below hst)
    replace HZz := hide (HZz.out.below hst)
    replace HZi := hide (HZi.out.below hst)
    replace HG := hide (bl_trans HG.out hst)
    clear hst hx
    have hbd : Below X1.heap.size X1 X1.drew := (Below.refl _ _).drew
    replace HB1a := hide (block_upW hbd HB1a.out)
    replace HB1b := hide (block_upW hbd HB1b.out)
    replace HB2a := hide (block_upW hbd HB2a.out)
    replace HB2b := hide (block_upW hbd HB2b.out)
    replace HB3a := hide (block_upW hbd HB3a.out)
    replace HB3b := hide (block_upW hbd HB3b.out)
    replace HB4a := hide (block_upW hbd HB4a.out)
    replace HB4b := hide (block_upW hbd HB4b.out)
    replace HB5a := hide (block_upW hbd HB5a.out)
    replace HB5b := hide (block_upW hbd HB5b.out)
    replace HBz := hide (block_upW hbd HBz.out)
    replace HBi := hide (block_upW hbd HBi.out)
    replace HLS := hide (block_upW hbd HLS.out)
    replace HRx1 := hide (block_upW hbd HRx1.out)
    replace HAq1 := hide (HAq1.out.below hbd)
    replace HAr1 := hide (HAr1.out.below hbd)
    replace HAq2 := hide (HAq2.out.below hbd)
    replace HAr2 := hide (HAr2.out.below hbd)
    replace HAq3 := hide (HAq3.out.below hbd)
    replace HAr3 := hide (HAr3.out.below hbd)
    replace HAq4 := hide (HAq4.out.below hbd)
    replace HAr4 := hide (HAr4.out.below hbd)
    replace HAq5 := hide (HAq5.out.below hbd)
    replace HAr5 := hide (HAr5.out.below hbd)
    replace HZz := hide (HZz.out.below hbd)
    replace HZi := hide (HZi.out.below hbd)
    replace HG := hide (bl_trans HG.out hbd)
    clear hbd
    have hlt : cmpZ (((zA - quq zA zB * zB).natAbs : Int)) (zB.natAbs : Int) = -1 := lt_cmp (by rw [Int.natAbs_natCast, HR1.out, HBV.out]; exact rz_lt b0 false HMD.out)
    rw [rounds_succ]
    have KS := hide (fun (W : World) (hg : Below X1.drew.heap.size X1.drew W) => show W.cell? ⟨X0.heap.size, 0, none⟩ = some (.bool bs1) ∧ W.cell? ⟨X0.heap.size, 1, none⟩ = some (.slice as1 ns1 ks1) ∧ W.cell? ⟨V2.heap.size, 0, none⟩ = some (.bool bz) ∧ W.cell? ⟨V2.heap.size, 1, none⟩ = some (.slice az nz kz) from ⟨(duo (block_upW hg HRx1.out)).1, (duo (block_upW hg HRx1.out)).2, (duo (block_upW hg HBz.out)).1, (duo (block_upW hg HBz.out)).2⟩)
    have g0 : Below X1.drew.heap.size X1.drew X1.drew := Below.refl _ _
    go_wp2
    go_region_held3 (fun w' => w'.cell? ⟨X0.heap.size, 0, none⟩ = some (.bool bs1) ∧ w'.cell? ⟨X0.heap.size, 1, none⟩ = some (.slice as1 ns1 ks1) ∧ w'.cell? ⟨V2.heap.size, 0, none⟩ = some (.bool bz) ∧ w'.cell? ⟨V2.heap.size, 1, none⟩ = some (.slice az nz kz)) (first | with_reducible exact KS.out _ g3 | with_reducible exact KS.out _ g2 | with_reducible exact KS.out _ g1 | with_reducible exact KS.out _ g0) (first
      | (go_at_call 32; refine (rzcmp_any _ (.agg #[.bool bz, .slice az nz kz]) _ _ s2 yu (HZz.out.below g2)).mono ?_; rintro e' s3 ⟨rfl, hb3⟩; have g3 := bl_trans g2 hb3; rw [hlt])
      | (go_at_call 30; refine (rzabs_any _ _ s1 yo).mono ?_; rintro e' s2 ⟨⟨bu, au, nu, ku, rfl, yu⟩, hb2⟩; have g2 := bl_trans g1 hb2)
      | (go_at_call 31; refine (rzof_any bs1 _ rl1 X1.drew (HAr1.out.below g0) (by have := HLr1.out; omega)).mono ?_; rintro e' s1 ⟨⟨bo, ao, no, ko, rfl, yo⟩, hb1⟩; have g1 := bl_trans g0 hb1; rw [HEr1.out] at yo))
    replace HB1a := hide (block_upW g3 HB1a.out)
    replace HB1b := hide (block_upW g3 HB1b.out)
    replace HB2a := hide (block_upW g3 HB2a.out)
    replace HB2b := hide (block_upW g3 HB2b.out)
    replace HB3a := hide (block_upW g3 HB3a.out)
    replace HB3b := hide (block_upW g3 HB3b.out)
    replace HB4a := hide (block_upW g3 HB4a.out)
    replace HB4b := hide (block_upW g3 HB4b.out)
    replace HB5a := hide (block_upW g3 HB5a.out)
    replace HB5b := hide (block_upW g3 HB5b.out)
    replace HBz := hide (block_upW g3 HBz.out)
    replace HBi := hide (block_upW g3 HBi.out)
    replace HLS := hide (block_upW g3 HLS.out)
    replace HRx1 := hide (block_upW g3 HRx1.out)
    replace HAq1 := hide (HAq1.out.below g3)
    replace HAr1 := hide (HAr1.out.below g3)
    replace HAq2 := hide (HAq2.out.below g3)
    replace HAr2 := hide (HAr2.out.below g3)
    replace HAq3 := hide (HAq3.out.below g3)
    replace HAr3 := hide (HAr3.out.below g3)
    replace HAq4 := hide (HAq4.out.below g3)
    replace HAr4 := hide (HAr4.out.below g3)
    replace HAq5 := hide (HAq5.out.below g3)
    replace HAr5 := hide (HAr5.out.below g3)
    replace HZz := hide (HZz.out.below g3)
    replace HZi := hide (HZi.out.below g3)
    replace HG := hide (bl_trans HG.out g3)
    clear KS hb1 hb2 hb3 g0 g1 g2 g3
    skip
    clear yo yu hlt cl0 cl1 hX1 hX0
    go_wp2
    skip
    generalize s3 = L1 at *
    have cl0 : L1.cell? ⟨s5.heap.size, 2, none⟩ = some (.bool bs2) := by simp [World.cell?, HLS.out]
    have cl1 : L1.cell? ⟨s5.heap.size, 3, none⟩ = some (.slice as2 ns2 ks2) := by simp [World.cell?, HLS.out]
    obtain ⟨X2, hX2, hst, hx⟩ := enter1 L1 (.cells #[.bool bs2, .slice as2 ns2 ks2] 27)
    have HRx2 := hide hx
    replace HB1a := hide (block_upW hst HB1a.out)
    replace HB1b := hide (block_upW hst HB1b.out)
    replace HB2a := hide (block_upW hst HB2a.out)
    replace HB2b := hide (block_upW hst HB2b.out)
    replace HB3a := hide (block_upW hst HB3a.out)
    replace HB3b := hide (block_upW hst HB3b.out)
    replace HB4a := hide (block_upW hst HB4a.out)
    replace HB4b := hide (block_upW hst HB4b.out)
    replace HB5a := hide (block_upW hst HB5a.out)
    replace HB5b := hide (block_upW hst HB5b.out)
    replace HBz := hide (block_upW hst HBz.out)
    replace HBi := hide (block_upW hst HBi.out)
    replace HLS := hide (block_upW hst HLS.out)
    replace HRx1 := hide (block_upW hst HRx1.out)
    replace HAq1 := hide (HAq1.out.below hst)
    replace HAr1 := hide (HAr1.out.below hst)
    replace HAq2 := hide (HAq2.out.below hst)
    replace HAr2 := hide (HAr2.out.below hst)
    replace HAq3 := hide (HAq3.out.below hst)
    replace HAr3 := hide (HAr3.out.below hst)
    replace HAq4 := hide (HAq4.out.below hst)
    replace HAr4 := hide (HAr4.out.below hst)
    replace HAq5 := hide (HAq5.out.below hst)
    replace HAr5 := hide (HAr5.out.below hst)
    replace HZz := hide (HZz.out.below hst)
    replace HZi := hide (HZi.out.below hst)
    replace HG := hide (bl_trans HG.out hst)
    clear hst hx
    have hbd : Below X2.heap.size X2 X2.drew := (Below.refl _ _).drew
    replace HB1a := hide (block_upW hbd HB1a.out)
    replace HB1b := hide (block_upW hbd HB1b.out)
    replace HB2a := hide (block_upW hbd HB2a.out)
    replace HB2b := hide (block_upW hbd HB2b.out)
    replace HB3a := hide (block_upW hbd HB3a.out)
    replace HB3b := hide (block_upW hbd HB3b.out)
    replace HB4a := hide (block_upW hbd HB4a.out)
    replace HB4b := hide (block_upW hbd HB4b.out)
    replace HB5a := hide (block_upW hbd HB5a.out)
    replace HB5b := hide (block_upW hbd HB5b.out)
    replace HBz := hide (block_upW hbd HBz.out)
    replace HBi := hide (block_upW hbd HBi.out)
    replace HLS := hide (block_upW hbd HLS.out)
    replace HRx1 := hide (block_upW hbd HRx1.out)
    replace HRx2 := hide (block_upW hbd HRx2.out)
    replace HAq1 := hide (HAq1.out.below hbd)
    replace HAr1 := hide (HAr1.out.below hbd)
    replace HAq2 := hide (HAq2.out.below hbd)
    replace HAr2 := hide (HAr2.out.below hbd)
    replace HAq3 := hide (HAq3.out.below hbd)
    replace HAr3 := hide (HAr3.out.below hbd)
    replace HAq4 := hide (HAq4.out.below hbd)
    replace HAr4 := hide (HAr4.out.below hbd)
    replace HAq5 := hide (HAq5.out.below hbd)
    replace HAr5 := hide (HAr5.out.below hbd)
    replace HZz := hide (HZz.out.below hbd)
    replace HZi := hide (HZi.out.below hbd)
    replace HG := hide (bl_trans HG.out hbd)
    clear hbd
    have hlt : cmpZ (((zA - flq zA zB * zB).natAbs : Int)) (zB.natAbs : Int) = -1 := lt_cmp (by rw [Int.natAbs_natCast, HR2.out, HBV.out]; exact rz_lt b0 (b0 != b1) HMD.out)
    rw [rounds_succ]
    have KS := hide (fun (W : World) (hg : Below X2.drew.heap.size X2.drew W) => show W.cell? ⟨L1.heap.size, 0, none⟩ = some (.bool bs2) ∧ W.cell? ⟨L1.heap.size, 1, none⟩ = some (.slice as2 ns2 ks2) ∧ W.cell? ⟨V2.heap.size, 0, none⟩ = some (.bool bz) ∧ W.cell? ⟨V2.heap.size, 1, none⟩ = some (.slice az nz kz) from ⟨(duo (block_upW hg HRx2.out)).1, (duo (block_upW hg HRx2.out)).2, (duo (block_upW hg HBz.out)).1, (duo (block_upW hg HBz.out)).2⟩)
    have g0 : Below X2.drew.heap.size X2.drew X2.drew := Below.refl _ _
    go_wp2
    go_region_held3 (fun w' => w'.cell? ⟨L1.heap.size, 0, none⟩ = some (.bool bs2) ∧ w'.cell? ⟨L1.heap.size, 1, none⟩ = some (.slice as2 ns2 ks2) ∧ w'.cell? ⟨V2.heap.size, 0, none⟩ = some (.bool bz) ∧ w'.cell? ⟨V2.heap.size, 1, none⟩ = some (.slice az nz kz)) (first | with_reducible exact KS.out _ g3 | with_reducible exact KS.out _ g2 | with_reducible exact KS.out _ g1 | with_reducible exact KS.out _ g0) (first
      | (go_at_call 32; refine (rzcmp_any _ (.agg #[.bool bz, .slice az nz kz]) _ _ s2 yu (HZz.out.below g2)).mono ?_; rintro e' s3 ⟨rfl, hb3⟩; have g3 := bl_trans g2 hb3; rw [hlt])
      | (go_at_call 30; refine (rzabs_any _ _ s1 yo).mono ?_; rintro e' s2 ⟨⟨bu, au, nu, ku, rfl, yu⟩, hb2⟩; have g2 := bl_trans g1 hb2)
      | (go_at_call 31; refine (rzof_any bs2 _ rl2 X2.drew (HAr2.out.below g0) (by have := HLr2.out; omega)).mono ?_; rintro e' s1 ⟨⟨bo, ao, no, ko, rfl, yo⟩, hb1⟩; have g1 := bl_trans g0 hb1; rw [HEr2.out] at yo))
    replace HB1a := hide (block_upW g3 HB1a.out)
    replace HB1b := hide (block_upW g3 HB1b.out)
    replace HB2a := hide (block_upW g3 HB2a.out)
    replace HB2b := hide (block_upW g3 HB2b.out)
    replace HB3a := hide (block_upW g3 HB3a.out)
    replace HB3b := hide (block_upW g3 HB3b.out)
    replace HB4a := hide (block_upW g3 HB4a.out)
    replace HB4b := hide (block_upW g3 HB4b.out)
    replace HB5a := hide (block_upW g3 HB5a.out)
    replace HB5b := hide (block_upW g3 HB5b.out)
    replace HBz := hide (block_upW g3 HBz.out)
    replace HBi := hide (block_upW g3 HBi.out)
    replace HLS := hide (block_upW g3 HLS.out)
    replace HRx1 := hide (block_upW g3 HRx1.out)
    replace HRx2 := hide (block_upW g3 HRx2.out)
    replace HAq1 := hide (HAq1.out.below g3)
    replace HAr1 := hide (HAr1.out.below g3)
    replace HAq2 := hide (HAq2.out.below g3)
    replace HAr2 := hide (HAr2.out.below g3)
    replace HAq3 := hide (HAq3.out.below g3)
    replace HAr3 := hide (HAr3.out.below g3)
    replace HAq4 := hide (HAq4.out.below g3)
    replace HAr4 := hide (HAr4.out.below g3)
    replace HAq5 := hide (HAq5.out.below g3)
    replace HAr5 := hide (HAr5.out.below g3)
    replace HZz := hide (HZz.out.below g3)
    replace HZi := hide (HZi.out.below g3)
    replace HG := hide (bl_trans HG.out g3)
    clear KS hb1 hb2 hb3 g0 g1 g2 g3
    skip
    clear yo yu hlt cl0 cl1 hX2
    go_wp2
    skip
    generalize s3 = L2 at *
    have cl0 : L2.cell? ⟨s5.heap.size, 4, none⟩ = some (.bool bs3) := by simp [World.cell?, HLS.out]
    have cl1 : L2.cell? ⟨s5.heap.size, 5, none⟩ = some (.slice as3 ns3 ks3) := by simp [World.cell?, HLS.out]
    obtain ⟨X3, hX3, hst, hx⟩ := enter1 L2 (.cells #[.bool bs3, .slice as3 ns3 ks3] 27)
    have HRx3 := hide hx
    replace HB1a := hide (block_upW hst HB1a.out)
    replace HB1b := hide (block_upW hst HB1b.out)
    replace HB2a := hide (block_upW hst HB2a.out)
    replace HB2b := hide (block_upW hst HB2b.out)
    replace HB3a := hide (block_upW hst HB3a.out)
    replace HB3b := hide (block_upW hst HB3b.out)
    replace HB4a := hide (block_upW hst HB4a.out)
    replace HB4b := hide (block_upW hst HB4b.out)
    replace HB5a := hide (block_upW hst HB5a.out)
    replace HB5b := hide (block_upW hst HB5b.out)
    replace HBz := hide (block_upW hst HBz.out)
    replace HBi := hide (block_upW hst HBi.out)
    replace HLS := hide (block_upW hst HLS.out)
    replace HRx1 := hide (block_upW hst HRx1.out)
    replace HRx2 := hide (block_upW hst HRx2.out)
    replace HAq1 := hide (HAq1.out.below hst)
    replace HAr1 := hide (HAr1.out.below hst)
    replace HAq2 := hide (HAq2.out.below hst)
    replace HAr2 := hide (HAr2.out.below hst)
    replace HAq3 := hide (HAq3.out.below hst)
    replace HAr3 := hide (HAr3.out.below hst)
    replace HAq4 := hide (HAq4.out.below hst)
    replace HAr4 := hide (HAr4.out.below hst)
    replace HAq5 := hide (HAq5.out.below hst)
    replace HAr5 := hide (HAr5.out.below hst)
    replace HZz := hide (HZz.out.below hst)
    replace HZi := hide (HZi.out.below hst)
    replace HG := hide (bl_trans HG.out hst)
    clear hst hx
    have hbd : Below X3.heap.size X3 X3.drew := (Below.refl _ _).drew
    replace HB1a := hide (block_upW hbd HB1a.out)
    replace HB1b := hide (block_upW hbd HB1b.out)
    replace HB2a := hide (block_upW hbd HB2a.out)
    replace HB2b := hide (block_upW hbd HB2b.out)
    replace HB3a := hide (block_upW hbd HB3a.out)
    replace HB3b := hide (block_upW hbd HB3b.out)
    replace HB4a := hide (block_upW hbd HB4a.out)
    replace HB4b := hide (block_upW hbd HB4b.out)
    replace HB5a := hide (block_upW hbd HB5a.out)
    replace HB5b := hide (block_upW hbd HB5b.out)
    replace HBz := hide (block_upW hbd HBz.out)
    replace HBi := hide (block_upW hbd HBi.out)
    replace HLS := hide (block_upW hbd HLS.out)
    replace HRx1 := hide (block_upW hbd HRx1.out)
    replace HRx2 := hide (block_upW hbd HRx2.out)
    replace HRx3 := hide (block_upW hbd HRx3.out)
    replace HAq1 := hide (HAq1.out.below hbd)
    replace HAr1 := hide (HAr1.out.below hbd)
    replace HAq2 := hide (HAq2.out.below hbd)
    replace HAr2 := hide (HAr2.out.below hbd)
    replace HAq3 := hide (HAq3.out.below hbd)
    replace HAr3 := hide (HAr3.out.below hbd)
    replace HAq4 := hide (HAq4.out.below hbd)
    replace HAr4 := hide (HAr4.out.below hbd)
    replace HAq5 := hide (HAq5.out.below hbd)
    replace HAr5 := hide (HAr5.out.below hbd)
    replace HZz := hide (HZz.out.below hbd)
    replace HZi := hide (HZi.out.below hbd)
    replace HG := hide (bl_trans HG.out hbd)
    clear hbd
    have hlt : cmpZ (((zA - ceq zA zB * zB).natAbs : Int)) (zB.natAbs : Int) = -1 := lt_cmp (by rw [Int.natAbs_natCast, HR3.out, HBV.out]; exact rz_lt b0 (!(b0 != b1)) HMD.out)
    rw [rounds_succ]
    have KS := hide (fun (W : World) (hg : Below X3.drew.heap.size X3.drew W) => show W.cell? ⟨L2.heap.size, 0, none⟩ = some (.bool bs3) ∧ W.cell? ⟨L2.heap.size, 1, none⟩ = some (.slice as3 ns3 ks3) ∧ W.cell? ⟨V2.heap.size, 0, none⟩ = some (.bool bz) ∧ W.cell? ⟨V2.heap.size, 1, none⟩ = some (.slice az nz kz) from ⟨(duo (block_upW hg HRx3.out)).1, (duo (block_upW hg HRx3.out)).2, (duo (block_upW hg HBz.out)).1, (duo (block_upW hg HBz.out)).2⟩)
    have g0 : Below X3.drew.heap.size X3.drew X3.drew := Below.refl _ _
    go_wp2
    go_region_held3 (fun w' => w'.cell? ⟨L2.heap.size, 0, none⟩ = some (.bool bs3) ∧ w'.cell? ⟨L2.heap.size, 1, none⟩ = some (.slice as3 ns3 ks3) ∧ w'.cell? ⟨V2.heap.size, 0, none⟩ = some (.bool bz) ∧ w'.cell? ⟨V2.heap.size, 1, none⟩ = some (.slice az nz kz)) (first | with_reducible exact KS.out _ g3 | with_reducible exact KS.out _ g2 | with_reducible exact KS.out _ g1 | with_reducible exact KS.out _ g0) (first
      | (go_at_call 32; refine (rzcmp_any _ (.agg #[.bool bz, .slice az nz kz]) _ _ s2 yu (HZz.out.below g2)).mono ?_; rintro e' s3 ⟨rfl, hb3⟩; have g3 := bl_trans g2 hb3; rw [hlt])
      | (go_at_call 30; refine (rzabs_any _ _ s1 yo).mono ?_; rintro e' s2 ⟨⟨bu, au, nu, ku, rfl, yu⟩, hb2⟩; have g2 := bl_trans g1 hb2)
      | (go_at_call 31; refine (rzof_any bs3 _ rl3 X3.drew (HAr3.out.below g0) (by have := HLr3.out; omega)).mono ?_; rintro e' s1 ⟨⟨bo, ao, no, ko, rfl, yo⟩, hb1⟩; have g1 := bl_trans g0 hb1; rw [HEr3.out] at yo))
    replace HB1a := hide (block_upW g3 HB1a.out)
    replace HB1b := hide (block_upW g3 HB1b.out)
    replace HB2a := hide (block_upW g3 HB2a.out)
    replace HB2b := hide (block_upW g3 HB2b.out)
    replace HB3a := hide (block_upW g3 HB3a.out)
    replace HB3b := hide (block_upW g3 HB3b.out)
    replace HB4a := hide (block_upW g3 HB4a.out)
    replace HB4b := hide (block_upW g3 HB4b.out)
    replace HB5a := hide (block_upW g3 HB5a.out)
    replace HB5b := hide (block_upW g3 HB5b.out)
    replace HBz := hide (block_upW g3 HBz.out)
    replace HBi := hide (block_upW g3 HBi.out)
    replace HLS := hide (block_upW g3 HLS.out)
    replace HRx1 := hide (block_upW g3 HRx1.out)
    replace HRx2 := hide (block_upW g3 HRx2.out)
    replace HRx3 := hide (block_upW g3 HRx3.out)
    replace HAq1 := hide (HAq1.out.below g3)
    replace HAr1 := hide (HAr1.out.below g3)
    replace HAq2 := hide (HAq2.out.below g3)
    replace HAr2 := hide (HAr2.out.below g3)
    replace HAq3 := hide (HAq3.out.below g3)
    replace HAr3 := hide (HAr3.out.below g3)
    replace HAq4 := hide (HAq4.out.below g3)
    replace HAr4 := hide (HAr4.out.below g3)
    replace HAq5 := hide (HAq5.out.below g3)
    replace HAr5 := hide (HAr5.out.below g3)
    replace HZz := hide (HZz.out.below g3)
    replace HZi := hide (HZi.out.below g3)
    replace HG := hide (bl_trans HG.out g3)
    clear KS hb1 hb2 hb3 g0 g1 g2 g3
    skip
    clear yo yu hlt cl0 cl1 hX3
    go_wp2
    skip
    generalize s3 = L3 at *
    rw [rounds_succ]
    skip
    have HGAP := hide (show ceq zA zB - flq zA zB = (if val z0 % val z1 = 0 then 0 else 1) by rw [HQ3.out, HQ2.out]; exact gap_step b0 b1 _ _)
    have hb3q : blen (ceq zA zB).natAbs ≤ 67108864 := by rw [HQ3.out]; exact quo_blen _ _ HXL.out
    have hb2q : blen (flq zA zB).natAbs ≤ 67108864 := by rw [HQ2.out]; exact quo_blen _ _ HXL.out
    have OF3 := hide (fun (W : World) (hg : Below L3.heap.size L3 W) => show Calls Tryz.prog 31 #[.bool bp3, .slice ap3 np3 kp3] W (ZnDone W (ceq zA zB)) by
      have h := rzof_any bp3 _ ql3 W (HAq3.out.below hg) (by have := HLq3.out; omega)
      rw [HEq3.out] at h
      exact h)
    have OF2 := hide (fun (W : World) (hg : Below L3.heap.size L3 W) => show Calls Tryz.prog 31 #[.bool bp2, .slice ap2 np2 kp2] W (ZnDone W (flq zA zB)) by
      have h := rzof_any bp2 _ ql2 W (HAq2.out.below hg) (by have := HLq2.out; omega)
      rw [HEq2.out] at h
      exact h)
    have KS := hide (fun (W : World) (hg : Below L3.heap.size L3 W) => show W.cell? ⟨Q3.heap.size, 0, none⟩ = some (.bool bp3) ∧ W.cell? ⟨Q3.heap.size, 1, none⟩ = some (.slice ap3 np3 kp3) ∧ W.cell? ⟨Q2.heap.size, 0, none⟩ = some (.bool bp2) ∧ W.cell? ⟨Q2.heap.size, 1, none⟩ = some (.slice ap2 np2 kp2) from ⟨(duo (block_upW hg HB3a.out)).1, (duo (block_upW hg HB3a.out)).2, (duo (block_upW hg HB2a.out)).1, (duo (block_upW hg HB2a.out)).2⟩)
    go_upto_region 23 with fail
    go_cut [26] from 179 to 190 (fun s wx => ∃ (g : Nat) (b' : Bool) (a' : Option Addr) (n' k' : Nat), s = .pointer (some ⟨g, 0, none⟩) ∧ wx.heap[g]? = some (.cells #[.bool b', .slice a' n' k'] 32) ∧ Zn wx (.agg #[.bool b', .slice a' n' k']) (ceq zA zB - flq zA zB) ∧ Below L3.heap.size L3 wx)
    case first =>
      have g0 : Below L3.heap.size L3 L3.drew := (Below.refl _ _).drew
      go_region_held3 (fun w' => w'.cell? ⟨Q3.heap.size, 0, none⟩ = some (.bool bp3) ∧ w'.cell? ⟨Q3.heap.size, 1, none⟩ = some (.slice ap3 np3 kp3) ∧ w'.cell? ⟨Q2.heap.size, 0, none⟩ = some (.bool bp2) ∧ w'.cell? ⟨Q2.heap.size, 1, none⟩ = some (.slice ap2 np2 kp2)) (first
        | with_reducible exact KS.out _ g3 | with_reducible exact KS.out _ (bl_alloc g3 _) | with_reducible exact KS.out _ (below_duo g3 gz)
        | with_reducible exact KS.out _ g2 | with_reducible exact KS.out _ (bl_alloc g2 _)
        | with_reducible exact KS.out _ g1 | with_reducible exact KS.out _ (bl_alloc g1 _)
        | with_reducible exact KS.out _ g0 | with_reducible exact KS.out _ (bl_drew (bl_alloc (Below.refl _ _) _))) (first
        | (go_at_call_of 31 ap3; refine (OF3.out _ (by first | with_reducible exact g0 | with_reducible exact bl_drew (bl_alloc (Below.refl _ _) _))).mono ?_; rintro e' m1 ⟨⟨b1', a1', n1', k1', rfl, y1⟩, hb1⟩; have g1 : Below L3.heap.size L3 m1 := bl_trans (by first | with_reducible exact g0 | with_reducible exact bl_drew (bl_alloc (Below.refl _ _) _)) hb1; (first | (with_reducible have hq1 := made1d hb1) | (with_reducible have hq1 := made1 hb1) | skip))
        | (go_at_call_of 31 ap2; refine (OF2.out _ (by first | with_reducible exact g1 | with_reducible exact bl_alloc g1 _)).mono ?_; rintro e' m2 ⟨⟨b2', a2', n2', k2', rfl, y2⟩, hb2⟩; have d2 : Below m1.heap.size m1 m2 := bl_trans (by first | with_reducible exact Below.refl _ _ | with_reducible exact below_one6 _ _) hb2; have g2 := bl_trans g1 d2; have y12 := y1.below d2; (first | (with_reducible have hq2 := made1 hb2) | (with_reducible have hq2 := up0 hb2 hq1) | skip))
        | (go_at_call 35; refine (rzsub_any (.agg #[.bool b1', .slice a1' n1' k1']) (.agg #[.bool b2', .slice a2' n2' k2']) (ceq zA zB) (flq zA zB) _ (y12.below (by first | with_reducible exact Below.refl _ _ | with_reducible exact below_one6 _ _)) (y2.below (by first | with_reducible exact Below.refl _ _ | with_reducible exact below_one6 _ _)) (by omega) (by omega)).mono ?_; rintro e' m3 ⟨⟨b3', a3', n3', k3', rfl, y3⟩, hb3⟩; have d3 : Below m2.heap.size m2 m3 := bl_trans (by first | with_reducible exact Below.refl _ _ | with_reducible exact below_one6 _ _) hb3; have g3 := bl_trans g2 d3; (first | (with_reducible have hq3 := made1 hb3; have gz := g2.size) | (with_reducible have hq3 := up0 hb3 hq2; (first | (with_reducible have hx := made1 hb2; have gz := g1.size) | (with_reducible have hx := made1d hb1; have gz := Nat.le_refl L3.heap.size) | (with_reducible have hx := made1 hb1; have gz := g0.size))) | skip); (first | (obtain ⟨c0, c1⟩ := duo hq3; have cf := duof hq3) | skip)))
      all_goals (go_wp2_with fail; go_meet; first
        | with_reducible exact one_a y3 g3
        | with_reducible exact one_s hq3 y3 g3 gz)
    case rest =>
      obtain ⟨gg, bg, ag, ng, kg, rfl, hgg, yg, hbx⟩ := hcut
      replace HB1a := hide (block_upW hbx HB1a.out)
      replace HB1b := hide (block_upW hbx HB1b.out)
      replace HB2a := hide (block_upW hbx HB2a.out)
      replace HB2b := hide (block_upW hbx HB2b.out)
      replace HB3a := hide (block_upW hbx HB3a.out)
      replace HB3b := hide (block_upW hbx HB3b.out)
      replace HB4a := hide (block_upW hbx HB4a.out)
      replace HB4b := hide (block_upW hbx HB4b.out)
      replace HB5a := hide (block_upW hbx HB5a.out)
      replace HB5b := hide (block_upW hbx HB5b.out)
      replace HBz := hide (block_upW hbx HBz.out)
      replace HBi := hide (block_upW hbx HBi.out)
      replace HLS := hide (block_upW hbx HLS.out)
      replace HRx1 := hide (block_upW hbx HRx1.out)
      replace HRx2 := hide (block_upW hbx HRx2.out)
      replace HRx3 := hide (block_upW hbx HRx3.out)
      replace HAq1 := hide (HAq1.out.below hbx)
      replace HAr1 := hide (HAr1.out.below hbx)
      replace HAq2 := hide (HAq2.out.below hbx)
      replace HAr2 := hide (HAr2.out.below hbx)
      replace HAq3 := hide (HAq3.out.below hbx)
      replace HAr3 := hide (HAr3.out.below hbx)
      replace HAq4 := hide (HAq4.out.below hbx)
      replace HAr4 := hide (HAr4.out.below hbx)
      replace HAq5 := hide (HAq5.out.below hbx)
      replace HAr5 := hide (HAr5.out.below hbx)
      replace HZz := hide (HZz.out.below hbx)
      replace HZi := hide (HZi.out.below hbx)
      replace HG := hide (bl_trans HG.out hbx)
      have HBg := hide hgg
      have HZg := hide yg
      clear hgg yg hbx OF3 OF2 KS hb3q hb2q
      obtain ⟨cr0, cr1⟩ := duo HB2b.out
      have Z2 := wzero_any bs2 _ rl2 _ HAr2.out
      have hz2 : val rl2 = 0 ↔ val z0 % val z1 = 0 := by
        have h1 := rz_zero b0 (b0 != b1) HMD.out
        have h2 : zz bs2 (val rl2) = rz b0 (b0 != b1) (val z0 % val z1) (val z1) := by rw [HEr2.out, HR2.out]; rfl
        rw [← h1, ← h2, zz_eq_zero]
      have S1 : 0 ≤ (zA - quq zA zB * zB) * zA := by rw [HR1.out, ← EQ.out.1]; exact rz_quo_sign b0 _ _ _
      have S2 : 0 ≤ (zA - flq zA zB * zB) * zB := by rw [HR2.out, ← EQ.out.2]; exact rz_floor_sign b0 b1 HMD.out
      have S3 : (zA - ceq zA zB * zB) * zB ≤ 0 := by rw [HR3.out, ← EQ.out.2]; exact rz_ceil_sign b0 b1 HMD.out
      have s12 := sign_ge S1
      have s34 := sign_ge S2
      have s54 := sign_le S3
      have w12 := sign_wrap (zA - quq zA zB * zB) zA
      have w34 := sign_wrap (zA - flq zA zB * zB) zB
      have w54 := sign_wrap (zA - ceq zA zB * zB) zB
      have G1 := hide (fun (W : World) (h : Arg W (.slice as1 ns1 ks1) rl1) => show Calls Tryz.prog 34 #[.agg #[.bool bs1, .slice as1 ns1 ks1]] W (fun e w' => e = .returned (.int .i64 (zA - quq zA zB * zB).sign) ∧ Below W.heap.size W w') by have h2 := wsign_any bs1 _ rl1 W h; rw [sg_sign, HEr1.out] at h2; exact h2)
      have G2 := hide (fun (W : World) (h : Arg W (.slice a0 z0.length n0) z0) => show Calls Tryz.prog 34 #[.agg #[.bool b0, .slice a0 z0.length n0]] W (fun e w' => e = .returned (.int .i64 zA.sign) ∧ Below W.heap.size W w') by have h2 := wsign_any b0 _ z0 W h; rw [sg_sign, EQ.out.1] at h2; exact h2)
      have G3 := hide (fun (W : World) (h : Arg W (.slice as2 ns2 ks2) rl2) => show Calls Tryz.prog 34 #[.agg #[.bool bs2, .slice as2 ns2 ks2]] W (fun e w' => e = .returned (.int .i64 (zA - flq zA zB * zB).sign) ∧ Below W.heap.size W w') by have h2 := wsign_any bs2 _ rl2 W h; rw [sg_sign, HEr2.out] at h2; exact h2)
      have G4 := hide (fun (W : World) (h : Arg W (.slice a1 z1.length n1) z1) => show Calls Tryz.prog 34 #[.agg #[.bool b1, .slice a1 z1.length n1]] W (fun e w' => e = .returned (.int .i64 zB.sign) ∧ Below W.heap.size W w') by have h2 := wsign_any b1 _ z1 W h; rw [sg_sign, EQ.out.2] at h2; exact h2)
      have G5 := hide (fun (W : World) (h : Arg W (.slice as3 ns3 ks3) rl3) => show Calls Tryz.prog 34 #[.agg #[.bool bs3, .slice as3 ns3 ks3]] W (fun e w' => e = .returned (.int .i64 (zA - ceq zA zB * zB).sign) ∧ Below W.heap.size W w') by have h2 := wsign_any bs3 _ rl3 W h; rw [sg_sign, HEr3.out] at h2; exact h2)
      generalize (zA - quq zA zB * zB).sign = p1 at *
      generalize zA.sign = p2 at *
      generalize (zA - flq zA zB * zB).sign = p3 at *
      generalize zB.sign = p4 at *
      generalize (zA - ceq zA zB * zB).sign = p5 at *
      have j1 : (0 : Int) ≤ p1 * p2 := s12
      have j2 : (0 : Int) ≤ p3 * p4 := s34
      have j3 : p5 * p4 ≤ (0 : Int) := s54
      have j4 : decide ((0 : Int) ≤ p1 * p2) = true := decide_eq_true s12
      have j5 : decide ((0 : Int) ≤ p3 * p4) = true := decide_eq_true s34
      have j6 : decide (p5 * p4 ≤ (0 : Int)) = true := decide_eq_true s54
      clear S1 S2 S3 s12 s34 s54
      go_wp2_with fail
      refine Z2.mono ?_
      rintro e N1 ⟨rfl, hbn⟩
      clear Z2 cr0 cr1
      replace HB1a := hide (block_upW hbn HB1a.out)
      replace HB1b := hide (block_upW hbn HB1b.out)
      replace HB2a := hide (block_upW hbn HB2a.out)
      replace HB2b := hide (block_upW hbn HB2b.out)
      replace HB3a := hide (block_upW hbn HB3a.out)
      replace HB3b := hide (block_upW hbn HB3b.out)
      replace HB4a := hide (block_upW hbn HB4a.out)
      replace HB4b := hide (block_upW hbn HB4b.out)
      replace HB5a := hide (block_upW hbn HB5a.out)
      replace HB5b := hide (block_upW hbn HB5b.out)
      replace HBz := hide (block_upW hbn HBz.out)
      replace HBi := hide (block_upW hbn HBi.out)
      replace HLS := hide (block_upW hbn HLS.out)
      replace HRx1 := hide (block_upW hbn HRx1.out)
      replace HRx2 := hide (block_upW hbn HRx2.out)
      replace HRx3 := hide (block_upW hbn HRx3.out)
      replace HBg := hide (block_upW hbn HBg.out)
      replace HAq1 := hide (HAq1.out.below hbn)
      replace HAr1 := hide (HAr1.out.below hbn)
      replace HAq2 := hide (HAq2.out.below hbn)
      replace HAr2 := hide (HAr2.out.below hbn)
      replace HAq3 := hide (HAq3.out.below hbn)
      replace HAr3 := hide (HAr3.out.below hbn)
      replace HAq4 := hide (HAq4.out.below hbn)
      replace HAr4 := hide (HAr4.out.below hbn)
      replace HAq5 := hide (HAq5.out.below hbn)
      replace HAr5 := hide (HAr5.out.below hbn)
      replace HZz := hide (HZz.out.below hbn)
      replace HZi := hide (HZi.out.below hbn)
      replace HZg := hide (HZg.out.below hbn)
      replace HG := hide (bl_trans HG.out hbn)
      clear hbn
      by_cases h0 : val rl2 = 0
      · rw [decide_eq_true h0]
        have hgp : ceq zA zB - flq zA zB = 0 := by rw [HGAP.out]; exact if_pos (hz2.1 h0)
        rw [hgp] at HZg
        clear hgp
        have hbd : Below N1.heap.size N1 N1.drew := (Below.refl _ _).drew
        replace HB1a := hide (block_upW hbd HB1a.out)
        replace HB1b := hide (block_upW hbd HB1b.out)
        replace HB2a := hide (block_upW hbd HB2a.out)
        replace HB2b := hide (block_upW hbd HB2b.out)
        replace HB3a := hide (block_upW hbd HB3a.out)
        replace HB3b := hide (block_upW hbd HB3b.out)
        replace HB4a := hide (block_upW hbd HB4a.out)
        replace HB4b := hide (block_upW hbd HB4b.out)
        replace HB5a := hide (block_upW hbd HB5a.out)
        replace HB5b := hide (block_upW hbd HB5b.out)
        replace HBz := hide (block_upW hbd HBz.out)
        replace HBi := hide (block_upW hbd HBi.out)
        replace HLS := hide (block_upW hbd HLS.out)
        replace HRx1 := hide (block_upW hbd HRx1.out)
        replace HRx2 := hide (block_upW hbd HRx2.out)
        replace HRx3 := hide (block_upW hbd HRx3.out)
        replace HBg := hide (block_upW hbd HBg.out)
        replace HAq1 := hide (HAq1.out.below hbd)
        replace HAr1 := hide (HAr1.out.below hbd)
        replace HAq2 := hide (HAq2.out.below hbd)
        replace HAr2 := hide (HAr2.out.below hbd)
        replace HAq3 := hide (HAq3.out.below hbd)
        replace HAr3 := hide (HAr3.out.below hbd)
        replace HAq4 := hide (HAq4.out.below hbd)
        replace HAr4 := hide (HAr4.out.below hbd)
        replace HAq5 := hide (HAq5.out.below hbd)
        replace HAr5 := hide (HAr5.out.below hbd)
        replace HZz := hide (HZz.out.below hbd)
        replace HZi := hide (HZi.out.below hbd)
        replace HZg := hide (HZg.out.below hbd)
        replace HG := hide (bl_trans HG.out hbd)
        clear hbd
        have hcz : cmpZ 0 0 = 0 := by decide
        have KS := hide (fun (W : World) (hg : Below N1.drew.heap.size N1.drew W) => show W.cell? ⟨Q1.heap.size + 1, 0, none⟩ = some (.bool bs1) ∧ W.cell? ⟨Q1.heap.size + 1, 1, none⟩ = some (.slice as1 ns1 ks1) ∧ W.cell? ⟨gx, 0, none⟩ = some (.bool b0) ∧ W.cell? ⟨gx, 1, none⟩ = some (.slice a0 z0.length n0) ∧ W.cell? ⟨Q2.heap.size + 1, 0, none⟩ = some (.bool bs2) ∧ W.cell? ⟨Q2.heap.size + 1, 1, none⟩ = some (.slice as2 ns2 ks2) ∧ W.cell? ⟨gy, 0, none⟩ = some (.bool b1) ∧ W.cell? ⟨gy, 1, none⟩ = some (.slice a1 z1.length n1) ∧ W.cell? ⟨Q3.heap.size + 1, 0, none⟩ = some (.bool bs3) ∧ W.cell? ⟨Q3.heap.size + 1, 1, none⟩ = some (.slice as3 ns3 ks3) ∧ W.cell? ⟨gg, 0, none⟩ = some (.bool bg) ∧ W.cell? ⟨gg, 1, none⟩ = some (.slice ag ng kg) from ⟨(duo (block_upW hg HB1b.out)).1, (duo (block_upW hg HB1b.out)).2, (duo (block_upW (bl_trans HG.out hg) HX.out)).1, (duo (block_upW (bl_trans HG.out hg) HX.out)).2, (duo (block_upW hg HB2b.out)).1, (duo (block_upW hg HB2b.out)).2, (duo (block_upW (bl_trans HG.out hg) HY.out)).1, (duo (block_upW (bl_trans HG.out hg) HY.out)).2, (duo (block_upW hg HB3b.out)).1, (duo (block_upW hg HB3b.out)).2, (duo (block_upW hg HBg.out)).1, (duo (block_upW hg HBg.out)).2⟩)
        have g0 : Below N1.drew.heap.size N1.drew N1.drew := Below.refl _ _
        go_wp2
        go_region_held3 (fun w' => w'.cell? ⟨Q1.heap.size + 1, 0, none⟩ = some (.bool bs1) ∧ w'.cell? ⟨Q1.heap.size + 1, 1, none⟩ = some (.slice as1 ns1 ks1) ∧ w'.cell? ⟨gx, 0, none⟩ = some (.bool b0) ∧ w'.cell? ⟨gx, 1, none⟩ = some (.slice a0 z0.length n0) ∧ w'.cell? ⟨Q2.heap.size + 1, 0, none⟩ = some (.bool bs2) ∧ w'.cell? ⟨Q2.heap.size + 1, 1, none⟩ = some (.slice as2 ns2 ks2) ∧ w'.cell? ⟨gy, 0, none⟩ = some (.bool b1) ∧ w'.cell? ⟨gy, 1, none⟩ = some (.slice a1 z1.length n1) ∧ w'.cell? ⟨Q3.heap.size + 1, 0, none⟩ = some (.bool bs3) ∧ w'.cell? ⟨Q3.heap.size + 1, 1, none⟩ = some (.slice as3 ns3 ks3) ∧ w'.cell? ⟨gg, 0, none⟩ = some (.bool bg) ∧ w'.cell? ⟨gg, 1, none⟩ = some (.slice ag ng kg)) (first | with_reducible exact KS.out _ g9 | with_reducible exact KS.out _ g8 | with_reducible exact KS.out _ g7 | with_reducible exact KS.out _ g6 | with_reducible exact KS.out _ g5 | with_reducible exact KS.out _ g4 | with_reducible exact KS.out _ g3 | with_reducible exact KS.out _ g2 | with_reducible exact KS.out _ g1 | with_reducible exact KS.out _ g0) (first
          | (go_at_call 24; refine (awake6_any s8 ((HT.out.below HG.out).below g8)).mono ?_; rintro e' s9 ⟨rfl, hb9⟩; have g9 := bl_trans g8 hb9)
          | (go_at_call 32; refine (rzcmp_any (.agg #[.bool bg, .slice ag ng kg]) _ _ _ s7 (HZg.out.below g7) yo).mono ?_; rintro e' s8 ⟨rfl, hb8⟩; have g8 := bl_trans g7 hb8; rw [hcz])
          | (go_at_call 36; refine (rzint_any 0 s6 (by omega) (by omega)).mono ?_; rintro e' s7 ⟨⟨bo, ao, no, ko, rfl, yo⟩, hb7⟩; have g7 := bl_trans g6 hb7)
          | (go_at_call_of 34 a1; refine (G4.out s5 ((HA1.out.below HG.out).below g5)).mono ?_; rintro e' s6 ⟨rfl, hb6⟩; have g6 := bl_trans g5 hb6)
          | (go_at_call_of 34 as3; refine (G5.out s4 (HAr3.out.below g4)).mono ?_; rintro e' s5 ⟨rfl, hb5⟩; have g5 := bl_trans g4 hb5)
          | (go_at_call_of 34 a1; refine (G4.out s3 ((HA1.out.below HG.out).below g3)).mono ?_; rintro e' s4 ⟨rfl, hb4⟩; have g4 := bl_trans g3 hb4)
          | (go_at_call_of 34 as2; refine (G3.out s2 (HAr2.out.below g2)).mono ?_; rintro e' s3 ⟨rfl, hb3⟩; have g3 := bl_trans g2 hb3)
          | (go_at_call_of 34 a0; refine (G2.out s1 ((HA0.out.below HG.out).below g1)).mono ?_; rintro e' s2 ⟨rfl, hb2⟩; have g2 := bl_trans g1 hb2)
          | (go_at_call_of 34 as1; refine (G1.out N1.drew (HAr1.out.below g0)).mono ?_; rintro e' s1 ⟨rfl, hb1⟩; have g1 := bl_trans g0 hb1))
        replace HB1a := hide (block_upW g9 HB1a.out)
        replace HB1b := hide (block_upW g9 HB1b.out)
        replace HB2a := hide (block_upW g9 HB2a.out)
        replace HB2b := hide (block_upW g9 HB2b.out)
        replace HB3a := hide (block_upW g9 HB3a.out)
        replace HB3b := hide (block_upW g9 HB3b.out)
        replace HB4a := hide (block_upW g9 HB4a.out)
        replace HB4b := hide (block_upW g9 HB4b.out)
        replace HB5a := hide (block_upW g9 HB5a.out)
        replace HB5b := hide (block_upW g9 HB5b.out)
        replace HBz := hide (block_upW g9 HBz.out)
        replace HBi := hide (block_upW g9 HBi.out)
        replace HLS := hide (block_upW g9 HLS.out)
        replace HRx1 := hide (block_upW g9 HRx1.out)
        replace HRx2 := hide (block_upW g9 HRx2.out)
        replace HRx3 := hide (block_upW g9 HRx3.out)
        replace HBg := hide (block_upW g9 HBg.out)
        replace HAq1 := hide (HAq1.out.below g9)
        replace HAr1 := hide (HAr1.out.below g9)
        replace HAq2 := hide (HAq2.out.below g9)
        replace HAr2 := hide (HAr2.out.below g9)
        replace HAq3 := hide (HAq3.out.below g9)
        replace HAr3 := hide (HAr3.out.below g9)
        replace HAq4 := hide (HAq4.out.below g9)
        replace HAr4 := hide (HAr4.out.below g9)
        replace HAq5 := hide (HAq5.out.below g9)
        replace HAr5 := hide (HAr5.out.below g9)
        replace HZz := hide (HZz.out.below g9)
        replace HZi := hide (HZi.out.below g9)
        replace HZg := hide (HZg.out.below g9)
        replace HG := hide (bl_trans HG.out g9)
        clear KS hb1 hb2 hb3 hb4 hb5 hb6 hb7 hb8 hb9 g0 g1 g2 g3 g4 g5 g6 g7 g8 g9
        have HFIN := hide (HW.out.trans (HG.out.mono HW.out.size))
        clear yo hcz
        go_wp2
        go_ret
        exact ⟨rfl, HFIN.out⟩
      · rw [decide_eq_false h0]
        have hgp : ceq zA zB - flq zA zB = 1 := by rw [HGAP.out]; exact if_neg (fun h => h0 (hz2.2 h))
        rw [hgp] at HZg
        clear hgp
        have hbd : Below N1.heap.size N1 N1.drew := (Below.refl _ _).drew
        replace HB1a := hide (block_upW hbd HB1a.out)
        replace HB1b := hide (block_upW hbd HB1b.out)
        replace HB2a := hide (block_upW hbd HB2a.out)
        replace HB2b := hide (block_upW hbd HB2b.out)
        replace HB3a := hide (block_upW hbd HB3a.out)
        replace HB3b := hide (block_upW hbd HB3b.out)
        replace HB4a := hide (block_upW hbd HB4a.out)
        replace HB4b := hide (block_upW hbd HB4b.out)
        replace HB5a := hide (block_upW hbd HB5a.out)
        replace HB5b := hide (block_upW hbd HB5b.out)
        replace HBz := hide (block_upW hbd HBz.out)
        replace HBi := hide (block_upW hbd HBi.out)
        replace HLS := hide (block_upW hbd HLS.out)
        replace HRx1 := hide (block_upW hbd HRx1.out)
        replace HRx2 := hide (block_upW hbd HRx2.out)
        replace HRx3 := hide (block_upW hbd HRx3.out)
        replace HBg := hide (block_upW hbd HBg.out)
        replace HAq1 := hide (HAq1.out.below hbd)
        replace HAr1 := hide (HAr1.out.below hbd)
        replace HAq2 := hide (HAq2.out.below hbd)
        replace HAr2 := hide (HAr2.out.below hbd)
        replace HAq3 := hide (HAq3.out.below hbd)
        replace HAr3 := hide (HAr3.out.below hbd)
        replace HAq4 := hide (HAq4.out.below hbd)
        replace HAr4 := hide (HAr4.out.below hbd)
        replace HAq5 := hide (HAq5.out.below hbd)
        replace HAr5 := hide (HAr5.out.below hbd)
        replace HZz := hide (HZz.out.below hbd)
        replace HZi := hide (HZi.out.below hbd)
        replace HZg := hide (HZg.out.below hbd)
        replace HG := hide (bl_trans HG.out hbd)
        clear hbd
        have hcz : cmpZ 1 1 = 0 := by decide
        have KS := hide (fun (W : World) (hg : Below N1.drew.heap.size N1.drew W) => show W.cell? ⟨Q1.heap.size + 1, 0, none⟩ = some (.bool bs1) ∧ W.cell? ⟨Q1.heap.size + 1, 1, none⟩ = some (.slice as1 ns1 ks1) ∧ W.cell? ⟨gx, 0, none⟩ = some (.bool b0) ∧ W.cell? ⟨gx, 1, none⟩ = some (.slice a0 z0.length n0) ∧ W.cell? ⟨Q2.heap.size + 1, 0, none⟩ = some (.bool bs2) ∧ W.cell? ⟨Q2.heap.size + 1, 1, none⟩ = some (.slice as2 ns2 ks2) ∧ W.cell? ⟨gy, 0, none⟩ = some (.bool b1) ∧ W.cell? ⟨gy, 1, none⟩ = some (.slice a1 z1.length n1) ∧ W.cell? ⟨Q3.heap.size + 1, 0, none⟩ = some (.bool bs3) ∧ W.cell? ⟨Q3.heap.size + 1, 1, none⟩ = some (.slice as3 ns3 ks3) ∧ W.cell? ⟨gg, 0, none⟩ = some (.bool bg) ∧ W.cell? ⟨gg, 1, none⟩ = some (.slice ag ng kg) from ⟨(duo (block_upW hg HB1b.out)).1, (duo (block_upW hg HB1b.out)).2, (duo (block_upW (bl_trans HG.out hg) HX.out)).1, (duo (block_upW (bl_trans HG.out hg) HX.out)).2, (duo (block_upW hg HB2b.out)).1, (duo (block_upW hg HB2b.out)).2, (duo (block_upW (bl_trans HG.out hg) HY.out)).1, (duo (block_upW (bl_trans HG.out hg) HY.out)).2, (duo (block_upW hg HB3b.out)).1, (duo (block_upW hg HB3b.out)).2, (duo (block_upW hg HBg.out)).1, (duo (block_upW hg HBg.out)).2⟩)
        have g0 : Below N1.drew.heap.size N1.drew N1.drew := Below.refl _ _
        go_wp2
        go_region_held3 (fun w' => w'.cell? ⟨Q1.heap.size + 1, 0, none⟩ = some (.bool bs1) ∧ w'.cell? ⟨Q1.heap.size + 1, 1, none⟩ = some (.slice as1 ns1 ks1) ∧ w'.cell? ⟨gx, 0, none⟩ = some (.bool b0) ∧ w'.cell? ⟨gx, 1, none⟩ = some (.slice a0 z0.length n0) ∧ w'.cell? ⟨Q2.heap.size + 1, 0, none⟩ = some (.bool bs2) ∧ w'.cell? ⟨Q2.heap.size + 1, 1, none⟩ = some (.slice as2 ns2 ks2) ∧ w'.cell? ⟨gy, 0, none⟩ = some (.bool b1) ∧ w'.cell? ⟨gy, 1, none⟩ = some (.slice a1 z1.length n1) ∧ w'.cell? ⟨Q3.heap.size + 1, 0, none⟩ = some (.bool bs3) ∧ w'.cell? ⟨Q3.heap.size + 1, 1, none⟩ = some (.slice as3 ns3 ks3) ∧ w'.cell? ⟨gg, 0, none⟩ = some (.bool bg) ∧ w'.cell? ⟨gg, 1, none⟩ = some (.slice ag ng kg)) (first | with_reducible exact KS.out _ g9 | with_reducible exact KS.out _ g8 | with_reducible exact KS.out _ g7 | with_reducible exact KS.out _ g6 | with_reducible exact KS.out _ g5 | with_reducible exact KS.out _ g4 | with_reducible exact KS.out _ g3 | with_reducible exact KS.out _ g2 | with_reducible exact KS.out _ g1 | with_reducible exact KS.out _ g0) (first
          | (go_at_call 24; refine (awake6_any s8 ((HT.out.below HG.out).below g8)).mono ?_; rintro e' s9 ⟨rfl, hb9⟩; have g9 := bl_trans g8 hb9)
          | (go_at_call 32; refine (rzcmp_any (.agg #[.bool bg, .slice ag ng kg]) _ _ _ s7 (HZg.out.below g7) yo).mono ?_; rintro e' s8 ⟨rfl, hb8⟩; have g8 := bl_trans g7 hb8; rw [hcz])
          | (go_at_call 36; refine (rzint_any 1 s6 (by omega) (by omega)).mono ?_; rintro e' s7 ⟨⟨bo, ao, no, ko, rfl, yo⟩, hb7⟩; have g7 := bl_trans g6 hb7)
          | (go_at_call_of 34 a1; refine (G4.out s5 ((HA1.out.below HG.out).below g5)).mono ?_; rintro e' s6 ⟨rfl, hb6⟩; have g6 := bl_trans g5 hb6)
          | (go_at_call_of 34 as3; refine (G5.out s4 (HAr3.out.below g4)).mono ?_; rintro e' s5 ⟨rfl, hb5⟩; have g5 := bl_trans g4 hb5)
          | (go_at_call_of 34 a1; refine (G4.out s3 ((HA1.out.below HG.out).below g3)).mono ?_; rintro e' s4 ⟨rfl, hb4⟩; have g4 := bl_trans g3 hb4)
          | (go_at_call_of 34 as2; refine (G3.out s2 (HAr2.out.below g2)).mono ?_; rintro e' s3 ⟨rfl, hb3⟩; have g3 := bl_trans g2 hb3)
          | (go_at_call_of 34 a0; refine (G2.out s1 ((HA0.out.below HG.out).below g1)).mono ?_; rintro e' s2 ⟨rfl, hb2⟩; have g2 := bl_trans g1 hb2)
          | (go_at_call_of 34 as1; refine (G1.out N1.drew (HAr1.out.below g0)).mono ?_; rintro e' s1 ⟨rfl, hb1⟩; have g1 := bl_trans g0 hb1))
        replace HB1a := hide (block_upW g9 HB1a.out)
        replace HB1b := hide (block_upW g9 HB1b.out)
        replace HB2a := hide (block_upW g9 HB2a.out)
        replace HB2b := hide (block_upW g9 HB2b.out)
        replace HB3a := hide (block_upW g9 HB3a.out)
        replace HB3b := hide (block_upW g9 HB3b.out)
        replace HB4a := hide (block_upW g9 HB4a.out)
        replace HB4b := hide (block_upW g9 HB4b.out)
        replace HB5a := hide (block_upW g9 HB5a.out)
        replace HB5b := hide (block_upW g9 HB5b.out)
        replace HBz := hide (block_upW g9 HBz.out)
        replace HBi := hide (block_upW g9 HBi.out)
        replace HLS := hide (block_upW g9 HLS.out)
        replace HRx1 := hide (block_upW g9 HRx1.out)
        replace HRx2 := hide (block_upW g9 HRx2.out)
        replace HRx3 := hide (block_upW g9 HRx3.out)
        replace HBg := hide (block_upW g9 HBg.out)
        replace HAq1 := hide (HAq1.out.below g9)
        replace HAr1 := hide (HAr1.out.below g9)
        replace HAq2 := hide (HAq2.out.below g9)
        replace HAr2 := hide (HAr2.out.below g9)
        replace HAq3 := hide (HAq3.out.below g9)
        replace HAr3 := hide (HAr3.out.below g9)
        replace HAq4 := hide (HAq4.out.below g9)
        replace HAr4 := hide (HAr4.out.below g9)
        replace HAq5 := hide (HAq5.out.below g9)
        replace HAr5 := hide (HAr5.out.below g9)
        replace HZz := hide (HZz.out.below g9)
        replace HZi := hide (HZi.out.below g9)
        replace HZg := hide (HZg.out.below g9)
        replace HG := hide (bl_trans HG.out g9)
        clear KS hb1 hb2 hb3 hb4 hb5 hb6 hb7 hb8 hb9 g0 g1 g2 g3 g4 g5 g6 g7 g8 g9
        have HFIN := hide (HW.out.trans (HG.out.mono HW.out.size))
        clear yo hcz
        go_wp2
        go_ret
        exact ⟨rfl, HFIN.out⟩

end Go.Proofs.YtfgcngndiblpmaaGreatDoor
