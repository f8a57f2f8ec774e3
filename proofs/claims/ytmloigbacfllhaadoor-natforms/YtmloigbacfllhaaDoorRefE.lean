/- The reference's numbers: Cmp, Add, Sub. -/
import Derived.Test.YtmloigbacfllhaaDoorRefD
namespace Go.Proofs.YtmloigbacfllhaaDoor
open Go.RowKit
open Lm
attribute [local go_sem ↓] Go.wp_at_zero Go.wp_at_succ

set_option maxHeartbeats 1000000 in
theorem rcmp_any (v1 v2 : Value) (x y : Nat) (w : World) (h1 : Num w v1 x) (h2 : Num w v2 y) :
    Calls Tryd.prog 15 #[v1, v2] w fun e w' => e = .returned (.int .i64 (cmpN x y)) ∧ Same w w' := by
  obtain ⟨Z, hA1, hZ, hZt, rfl, hZl⟩ := h1
  obtain ⟨Y, hA2, hY, hYt, rfl, hYl⟩ := h2
  obtain ⟨a1, c1, rfl, hc1, hm1, L1⟩ := hA1.form
  obtain ⟨a2, c2, rfl, hc2, hm2, L2⟩ := hA2.form
  clear hA1 hA2
  by_cases hl : Z.length = Y.length
  · have HL := hide hl.symm
    rw [← hl] at hc2 hYl ⊢
    clear hl
    have hne : ((Z.length : Int) != (Z.length : Int)) = false := by simp
    go_enter Tryd.func15, Tryd.ntmps15
    go_wp2
    go_loopw [5] (fun i wr => ∃ k : Nat, k ≤ Z.length ∧ i = .int .i64 ((k : Int) - 1) ∧ Same w wr ∧ cmpN (vb 4294967296 (Z.take k)) (vb 4294967296 (Y.take k)) = cmpN (vb 4294967296 Z) (vb 4294967296 Y)) (fun i _ => (intOf i + 1).toNat)
    case atStart => exact ⟨Z.length, Nat.le_refl _, by go_num, Same.refl _, by rw [List.take_length, ← HL.out, List.take_length]⟩
    case round =>
      obtain ⟨k, hk, rfl, hs, hv⟩ := hrel
      have HV := hide hv
      have HS := hide hs
      clear hv
      by_cases hk0 : k = 0
      · subst hk0
        have HN : Hid (cmpN (vb 4294967296 Z) (vb 4294967296 Y) = 0) := hide (by rw [← HV.out]; rfl)
        clear HV L1 L2 hs
        go_wp2
        go_ret
        rw [HN.out]
        exact ⟨rfl, HS.out⟩
      · obtain ⟨j, rfl⟩ : ∃ j, k = j + 1 := ⟨k - 1, by omega⟩
        rcases L1.below (hs.below _) with h0 | ⟨b, off, rfl, hcell⟩
        · simp [h0] at hk
        · rcases L2.below (hs.below _) with h0 | ⟨b', off', rfl, hcell'⟩
          · have := HL.out; simp [h0] at this; omega
          · have hck := hcell j (by omega)
            have hck' := hcell' j (by have := HL.out; omega)
            have ej : ((j + 1 : Nat) : Int) - 1 = (j : Int) := by omega
            have ej2 : (j : Int) + 1 - 1 = (j : Int) := by omega
            rw [ej]
            have hi1 : (0 : Int) ≤ (j : Int) := by omega
            have hi2 : (j : Int) < (Z.length : Int) := by omega
            rcases Nat.lt_trichotomy (Z.getD j 0) (Y.getD j 0) with hxy | hxy | hxy
            · have HN : Hid (cmpN (vb 4294967296 Z) (vb 4294967296 Y) = -1) := hide (by rw [← HV.out, vcmp_top hZ hY _ (by omega), cmpN_lt hxy])
              generalize Z.getD j 0 = a at *
              generalize Y.getD j 0 = c at *
              have i1 : (a : Int) < (c : Int) := by omega
              clear hcell hcell' HV L1 L2 hs
              go_wp2
              go_quiet (fail)
              go_wp2
              go_ret
              rw [HN.out]
              exact ⟨rfl, HS.out.drewN _⟩
            · have HN : Hid (cmpN (vb 4294967296 (Z.take j)) (vb 4294967296 (Y.take j)) = cmpN (vb 4294967296 Z) (vb 4294967296 Y)) := hide (by rw [← HV.out, vcmp_same _ hxy])
              rw [hxy] at hck
              generalize Y.getD j 0 = c at *
              have hd1 : decide ((c : Int) < (c : Int)) = false := decide_eq_false (by omega)
              clear hcell hcell' HV L1 L2 hs hxy
              go_wp2
              go_quiet (fail)
              go_wp2
              go_quiet (fail)
              go_wp2
              go_roundw
              case rel => exact ⟨j, by omega, by go_num, by first | exact (HS.out.drewN _).drewN _ | exact HS.out.drewN _, HN.out⟩
              case measure => simp [intOf]
            · have HN : Hid (cmpN (vb 4294967296 Z) (vb 4294967296 Y) = 1) := hide (by rw [← HV.out, vcmp_top hZ hY _ (by omega), cmpN_gt hxy])
              generalize Z.getD j 0 = a at *
              generalize Y.getD j 0 = c at *
              have i1 : (c : Int) < (a : Int) := by omega
              have hd1 : decide ((a : Int) < (c : Int)) = false := decide_eq_false (by omega)
              clear hcell hcell' HV L1 L2 hs
              go_wp2
              go_quiet (fail)
              go_wp2
              go_quiet (fail)
              go_wp2
              go_ret
              rw [HN.out]
              exact ⟨rfl, by first | exact (HS.out.drewN _).drewN _ | exact HS.out.drewN _⟩
  · have hne : ((Z.length : Int) != (Y.length : Int)) = true := by rw [bne_iff_ne]; omega
    rcases Nat.lt_or_gt_of_ne hl with hlt | hlt
    · rw [cmpN_lt (vb_shorter hZ hYt hlt)]
      have i1 : (Z.length : Int) < (Y.length : Int) := by omega
      clear L1 L2
      go_enter Tryd.func15, Tryd.ntmps15
      go_wp2
      go_ret
      exact ⟨rfl, Same.refl _⟩
    · rw [cmpN_gt (vb_shorter hY hZt hlt)]
      have hd1 : decide ((Z.length : Int) < (Y.length : Int)) = false := decide_eq_false (by omega)
      have i1 : (Y.length : Int) < (Z.length : Int) := by omega
      clear L1 L2
      go_enter Tryd.func15, Tryd.ntmps15
      go_wp2
      go_ret
      exact ⟨rfl, Same.refl _⟩

end Go.Proofs.YtmloigbacfllhaaDoor
