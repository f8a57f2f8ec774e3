/- Package nat: Compare. -/
import Derived.Test.YtmloigbacfllhaaDoorNatB
import Derived.Test.YtmloigbacfllhaaDoorPure3
import Derived.Deep.QuietTactic
import Derived.BigQuiet
import Derived.Deep.RegionHeld3
import Derived.Deep.DrawnRows
namespace Go.Proofs.YtmloigbacfllhaaDoor
open Go.RowKit
open Lm
attribute [local go_sem ↓] Go.wp_at_zero Go.wp_at_succ

theorem cmpU (x y : Nat) (w : World) :
    Calls Tryd.prog 44 #[.int .u64 x, .int .u64 y] w fun e w' => e = .returned (.int .i64 (cmpN x y)) ∧ w' = w := by
  rcases Nat.lt_trichotomy x y with h | h | h
  · rw [cmpN_lt h]
    have h1 : (x : Int) < (y : Int) := by omega
    go_enter Tryd.func44, Tryd.ntmps44
    go_wp2
    go_ret
    exact ⟨rfl, rfl⟩
  · subst h
    rw [cmpN_self]
    go_enter Tryd.func44, Tryd.ntmps44
    go_wp2
    go_ret
    exact ⟨rfl, rfl⟩
  · rw [cmpN_gt h]
    have h1 : ¬ (x : Int) < (y : Int) := by omega
    have h2 : (y : Int) < (x : Int) := by omega
    go_enter Tryd.func44, Tryd.ntmps44
    go_wp2
    go_ret
    exact ⟨rfl, rfl⟩

theorem cmpI (x y : Nat) (w : World) :
    Calls Tryd.prog 43 #[.int .i64 x, .int .i64 y] w fun e w' => e = .returned (.int .i64 (cmpN x y)) ∧ w' = w := by
  have e : cmpN x y = Lib.compareInt x y := by
    unfold cmpN Lib.compareInt
    simp
  rw [e]
  exact Tryd.cmp_Compare_int x y w

/-- The world behind a call that only reads: as it was, but for draws. -/
structure Same (w w' : World) : Prop where
  heap : w'.heap = w.heap
  os : w'.os = w.os
  tape : w'.tape = w.tape
  output : w'.output = w.output

theorem Same.below {w w' : World} (h : Same w w') (B : Nat) : Below B w w' := ⟨h.os, h.tape, h.output, by rw [h.heap]; exact Nat.le_refl _, fun _ _ => by rw [h.heap]⟩
theorem Same.refl (w : World) : Same w w := ⟨rfl, rfl, rfl, rfl⟩
theorem Same.trans {a b c : World} (h : Same a b) (k : Same b c) : Same a c := ⟨k.heap.trans h.heap, k.os.trans h.os, k.tape.trans h.tape, k.output.trans h.output⟩
theorem Same.drew {a b : World} (h : Same a b) : Same a b.drew := ⟨h.heap, h.os, h.tape, h.output⟩
theorem Same.drewN {a b : World} (h : Same a b) (n : Nat) : Same a (b.drewN n) := ⟨h.heap, h.os, h.tape, h.output⟩
theorem Same.size {w w' : World} (h : Same w w') : w'.heap.size = w.heap.size := by rw [h.heap]

set_option maxHeartbeats 800000 in
theorem compare_any (v1 v2 : Value) (zs ys : List Nat) (w : World) (h1 : Arg w v1 zs) (h2 : Arg w v2 ys) :
    Calls Tryd.prog 14 #[v1, v2] w fun e w' => e = .returned (.int .i64 (cmpN (val zs) (val ys))) ∧ Same w w' := by
  obtain ⟨a1, c1, rfl, hc1, hm1, hl1⟩ := h1.form
  obtain ⟨a2, c2, rfl, hc2, hm2, hl2⟩ := h2.form
  have H1 := trim_any a1 c1 zs w hc1 hm1 hl1
  have H2 := trim_any a2 c2 ys w hc2 hm2 hl2
  have l1 := tr_length_le zs
  have l2 := tr_length_le ys
  have L1 := hl1.tr
  have L2 := hl2.tr
  have M1 := limbs_tr h1.limbs
  have M2 := limbs_tr h2.limbs
  have f1 := h1.few
  have f2 := h2.few
  rw [← val_tr zs, ← val_tr ys]
  by_cases hlt : (tr zs).length = (tr ys).length
  · have HL : Hid ((tr ys).length = (tr zs).length) := hlt.symm
    rw [← hlt] at H2
    clear hlt
    generalize tr zs = Z at *
    generalize tr ys = Y at *
    go_enter Tryd.func14, Tryd.ntmps14
    go_wp2_with fail
    refine H1.mono ?_
    rintro e w' ⟨rfl, rfl⟩
    go_wp2_with fail
    refine H2.mono ?_
    rintro e w' ⟨rfl, rfl⟩
    clear H1 H2
    go_wp2
    go_loopw [26] (fun i wr => ∃ k : Nat, k ≤ Z.length ∧ i = .int .i64 k ∧ Same w' wr ∧ cmpN (val (Z.take (Z.length - k))) (val (Y.take (Z.length - k))) = cmpN (val Z) (val Y)) (fun i _ => Z.length - (intOf i).toNat)
    case atStart => exact ⟨0, Nat.zero_le _, rfl, Same.refl _, by rw [Nat.sub_zero, List.take_length, ← HL.out, List.take_length]⟩
    case round =>
      obtain ⟨k, hk, rfl, hsame, hv⟩ := hrel
      have HV : Hid (cmpN (val (Z.take (Z.length - k))) (val (Y.take (Z.length - k))) = cmpN (val Z) (val Y)) := hv
      clear hv
      by_cases hkl : k < Z.length
      · rcases L1.below (hsame.below _) with h0 | ⟨b, off, rfl, hcell⟩
        · simp [h0] at hkl
        · rcases L2.below (hsame.below _) with h0 | ⟨b', off', rfl, hcell'⟩
          · have := HL.out; simp [h0] at this; omega
          · have hck := hcell (Z.length - 1 - k) (by omega)
            have hck' := hcell' (Z.length - 1 - k) (by have := HL.out; omega)
            have ek : Z.length - k = (Z.length - 1 - k) + 1 := by omega
            have hje : (Z.length : Int) - 1 - (k : Int) = ((Z.length - 1 - k : Nat) : Int) := by omega
            have hjl : Z.length - 1 - k < Z.length := by omega
            have ek2 : Z.length - (k + 1) = Z.length - 1 - k := by omega
            generalize Z.length - 1 - k = j at *
            have hi1 : (0 : Int) ≤ (j : Int) := by omega
            have hi2 : (j : Int) < (Z.length : Int) := by omega
            have hwj : IntKind.i64.wrap (j : Int) = (j : Int) := by rw [IntKind.wrap_i64]; omega
            have hwr : IntKind.i64.wrap ((Z.length : Int) - 1 - (k : Int)) = (j : Int) := by rw [IntKind.wrap_i64]; omega
            by_cases hxy : Z.getD j 0 = Y.getD j 0
            · have HN : Hid (cmpN (val (Z.take (Z.length - (k + 1)))) (val (Y.take (Z.length - (k + 1)))) = cmpN (val Z) (val Y)) := by
                rw [← HV.out, ek, cmp_same _ hxy, ek2]; rfl
              rw [hxy] at hck
              generalize Y.getD j 0 = y at *
              clear hcell hcell' HV ek ek2 L1 L2 M1 M2 hl1 hl2 h1 h2
              go_wp2
              go_quiet (fail)
              go_wp2
              go_roundw
              case rel => exact ⟨k + 1, by omega, by go_num, hsame.drewN _, HN.out⟩
              case measure => simp [intOf]; omega
            · have HN : Hid (cmpN (Z.getD j 0) (Y.getD j 0) = cmpN (val Z) (val Y)) := by
                rw [← HV.out, ek, cmp_top M1 M2 _ hxy]; rfl
              have hne : (((Z.getD j 0 : Nat) : Int) != ((Y.getD j 0 : Nat) : Int)) = true := by rw [bne_iff_ne]; omega
              clear hxy
              generalize Z.getD j 0 = x at *
              generalize Y.getD j 0 = y at *
              clear hcell hcell' HV ek ek2 L1 L2 M1 M2 hl1 hl2 h1 h2
              go_wp2
              go_quiet (fail)
              go_wp2
              go_region_held3 (fun w2 => w2.cell? ⟨b, off + j, none⟩ = some (.int .u64 x) ∧ w2.cell? ⟨b', off' + j, none⟩ = some (.int .u64 y)) (go_keep) (first | (go_at_call 44; refine (cmpU _ _ _).mono ?_; rintro e w2 ⟨rfl, rfl⟩))
              go_wp2
              go_ret
              rw [HN.out]
              exact ⟨rfl, hsame.drewN _⟩
      · have ek : k = Z.length := by omega
        subst ek
        have HN : Hid (cmpN (val Z) (val Y) = 0) := by rw [← HV.out, Nat.sub_self]; rfl
        clear HV L1 L2 M1 M2 hl1 hl2 h1 h2
        go_wp2
        go_ret
        rw [HN.out]
        exact ⟨rfl, hsame⟩
  · have HN : Hid (cmpN (tr zs).length (tr ys).length = cmpN (val (tr zs)) (val (tr ys))) := (cmp_len h1.limbs h2.limbs hlt).symm
    have hne : (((tr zs).length : Int) != ((tr ys).length : Int)) = true := by rw [bne_iff_ne]; omega
    clear hlt
    generalize tr zs = Z at *
    generalize tr ys = Y at *
    clear L1 L2 M1 M2 hl1 hl2 h1 h2
    go_enter Tryd.func14, Tryd.ntmps14
    go_wp2_with fail
    refine H1.mono ?_
    rintro e w' ⟨rfl, rfl⟩
    go_wp2_with fail
    refine H2.mono ?_
    rintro e w' ⟨rfl, rfl⟩
    clear H1 H2
    go_wp2_with fail
    refine (cmpI _ _ _).mono ?_
    rintro e w2 ⟨rfl, rfl⟩
    rw [HN.out]
    go_wp2
    go_ret
    exact ⟨rfl, Same.refl _⟩

end Go.Proofs.YtmloigbacfllhaaDoor
