/- The document's powers. -/
import Derived.Test.YteecnckfkcmefaaGreatDoorQG
import Derived.Test.YteecnckfkcmefaaGreatDoorRootBZ
import Derived.Test.YteecnckfkcmefaaGreatDoorQP
namespace Go.Proofs.YteecnckfkcmefaaGreatDoor
open Go.RowKit
open Lm
attribute [local go_sem ↓] Go.wp_at_zero Go.wp_at_succ

namespace Lm

theorem blen_pow_up (x m : Nat) : blen (x ^ m) ≤ blen x * m + 1 := by
  refine (blen_le_iff _ _).2 ?_
  have h1 := (blen_le_iff x _).1 (Nat.le_refl _)
  rcases Nat.eq_zero_or_pos m with h0 | h0
  · subst h0; simp
  · rw [Nat.pow_succ, Nat.pow_mul]
    have := Nat.pow_lt_pow_left h1 (show m ≠ 0 by omega)
    omega

end Lm

set_option maxRecDepth 20000 in
set_option maxHeartbeats 2000000 in
theorem refPow_any (va : Value) (x n : Nat) (w : World) (hN : Num w va x) (hn : n ≤ 9223372036854775807) (hs : blen x * n + blen x ≤ 281474976710656) :
    Calls Tryz.prog 27 #[va, .int .i64 (n : Int)] w fun e w' => (∃ v, e = .returned v ∧ Num w' v (x ^ n)) ∧ Below w.heap.size w w' := by
  have HF := rint_any 1 w (by omega)
  have HN := hide hN
  have HS := hide hs
  clear hN hs
  go_enter Tryz.func27, Tryz.ntmps27
  go_wp2_with fail
  refine HF.mono ?_
  rintro e w1 ⟨⟨v1, rfl, N1⟩, hb1⟩
  have ST := hide (And.intro N1 hb1)
  clear HF N1 hb1
  go_wp2
  go_loopw [5, 6] (fun v i wr => ∃ (k : Nat), i = .int .i64 ((k : Int) - 1) ∧ k ≤ 63 ∧ Num wr v (x ^ (n / 2 ^ k)) ∧ Below w.heap.size w wr) (fun _ i _ => (intOf i + 1).toNat)
  case atStart =>
    refine ⟨63, rfl, Nat.le_refl _, ?_, ST.out.2⟩
    rw [Nat.div_eq_of_lt (by omega), Nat.pow_zero]
    exact ST.out.1
  case round =>
    obtain ⟨k, rfl, hk, hnv, hbel⟩ := hrel
    have HB := hide hbel
    clear hbel ST
    by_cases hk0 : k = 0
    · subst hk0
      rw [Nat.pow_zero, Nat.div_one] at hnv
      have HE := hide hnv
      clear hnv
      go_wp2
      go_ret
      exact ⟨⟨_, rfl, HE.out⟩, HB.out⟩
    · obtain ⟨j, rfl⟩ : ∃ j, k = j + 1 := ⟨k - 1, by omega⟩
      have ej : (((j + 1 : Nat) : Int) - 1) = (j : Int) := by omega
      rw [ej]
      have hj0 : (0 : Int) ≤ (j : Int) := by omega
      have hj64 : j < 64 := by omega
      have hst := bits_step n j
      have hle : n / 2 ^ j ≤ n := Nat.div_le_self _ _
      have hsh : (n : Int) / 2 ^ j = ((n / 2 ^ j : Nat) : Int) := by rw [Int.natCast_ediv, Int.natCast_pow]; rfl
      have hand := i64_and1 ((n / 2 ^ j : Nat) : Int)
      have hm2 : ((n / 2 ^ j : Nat) : Int) % 2 = ((n / 2 ^ j % 2 : Nat) : Int) := by omega
      rw [hm2] at hand
      have wj : IntKind.i64.wrap (((n / 2 ^ j : Nat)) : Int) = (((n / 2 ^ j : Nat)) : Int) := by rw [IntKind.wrap_i64]; omega
      generalize n / 2 ^ (j + 1) = p at *
      obtain ⟨q, hq⟩ : ∃ q, n / 2 ^ j = q := ⟨_, rfl⟩
      rw [hq] at hst hle hsh hand hm2 wj
      have HQD := hide hq
      have HQ := hide (And.intro hst hle)
      have bp := blen_pow_up x p
      have b2p := blen_pow_up x (2 * p)
      have hpn : blen x * (2 * p) ≤ blen x * n := Nat.mul_le_mul_left _ (by omega)
      have hpn2 : blen x * p ≤ blen x * n := Nat.mul_le_mul_left _ (by omega)
      have hsz := HS.out
      have F1 := rmul_any _ _ _ _ wr hnv hnv (by omega)
      have e2p : x ^ p * x ^ p = x ^ (2 * p) := by rw [← Nat.pow_add]; congr 1; omega
      rw [e2p] at F1
      have HBL := hide (show blen (x ^ (2 * p)) + blen x ≤ 1125899906840000 by omega)
      clear hq hst hnv e2p bp b2p hpn hpn2 hsz
      go_wp2_with fail
      refine F1.mono ?_
      rintro e w3 ⟨⟨v3, rfl, A3⟩, hb3⟩
      have HB3 := hide (HB.out.trans (hb3.mono HB.out.size))
      rcases Nat.mod_two_eq_zero_or_one q with h0 | h1
      · rw [h0] at hand
        have HEQ : Hid (2 * p = q) := hide (by have := HQ.out.1; omega)
        have HA3 := hide A3
        clear h0 hb3 F1 A3
        go_wp2
        go_roundw
        case rel => exact ⟨j, rfl, by omega, by rw [HQD.out, ← HEQ.out]; exact HA3.out, HB3.out⟩
        case measure => simp [intOf]
      · rw [h1] at hand
        have HEQ : Hid (2 * p + 1 = q) := hide (by have := HQ.out.1; omega)
        have F2 := rmul_any _ _ _ _ w3 A3 (HN.out.below HB3.out) HBL.out
        have e2q : x ^ (2 * p) * x = x ^ q := by rw [← Nat.pow_succ, ← HEQ.out]
        rw [e2q] at F2
        clear h1 hb3 F1 A3 e2q
        go_wp2_with fail
        refine F2.mono ?_
        rintro e w5 ⟨⟨v5, rfl, A5⟩, hb5⟩
        have HD := hide (And.intro A5 (HB3.out.trans (hb5.mono HB3.out.size)))
        clear F2 A5 hb5
        go_wp2
        go_roundw
        case rel => exact ⟨j, rfl, by omega, by rw [HQD.out]; exact HD.out.1, HD.out.2⟩
        case measure => simp [intOf]

end Go.Proofs.YteecnckfkcmefaaGreatDoor
