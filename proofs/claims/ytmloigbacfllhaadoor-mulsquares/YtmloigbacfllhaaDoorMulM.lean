/- Package mul: halfOf. -/
import Derived.Test.YtmloigbacfllhaaDoorMulL
namespace Go.Proofs.YtmloigbacfllhaaDoor
open Go.RowKit
open Lm
attribute [local go_sem ↓] Go.wp_at_zero Go.wp_at_succ

theorem half_or (v r : Nat) (hv : v < 18446744073709551616) (hr : r < 2) : bits BinOp.or IntKind.u64 ((v : Int) / 2) ((r * 9223372036854775808 : Nat) : Int) = ((v / 2 + r * 9223372036854775808 : Nat) : Int) := by
  have h := walk_shr2 v r 1 (by omega) hv
  have e1 : IntKind.u64.wrap ((r : Int) * 2 ^ (64 - 1)) = ((r * 9223372036854775808 : Nat) : Int) := by
    rw [IntKind.wrap_u64, show (2 : Int) ^ (64 - 1) = 9223372036854775808 by decide]
    omega
  rw [e1, show (2 : Int) ^ 1 = 2 by decide] at h
  rw [h]
  unfold shr
  rw [show (2 : Nat) ^ 1 = 2 by decide, show (2 : Nat) ^ (64 - 1) = 9223372036854775808 by decide, Nat.mod_eq_of_lt hr]

theorem half_step (v S : Nat) : v / 2 + S % 2 * 9223372036854775808 + 18446744073709551616 * (S / 2) = (v + 18446744073709551616 * S) / 2 ∧ (v + 18446744073709551616 * S) % 2 = v % 2 := by
  omega

/-- The piece from one limb on. -/
theorem sv_cons (Z : List Nat) (o j n : Nat) (h : o + j < Z.length) (hj : j < n) : sv Z (o + j) (n - j) = Z.getD (o + j) 0 + 18446744073709551616 * sv Z (o + (j + 1)) (n - (j + 1)) := by
  rw [show n - j = 1 + (n - (j + 1)) by omega, sv_split _ _ _ _ (by omega), sv_one _ _ h, Nat.pow_one, ← Nat.add_assoc]

set_option maxHeartbeats 400000 in
theorem halfOf_any (bz zo n cap : Nat) (Z : List Nat) (w : World) (hB : Blk w bz Z) (hLZ : Limbs Z) (hzo : zo + n ≤ Z.length) (hc1 : n ≤ cap) (hc2 : cap ≤ 9223372036854775807) :
    Calls Tryd.prog 83 #[.slice (some ⟨bz, zo, none⟩) n cap] w (IntoDone bz zo n Z w (sv Z zo n / 2)) := by
  have HB0 := hide hB
  have HLZ := hide hLZ
  clear hB
  go_enter Tryd.func83, Tryd.ntmps83
  go_wp2
  go_loopw [2, 3] (fun c i wr => ∃ (k : Nat) (Z' : List Nat), k ≤ n ∧ i = .int .i64 ((k : Int) - 1) ∧ c = .int .u64 ((sv Z (zo + k) (n - k) % 2 * 9223372036854775808 : Nat) : Int) ∧ Out Z Z' (zo + k) (zo + n) ∧ Limbs Z' ∧ Blk wr bz Z' ∧ Fr bz w wr ∧
      sv Z' (zo + k) (n - k) = sv Z (zo + k) (n - k) / 2) (fun _ i _ => (intOf i + 1).toNat)
  case atStart => exact ⟨n, Z, Nat.le_refl _, rfl, by rw [Nat.sub_self, sv_zero]; rfl, Out.refl _ _ _, HLZ.out, HB0.out, Fr.refl _ _, by rw [Nat.sub_self, sv_zero]⟩
  case round =>
    obtain ⟨k, Z', hk, rfl, rfl, hout, hlz, hblk, hfr0, hval⟩ := hrel
    have hl := hout.len
    by_cases hk0 : k = 0
    · subst hk0
      rw [Nat.add_zero, Nat.sub_zero] at hval
      have HD : Hid (Out Z Z' zo (zo + n) ∧ Limbs Z' ∧ Blk wr bz Z' ∧ Fr bz w wr ∧ sv Z' zo n = sv Z zo n / 2) := hide ⟨by simpa using hout, hlz, hblk, hfr0, hval⟩
      generalize sv Z (zo + 0) (n - 0) % 2 * 9223372036854775808 = cy at *
      clear hout hlz hblk hfr0 hval
      go_wp2
      go_end0
      exact ⟨rfl, Z', HD.out⟩
    · obtain ⟨j, rfl⟩ : ∃ j, k = j + 1 := ⟨k - 1, by omega⟩
      have hcons := sv_cons Z zo j n (by omega) (by omega)
      have hcons' : ∀ s, sv (Z'.set (zo + j) s) (zo + j) (n - j) = s + 18446744073709551616 * sv Z' (zo + (j + 1)) (n - (j + 1)) := fun s => by
        rw [sv_cons (Z'.set (zo + j) s) zo j n (by simp; omega) (by omega), getD_set, if_pos ⟨rfl, by omega⟩]
        have e : Out Z' (Z'.set (zo + j) s) (zo + j) (zo + (j + 1)) := (Out.refl _ _ _).set _ _ (by omega) (by omega)
        rw [e.sv (zo + (j + 1)) (n - (j + 1)) (by omega)]
      have hsame := hout.same (zo + j) (by omega)
      have hfr := hblk.free (zo + j)
      have hco := hblk.cell (zo + j) (by omega)
      have z2 := limb_lt HLZ.out (zo + j)
      rw [hsame] at hco
      have hst := half_step (Z.getD (zo + j) 0) (sv Z (zo + (j + 1)) (n - (j + 1)))
      rw [← hcons] at hst
      have hor := half_or (Z.getD (zo + j) 0) (sv Z (zo + (j + 1)) (n - (j + 1)) % 2) z2 (Nat.mod_lt _ (by omega))
      have HS := hide (hcons' (Z.getD (zo + j) 0 / 2 + sv Z (zo + (j + 1)) (n - (j + 1)) % 2 * 9223372036854775808))
      rw [hval, hst.1] at HS
      have HM := hide hst.2
      have hs1 : Z.getD (zo + j) 0 / 2 + sv Z (zo + (j + 1)) (n - (j + 1)) % 2 * 9223372036854775808 < 18446744073709551616 := by
        have := Nat.mod_lt (sv Z (zo + (j + 1)) (n - (j + 1))) (show 0 < 2 by omega)
        omega
      clear hst hcons hcons' hsame hval
      generalize sv Z (zo + (j + 1)) (n - (j + 1)) % 2 * 9223372036854775808 = cy at *
      generalize Z.getD (zo + j) 0 = v at *
      generalize v / 2 + cy = s at *
      have ewr : IntKind.u64.wrap ((v : Int) * 9223372036854775808) = ((v % 2 * 9223372036854775808 : Nat) : Int) := by rw [IntKind.wrap_u64]; omega
      obtain ⟨c2, hc2'⟩ : ∃ c2, c2 = v % 2 * 9223372036854775808 := ⟨_, rfl⟩
      rw [← hc2'] at ewr
      have HC2 : Hid (c2 = sv Z (zo + j) (n - j) % 2 * 9223372036854775808) := hide (by rw [hc2', HM.out])
      clear hc2' HM
      have ej : (((j + 1 : Nat) : Int) - 1) = (j : Int) := by omega
      rw [ej]
      have HB := hide hblk
      have HF := hide hfr0
      have HO := hide hout
      clear hblk hfr0 hout ej
      have hi1 : (0 : Int) ≤ (j : Int) := by omega
      have hi2 : (j : Int) < (n : Int) := by omega
      go_wp2
      go_roundw
      case rel =>
        exact ⟨j, Z'.set (zo + j) s, by omega, rfl, by rw [HC2.out], (HO.out.wider (by omega) (Nat.le_refl _)).set _ _ (Nat.le_refl _) (by omega), limbs_set hlz _ _ hs1, HB.out.set _ s, HF.out.setCell _ _, HS.out⟩
      case measure => simp [intOf]

end Go.Proofs.YtmloigbacfllhaaDoor
