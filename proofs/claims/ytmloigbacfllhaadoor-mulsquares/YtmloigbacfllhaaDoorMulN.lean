/- Package mul: thirdOf. -/
import Derived.Test.YtmloigbacfllhaaDoorMulM
namespace Go.Proofs.YtmloigbacfllhaaDoor
open Go.RowKit
open Lm
attribute [local go_sem ↓] Go.wp_at_zero Go.wp_at_succ

theorem third_limb (v b : Nat) (hv : v < 18446744073709551616) (hb : b ≤ 2) :
    3 * ((v + 18446744073709551616 - b) % 18446744073709551616 * 12297829382473034411 % 18446744073709551616) + b = v + ((v + 18446744073709551616 - b) % 18446744073709551616 * 12297829382473034411 % 18446744073709551616 * 3 / 18446744073709551616 + bor v b 0) * 18446744073709551616 ∧
    (v + 18446744073709551616 - b) % 18446744073709551616 * 12297829382473034411 % 18446744073709551616 * 3 / 18446744073709551616 + bor v b 0 ≤ 2 ∧
    (v + 18446744073709551616 - b) % 18446744073709551616 < 18446744073709551616 := by
  have hr : (v + 18446744073709551616 - b) % 18446744073709551616 < 18446744073709551616 := Nat.mod_lt _ (by omega)
  have hsub := (borrow_limb v b hv (by omega)).1
  generalize (v + 18446744073709551616 - b) % 18446744073709551616 = r at *
  have ht : r * 12297829382473034411 % 18446744073709551616 < 18446744073709551616 := Nat.mod_lt _ (by omega)
  have h3 : r * 12297829382473034411 % 18446744073709551616 * 3 % 18446744073709551616 = r := by omega
  generalize r * 12297829382473034411 % 18446744073709551616 = t at *
  generalize bor v b 0 = u at *
  refine ⟨by omega, by omega, hr⟩

theorem third_step (Z Z' : List Nat) (o k b b2 t : Nat) (hz : o + k < Z'.length) (hl : Z'.length = Z.length) (h : 3 * sv Z' o k = sv Z o k + b * 18446744073709551616 ^ k) (hs : 3 * t + b = Z.getD (o + k) 0 + b2 * 18446744073709551616) :
    3 * sv (Z'.set (o + k) t) o (k + 1) = sv Z o (k + 1) + b2 * 18446744073709551616 ^ (k + 1) := by
  rw [sv_set_succ _ _ _ _ hz, sv_succ Z o k (by omega), show (18446744073709551616 : Nat) ^ (k + 1) = 18446744073709551616 ^ k * 18446744073709551616 from Nat.pow_succ ..]
  generalize sv Z' o k = A at *
  generalize sv Z o k = B at *
  generalize Z.getD (o + k) 0 = z at *
  generalize (18446744073709551616 : Nat) ^ k = P at *
  generalize (18446744073709551616 : Nat) = W at *
  grind

theorem W_mod3 (n : Nat) : 18446744073709551616 ^ n % 3 = 1 := by
  induction n with
  | zero => rfl
  | succ n ih => rw [Nat.pow_succ, Nat.mul_mod, ih]

theorem third_end (q s b P : Nat) (hP : P % 3 = 1) (hs : s % 3 = 0) (hb : b ≤ 2) (h : 3 * q = s + b * P) : q = s / 3 := by
  have h1 : (s + b * P) % 3 = 0 := by rw [← h]; exact Nat.mul_mod_right 3 q
  have h2 : (b * P) % 3 = b % 3 := by rw [Nat.mul_mod, hP, Nat.mul_one, Nat.mod_mod]
  have h3 : b = 0 := by omega
  subst h3
  omega

set_option maxHeartbeats 400000 in
theorem thirdOf_any (bz zo n cap : Nat) (Z : List Nat) (w : World) (hB : Blk w bz Z) (hLZ : Limbs Z) (hzo : zo + n ≤ Z.length) (hc1 : n ≤ cap) (hc2 : cap ≤ 9223372036854775807) (h3 : sv Z zo n % 3 = 0) :
    Calls Tryd.prog 86 #[.slice (some ⟨bz, zo, none⟩) n cap] w (IntoDone bz zo n Z w (sv Z zo n / 3)) := by
  have HB0 := hide hB
  have HLZ := hide hLZ
  have H3 := hide h3
  clear hB h3
  go_enter Tryd.func86, Tryd.ntmps86
  go_wp2
  go_loopw [2, 11] (fun c i wr => ∃ (k b : Nat) (Z' : List Nat), k ≤ n ∧ i = .int .i64 k ∧ c = .int .u64 b ∧ b ≤ 2 ∧ Out Z Z' zo (zo + k) ∧ Limbs Z' ∧ Blk wr bz Z' ∧ Fr bz w wr ∧
      3 * sv Z' zo k = sv Z zo k + b * 18446744073709551616 ^ k) (fun _ i _ => n - (intOf i).toNat)
  case atStart => exact ⟨0, 0, Z, Nat.zero_le _, rfl, rfl, by omega, Out.refl _ _ _, HLZ.out, HB0.out, Fr.refl _ _, by simp [sv_zero]⟩
  case round =>
    obtain ⟨k, b, Z', hk, rfl, rfl, hb, hout, hlz, hblk, hfr0, hval⟩ := hrel
    have hl := hout.len
    have HV := hide hval
    have HB := hide hblk
    have HF := hide hfr0
    have HO := hide hout
    clear hval
    by_cases hkl : k < n
    · have hfr := hblk.free (zo + k)
      have hco := hblk.cell (zo + k) (by omega)
      have z2 := limb_lt hlz (zo + k)
      have hsame := hout.same (zo + k) (by omega)
      obtain ⟨q1, q2, q3⟩ := third_limb (Z'.getD (zo + k) 0) b z2 hb
      have HS := hide (third_step Z Z' zo k b _ _ (by omega) hl HV.out (by rw [← hsame]; exact q1))
      have ha := sub64_z (Z'.getD (zo + k) 0) b
      generalize Z'.getD (zo + k) 0 = v at *
      clear hsame q1
      generalize (v + 18446744073709551616 - b) % 18446744073709551616 = r at *
      generalize bor v b 0 = u at *
      have ht : r * 12297829382473034411 % 18446744073709551616 < 18446744073709551616 := Nat.mod_lt _ (by omega)
      have e1 : IntKind.u64.wrap ((r : Int) * 12297829382473034411) = ((r * 12297829382473034411 % 18446744073709551616 : Nat) : Int) := by rw [IntKind.wrap_u64]; omega
      generalize r * 12297829382473034411 % 18446744073709551616 = t at *
      have hM := fun w' => Tryd.bits_Mul64 t 3 ht (by omega) w'
      generalize t * 3 / 18446744073709551616 = h1 at *
      have e2 : (h1 : Int) + (u : Int) = ((h1 + u : Nat) : Int) := by omega
      generalize h1 + u = c2 at *
      clear hblk hfr0 hout HV
      go_wp2_with fail
      refine (hM _).mono ?_
      rintro e w2 ⟨rfl, hw⟩
      subst hw
      clear hM
      go_wp2
      go_roundw
      case rel => exact ⟨k + 1, c2, Z'.set (zo + k) t, by omega, by go_num, rfl, q2, (HO.out.wider (Nat.le_refl _) (by omega)).set _ _ (by omega) (by omega), limbs_set hlz _ _ ht, HB.out.set _ t, HF.out.setCell _ _, HS.out⟩
      case measure => simp [intOf]; omega
    · have ek : k = n := by omega
      subst ek
      have HE := hide (third_end _ _ b _ (W_mod3 k) H3.out hb HV.out)
      clear hblk hfr0 hout HV
      go_wp2
      go_end0
      exact ⟨rfl, Z', HO.out, hlz, HB.out, HF.out, HE.out⟩

end Go.Proofs.YtmloigbacfllhaaDoor
