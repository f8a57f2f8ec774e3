/- Package mul: plusTimes. -/
import Derived.Test.YtmloigbacfllhaaDoorMulJ
namespace Go.Proofs.YtmloigbacfllhaaDoor
open Go.RowKit
open Lm
attribute [local go_sem ↓] Go.wp_at_zero Go.wp_at_succ

theorem carry_limb (z cy : Nat) (hz : z < 18446744073709551616) (hc : cy < 18446744073709551616) :
    (z + 0 + cy) % 18446744073709551616 + (z + 0 + cy) / 18446744073709551616 * 18446744073709551616 = z + 0 + cy ∧ (z + 0 + cy) / 18446744073709551616 < 18446744073709551616 ∧ (z + 0 + cy) % 18446744073709551616 < 18446744073709551616 := by
  omega

theorem Off.less {v : Value} {bz lo hi hi' : Nat} (h : Off v bz lo hi) (hh : hi' ≤ hi) : Off v bz lo hi' := fun b off n c e => by
  rcases h b off n c e with h1 | h1 | h1
  · exact .inl h1
  · exact .inr (.inl h1)
  · exact .inr (.inr (by omega))

set_option maxHeartbeats 1000000 in
theorem plusTimes_any (bz zo n cap : Nat) (Z : List Nat) (va : Value) (X : List Nat) (m : Nat) (w : World) (hB : Blk w bz Z) (hLZ : Limbs Z) (hA : Arg w va X) (ho : Off va bz zo (zo + n)) (hXn : X.length ≤ n)
    (hzo : zo + n ≤ Z.length) (hc1 : n ≤ cap) (hc2 : cap ≤ 9223372036854775807) (hm : m < 18446744073709551616) (hfit : sv Z zo n + val X * m < 18446744073709551616 ^ n) :
    Calls Tryd.prog 90 #[.slice (some ⟨bz, zo, none⟩) n cap, va, .int .u64 m] w (IntoDone bz zo n Z w (sv Z zo n + val X * m)) := by
  have HM := addTimes_any bz zo cap Z va X m w hB hLZ hA (ho.less (by omega)) (by omega) (by omega) hc2 hm
  obtain ⟨a1, c1, rfl, hcc1, hcm1, _⟩ := hA.form
  have HFIT := hide hfit
  clear hfit hA ho hB hLZ
  generalize val X * m = V at *
  have k1 : (X.length : Int) ≤ (n : Int) := by omega
  have k2 : X.length ≤ cap := by omega
  go_enter Tryd.func90, Tryd.ntmps90
  go_wp2_with fail
  refine HM.mono ?_
  rintro e w1 ⟨cy, Z1, rfl, hcy, hout, hlz, hblk, hfr0, hval⟩
  have HV := hide hval
  have HB := hide hblk
  have HF := hide hfr0
  have HO := hide hout
  clear hval hblk hfr0 hout HM
  go_wp2
  go_loopw [6, 7] (fun c i wr2 => ∃ (k cy : Nat) (Z2 : List Nat), k ≤ n ∧ i = .int .i64 k ∧ c = .int .u64 cy ∧ cy < 18446744073709551616 ∧ Out Z Z2 zo (zo + k) ∧ Limbs Z2 ∧ Blk wr2 bz Z2 ∧ Fr bz w wr2 ∧
      sv Z2 zo k + cy * 18446744073709551616 ^ k = sv Z zo k + V) (fun _ i _ => n - (intOf i).toNat)
  case atStart => exact ⟨X.length, cy, Z1, hXn, rfl, rfl, hcy, HO.out, hlz, HB.out, HF.out, HV.out⟩
  case round =>
    obtain ⟨k, cy2, Z2, hk2, rfl, rfl, hcy2, hout2, hlz2, hblk2, hfr2, hval2⟩ := hrel
    clear HV HB HF HO
    have HV := hide hval2
    have HB := hide hblk2
    have HF := hide hfr2
    have HO := hide hout2
    have hl := hout2.len
    clear hval2
    by_cases hc0 : cy2 = 0
    · subst hc0
      have HR := hide (seg_rest Z Z2 zo k n _ hk2 hzo hout2 (by have h := HV.out; rw [Nat.zero_mul, Nat.add_zero] at h; exact h))
      clear hblk2 hfr2 hout2 HV
      go_wp2
      go_end0
      exact ⟨rfl, Z2, HO.out.wider (Nat.le_refl _) (by omega), hlz2, HB.out, HF.out, HR.out⟩
    · have hpos : (0 : Int) < (cy2 : Int) := by omega
      have hkn : k < n := by
        rcases Nat.lt_or_ge k n with h | h
        · exact h
        · have ek : k = n := by omega
          subst ek
          exact absurd (seg_no_carry Z Z2 zo k cy2 V HFIT.out HV.out) hc0
      have hfr := hblk2.free (zo + k)
      have hco := hblk2.cell (zo + k) (by omega)
      have z2 := limb_lt hlz2 (zo + k)
      have hsame := hout2.same (zo + k) (by omega)
      have ha := add64_0 (Z2.getD (zo + k) 0) cy2
      obtain ⟨q1, q2, q3⟩ := carry_limb (Z2.getD (zo + k) 0) cy2 z2 hcy2
      have HS := hide (seg_add_step Z Z2 zo k cy2 _ _ 0 _ (by omega) hl HV.out (by rw [← hsame]; exact q1))
      rw [Nat.mul_zero, Nat.add_zero] at HS
      rw [Nat.add_zero] at HS q2 q3
      generalize Z2.getD (zo + k) 0 = z at *
      clear hsame q1
      generalize (z + cy2) % 18446744073709551616 = s at *
      generalize (z + cy2) / 18446744073709551616 = c2 at *
      clear hblk2 hfr2 hout2 HV hc0
      go_wp2
      go_roundw
      case rel => exact ⟨k + 1, c2, Z2.set (zo + k) s, by omega, by go_num, rfl, q2, (HO.out.wider (Nat.le_refl _) (by omega)).set _ _ (by omega) (by omega), limbs_set hlz2 _ _ q3, HB.out.set _ s, HF.out.setCell _ _, HS.out⟩
      case measure => simp [intOf]; omega

end Go.Proofs.YtmloigbacfllhaaDoor
