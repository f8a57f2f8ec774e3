/- Package mul: plus. -/
import Derived.Test.YtmloigbacfllhaaDoorMulD
namespace Go.Proofs.YtmloigbacfllhaaDoor
open Go.RowKit
open Lm
attribute [local go_sem ↓] Go.wp_at_zero Go.wp_at_succ

/-- One limb is added in place. -/
theorem seg_add_step (Z Z' : List Nat) (o k cy c2 s v V : Nat) (hz : o + k < Z'.length) (hl : Z'.length = Z.length)
    (h : sv Z' o k + cy * 18446744073709551616 ^ k = sv Z o k + V) (hs : s + c2 * 18446744073709551616 = Z.getD (o + k) 0 + v + cy) :
    sv (Z'.set (o + k) s) o (k + 1) + c2 * 18446744073709551616 ^ (k + 1) = sv Z o (k + 1) + (V + 18446744073709551616 ^ k * v) := by
  rw [sv_set_succ _ _ _ _ hz, sv_succ Z o k (by omega), show (18446744073709551616 : Nat) ^ (k + 1) = 18446744073709551616 ^ k * 18446744073709551616 from Nat.pow_succ ..]
  generalize sv Z' o k = A at *
  generalize sv Z o k = B at *
  generalize Z.getD (o + k) 0 = z at *
  generalize (18446744073709551616 : Nat) ^ k = P at *
  generalize (18446744073709551616 : Nat) = W at *
  grind

/-- The rest of the piece is as it was. -/
theorem seg_rest (Z Z' : List Nat) (o k n V : Nat) (hk : k ≤ n) (hn : o + n ≤ Z.length) (ho : Out Z Z' o (o + k)) (h : sv Z' o k = sv Z o k + V) : sv Z' o n = sv Z o n + V := by
  obtain ⟨d, rfl⟩ : ∃ d, n = k + d := ⟨n - k, by omega⟩
  rw [sv_split Z' o k d (by rw [ho.len]; omega), sv_split Z o k d (by omega), h, ho.sv (o + k) d (by omega)]
  omega

theorem tr_len_lt (X : List Nat) (n : Nat) (h : val X < 18446744073709551616 ^ n) : (tr X).length ≤ n := by
  refine Nat.le_of_not_lt fun hlt => ?_
  obtain ⟨m, hm⟩ : ∃ m, (tr X).length = m + 1 := ⟨(tr X).length - 1, by omega⟩
  have h1 := tr_val_ge X m hm
  rw [val_tr] at h1
  have h2 : (18446744073709551616 : Nat) ^ n ≤ 18446744073709551616 ^ m := Nat.pow_le_pow_right (by omega) (by omega)
  omega

/-- A carry out of the whole piece there is not. -/
theorem seg_no_carry (Z Z' : List Nat) (o n cy V : Nat) (hZ : sv Z o n + V < 18446744073709551616 ^ n) (h : sv Z' o n + cy * 18446744073709551616 ^ n = sv Z o n + V) : cy = 0 := by
  rcases Nat.eq_zero_or_pos cy with h0 | h0
  · exact h0
  · have := Nat.mul_le_mul_right (18446744073709551616 ^ n) h0
    omega

theorem add_limb (z v cy : Nat) (hz : z < 18446744073709551616) (hv : v < 18446744073709551616) (hc : cy ≤ 1) :
    (z + v + cy) % 18446744073709551616 + (z + v + cy) / 18446744073709551616 * 18446744073709551616 = z + v + cy ∧ (z + v + cy) / 18446744073709551616 ≤ 1 ∧ (z + v + cy) % 18446744073709551616 < 18446744073709551616 := by
  omega

/-- What a call in place does. -/
def InPlace (bz zo n : Nat) (Z : List Nat) (w : World) (p : Nat) (e : Ending) (w' : World) : Prop := IntoDone bz zo n Z w p e w'

set_option maxHeartbeats 1000000 in
theorem plus_any (bz zo n cap : Nat) (Z : List Nat) (va : Value) (X : List Nat) (w : World) (hB : Blk w bz Z) (hLZ : Limbs Z) (hA : Arg w va X) (ho : Off va bz zo (zo + n))
    (hzo : zo + n ≤ Z.length) (hc1 : n ≤ cap) (hc2 : cap ≤ 9223372036854775807) (hfit : sv Z zo n + val X < 18446744073709551616 ^ n) :
    Calls Tryd.prog 82 #[.slice (some ⟨bz, zo, none⟩) n cap, va] w (IntoDone bz zo n Z w (sv Z zo n + val X)) := by
  obtain ⟨a1, c1, rfl, hcc1, hcm1, hl1⟩ := hA.form
  have hX := hA.few
  have H1 := mtrim_any a1 c1 X w hcc1 hcm1 hl1
  have M1 := limbs_tr hA.limbs
  have hle := tr_length_le X
  have hln := tr_len_lt X n (by omega)
  have hao : ∀ b off, a1 = some ⟨b, off, none⟩ → b ≠ bz ∨ off + (tr X).length ≤ zo ∨ zo + n ≤ off := fun b off e => by
    subst e
    rcases ho b off _ _ rfl with h | h | h
    · exact .inl h
    · exact .inr (.inl (by omega))
    · exact .inr (.inr h)
  have L1 := hl1.tr
  rw [← val_tr X] at hfit ⊢
  clear ho hA hl1
  generalize tr X = P at *
  have HFIT := hide hfit
  have HB0 := hide hB
  have HLZ := hide hLZ
  clear hfit
  go_enter Tryd.func82, Tryd.ntmps82
  go_wp2_with fail
  refine H1.mono ?_
  rintro e w' ⟨rfl, hw⟩; subst hw
  clear H1
  go_wp2
  go_loopw [4, 12] (fun c i wr => ∃ (k cy : Nat) (Z' : List Nat), k ≤ P.length ∧ i = .int .i64 k ∧ c = .int .u64 cy ∧ cy ≤ 1 ∧ Out Z Z' zo (zo + k) ∧ Limbs Z' ∧ Blk wr bz Z' ∧ Fr bz w' wr ∧
      sv Z' zo k + cy * 18446744073709551616 ^ k = sv Z zo k + val (P.take k)) (fun _ i _ => P.length - (intOf i).toNat)
  case atStart => exact ⟨0, 0, Z, Nat.zero_le _, rfl, rfl, by omega, Out.refl _ _ _, HLZ.out, HB0.out, Fr.refl _ _, by simp [sv_zero, val]⟩
  case round =>
    obtain ⟨k, cy, Z', hk, rfl, rfl, hcy, hout, hlz, hblk, hfr0, hval⟩ := hrel
    have HV := hide hval
    have HB := hide hblk
    have HF := hide hfr0
    have HO := hide hout
    have hl := hout.len
    clear hval
    by_cases hkl : k < P.length
    · rcases L1.fr hao hfr0 hB hblk (hout.wider (Nat.le_refl _) (by omega)) with h0 | ⟨b, off, rfl, hcell⟩
      · rw [h0] at hkl; simp at hkl
      · have hck := hcell k hkl
        have hfr := hblk.free (zo + k)
        have hco := hblk.cell (zo + k) (by omega)
        have z1 := limb_lt M1 k
        have z2 := limb_lt hlz (zo + k)
        have hsame := hout.same (zo + k) (by omega)
        have ha := add64 (Z'.getD (zo + k) 0) (P.getD k 0) cy hcy
        obtain ⟨q1, q2, q3⟩ := add_limb (Z'.getD (zo + k) 0) (P.getD k 0) cy z2 z1 hcy
        have HS := hide (seg_add_step Z Z' zo k cy _ _ (P.getD k 0) _ (by omega) hl HV.out (by rw [← hsame]; exact q1))
        rw [← val_take_next P k] at HS
        generalize Z'.getD (zo + k) 0 = z at *
        generalize P.getD k 0 = x at *
        clear hsame q1
        generalize (z + x + cy) % 18446744073709551616 = s at *
        generalize (z + x + cy) / 18446744073709551616 = c2 at *
        clear hcell hblk hfr0 hout HV M1 L1 hB hLZ
        go_wp2
        go_roundw
        case rel => exact ⟨k + 1, c2, Z'.set (zo + k) s, by omega, by go_num, rfl, q2, (HO.out.wider (Nat.le_refl _) (by omega)).set _ _ (by omega) (by omega), limbs_set hlz _ _ q3, HB.out.set _ s, HF.out.setCell _ _, HS.out⟩
        case measure => simp [intOf]; omega
    · have ek : k = P.length := by omega
      subst ek
      rw [List.take_length] at HV
      clear hblk hfr0 hout L1 hB M1 hLZ hl
      go_wp2
      go_loopw [4, 7] (fun c i wr2 => ∃ (k cy : Nat) (Z2 : List Nat), k ≤ n ∧ i = .int .i64 k ∧ c = .int .u64 cy ∧ cy ≤ 1 ∧ Out Z Z2 zo (zo + k) ∧ Limbs Z2 ∧ Blk wr2 bz Z2 ∧ Fr bz w' wr2 ∧
          sv Z2 zo k + cy * 18446744073709551616 ^ k = sv Z zo k + val P) (fun _ i _ => n - (intOf i).toNat)
      case atStart => exact ⟨P.length, cy, Z', hln, rfl, rfl, hcy, HO.out, hlz, HB.out, HF.out, HV.out⟩
      case round =>
        obtain ⟨k, cy2, Z2, hk2, rfl, rfl, hcy2, hout2, hlz2, hblk2, hfr2, hval2⟩ := hrel
        clear HV HB HF HO
        have HV := hide hval2
        have HB := hide hblk2
        have HF := hide hfr2
        have HO := hide hout2
        have hl := hout2.len
        clear hval2
        by_cases hc0 : cy2 = 0
        · subst hc0
          have HR := hide (seg_rest Z Z2 zo k n _ hk2 hzo hout2 (by have h := HV.out; rw [Nat.zero_mul, Nat.add_zero] at h; exact h))
          clear hblk2 hfr2 hout2 HV
          go_wp2
          go_end0
          exact ⟨rfl, Z2, HO.out.wider (Nat.le_refl _) (by omega), hlz2, HB.out, HF.out, HR.out⟩
        · have hpos : (0 : Int) < (cy2 : Int) := by omega
          have hkn : k < n := by
            rcases Nat.lt_or_ge k n with h | h
            · exact h
            · have ek : k = n := by omega
              subst ek
              exact absurd (seg_no_carry Z Z2 zo k cy2 (val P) HFIT.out HV.out) hc0
          have hfr := hblk2.free (zo + k)
          have hco := hblk2.cell (zo + k) (by omega)
          have z2 := limb_lt hlz2 (zo + k)
          have hsame := hout2.same (zo + k) (by omega)
          have ha := add64_0 (Z2.getD (zo + k) 0) cy2
          obtain ⟨q1, q2, q3⟩ := add_limb (Z2.getD (zo + k) 0) 0 cy2 z2 (by omega) hcy2
          have HS := hide (seg_add_step Z Z2 zo k cy2 _ _ 0 _ (by omega) hl HV.out (by rw [← hsame]; exact q1))
          rw [Nat.mul_zero, Nat.add_zero] at HS
          rw [Nat.add_zero] at HS q2 q3
          generalize Z2.getD (zo + k) 0 = z at *
          clear hsame q1
          generalize (z + cy2) % 18446744073709551616 = s at *
          generalize (z + cy2) / 18446744073709551616 = c2 at *
          clear hblk2 hfr2 hout2 HV hc0
          go_wp2
          go_roundw
          case rel => exact ⟨k + 1, c2, Z2.set (zo + k) s, by omega, by go_num, rfl, q2, (HO.out.wider (Nat.le_refl _) (by omega)).set _ _ (by omega) (by omega), limbs_set hlz2 _ _ q3, HB.out.set _ s, HF.out.setCell _ _, HS.out⟩
          case measure => simp [intOf]; omega

end Go.Proofs.YtmloigbacfllhaaDoor
