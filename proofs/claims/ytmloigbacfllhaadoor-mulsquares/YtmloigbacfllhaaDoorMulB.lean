/- Package mul: addTimes. -/
import Derived.Test.YtmloigbacfllhaaDoorMulA
import Derived.Test.YtmloigbacfllhaaDoorShelf
namespace Go.Proofs.YtmloigbacfllhaaDoor
open Go.RowKit
open Lm
attribute [local go_sem ↓] Go.wp_at_zero Go.wp_at_succ

theorem addTimes_limb (P z cy : Nat) (h : P + z + cy < 340282366920938463463374607431768211456) (_hz : z < 18446744073709551616) (_hc : cy < 18446744073709551616) :
    ((P % 18446744073709551616 + z) % 18446744073709551616 + cy) % 18446744073709551616 + (P / 18446744073709551616 + (P % 18446744073709551616 + z) / 18446744073709551616 + ((P % 18446744073709551616 + z) % 18446744073709551616 + cy) / 18446744073709551616) * 18446744073709551616 = P + z + cy ∧
    P / 18446744073709551616 + (P % 18446744073709551616 + z) / 18446744073709551616 < 18446744073709551616 ∧
    P / 18446744073709551616 + (P % 18446744073709551616 + z) / 18446744073709551616 + ((P % 18446744073709551616 + z) % 18446744073709551616 + cy) / 18446744073709551616 < 18446744073709551616 ∧
    ((P % 18446744073709551616 + z) % 18446744073709551616 + cy) % 18446744073709551616 < 18446744073709551616 := by
  omega

set_option maxHeartbeats 800000 in
theorem addTimes_any (bz zo cap : Nat) (Z : List Nat) (v1 : Value) (X : List Nat) (m : Nat) (w : World) (hB : Blk w bz Z) (hLZ : Limbs Z) (hA : Arg w v1 X) (ho : Off v1 bz zo (zo + X.length))
    (hzo : zo + X.length ≤ Z.length) (hc1 : X.length ≤ cap) (hc2 : cap ≤ 9223372036854775807) (hm : m < 18446744073709551616) :
    Calls Tryd.prog 79 #[.slice (some ⟨bz, zo, none⟩) X.length cap, v1, .int .u64 m] w fun e w' => ∃ (cy : Nat) (Z' : List Nat), e = .returned (.int .u64 (cy : Int)) ∧ cy < 18446744073709551616 ∧
      Out Z Z' zo (zo + X.length) ∧ Limbs Z' ∧ Blk w' bz Z' ∧ Fr bz w w' ∧ sv Z' zo X.length + cy * 18446744073709551616 ^ X.length = sv Z zo X.length + val X * m := by
  obtain ⟨a1, c1, rfl, hcc1, hcm1, hl1⟩ := hA.form
  have M1 := hA.limbs
  have hX := hA.few
  have hao : ∀ b off, a1 = some ⟨b, off, none⟩ → b ≠ bz ∨ off + X.length ≤ zo ∨ zo + X.length ≤ off := fun b off e => by subst e; exact ho b off _ _ rfl
  clear ho hA
  go_enter Tryd.func79, Tryd.ntmps79
  go_wp2
  go_loopw [7, 16] (fun c i wr => ∃ (k cy : Nat) (Z' : List Nat), k ≤ X.length ∧ i = .int .i64 k ∧ c = .int .u64 cy ∧ cy < 18446744073709551616 ∧ Out Z Z' zo (zo + k) ∧ Limbs Z' ∧ Blk wr bz Z' ∧ Fr bz w wr ∧
      sv Z' zo k + cy * 18446744073709551616 ^ k = sv Z zo k + val (X.take k) * m) (fun _ i _ => X.length - (intOf i).toNat)
  case atStart => exact ⟨0, 0, Z, Nat.zero_le _, rfl, rfl, by omega, Out.refl _ _ _, hLZ, hB, Fr.refl _ _, by simp [sv_zero, val]⟩
  case round =>
    obtain ⟨k, cy, Z', hk, rfl, rfl, hcy, hout, hlz, hblk, hfr0, hval⟩ := hrel
    have HV := hide hval
    have HB := hide hblk
    have HF := hide hfr0
    have HO := hide hout
    have hl := hout.len
    clear hval
    by_cases hkl : k < X.length
    · rcases hl1.fr hao hfr0 hB hblk (hout.wider (Nat.le_refl _) (by omega)) with h0 | ⟨b, off, rfl, hcell⟩
      · rw [h0] at hkl; simp at hkl
      · have hck := hcell k hkl
        have hfr := hblk.free (zo + k)
        have hco := hblk.cell (zo + k) (by omega)
        have z1 := limb_lt M1 k
        have z2 := limb_lt hlz (zo + k)
        have hsame := hout.same (zo + k) (by omega)
        have hft := addTimes_fit (X.getD k 0) m (Z'.getD (zo + k) 0) cy z1 hm z2 hcy
        have hlm := addTimes_limb (X.getD k 0 * m) (Z'.getD (zo + k) 0) cy hft z2 hcy
        have HS := hide (fun hi lo hs => addTimes_step Z Z' X zo k m cy hi lo (by omega) hsame hl HV.out hs)
        rw [← hsame] at HS
        have ha1 := add64_0 (X.getD k 0 * m % 18446744073709551616) (Z'.getD (zo + k) 0)
        have ha2 := add64_0 ((X.getD k 0 * m % 18446744073709551616 + Z'.getD (zo + k) 0) % 18446744073709551616) cy
        have hM := Tryd.bits_Mul64 (X.getD k 0) m z1 hm wr
        generalize Z'.getD (zo + k) 0 = z at *
        generalize X.getD k 0 = x at *
        generalize hP : x * m = P at *
        clear hP hft hsame
        obtain ⟨q1, q2, q3, q4⟩ := hlm
        have HS2 := hide (HS.out _ _ q1)
        clear HS q1
        generalize ((P % 18446744073709551616 + z) % 18446744073709551616 + cy) % 18446744073709551616 = s at *
        generalize ((P % 18446744073709551616 + z) % 18446744073709551616 + cy) / 18446744073709551616 = o2 at *
        generalize (P % 18446744073709551616 + z) % 18446744073709551616 = s1 at *
        generalize (P % 18446744073709551616 + z) / 18446744073709551616 = o1 at *
        generalize P / 18446744073709551616 = h1 at *
        generalize P % 18446744073709551616 = l1 at *
        have e1 : (h1 : Int) + (o1 : Int) = ((h1 + o1 : Nat) : Int) := by omega
        generalize h1 + o1 = h2 at *
        have e2 : (h2 : Int) + (o2 : Int) = ((h2 + o2 : Nat) : Int) := by omega
        generalize h2 + o2 = h3 at *
        clear hcell hblk hfr0 hout HV M1 hl1 hB hLZ
        go_wp2_with fail
        refine hM.mono ?_
        rintro e w2 ⟨rfl, rfl⟩
        clear hM
        go_wp2
        go_roundw
        case rel => exact ⟨k + 1, h3, Z'.set (zo + k) s, by omega, by go_num, rfl, q3, (HO.out.wider (Nat.le_refl _) (by omega)).set _ _ (by omega) (by omega), limbs_set hlz _ _ q4, HB.out.set _ s, HF.out.setCell _ _, HS2.out⟩
        case measure => simp [intOf]; omega
    · have ek : k = X.length := by omega
      subst ek
      rw [List.take_length] at HV
      clear hblk hfr0 hout hl1 hB
      go_wp2
      go_ret
      exact ⟨cy, Z', rfl, hcy, HO.out, hlz, HB.out, HF.out, HV.out⟩

end Go.Proofs.YtmloigbacfllhaaDoor
