/- Package div: Rem64, limbPower. -/
import Derived.Test.YtelfjadonlgkiaaGreatDoorQB
import Derived.Test.YtelfjadonlgkiaaGreatDoorQJ
import Derived.Test.YtelfjadonlgkiaaGreatDoorQC
namespace Go.Proofs.YtelfjadonlgkiaaGreatDoor
open Go.RowKit
open Lm
attribute [local go_sem ↓] Go.wp_at_zero Go.wp_at_succ

theorem rem_top (hi lo y : Nat) : (hi % y * 18446744073709551616 + lo) % y = (hi * 18446744073709551616 + lo) % y := by
  rw [Nat.add_mod, Nat.mul_mod, Nat.mod_mod, ← Nat.mul_mod, ← Nat.add_mod]

theorem rem64_any (hi lo y : Nat) (w : World) (hy : y < 18446744073709551616) (hy0 : 0 < y) (hhi : hi < 18446744073709551616) (hlo : lo < 18446744073709551616) :
    Calls Tryz.prog 41 #[.int .u64 hi, .int .u64 lo, .int .u64 y] w fun e w' => e = .returned (.int .u64 (((hi * 18446744073709551616 + lo) % y : Nat) : Int)) ∧ Same w w' := by
  have hlt : hi % y < y := Nat.mod_lt _ hy0
  have HD := div64_any (hi % y) lo y w hy hlt hlo
  rw [rem_top] at HD
  have hz : ((y : Int) == 0) = false := by rw [beq_eq_false_iff_ne]; omega
  have hmod : (hi : Int) % (y : Int) = ((hi % y : Nat) : Int) := by omega
  have hlt2 : hi % y < 18446744073709551616 := by omega
  generalize hi % y = c at *
  generalize (hi * 18446744073709551616 + lo) % y = r at *
  go_enter Tryz.func41, Tryz.ntmps41
  go_wp2_with fail
  refine HD.mono ?_
  rintro e w2 ⟨rfl, hs⟩
  have HS := hide hs
  clear HD hs
  go_wp2
  go_ret
  exact ⟨rfl, HS.out⟩

/-- The closure 'times': a product modulo the limb that it holds. -/
theorem times_mod (x y m gb : Nat) (w : World) (hx : x < 18446744073709551616) (hy : y < 18446744073709551616) (hm : m < 18446744073709551616) (hm0 : 0 < m) (hc : w.cell? ⟨gb, 0, none⟩ = some (.int .u64 (m : Int))) :
    Calls Tryz.prog 39 #[.int .u64 x, .int .u64 y, .pointer (some ⟨gb, 0, none⟩)] w fun e w' => e = .returned (.int .u64 ((x * y % m : Nat) : Int)) ∧ Same w w' := by
  have hM := Tryz.bits_Mul64 x y hx hy w
  have e1 : x * y / 18446744073709551616 < 18446744073709551616 := by
    rw [Nat.div_lt_iff_lt_mul (by omega)]
    exact Nat.mul_lt_mul_of_lt_of_lt hx hy
  have HR := rem64_any (x * y / 18446744073709551616) (x * y % 18446744073709551616) m w hm hm0 e1 (Nat.mod_lt _ (by omega))
  rw [show x * y / 18446744073709551616 * 18446744073709551616 + x * y % 18446744073709551616 = x * y by have := Nat.div_add_mod (x * y) 18446744073709551616; omega] at HR
  have hl1 : x * y % 18446744073709551616 < 18446744073709551616 := Nat.mod_lt _ (by omega)
  have HMR := hide hc
  generalize x * y % m = r at *
  generalize x * y / 18446744073709551616 = h at *
  generalize x * y % 18446744073709551616 = l at *
  go_enter Tryz.func39, Tryz.ntmps39
  go_wp2_with fail
  refine hM.mono ?_
  rintro e wn ⟨rfl, hw⟩; rw [hw]; clear hw wn hM
  go_wp2_with fail
  refine HR.mono ?_
  rintro e w2 ⟨rfl, hs⟩
  have HS := hide hs
  clear HR hs hc
  go_wp2
  go_ret
  exact ⟨rfl, HS.out⟩

theorem pow_double (a E m : Nat) : a ^ E % m * (a ^ E % m) % m = a ^ (2 * E) % m := by
  rw [← Nat.mul_mod, ← Nat.pow_add]; congr 2; omega

theorem pow_more (a E m : Nat) : a ^ (2 * E) % m * (a % m) % m = a ^ (2 * E + 1) % m := by
  rw [← Nat.mul_mod, ← Nat.pow_succ]

/-- A number's bits from the top, one more. -/
theorem bits_next (x k : Nat) : x / 2 ^ k = 2 * (x / 2 ^ (k + 1)) + x / 2 ^ k % 2 := by
  rw [Nat.pow_succ, ← Nat.div_div_eq_div_mul]
  omega

set_option maxRecDepth 20000 in
set_option maxHeartbeats 1000000 in
theorem limbPower_any (base m a : Nat) (ve : Value) (E : List Nat) (w : World) (hA : Arg w ve E) (hm : m < 18446744073709551616) (hm0 : 0 < m) (hb : base = a % m) :
    Calls Tryz.prog 15 #[.int .u64 base, ve, .int .u64 m] w fun e w' => e = .returned (.int .u64 ((a ^ val E % m : Nat) : Int)) ∧ Below w.heap.size w w' := by
  have hbm : base < 18446744073709551616 := by rw [hb]; exact Nat.lt_trans (Nat.mod_lt _ hm0) hm
  obtain ⟨w0, hw0⟩ : ∃ w0, w0 = w.alloc (.cells #[.int .u64 (m : Int)] 40) := ⟨_, rfl⟩
  have hbel0 : Below w.heap.size w w0 := by rw [hw0]; exact (Below.refl _ _).alloc (Nat.le_refl _) _
  have hc0 : w0.cell? ⟨w.heap.size, 0, none⟩ = some (.int .u64 (m : Int)) := by
    have : w0.heap[w.heap.size]? = some (.cells #[.int .u64 (m : Int)] 40) := by rw [hw0]; exact heap_alloc_new ..
    simp [World.cell?, this]
  have HL := length_val _ _ w0 (hA.below hbel0)
  obtain ⟨a1, k1, rfl, _, _, _⟩ := hA.form
  have hbits : blen (val E) ≤ 64 * E.length := (blen_le_iff _ _).2 (by have := val_lt hA.limbs; rw [show (18446744073709551616 : Nat) = 2 ^ 64 from rfl, ← Nat.pow_mul] at this; exact this)
  have hfew := hA.few
  have hz : ((m : Int) == 0) = false := by rw [beq_eq_false_iff_ne]; omega
  have h1m : (1 : Int) % (m : Int) = ((1 % m : Nat) : Int) := by rw [Int.natCast_emod]; rfl
  have hE0 : val E / 2 ^ blen (val E) = 0 := Nat.div_eq_of_lt ((blen_le_iff _ _).1 (Nat.le_refl _))
  have START : Hid (1 % m = a ^ (val E / 2 ^ blen (val E)) % m) := by rw [hE0, Nat.pow_zero]; exact hide rfl
  have h1l : 1 % m < 18446744073709551616 := Nat.lt_trans (Nat.mod_lt _ hm0) hm
  obtain ⟨L, hL⟩ : ∃ L, blen (val E) = L := ⟨_, rfl⟩
  rw [hL] at HL START hbits
  have HA := hide (hA.below hbel0)
  have HBL := hide hbel0
  have HW0 := hide hw0
  have HBM := hide hb
  generalize 1 % m = o at *
  have hc0' := hc0
  rw [hw0] at hc0'
  clear hA hL hE0 hbel0 hw0 hb
  go_enter Tryz.func15, Tryz.ntmps15
  go_wp2_with fail
  rw [← HW0.out]
  refine HL.mono ?_
  rintro e wn ⟨rfl, hw⟩; rw [hw]; clear hw wn HL
  go_wp2
  go_loopw [8, 9] (fun v i wr => ∃ k x : Nat, k ≤ L ∧ i = .int .i64 ((k : Int) - 1) ∧ v = .int .u64 x ∧ x < 18446744073709551616 ∧ x = a ^ (val E / 2 ^ k) % m ∧ Same w0 wr) (fun _ i _ => (intOf i + 1).toNat)
  case atStart => exact ⟨L, o, Nat.le_refl _, rfl, rfl, h1l, START.out, Same.refl _⟩
  case round =>
    obtain ⟨k, x, hk, rfl, rfl, hx, hxe, hs⟩ := hrel
    have HX := hide hxe
    have HS := hide hs
    clear hxe hs START
    by_cases hk0 : k = 0
    · subst hk0
      have hxe := HX.out
      rw [Nat.pow_zero, Nat.div_one] at hxe
      have HE := hide hxe
      clear hxe
      go_wp2
      go_ret
      exact ⟨by rw [HE.out]; rfl, HBL.out.trans (HS.out.below _)⟩
    · obtain ⟨j, rfl⟩ : ∃ j, k = j + 1 := ⟨k - 1, by omega⟩
      have ej : (((j + 1 : Nat) : Int) - 1) = (j : Int) := by omega
      rw [ej]
      have hj0 : (0 : Int) ≤ (j : Int) := by omega
      have hcr : wr.cell? ⟨w.heap.size, 0, none⟩ = some (.int .u64 (m : Int)) := by unfold World.cell?; rw [HS.out.heap]; exact hc0
      have HT1 := times_mod x x m w.heap.size wr hx hx hm hm0 hcr
      have e1 : x * x % m = a ^ (2 * (val E / 2 ^ (j + 1))) % m := by rw [HX.out]; exact pow_double _ _ _
      have hlt1 : x * x % m < 18446744073709551616 := Nat.lt_trans (Nat.mod_lt _ hm0) hm
      have HE1 := hide e1
      generalize x * x % m = y at *
      clear e1 hk0 ej
      go_wp2_with fail
      refine HT1.mono ?_
      rintro e w2 ⟨rfl, hs2⟩
      have HS2 := hide (HS.out.trans hs2)
      have HB := nbit_any _ E (j : Int) w2 (HA.out.below (HS2.out.below _)) (by omega) (by omega)
      have hbit : bitI (val E) (j : Int) = val E / 2 ^ j % 2 := by unfold bitI; rw [if_neg (by omega), Int.toNat_natCast]
      rw [hbit] at HB
      have hn := bits_next (val E) j
      clear HT1 hs2 hbit
      rcases Nat.mod_two_eq_zero_or_one (val E / 2 ^ j) with hb0 | hb1
      · rw [hb0] at HB hn
        have HN : Hid (y = a ^ (val E / 2 ^ j) % m) := by rw [hn, Nat.add_zero]; exact hide HE1.out
        clear hn hb0
        go_wp2_with fail
        refine HB.mono ?_
        rintro e wn ⟨rfl, hw⟩; rw [hw]; clear hw wn HB
        go_wp2
        go_roundw
        case rel => exact ⟨j, y, by omega, rfl, rfl, hlt1, HN.out, HS2.out⟩
        case measure => simp [intOf]
      · rw [hb1] at HB hn
        have hcr2 : w2.cell? ⟨w.heap.size, 0, none⟩ = some (.int .u64 (m : Int)) := by unfold World.cell?; rw [HS2.out.heap]; exact hc0
        have HT2 := times_mod y base m w.heap.size w2 hlt1 hbm hm hm0 hcr2
        have HN : Hid (y * base % m = a ^ (val E / 2 ^ j) % m) := by rw [hn, HE1.out, HBM.out]; exact hide (pow_more _ _ _)
        have hlt2 : y * base % m < 18446744073709551616 := Nat.lt_trans (Nat.mod_lt _ hm0) hm
        generalize y * base % m = z at *
        clear hn hb1
        go_wp2_with fail
        refine HB.mono ?_
        rintro e wn ⟨rfl, hw⟩; rw [hw]; clear hw wn HB
        go_wp2_with fail
        refine HT2.mono ?_
        rintro e w3 ⟨rfl, hs3⟩
        have HS3 := hide (HS2.out.trans hs3)
        clear HT2 hs3
        go_wp2
        go_roundw
        case rel => exact ⟨j, z, by omega, rfl, rfl, hlt2, HN.out, HS3.out⟩
        case measure => simp [intOf]

end Go.Proofs.YtelfjadonlgkiaaGreatDoor
