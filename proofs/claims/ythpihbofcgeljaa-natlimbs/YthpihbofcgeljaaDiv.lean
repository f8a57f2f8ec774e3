/- math\bits: Div64. -/
import Derived.Test.YthpihbofcgeljaaNatD
import Derived.Test.YthpihbofcgeljaaDivP
import Derived.Deep.CutBlock
import Derived.Deep.DeepCutAuto
namespace Go.Proofs.Ythpihbofcgeljaa
open Go.RowKit
open Lm

theorem div64_zero (lo y : Nat) (w : World) (hy : y < 18446744073709551616) (h0 : 0 < y) (hlo : lo < 18446744073709551616) :
    Calls Try.prog 49 #[.int .u64 0, .int .u64 lo, .int .u64 y] w fun e w' => e = .returned (.tuple #[.int .u64 ((lo / y : Nat) : Int), .int .u64 ((lo % y : Nat) : Int)]) ∧ Same w w' := by
  have hz : ((y : Int) == 0) = false := by rw [beq_eq_false_iff_ne]; omega
  have hz2 : decide ((y : Int) ≤ 0) = false := by simp; omega
  have e1 : (lo : Int) / (y : Int) = ((lo / y : Nat) : Int) := (Int.natCast_ediv _ _).symm
  have e2 : (lo : Int) % (y : Int) = ((lo % y : Nat) : Int) := (Int.natCast_emod _ _).symm
  have e3 : (lo : Int).tdiv (y : Int) = ((lo / y : Nat) : Int) := rfl
  have e4 : (lo : Int).tmod (y : Int) = ((lo % y : Nat) : Int) := rfl
  have b1 : lo / y < 18446744073709551616 := Nat.lt_of_le_of_lt (Nat.div_le_self _ _) hlo
  have b2 : lo % y < 18446744073709551616 := Nat.lt_of_le_of_lt (Nat.mod_le _ _) hlo
  generalize lo / y = a at *
  generalize lo % y = b at *
  have h1 : (1 : Int) ≤ (y : Int) := by omega
  go_enter Try.func49, Try.ntmps49
  go_wp2
  go_quiet (fail)
  go_wp2
  go_ret2
  exact ⟨rfl, (Same.refl _).drewN _⟩

theorem wrap_mul (x s r : Nat) (h : x * 2 ^ s % 18446744073709551616 = r) : IntKind.u64.wrap ((x : Int) * 2 ^ s) = (r : Int) := by
  rw [IntKind.wrap_u64]
  have : ((x : Int) * 2 ^ s) = ((x * 2 ^ s : Nat) : Int) := by rw [Int.natCast_mul, Int.natCast_pow]; rfl
  rw [this]; omega

theorem mask32 (a : Nat) (ha : a < 18446744073709551616) : bits BinOp.and IntKind.u64 (a : Int) 4294967295 = ((a % 4294967296 : Nat) : Int) := by
  have h := bits_and_u64_nat a 4294967295 ha (by omega)
  rw [show a &&& 4294967295 = a % 4294967296 from Nat.and_two_pow_sub_one_eq_mod a 32] at h
  exact h

theorem or_add (h s l U : Nat) (hs : s ≤ 64) (hl : l < 2 ^ s) (hh : h * 2 ^ s < 18446744073709551616) (hU : U = h * 2 ^ s + l) : bits BinOp.or IntKind.u64 ((h * 2 ^ s : Nat) : Int) (l : Int) = (U : Int) := by
  have hll : l < 18446744073709551616 := Nat.lt_of_lt_of_le hl (by rw [show (18446744073709551616 : Nat) = 2 ^ 64 from rfl]; exact Nat.pow_le_pow_right (by omega) hs)
  rw [bits_or_u64_nat _ _ hh hll, hU, Nat.mul_comm h, Nat.two_pow_add_eq_or_of_lt hl]

theorem rest_letters (a b y q r : Nat) (hd : q * y + r = a * 4294967296 + b) (hr : r < 18446744073709551616) :
    ∃ a1 a2 a3 : Nat, a1 < 18446744073709551616 ∧ a2 < 18446744073709551616 ∧ a3 < 18446744073709551616 ∧ IntKind.u64.wrap ((a : Int) * 4294967296) = (a1 : Int) ∧ IntKind.u64.wrap ((a1 : Int) + (b : Int)) = (a2 : Int) ∧
      IntKind.u64.wrap ((q : Int) * (y : Int)) = (a3 : Int) ∧ IntKind.u64.wrap ((a2 : Int) - (a3 : Int)) = (r : Int) := by
  refine ⟨a * 4294967296 % 18446744073709551616, (a * 4294967296 % 18446744073709551616 + b) % 18446744073709551616, q * y % 18446744073709551616, Nat.mod_lt _ (by omega), Nat.mod_lt _ (by omega), Nat.mod_lt _ (by omega), ?_, ?_, ?_, ?_⟩
  · rw [IntKind.wrap_u64]; omega
  · rw [IntKind.wrap_u64]; omega
  · rw [IntKind.wrap_u64, ← Int.natCast_mul]; omega
  · rw [IntKind.wrap_u64]
    omega

set_option maxRecDepth 100000 in
set_option maxHeartbeats 1000000 in
theorem div64_big (hi lo y : Nat) (w : World) (hy : y < 18446744073709551616) (hhi0 : 0 < hi) (hhi : hi < y) (hlo : lo < 18446744073709551616) :
    Calls Try.prog 49 #[.int .u64 hi, .int .u64 lo, .int .u64 y] w fun e w' => e = .returned (.tuple #[.int .u64 (((hi * 18446744073709551616 + lo) / y : Nat) : Int), .int .u64 (((hi * 18446744073709551616 + lo) % y : Nat) : Int)]) ∧ Same w w' := by
  have hz : ((y : Int) == 0) = false := by rw [beq_eq_false_iff_ne]; omega
  have hz1 : ((hi : Int) == 0) = false := by rw [beq_eq_false_iff_ne]; omega
  have hz2 : decide ((y : Int) ≤ (hi : Int)) = false := by simp; omega
  have HLZ := Try.bits_LeadingZeros64 (y : Int) w (by omega) (by omega)
  rw [Int.toNat_natCast] at HLZ
  obtain ⟨n1, n2, n3, n4⟩ := norm_y y (by omega) hy
  obtain ⟨s, hs⟩ : ∃ s, s = 64 - Lib.bitLen y := ⟨_, rfl⟩
  have hsI : (64 : Int) - (Lib.bitLen y : Int) = (s : Int) := by omega
  rw [hsI] at HLZ
  rw [← hs] at n3 n4
  have hs63 : s ≤ 63 := by omega
  clear hs hsI n1 n2
  have hp := Nat.two_pow_pos s
  have hhy : (hi + 1) * 2 ^ s ≤ y * 2 ^ s := Nat.mul_le_mul_right _ hhi
  rw [Nat.add_mul, Nat.one_mul] at hhy
  have hl1 := shr_lt lo s (by omega) hlo
  have HVV := hide (shift_whole hi lo s (by omega))
  have r1 := wrap_mul y s (y * 2 ^ s) (Nat.mod_eq_of_lt n4)
  have r4 := wrap_mul hi s (hi * 2 ^ s) (Nat.mod_eq_of_lt (by omega))
  have r7 := or_add hi s (lo / 2 ^ (64 - s)) (hi * 2 ^ s + lo / 2 ^ (64 - s)) (by omega) hl1 (by omega) rfl
  have r8 := wrap_mul lo s (lo * 2 ^ s % 18446744073709551616) rfl
  have r6 := walk_shr lo (64 - s)
  have HK := hide (fun N u0 q1 q0 => knuth_whole (hi * 18446744073709551616 + lo) y s N u0 q1 q0 (by omega))
  have hUY : hi * 2 ^ s + lo / 2 ^ (64 - s) < y * 2 ^ s := by omega
  have hu10 : lo * 2 ^ s % 18446744073709551616 < 18446744073709551616 := Nat.mod_lt _ (by omega)
  have r5 : (64 : Int) - (s : Int) = ((64 - s : Nat) : Int) := by omega
  have ht : 64 - s ≤ 64 := by omega
  have ht0 : 1 ≤ 64 - s := by omega
  generalize lo * 2 ^ s % 18446744073709551616 = u10 at *
  generalize hU : hi * 2 ^ s + lo / 2 ^ (64 - s) = U at *
  generalize lo / 2 ^ (64 - s) = l1 at *
  generalize 64 - s = t at *
  have hh1 : hi * 2 ^ s < 18446744073709551616 := by omega
  generalize hi * 2 ^ s = h1 at *
  have r3 := mask32 (y * 2 ^ s) n4
  have r10 := mask32 u10 hu10
  generalize y * 2 ^ s = Y at *
  have r2 : (Y : Int) / 4294967296 = ((Y / 4294967296 : Nat) : Int) := by omega
  have r9 : (u10 : Int) / 4294967296 = ((u10 / 4294967296 : Nat) : Int) := by omega
  have hY : Y = Y / 4294967296 * 4294967296 + Y % 4294967296 := by omega
  have k1 : 2147483648 ≤ Y / 4294967296 := by omega
  have k2 : Y / 4294967296 < 4294967296 := by omega
  have k3 : Y % 4294967296 < 4294967296 := by omega
  have k4 : u10 / 4294967296 < 4294967296 := by omega
  have k5 : u10 % 4294967296 < 4294967296 := by omega
  generalize Y / 4294967296 = y1 at *
  generalize Y % 4294967296 = y0 at *
  generalize u10 / 4294967296 = u1 at *
  generalize u10 % 4294967296 = u0 at *
  have HY := hide hY
  have hl1W : l1 < 18446744073709551616 := by omega
  have HU : Hid (h1 + l1 = U) := hide hU
  clear hU hY hl1 hp hhy
  -- the first quotient
  have KS := hide (knuth_start HY.out k1 k2 k3 k4 hUY)
  have r11 : (U : Int) / (y1 : Int) = ((U / y1 : Nat) : Int) := (Int.natCast_ediv _ _).symm
  have r12 : ((U / y1 : Nat) : Int) * (y1 : Int) = ((U / y1 * y1 : Nat) : Int) := (Int.natCast_mul _ _).symm
  have d1 : U / y1 * y1 + U % y1 = U := KS.out.sum
  have hUW : U < 18446744073709551616 := by omega
  have b1 : U / y1 < 18446744073709551616 := Nat.lt_of_le_of_lt (Nat.div_le_self _ _) hUW
  generalize U / y1 * y1 = p1 at *
  generalize U / y1 = q at *
  generalize U % y1 = r at *
  have r13 : (U : Int) - (p1 : Int) = (r : Int) := by omega
  have hp1 : p1 ≤ U := by omega
  have hy1p : (1 : Int) ≤ (y1 : Int) := by omega
  have D1 := hide d1
  clear d1
  go_enter Try.func49, Try.ntmps49
  go_wp2_with fail
  refine HLZ.mono ?_
  rintro e w1 ⟨rfl, rfl⟩
  clear HLZ
  go_upto_block 0 with fail
  clear r1 r2 r3 r4 r5 r6 r7 r8 r9 r10 r11 r12 r13 hz hz1 hz2
  go_cut [15, 16] from 67 to 85 (fun a _ wc => a = .int .u64 (((U * 4294967296 + u1) / Y : Nat) : Int) ∧ wc = w1)
  case first =>
    go_wp2_with fail
    go_loop [15, 16] (fun a b => ∃ q r : Nat, a = .int .u64 q ∧ b = .int .u64 r ∧ Knuth U Y y1 u1 q r) (fun a _ => (intOf a).toNat)
    case atStart => exact ⟨_, _, rfl, rfl, KS.out⟩
    case round =>
      obtain ⟨q, r, rfl, rfl, K⟩ := hrel
      have hq := K.few
      have hr := K.small
      obtain ⟨r', hr'⟩ : ∃ r', r' = r + y1 := ⟨_, rfl⟩
      have hrI : (r : Int) + (y1 : Int) = (r' : Int) := by omega
      obtain ⟨m0, hm0⟩ : ∃ m0, m0 = 4294967296 * r := ⟨_, rfl⟩
      have hmI0 : (4294967296 : Int) * (r : Int) = (m0 : Int) := by omega
      obtain ⟨m, hm⟩ : ∃ m, m = m0 + u1 := ⟨_, rfl⟩
      have hmI : (m0 : Int) + (u1 : Int) = (m : Int) := by omega
      have hmW : m < 18446744073709551616 := by omega
      have hmW0 : m0 < 18446744073709551616 := by omega
      have hrW : r' < 18446744073709551616 := by omega
      have HM := hide (show m = r * 4294967296 + u1 by omega)
      have HR := hide hr'
      have hrb : 4294967296 ≤ r' ∨ r' < 4294967296 := by omega
      clear hr' hm0 hm
      by_cases c1 : 4294967296 ≤ q
      · obtain ⟨g1, g2, g3⟩ := knuth_down HY.out k4 hUY K (.inl c1)
        rw [← HR.out] at g3
        have G2 := hide g2
        have G3 := hide g3
        have i1 : (4294967296 : Int) ≤ (q : Int) := by omega
        have i2 : (q : Int) ≤ 4294967297 := by omega
        rcases hrb with c2 | c2
        · have HQ := hide (knuth_break HY.out (by omega) k3 G3.out G2.out (by omega) c2)
          have i4 : (4294967296 : Int) ≤ (r' : Int) := by omega
          clear g1 g2 g3 K c1 c2 hq hr
          go_wp2
          go_meet
          case rel => exact ⟨by rw [← HQ.out]; go_num, rfl⟩
        · have i4 : (r' : Int) < 4294967296 := by omega
          have hb2 : decide ((4294967296 : Int) ≤ (r' : Int)) = false := decide_eq_false (by omega)
          clear g1 g2 g3 K c1 c2 hq hr
          go_wp2
          go_round
          case rel => exact ⟨q - 1, r', by go_num, rfl, G3.out, G2.out, by omega, by omega⟩
          case measure => simp [intOf]; omega
      · obtain ⟨p, hp⟩ : ∃ p, p = q * y0 := ⟨_, rfl⟩
        have hpI : (q : Int) * (y0 : Int) = (p : Int) := by rw [hp]; exact (Int.natCast_mul _ _).symm
        have hpW : p < 18446744073709551616 := by
          rw [hp]
          have := Nat.mul_le_mul (show q ≤ 4294967295 by omega) (show y0 ≤ 4294967295 by omega)
          omega
        have HP := hide hp
        clear hp
        have i1 : (q : Int) < 4294967296 := by omega
        have hb1 : decide ((4294967296 : Int) ≤ (q : Int)) = false := decide_eq_false (by omega)
        by_cases c3 : m < p
        · obtain ⟨g1, g2, g3⟩ := knuth_down HY.out k4 hUY K (.inr (by rw [← HP.out, ← HM.out]; exact c3))
          rw [← HR.out] at g3
          have G2 := hide g2
          have G3 := hide g3
          have i2 : (m : Int) < (p : Int) := by omega
          have i5 : (1 : Int) ≤ (q : Int) := by omega
          rcases hrb with c2 | c2
          · have HQ := hide (knuth_break HY.out (by omega) k3 G3.out G2.out (by omega) c2)
            have i4 : (4294967296 : Int) ≤ (r' : Int) := by omega
            clear g1 g2 g3 K c1 c2 c3 hq hr
            go_wp2
            go_meet
            case rel => exact ⟨by rw [← HQ.out]; go_num, rfl⟩
          · have i4 : (r' : Int) < 4294967296 := by omega
            have hb2 : decide ((4294967296 : Int) ≤ (r' : Int)) = false := decide_eq_false (by omega)
            clear g1 g2 g3 K c1 c2 c3 hq hr
            go_wp2
            go_round
            case rel => exact ⟨q - 1, r', by go_num, rfl, G3.out, G2.out, by omega, by omega⟩
            case measure => simp [intOf]; omega
        · have HQ := hide (knuth_stop HY.out K (by omega) (by rw [← HP.out, ← HM.out]; omega))
          have i2 : (p : Int) ≤ (m : Int) := by omega
          have hb3 : decide ((m : Int) < (p : Int)) = false := decide_eq_false (by omega)
          have hb4 : decide (m < p) = false := decide_eq_false c3
          clear K c1 c3 hq hr hrb
          go_wp2
          go_meet
          case rel => exact ⟨by rw [← HQ.out], rfl⟩
  case rest =>
    obtain ⟨rfl, hwc⟩ := hcut
    have hwc' := hwc.symm
    subst hwc'
    clear hwc
    have hRY : (U * 4294967296 + u1) % Y < Y := Nat.mod_lt _ (by omega)
    have hQ1b := knuth_lt k4 hUY
    have hd1 := Nat.div_add_mod (U * 4294967296 + u1) Y
    rw [Nat.mul_comm] at hd1
    obtain ⟨R1, hR1⟩ : ∃ R1, R1 = (U * 4294967296 + u1) % Y := ⟨_, rfl⟩
    obtain ⟨Q1, hQ1⟩ : ∃ Q1, Q1 = (U * 4294967296 + u1) / Y := ⟨_, rfl⟩
    rw [← hR1] at hRY hd1
    rw [← hQ1] at hd1 hQ1b ⊢
    obtain ⟨a1, a2, a3, t1, t2, t3, s1, s2, s3, s4⟩ := rest_letters U u1 Y Q1 R1 hd1 (by omega)
    have HR1 := hide hR1
    have HQ1 := hide hQ1
    clear hR1 hQ1 hd1 KS D1
    have KS := hide (knuth_start HY.out k1 k2 k3 k5 hRY)
    have r11 : (R1 : Int) / (y1 : Int) = ((R1 / y1 : Nat) : Int) := (Int.natCast_ediv _ _).symm
    have r12 : ((R1 / y1 : Nat) : Int) * (y1 : Int) = ((R1 / y1 * y1 : Nat) : Int) := (Int.natCast_mul _ _).symm
    have d1 : R1 / y1 * y1 + R1 % y1 = R1 := KS.out.sum
    have hRW : R1 < 18446744073709551616 := by omega
    have b1' : R1 / y1 < 18446744073709551616 := Nat.lt_of_le_of_lt (Nat.div_le_self _ _) hRW
    clear b1 hp1
    generalize R1 / y1 * y1 = p1' at *
    generalize R1 / y1 = q' at *
    generalize R1 % y1 = r' at *
    have r13 : (R1 : Int) - (p1' : Int) = (r' : Int) := by omega
    have hp1' : p1' ≤ R1 := by omega
    clear d1
    go_upto_block 2 with fail
    clear r11 r12 r13 s1 s2 s3 s4 t1 t2 t3
    go_cut [18, 16] from 102 to 120 (fun a _ wc => a = .int .u64 (((R1 * 4294967296 + u0) / Y : Nat) : Int) ∧ wc = w1)
    case first =>
      go_wp2_with fail
      go_loop [18, 16] (fun a b => ∃ q r : Nat, a = .int .u64 q ∧ b = .int .u64 r ∧ Knuth R1 Y y1 u0 q r) (fun a _ => (intOf a).toNat)
      case atStart => exact ⟨_, _, rfl, rfl, KS.out⟩
      case round =>
        obtain ⟨q, r, rfl, rfl, K⟩ := hrel
        have hq := K.few
        have hr := K.small
        obtain ⟨r', hr'⟩ : ∃ r', r' = r + y1 := ⟨_, rfl⟩
        have hrI : (r : Int) + (y1 : Int) = (r' : Int) := by omega
        obtain ⟨m0, hm0⟩ : ∃ m0, m0 = 4294967296 * r := ⟨_, rfl⟩
        have hmI0 : (4294967296 : Int) * (r : Int) = (m0 : Int) := by omega
        obtain ⟨m, hm⟩ : ∃ m, m = m0 + u0 := ⟨_, rfl⟩
        have hmI : (m0 : Int) + (u0 : Int) = (m : Int) := by omega
        have hmW : m < 18446744073709551616 := by omega
        have hmW0 : m0 < 18446744073709551616 := by omega
        have hrW : r' < 18446744073709551616 := by omega
        have HM := hide (show m = r * 4294967296 + u0 by omega)
        have HR := hide hr'
        have hrb : 4294967296 ≤ r' ∨ r' < 4294967296 := by omega
        clear hr' hm0 hm
        by_cases c1 : 4294967296 ≤ q
        · obtain ⟨g1, g2, g3⟩ := knuth_down HY.out k5 hRY K (.inl c1)
          rw [← HR.out] at g3
          have G2 := hide g2
          have G3 := hide g3
          have i1 : (4294967296 : Int) ≤ (q : Int) := by omega
          have i2 : (q : Int) ≤ 4294967297 := by omega
          rcases hrb with c2 | c2
          · have HQ := hide (knuth_break HY.out (by omega) k3 G3.out G2.out (by omega) c2)
            have i4 : (4294967296 : Int) ≤ (r' : Int) := by omega
            clear g1 g2 g3 K c1 c2 hq hr
            go_wp2
            go_meet
            case rel => exact ⟨by rw [← HQ.out]; go_num, rfl⟩
          · have i4 : (r' : Int) < 4294967296 := by omega
            have hb2 : decide ((4294967296 : Int) ≤ (r' : Int)) = false := decide_eq_false (by omega)
            clear g1 g2 g3 K c1 c2 hq hr
            go_wp2
            go_round
            case rel => exact ⟨q - 1, r', by go_num, rfl, G3.out, G2.out, by omega, by omega⟩
            case measure => simp [intOf]; omega
        · obtain ⟨p, hp⟩ : ∃ p, p = q * y0 := ⟨_, rfl⟩
          have hpI : (q : Int) * (y0 : Int) = (p : Int) := by rw [hp]; exact (Int.natCast_mul _ _).symm
          have hpW : p < 18446744073709551616 := by
            rw [hp]
            have := Nat.mul_le_mul (show q ≤ 4294967295 by omega) (show y0 ≤ 4294967295 by omega)
            omega
          have HP := hide hp
          clear hp
          have i1 : (q : Int) < 4294967296 := by omega
          have hb1 : decide ((4294967296 : Int) ≤ (q : Int)) = false := decide_eq_false (by omega)
          by_cases c3 : m < p
          · obtain ⟨g1, g2, g3⟩ := knuth_down HY.out k5 hRY K (.inr (by rw [← HP.out, ← HM.out]; exact c3))
            rw [← HR.out] at g3
            have G2 := hide g2
            have G3 := hide g3
            have i2 : (m : Int) < (p : Int) := by omega
            have i5 : (1 : Int) ≤ (q : Int) := by omega
            rcases hrb with c2 | c2
            · have HQ := hide (knuth_break HY.out (by omega) k3 G3.out G2.out (by omega) c2)
              have i4 : (4294967296 : Int) ≤ (r' : Int) := by omega
              clear g1 g2 g3 K c1 c2 c3 hq hr
              go_wp2
              go_meet
              case rel => exact ⟨by rw [← HQ.out]; go_num, rfl⟩
            · have i4 : (r' : Int) < 4294967296 := by omega
              have hb2 : decide ((4294967296 : Int) ≤ (r' : Int)) = false := decide_eq_false (by omega)
              clear g1 g2 g3 K c1 c2 c3 hq hr
              go_wp2
              go_round
              case rel => exact ⟨q - 1, r', by go_num, rfl, G3.out, G2.out, by omega, by omega⟩
              case measure => simp [intOf]; omega
          · have HQ := hide (knuth_stop HY.out K (by omega) (by rw [← HP.out, ← HM.out]; omega))
            have i2 : (p : Int) ≤ (m : Int) := by omega
            have hb3 : decide ((m : Int) < (p : Int)) = false := decide_eq_false (by omega)
            have hb4 : decide (m < p) = false := decide_eq_false c3
            clear K c1 c3 hq hr hrb
            go_wp2
            go_meet
            case rel => exact ⟨by rw [← HQ.out], rfl⟩
    case rest =>
      obtain ⟨rfl, rfl⟩ := hcut
      have hRY0 : (R1 * 4294967296 + u0) % Y < Y := Nat.mod_lt _ (by omega)
      have hQ0b := knuth_lt k5 hRY
      have hd1 := Nat.div_add_mod (R1 * 4294967296 + u0) Y
      rw [Nat.mul_comm] at hd1
      obtain ⟨R0, hR0⟩ : ∃ R0, R0 = (R1 * 4294967296 + u0) % Y := ⟨_, rfl⟩
      obtain ⟨Q0, hQ0⟩ : ∃ Q0, Q0 = (R1 * 4294967296 + u0) / Y := ⟨_, rfl⟩
      rw [← hR0] at hRY0 hd1
      rw [← hQ0] at hd1 hQ0b ⊢
      obtain ⟨a1, a2, a3, t1, t2, t3, s1, s2, s3, s4⟩ := rest_letters R1 u0 Y Q0 R0 hd1 (by omega)
      have hfin := HK.out (U * 4294967296 + u1) u0 Q1 Q0 HVV.out HQ1.out (by rw [← HR1.out]; exact hQ0)
      rw [← HR1.out, ← hR0] at hfin
      have f1 : (Q1 : Int) * 4294967296 + (Q0 : Int) = (((hi * 18446744073709551616 + lo) / y : Nat) : Int) := by rw [← hfin.1]; omega
      have f2 : (R0 : Int) / 2 ^ s = (((hi * 18446744073709551616 + lo) % y : Nat) : Int) := by rw [← hfin.2]; exact walk_shr R0 s
      have F1 := hide f1
      have F2 := hide f2
      have hQQ : ((Q1 : Int) * 4294967296 + (Q0 : Int)) < 18446744073709551616 := by omega
      clear hR0 hQ0 hd1 KS hfin HK HVV f1 f2
      go_wp2
      go_ret2
      rw [← F1.out, ← F2.out]
      exact ⟨rfl, Same.refl _⟩

end Go.Proofs.Ythpihbofcgeljaa
