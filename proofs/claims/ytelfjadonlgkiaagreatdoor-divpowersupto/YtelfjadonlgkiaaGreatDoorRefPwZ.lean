/- The document's powers modulo a number. -/
import Derived.Test.YtelfjadonlgkiaaGreatDoorRef3Z
import Derived.Test.YtelfjadonlgkiaaGreatDoorQG
import Derived.Test.YtelfjadonlgkiaaGreatDoorPowAZ
import Derived.Test.YtelfjadonlgkiaaGreatDoorQK
namespace Go.Proofs.YtelfjadonlgkiaaGreatDoor
open Go.RowKit
open Lm
attribute [local go_sem ↓] Go.wp_at_zero Go.wp_at_succ

theorem rone_any (w : World) : Calls Tryz.prog 23 #[.int .i64 1] w fun e w' => (∃ v, e = .returned v ∧ Num w' v 1) ∧ Below w.heap.size w w' := by
  have hA := Arg.lits w [1] #[.int .u64 1] 1 rfl rfl (by intro z hz; simp at hz; omega) (by simp)
  have hb : Below w.heap.size w (w.alloc (.cells #[.int .u64 1] 40)) := (Below.refl _ _).alloc (Nat.le_refl _) _
  have HO := of_any _ [1] _ hA (by simp)
  rw [show val [1] = 1 by simp [val]] at HO
  have HB := hide hb
  clear hA hb
  go_enter Tryz.func23, Tryz.ntmps23
  go_wp2_with fail
  refine HO.mono ?_
  rintro e w2 ⟨⟨v, rfl, N⟩, hb2⟩
  have HX := hide (And.intro N (HB.out.trans (hb2.mono HB.out.size)))
  clear N hb2 HO
  go_wp2
  go_ret
  exact ⟨⟨v, rfl, HX.out.1⟩, HX.out.2⟩

theorem rPower_zero (va ve vm : Value) (w : World) (h : Num w vm 0) :
    Calls Tryz.prog 5 #[va, ve, vm] w fun e w' => e = .returned (.tuple #[.slice none 0 0, .int .i64 30]) ∧ w' = w := by
  have HZ := zero_any vm 0 w h
  rw [show ((0 : Nat) == 0) = true from rfl] at HZ
  clear h
  go_enter Tryz.func5, Tryz.ntmps5
  go_wp2_with fail
  refine HZ.mono ?_
  rintro e wn ⟨rfl, hw⟩; subst hw
  clear HZ
  go_wp2
  go_returns
  exact ⟨rfl, rfl⟩

theorem blen_mod_le {t m : Nat} (hm : m ≠ 0) : blen (t % m) ≤ blen m := (blen_le_iff _ _).2 (Nat.lt_of_le_of_lt (Nat.le_of_lt (Nat.mod_lt _ (Nat.pos_of_ne_zero hm))) ((blen_le_iff m _).1 (Nat.le_refl _)))

theorem blen_mul_two {a b n : Nat} (ha : blen a ≤ n) (hb : blen b ≤ n) : blen (a * b) ≤ n + n := by
  refine (blen_le_iff _ _).2 ?_
  have h1 := (blen_le_iff a n).1 ha
  have h2 := (blen_le_iff b n).1 hb
  rw [Nat.pow_add]
  exact Nat.mul_lt_mul_of_lt_of_lt h1 h2

set_option maxRecDepth 20000 in
set_option maxHeartbeats 2000000 in
theorem rPower_any (va ve vm : Value) (x e m : Nat) (w : World) (h1 : Num w va x) (h2 : Num w ve e) (h3 : Num w vm m) (hm : m ≠ 0) (b1 : blen x ≤ 67108864) (b2 : blen e ≤ 67108864) (b3 : blen m ≤ 67108864) :
    Calls Tryz.prog 5 #[va, ve, vm] w fun en w' => (∃ v, en = .returned (.tuple #[v, .int .i64 0]) ∧ Num w' v (x ^ e % m)) ∧ Below w.heap.size w w' := by
  have HZ := zero_any vm m w h3
  rw [show (m == 0) = false by rw [beq_eq_false_iff_ne]; exact hm] at HZ
  have NA := hide h1
  have NE := hide h2
  have NM := hide h3
  have HMZ := hide hm
  have HBD := hide b3
  obtain ⟨r, hr⟩ : ∃ r, x ^ e % m = r := ⟨_, rfl⟩
  rw [hr]
  have HRR := hide hr
  have HB1 := hide b1
  obtain ⟨L, hL⟩ : ∃ L, blen e = L := ⟨_, rfl⟩
  have HLL := hide hL
  rw [hL] at b2
  clear h1 h2 h3 hm b1 b3 hr hL
  have HO := rone_any w
  go_enter Tryz.func5, Tryz.ntmps5
  go_wp2_with fail
  refine HZ.mono ?_
  rintro e' wn ⟨rfl, hw⟩; rw [hw]; clear hw wn HZ
  go_wp2_with fail
  refine HO.mono ?_
  rintro e' w1 ⟨⟨v1, rfl, N1⟩, hb1⟩
  have b11 : blen 1 ≤ 64 := (blen_le_iff _ 64).2 (by omega)
  have HV := rdiv_any v1 vm 1 m w1 N1 (NM.out.below hb1) HMZ.out (by omega) (by have := HBD.out; omega)
  have HW1 := hide hb1
  clear HO N1 hb1
  go_wp2_with fail
  refine HV.mono ?_
  rintro e' w2 ⟨⟨vq, vo, rfl, _, No⟩, hb2⟩
  have HW2 := hide (HW1.out.trans (hb2.mono HW1.out.size))
  have HV2 := rdiv_any va vm x m w2 (NA.out.below HW2.out) (NM.out.below HW2.out) HMZ.out (by have := HB1.out; omega) (by have := HBD.out; omega)
  have HNO := hide No
  clear HV No hb2
  go_wp2_with fail
  refine HV2.mono ?_
  rintro e' w3 ⟨⟨vq3, va3, rfl, _, Na⟩, hb3⟩
  have HW3 := hide (HW2.out.trans (hb3.mono HW2.out.size))
  have HNA := hide Na
  have HNO3 := hide (HNO.out.below hb3)
  have NM3 := hide (NM.out.below HW3.out)
  have NE3 := hide (NE.out.below HW3.out)
  have HL := len_any ve e w3 (NE.out.below HW3.out)
  rw [HLL.out] at HL
  have hE0 : e / 2 ^ L = 0 := Nat.div_eq_of_lt ((blen_le_iff _ _).1 (by rw [HLL.out]; exact Nat.le_refl _))
  have START : Hid (1 % m = x ^ (e / 2 ^ L) % m) := by rw [hE0, Nat.pow_zero]; exact hide rfl
  clear HV2 Na hb3 hE0 HNO b11
  go_wp2_with fail
  refine HL.mono ?_
  rintro e' wn ⟨rfl, hw⟩; rw [hw]; clear hw wn HL
  go_wp2
  go_loopw [9, 10] (fun v i wr => ∃ (k : Nat) (v' : Value) (c : Nat), k ≤ L ∧ v = v' ∧ i = .int .i64 ((k : Int) - 1) ∧ Num wr v' c ∧ c = x ^ (e / 2 ^ k) % m ∧ Below w3.heap.size w3 wr) (fun _ i _ => (intOf i + 1).toNat)
  case atStart => exact ⟨L, _, _, Nat.le_refl _, rfl, rfl, HNO3.out, START.out, Below.refl _ _⟩
  case round =>
    obtain ⟨k, v', c, hk, rfl, rfl, hn, hc, hbel⟩ := hrel
    have HN := hide hn
    have HC := hide hc
    have HBW := hide hbel
    clear hn hc hbel START
    by_cases hk0 : k = 0
    · subst hk0
      have hc := HC.out
      rw [Nat.pow_zero, Nat.div_one, HRR.out] at hc
      subst hc
      have HBF := hide (HW3.out.trans (HBW.out.mono HW3.out.size))
      go_wp2
      go_returns
      exact ⟨⟨_, rfl, HN.out⟩, HBF.out⟩
    · obtain ⟨i, rfl⟩ : ∃ i, k = i + 1 := ⟨k - 1, by omega⟩
      have ej : (((i + 1 : Nat) : Int) - 1) = (i : Int) := by omega
      rw [ej]
      have hi0 : (0 : Int) ≤ (i : Int) := by omega
      clear hk0 ej
      have bc : blen c ≤ blen m := by rw [HC.out]; exact blen_mod_le HMZ.out
      have hbm3 := HBD.out
      have HBB := HBW
      have HM := rmul_any _ _ c c wr HN.out HN.out (by omega)
      go_wp2_with fail
      refine HM.mono ?_
      rintro e w5 ⟨⟨v5, rfl, N5⟩, hbm⟩
      have HBM5 := hide (HBB.out.trans (hbm.mono HBB.out.size))
      have HV := rdiv_any _ vm _ m w5 N5 (NM3.out.below HBM5.out) HMZ.out (by have := blen_mul_two (a := c) (b := c) bc bc; have := HBD.out; omega) (by have := HBD.out; omega)
      clear HM hbm N5
      go_wp2_with fail
      refine HV.mono ?_
      rintro e w6 ⟨⟨v6, v7, rfl, _, N6⟩, hbm⟩
      have HBN6 := hide (HBM5.out.trans (hbm.mono HBM5.out.size))
      clear HV hbm
      have HN6 := hide N6
      have hbit' : Hid (c * c % m = x ^ (2 * (e / 2 ^ (i + 1))) % m) := by rw [HC.out]; exact hide (pow_double _ _ _)
      have HBI := rbitI_any ve e (i : Int) w6 (NE3.out.below HBN6.out) (by omega) (by omega)
      have hbit : bitI e (i : Int) = e / 2 ^ i % 2 := by unfold bitI; rw [if_neg (by omega), Int.toNat_natCast]
      rw [hbit] at HBI
      have hn := bits_next e i
      have hd := hbit'.out
      generalize c * c % m = d at *
      clear N6 hbit bc
      have bd : blen d ≤ blen m := by rw [hd]; exact blen_mod_le HMZ.out
      have HD := hide hd
      clear hd hbit'
      rcases Nat.mod_two_eq_zero_or_one (e / 2 ^ i) with hb0 | hb1
      · rw [hb0] at HBI hn
        have HN0 : Hid (d = x ^ (e / 2 ^ i) % m) := by rw [hn, Nat.add_zero]; exact hide HD.out
        clear hn hb0
        go_wp2_with fail
        refine HBI.mono ?_
        rintro e' wn ⟨rfl, hw⟩; rw [hw]; clear hw wn HBI
        go_wp2
        go_roundw
        case rel => exact ⟨i, _, d, by omega, rfl, rfl, HN6.out, HN0.out, HBN6.out⟩
        case measure => simp [intOf]
      · rw [hb1] at HBI hn
        have HN0 : Hid (d * (x % m) % m = x ^ (e / 2 ^ i) % m) := by rw [hn, HD.out]; exact hide (pow_more _ _ _)
        have bf : blen (x % m) ≤ blen m := blen_mod_le HMZ.out
        have HNA6 := hide (HNA.out.below HBN6.out)
        clear hn hb1
        go_wp2_with fail
        refine HBI.mono ?_
        rintro e' wn ⟨rfl, hw⟩; rw [hw]; clear hw wn HBI
        replace HBB := HBN6
        generalize x % m = f at *
        have HM := rmul_any _ _ d f w6 HN6.out HNA6.out (by omega)
        go_wp2_with fail
        refine HM.mono ?_
        rintro e w8 ⟨⟨v8, rfl, N8⟩, hbm⟩
        have HBM8 := hide (HBB.out.trans (hbm.mono HBB.out.size))
        have HV := rdiv_any _ vm _ m w8 N8 (NM3.out.below HBM8.out) HMZ.out (by have := blen_mul_two (a := d) (b := f) bd bf; have := HBD.out; omega) (by have := HBD.out; omega)
        clear HM hbm N8
        go_wp2_with fail
        refine HV.mono ?_
        rintro e w9 ⟨⟨v9, v10, rfl, _, N9⟩, hbm⟩
        have HBN9 := hide (HBM8.out.trans (hbm.mono HBM8.out.size))
        clear HV hbm
        have HN9 := hide N9
        clear N9
        go_wp2
        go_roundw
        case rel => exact ⟨i, _, _, by omega, rfl, rfl, HN9.out, HN0.out, HBN9.out⟩
        case measure => simp [intOf]

end Go.Proofs.YtelfjadonlgkiaaGreatDoor
