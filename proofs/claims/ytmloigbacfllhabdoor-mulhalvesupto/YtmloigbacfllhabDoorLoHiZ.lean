/- Package mul: lowLimbs, Low, High. -/
import Derived.Test.YtmloigbacfllhabDoorQI
import Derived.Test.YtmloigbacfllhabDoorQH
import Derived.Test.YtmloigbacfllhabDoorQB
import Derived.Test.YtmloigbacfllhabDoorPrtZ
namespace Go.Proofs.YtmloigbacfllhabDoor
open Go.RowKit
open Lm

/-- How many limbs have bits below k. -/
def limbsOf (k : Nat) : Nat := (k + 63) / 64

set_option maxRecDepth 20000 in
theorem lowLimbs_any (v : Value) (X : List Nat) (k : Nat) (w : World) (hA : Arg w v X) (hk : k ≤ 9223372036854775807) :
    Calls Tryd.prog 43 #[v, .int .i64 k] w fun e w' => (∃ v1, e = .returned v1 ∧ Arg w v1 ((tr X).take (limbsOf k))) ∧ Same w w' := by
  have HS := hide (fun (n : Int) (h : 0 ≤ n) => split_any v X n w hA h)
  clear hA
  obtain ⟨q, eq, hq⟩ : ∃ q : Nat, (k : Int) / 64 = (q : Int) ∧ q = k / 64 := ⟨k / 64, by omega, rfl⟩
  obtain ⟨r, er, hr⟩ : ∃ r : Nat, (k : Int) % 64 = (r : Int) ∧ r = k % 64 := ⟨k % 64, by omega, rfl⟩
  by_cases h0 : r = 0
  · have e0 : limbsOf k = q := by unfold limbsOf; omega
    have H := HS.out (q : Int) (by omega)
    rw [Int.toNat_natCast] at H
    subst h0
    have HE := hide e0
    clear e0 hq hr HS
    go_enter Tryd.func43, Tryd.ntmps43
    go_wp2_with fail
    refine H.mono ?_
    rintro e w1 ⟨⟨v1, v2, rfl, A1, _⟩, hs⟩
    have HD := hide (And.intro A1 hs)
    clear A1 hs H
    go_wp2
    go_ret
    exact ⟨⟨_, rfl, by rw [HE.out]; exact HD.out.1⟩, HD.out.2⟩
  · have e0 : limbsOf k = q + 1 := by unfold limbsOf; omega
    obtain ⟨t, et⟩ : ∃ t : Nat, (q : Int) + 1 = (t : Int) := ⟨q + 1, by omega⟩
    have H := HS.out (t : Int) (by omega)
    rw [Int.toNat_natCast, show t = limbsOf k by omega] at H
    have et' : (q : Int) + 1 = ((limbsOf k : Nat) : Int) := by omega
    have hp : (0 : Int) < (r : Int) := by omega
    clear e0 hq hr HS et
    generalize limbsOf k = m at *
    go_enter Tryd.func43, Tryd.ntmps43
    go_wp2_with fail
    refine H.mono ?_
    rintro e w1 ⟨⟨v1, v2, rfl, A1, _⟩, hs⟩
    have HD := hide (And.intro A1 hs)
    clear A1 hs H
    go_wp2
    go_ret
    exact ⟨⟨_, rfl, HD.out.1⟩, HD.out.2⟩

theorem lt_blen (x : Nat) : x < 2 ^ blen x := (blen_le_iff x (blen x)).1 (Nat.le_refl _)

theorem prod_lt (x y : Nat) : x * y < 2 ^ (blen x + blen y) := by
  rw [Nat.pow_add]; exact Nat.mul_lt_mul'' (lt_blen x) (lt_blen y)

/-- Taken modulo, limbs above make nothing. -/
theorem low_prod (x y k : Nat) : (x % 18446744073709551616 ^ limbsOf k) * (y % 18446744073709551616 ^ limbsOf k) % 2 ^ k = x * y % 2 ^ k := by
  have hd : 2 ^ k ∣ 18446744073709551616 ^ limbsOf k := by
    rw [W_pow]; exact Nat.pow_dvd_pow 2 (by unfold limbsOf; omega)
  conv => lhs; rw [Nat.mul_mod, Nat.mod_mod_of_dvd _ hd, Nat.mod_mod_of_dvd _ hd, ← Nat.mul_mod]

theorem mod_min (p k m : Nat) (hm : m = min k (blen p)) : p % 2 ^ m = p % 2 ^ k := by
  subst hm
  by_cases h : k ≤ blen p
  · rw [Nat.min_eq_left h]
  · have h1 := lt_blen p
    have h2 : p < 2 ^ k := Nat.lt_of_lt_of_le h1 (Nat.pow_le_pow_right (by omega) (by omega))
    rw [Nat.min_eq_right (by omega), Nat.mod_eq_of_lt h1, Nat.mod_eq_of_lt h2]

theorem div_min (p k m : Nat) (hm : m = min k (blen p)) : p / 2 ^ m = p / 2 ^ k := by
  subst hm
  by_cases h : k ≤ blen p
  · rw [Nat.min_eq_left h]
  · have h1 := lt_blen p
    have h2 : p < 2 ^ k := Nat.lt_of_lt_of_le h1 (Nat.pow_le_pow_right (by omega) (by omega))
    rw [Nat.min_eq_right (by omega), Nat.div_eq_of_lt h1, Nat.div_eq_of_lt h2]

theorem least_lt (x y k : Nat) (h : least x y < k) : x * y < 2 ^ k := by
  unfold least at h
  split at h
  · rename_i hz
    rw [show x * y = 0 by rcases hz with h | h <;> rw [h] <;> simp]
    exact Nat.pow_pos (by omega)
  · refine Nat.lt_of_lt_of_le (prod_lt x y) (Nat.pow_le_pow_right (by omega) (by omega))

theorem mlow_no (va vb : Value) (k : Int) (w : World) (hk : k < 0) :
    Calls Tryd.prog 13 #[va, vb, .int .i64 k] w fun e w' => e = .returned (.tuple #[.slice none 0 0, .int .i64 1]) ∧ w' = w := by
  go_enter Tryd.func13, Tryd.ntmps13
  go_wp2
  go_ret2
  exact ⟨rfl, rfl⟩

theorem mhigh_no (va vb : Value) (k : Int) (w : World) (hk : k < 0) :
    Calls Tryd.prog 14 #[va, vb, .int .i64 k] w fun e w' => e = .returned (.tuple #[.slice none 0 0, .int .i64 1]) ∧ w' = w := by
  go_enter Tryd.func14, Tryd.ntmps14
  go_wp2
  go_ret2
  exact ⟨rfl, rfl⟩

set_option maxRecDepth 20000 in
set_option maxHeartbeats 1000000 in
theorem mlow_any (va vb : Value) (X Y : List Nat) (k : Nat) (w : World) (hA : Arg w va X) (hA2 : Arg w vb Y) (hT : Tab w) (hk : k ≤ 9223372036854775807) (hX : ((tr X).take (limbsOf k)).length ≤ 4294967296) (hY : ((tr Y).take (limbsOf k)).length ≤ 4294967296) (hP : val ((tr X).take (limbsOf k)) * val ((tr Y).take (limbsOf k)) % 2 ^ k = val X * val Y % 2 ^ k) :
    Calls Tryd.prog 13 #[va, vb, .int .i64 k] w fun e w' => Below w.heap.size w w' ∧ Res w' w.heap.size e (val X * val Y % 2 ^ k) := by
  rw [← hP]
  have HS := lowLimbs_any va X k w hA hk
  have HS2 := hide (fun w1 (h : Arg w1 vb Y) => lowLimbs_any vb Y k w1 h hk)
  have HA2 := hide hA2
  have HT := hide hT
  clear hA hA2 hT hP
  generalize (tr X).take (limbsOf k) = P at *
  generalize (tr Y).take (limbsOf k) = Q at *
  have hkd : decide ((k : Int) < 0) = false := decide_eq_false (by omega)
  go_enter Tryd.func13, Tryd.ntmps13
  go_wp2_with fail
  refine HS.mono ?_
  rintro e w1 ⟨⟨p1, rfl, A1⟩, hs⟩
  have hb : Below w.heap.size w w1 := hs.below _
  have HB := hide hb
  have HSB := HS2.out w1 (HA2.out.below hb)
  replace A1 := hide (A1.below hb)
  clear hs hb HS
  go_wp2_with fail
  refine HSB.mono ?_
  rintro e w2 ⟨⟨q1, rfl, B1⟩, hs⟩
  have hb : Below w1.heap.size w1 w2 := hs.below _
  have HB2 := hid_below HB hb
  replace A1 := hide (A1.out.below hb)
  replace B1 := hide (B1.below hb)
  have HT2 := hide (HT.out.below HB2.out)
  clear hs hb HSB HS2 HA2 HB
  have HLE := leastLength_any p1 q1 P Q w2 A1.out B1.out (by omega) (by omega)
  have hle := least_le (val P) (val Q)
  have hlt := least_lt (val P) (val Q) k
  go_wp2_with fail
  refine HLE.mono ?_
  rintro e w3 ⟨rfl, hw⟩; subst hw
  clear HLE
  by_cases hbig : 67108864 < least (val P) (val Q) ∧ least (val P) (val Q) < k
  · have hm := Nat.mod_eq_of_lt (hlt hbig.2)
    have HP : Hid (67108864 < blen (val P * val Q % 2 ^ k)) := hide (by rw [hm]; omega)
    have i1 : (67108864 : Int) < ((least (val P) (val Q) : Nat) : Int) := by omega
    have i2 : ((least (val P) (val Q) : Nat) : Int) < (k : Int) := by omega
    clear hm hlt hle hbig
    go_wp2
    go_ret2
    exact ⟨HB2.out, _, _, [], rfl, Ans.nil _ _, .inr ⟨rfl, rfl, HP.out⟩⟩
  · by_cases h1 : 67108864 < least (val P) (val Q)
    · have i1 : decide ((67108864 : Int) < ((least (val P) (val Q) : Nat) : Int)) = true := decide_eq_true (by omega)
      have i2 : decide (((least (val P) (val Q) : Nat) : Int) < (k : Int)) = false := decide_eq_false (by omega)
      have i3 : decide (least (val P) (val Q) < k) = false := decide_eq_false (by omega)
      clear hlt hle hbig h1
      generalize least (val P) (val Q) = l at *
      have HQ := quick_any w3
      go_wp2_with fail
      refine HQ.mono ?_
      rintro e w31 ⟨rfl, hb⟩
      have HB3 := hid_below HB2 hb
      have HW := whole_fits 40 200 (by omega) (by omega) p1 q1 P Q w31 (A1.out.below hb) (B1.out.below hb) (HT2.out.below hb) (by omega) (.inl (by have := tr_length_le P; have := tr_length_le Q; omega))
      generalize way 40 200 = WY at *
      clear hb HQ
      go_wp2_with fail
      refine HW.mono ?_
      rintro e w4 ⟨⟨vr, rs, rfl, An, ev, et, ln⟩, hb⟩
      have HB4 := hid_below HB3 hb
      have AR := An.arg (by omega)
      have HL := length_val vr rs w4 AR
      have hbl : blen (val rs) ≤ 64 * rs.length := by
        rw [blen_le_iff, Nat.mul_comm]; have := val_lt AR.limbs; rwa [W_pow] at this
      obtain ⟨m, em, hm⟩ : ∃ m : Nat, min (k : Int) ((blen (val rs) : Nat) : Int) = (m : Int) ∧ m = min k (blen (val rs)) := ⟨min k (blen (val rs)), by omega, rfl⟩
      have HLO := low_any vr rs m w4 AR (by omega) (by omega)
      rw [mod_min (val rs) k m hm, ev] at HLO
      clear HW hb An ev et AR hm
      go_wp2_with fail
      refine HL.mono ?_
      rintro e w5 ⟨rfl, hw⟩; subst hw
      clear HL
      go_wp2_with fail
      refine HLO.mono ?_
      rintro e w6 ⟨hb, v, c, rr, rfl, hans, hres⟩
      have HR := hide (And.intro (hid_below HB4 hb).out (And.intro (hans.base HB4.out.size) hres))
      clear hb hans hres HLO
      go_wp2
      go_ret2
      exact ⟨HR.out.1, v, c, rr, rfl, HR.out.2.1, HR.out.2.2⟩
    · have i1 : decide ((67108864 : Int) < ((least (val P) (val Q) : Nat) : Int)) = false := decide_eq_false (by omega)
      clear hlt hle hbig h1
      generalize least (val P) (val Q) = l at *
      have HQ := quick_any w3
      go_wp2_with fail
      refine HQ.mono ?_
      rintro e w31 ⟨rfl, hb⟩
      have HB3 := hid_below HB2 hb
      have HW := whole_fits 40 200 (by omega) (by omega) p1 q1 P Q w31 (A1.out.below hb) (B1.out.below hb) (HT2.out.below hb) (by omega) (.inl (by have := tr_length_le P; have := tr_length_le Q; omega))
      generalize way 40 200 = WY at *
      clear hb HQ
      go_wp2_with fail
      refine HW.mono ?_
      rintro e w4 ⟨⟨vr, rs, rfl, An, ev, et, ln⟩, hb⟩
      have HB4 := hid_below HB3 hb
      have AR := An.arg (by omega)
      have HL := length_val vr rs w4 AR
      have hbl : blen (val rs) ≤ 64 * rs.length := by
        rw [blen_le_iff, Nat.mul_comm]; have := val_lt AR.limbs; rwa [W_pow] at this
      obtain ⟨m, em, hm⟩ : ∃ m : Nat, min (k : Int) ((blen (val rs) : Nat) : Int) = (m : Int) ∧ m = min k (blen (val rs)) := ⟨min k (blen (val rs)), by omega, rfl⟩
      have HLO := low_any vr rs m w4 AR (by omega) (by omega)
      rw [mod_min (val rs) k m hm, ev] at HLO
      clear HW hb An ev et AR hm
      go_wp2_with fail
      refine HL.mono ?_
      rintro e w5 ⟨rfl, hw⟩; subst hw
      clear HL
      go_wp2_with fail
      refine HLO.mono ?_
      rintro e w6 ⟨hb, v, c, rr, rfl, hans, hres⟩
      have HR := hide (And.intro (hid_below HB4 hb).out (And.intro (hans.base HB4.out.size) hres))
      clear hb hans hres HLO
      go_wp2
      go_ret2
      exact ⟨HR.out.1, v, c, rr, rfl, HR.out.2.1, HR.out.2.2⟩

/-- What is left of a product that is far too great. -/
theorem high_big (x y k : Nat) (h : k ≤ least x y) (h2 : 67108864 < least x y - k) : 67108864 < blen (x * y / 2 ^ k) := by
  have hx : ¬ (x = 0 ∨ y = 0) := fun hz => by unfold least at h2; rw [if_pos hz] at h2; omega
  have el : least x y = blen x + blen y - 1 := by unfold least; rw [if_neg hx]
  have h0 : x ≠ 0 := fun e => hx (.inl e)
  have h1 : y ≠ 0 := fun e => hx (.inr e)
  have bx : blen x ≠ 0 := by unfold blen; rw [if_neg h0]; omega
  have by' : blen y ≠ 0 := by unfold blen; rw [if_neg h1]; omega
  refine Nat.lt_of_not_le fun hle => ?_
  have h3 := (blen_le_iff _ _).1 (Nat.le_trans hle (show 67108864 ≤ least x y - k - 1 by omega))
  have h4 := Nat.mul_le_mul (blen_pow_le x h0) (blen_pow_le y h1)
  rw [← Nat.pow_add] at h4
  rw [Nat.div_lt_iff_lt_mul (Nat.pow_pos (by omega)), ← Nat.pow_add] at h3
  have h5 : 2 ^ (least x y - k - 1 + k) ≤ 2 ^ (blen x - 1 + (blen y - 1)) := Nat.pow_le_pow_right (by omega) (by omega)
  omega

theorem few_of_least (X Y : List Nat) (n : Nat) (h : least (val X) (val Y) ≤ n) (hn : n ≤ 137438953472000) : (tr X).length + (tr Y).length ≤ 4398046511103 ∨ val X = 0 ∨ val Y = 0 := by
  by_cases hz : val X = 0 ∨ val Y = 0
  · exact .inr hz
  · left
    unfold least at h
    rw [if_neg hz] at h
    have hx : blen (val X) ≠ 0 := by unfold blen; rw [if_neg (fun e => hz (.inl e))]; omega
    have hy : blen (val Y) ≠ 0 := by unfold blen; rw [if_neg (fun e => hz (.inr e))]; omega
    have h1 := few_limbs X 2147483648000 (by omega)
    have h2 := few_limbs Y 2147483648000 (by omega)
    omega

set_option maxRecDepth 20000 in
set_option maxHeartbeats 1000000 in
theorem mhigh_any (va vb : Value) (X Y : List Nat) (k : Nat) (w : World) (hA : Arg w va X) (hA2 : Arg w vb Y) (hT : Tab w) (hX : X.length + Y.length ≤ 35184372088831) (hk : k ≤ 9223372036854775807) (hs : k ≤ 1073741824 ∨ X.length + Y.length ≤ 4294967296) :
    Calls Tryd.prog 14 #[va, vb, .int .i64 k] w fun e w' => Below w.heap.size w w' ∧ Res w' w.heap.size e (val X * val Y / 2 ^ k) := by
  have HLE := leastLength_any va vb X Y w hA hA2 (by omega) (by omega)
  have hlt := least_lt (val X) (val Y) k
  have hbg := high_big (val X) (val Y) k
  have hfw := few_of_least X Y (least (val X) (val Y)) (Nat.le_refl _)
  have hll : least (val X) (val Y) ≤ 64 * (X.length + Y.length) := by
    have b1 := blen_val_le X hA.limbs
    have b2 := blen_val_le Y hA2.limbs
    unfold least
    split <;> omega
  have A1 := hide hA
  have B1 := hide hA2
  have HT2 := hide hT
  have HB2 : Hid (Below w.heap.size w w) := Below.refl _ _
  have hkd : decide ((k : Int) < 0) = false := decide_eq_false (by omega)
  clear hA hA2 hT
  by_cases h1 : least (val X) (val Y) < k
  · have hz := Nat.div_eq_of_lt (hlt h1)
    have i1 : ((least (val X) (val Y) : Nat) : Int) < (k : Int) := by omega
    rw [hz]
    clear hz hlt hbg hfw hll h1
    generalize least (val X) (val Y) = l at *
    go_enter Tryd.func14, Tryd.ntmps14
    go_wp2_with fail
    refine HLE.mono ?_
    rintro e w3 ⟨rfl, hw⟩; subst hw
    clear HLE
    go_wp2
    go_ret2
    exact ⟨HB2.out, _, _, [], rfl, Ans.nil _ _, .inl ⟨rfl, rfl, rfl, by decide⟩⟩
  · have i1 : decide (((least (val X) (val Y) : Nat) : Int) < (k : Int)) = false := decide_eq_false (by omega)
    have i1n : decide (least (val X) (val Y) < k) = false := decide_eq_false (by omega)
    obtain ⟨d, ed, hd1, hd2⟩ : ∃ d : Nat, ((least (val X) (val Y) : Nat) : Int) - (k : Int) = (d : Int) ∧ d ≤ least (val X) (val Y) - k ∧ least (val X) (val Y) - k ≤ d := ⟨least (val X) (val Y) - k, by omega, by omega, by omega⟩
    have hd3 : d ≤ 9223372036854775807 := by omega
    by_cases h2 : 67108864 < d
    · have HP := hide (hbg (by omega) (by omega))
      have i2 : (67108864 : Int) < (d : Int) := by omega
      clear hlt hbg hfw hll h1 hd1 hd2
      generalize least (val X) (val Y) = l at *
      go_enter Tryd.func14, Tryd.ntmps14
      go_wp2_with fail
      refine HLE.mono ?_
      rintro e w3 ⟨rfl, hw⟩; subst hw
      clear HLE
      go_wp2
      go_ret2
      exact ⟨HB2.out, _, _, [], rfl, Ans.nil _ _, .inr ⟨rfl, rfl, HP.out⟩⟩
    · have i2 : decide ((67108864 : Int) < (d : Int)) = false := decide_eq_false (by omega)
      have hfits := hfw (by omega)
      have hsz : (tr X).length + (tr Y).length ≤ 4398046511103 ∨ val X = 0 ∨ val Y = 0 := hfits
      have hmin : ∀ rs : List Nat, val rs = val X * val Y → min k (blen (val rs)) ≤ 1099511627776 := fun rs e => by
        rcases hs with h | h
        · omega
        · have b1 : blen (val rs) ≤ least (val X) (val Y) + 1 := by
            rw [e]
            refine (blen_le_iff _ _).2 (least_lt _ _ _ (by omega))
          omega
      have HMIN := hide hmin
      clear hlt hbg hfw hll h1 hd1 hd2 hfits hmin
      generalize least (val X) (val Y) = l at *
      go_enter Tryd.func14, Tryd.ntmps14
      go_wp2_with fail
      refine HLE.mono ?_
      rintro e w3 ⟨rfl, hw⟩; subst hw
      clear HLE
      have HQ := quick_any w3
      go_wp2_with fail
      refine HQ.mono ?_
      rintro e w31 ⟨rfl, hb⟩
      have HB3 := hid_below HB2 hb
      have HW := whole_fits 40 200 (by omega) (by omega) va vb X Y w31 (A1.out.below hb) (B1.out.below hb) (HT2.out.below hb) hX hsz
      generalize way 40 200 = WY at *
      clear hb HQ
      go_wp2_with fail
      refine HW.mono ?_
      rintro e w4 ⟨⟨vr, rs, rfl, An, ev, et, ln⟩, hb⟩
      have HB4 := hid_below HB3 hb
      have AR := An.arg (by omega)
      have HL := length_val vr rs w4 AR
      obtain ⟨m, em, hm⟩ : ∃ m : Nat, min (k : Int) ((blen (val rs) : Nat) : Int) = (m : Int) ∧ m = min k (blen (val rs)) := ⟨min k (blen (val rs)), by omega, rfl⟩
      have hmle := HMIN.out rs ev
      have HLO := right_any vr rs m w4 AR (by omega) (by omega)
      rw [div_min (val rs) k m hm, ev] at HLO
      clear HW hb An ev et AR hm hmle
      go_wp2_with fail
      refine HL.mono ?_
      rintro e w5 ⟨rfl, hw⟩; subst hw
      clear HL
      go_wp2_with fail
      refine HLO.mono ?_
      rintro e w6 ⟨hb, v, c, rr, rfl, hans, hres⟩
      have HR := hide (And.intro (hid_below HB4 hb).out (And.intro (hans.base HB4.out.size) hres))
      clear hb hans hres HLO
      go_wp2
      go_ret2
      exact ⟨HR.out.1, v, c, rr, rfl, HR.out.2.1, HR.out.2.2⟩

end Go.Proofs.YtmloigbacfllhabDoor
