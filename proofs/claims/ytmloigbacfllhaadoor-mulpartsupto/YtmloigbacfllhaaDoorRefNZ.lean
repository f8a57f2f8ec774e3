/- The document's parts of a product, of numbers that aren't great. -/
import Derived.Test.YtmloigbacfllhaaDoorRefMZ
import Derived.Test.YtmloigbacfllhaaDoorQG
namespace Go.Proofs.YtmloigbacfllhaaDoor
open Go.RowKit
open Lm

theorem rparts_no (va vb : Value) (k : Int) (w : World) (hk : k < 0) :
    Calls Tryd.prog 37 #[va, vb, .int .i64 k] w fun e w' => e = .returned (.tuple #[.slice none 0 0, .slice none 0 0, .slice none 0 0, .int .i64 1]) ∧ w' = w := by
  go_enter Tryd.func37, Tryd.ntmps37
  go_wp2
  go_returns
  exact ⟨rfl, rfl⟩

/-- Three numbers of the reference, or ErrBig. -/
def ResN3 (w : World) (e : Ending) (s t u : Nat) : Prop :=
  ∃ v1 v2 v3 c, e = .returned (.tuple #[v1, v2, v3, .int .i64 c]) ∧ ((c = 0 ∧ Num w v1 s ∧ Num w v2 t ∧ Num w v3 u ∧ blen s ≤ 67108864 ∧ blen t ≤ 67108864 ∧ blen u ≤ 67108864) ∨ (c = 3 ∧ (67108864 < blen s ∨ 67108864 < blen t ∨ 67108864 < blen u)))

theorem blen_le_of_le {x y : Nat} (h : x ≤ y) : blen x ≤ blen y := (blen_le_iff x (blen y)).2 (Nat.lt_of_le_of_lt h ((blen_le_iff y (blen y)).1 (Nat.le_refl _)))

theorem blen_mul_le (x y : Nat) : blen (x * y) ≤ blen x + blen y := by
  rw [blen_le_iff, Nat.pow_add]
  exact Nat.mul_lt_mul'' ((blen_le_iff x (blen x)).1 (Nat.le_refl _)) ((blen_le_iff y (blen y)).1 (Nat.le_refl _))

set_option maxRecDepth 20000 in
set_option maxHeartbeats 1000000 in
theorem rparts_any (va vb : Value) (x y : Nat) (k : Int) (w : World) (hx : Num w va x) (hy : Num w vb y) (hk : 0 ≤ k) (bx : blen x ≤ 1073741824) (by' : blen y ≤ 1073741824) :
    Calls Tryd.prog 37 #[va, vb, .int .i64 k] w fun e w' => Below w.heap.size w w' ∧ ResN3 w' e ((x % 18446744073709551616 ^ k.toNat) * (y % 18446744073709551616 ^ k.toNat))
      ((x % 18446744073709551616 ^ k.toNat) * (y / 18446744073709551616 ^ k.toNat) + (x / 18446744073709551616 ^ k.toNat) * (y % 18446744073709551616 ^ k.toNat)) ((x / 18446744073709551616 ^ k.toNat) * (y / 18446744073709551616 ^ k.toNat)) := by
  have HH := rhalves_any va x k w hx hk (by omega)
  have HY := hide hy
  have HH2 := hide (fun w1 (h : Num w1 vb y) => rhalves_any vb y k w1 h hk (by omega))
  have hkd : decide (k < 0) = false := decide_eq_false (by omega)
  have b1 := blen_le_of_le (Nat.mod_le x (18446744073709551616 ^ k.toNat))
  have b2 := blen_le_of_le (Nat.div_le_self x (18446744073709551616 ^ k.toNat))
  have b3 := blen_le_of_le (Nat.mod_le y (18446744073709551616 ^ k.toNat))
  have b4 := blen_le_of_le (Nat.div_le_self y (18446744073709551616 ^ k.toNat))
  unfold ResN3
  clear hx hy
  generalize x % 18446744073709551616 ^ k.toNat = x0 at *
  generalize x / 18446744073709551616 ^ k.toNat = x1 at *
  generalize y % 18446744073709551616 ^ k.toNat = y0 at *
  generalize y / 18446744073709551616 ^ k.toNat = y1 at *
  have m1 := blen_mul_le x0 y1
  have m2 := blen_mul_le x1 y0
  have H : Hid (Below w.heap.size w w) := Below.refl _ _
  go_enter Tryd.func37, Tryd.ntmps37
  go_wp2_with fail
  refine HH.mono ?_
  rintro e w1 ⟨⟨u0, u1, rfl, N0, N1⟩, hb⟩
  have HB := HH2.out w1 (HY.out.below hb)
  replace H := hide (H.out.trans (hb.mono H.out.size))
  clear HH hb HH2
  go_wp2_with fail
  refine HB.mono ?_
  rintro e w2 ⟨⟨t0, t1, rfl, M0, M1⟩, hb⟩
  replace N0 := N0.below hb
  replace N1 := N1.below hb
  replace H := hide (H.out.trans (hb.mono H.out.size))
  clear hb HB
  have HM := rmul_any u0 t0 x0 y0 w2 N0 M0 (by omega)
  go_wp2_with fail
  refine HM.mono ?_
  rintro e w3 ⟨⟨q1, rfl, Q1⟩, hb⟩
  replace N0 := N0.below hb
  replace N1 := N1.below hb
  replace M0 := M0.below hb
  replace M1 := M1.below hb
  replace H := hide (H.out.trans (hb.mono H.out.size))
  clear hb HM
  have HM := rmul_any u0 t1 x0 y1 w3 N0 M1 (by omega)
  go_wp2_with fail
  refine HM.mono ?_
  rintro e w4 ⟨⟨q2, rfl, Q2⟩, hb⟩
  replace N1 := N1.below hb
  replace M0 := M0.below hb
  replace M1 := M1.below hb
  replace Q1 := Q1.below hb
  replace H := hide (H.out.trans (hb.mono H.out.size))
  clear hb HM
  have HM := rmul_any u1 t0 x1 y0 w4 N1 M0 (by omega)
  go_wp2_with fail
  refine HM.mono ?_
  rintro e w5 ⟨⟨q3, rfl, Q3⟩, hb⟩
  replace N1 := N1.below hb
  replace M1 := M1.below hb
  replace Q1 := Q1.below hb
  replace Q2 := Q2.below hb
  replace H := hide (H.out.trans (hb.mono H.out.size))
  clear hb HM
  have HM := radd_any q2 q3 (x0 * y1) (x1 * y0) w5 Q2 Q3 (by omega) (by omega)
  go_wp2_with fail
  refine HM.mono ?_
  rintro e w6 ⟨⟨q4, rfl, Q4⟩, hb⟩
  replace N1 := N1.below hb
  replace M1 := M1.below hb
  replace Q1 := Q1.below hb
  replace H := hide (H.out.trans (hb.mono H.out.size))
  clear hb HM
  have HM := rmul_any u1 t1 x1 y1 w6 N1 M1 (by omega)
  go_wp2_with fail
  refine HM.mono ?_
  rintro e w7 ⟨⟨q5, rfl, Q5⟩, hb⟩
  replace Q1 := Q1.below hb
  replace Q4 := Q4.below hb
  replace H := hide (H.out.trans (hb.mono H.out.size))
  clear hb HM N0 N1 M0 M1 Q2 Q3
  have L1 := len_any q1 (x0 * y0) w7 Q1
  have L2 := len_any q4 (x0 * y1 + x1 * y0) w7 Q4
  have L3 := len_any q5 (x1 * y1) w7 Q5
  have HD := hide (And.intro Q1 (And.intro Q4 Q5))
  clear Q1 Q4 Q5 m1 m2
  by_cases h1 : blen (x0 * y0) ≤ 67108864
  · have d1 : decide ((67108864 : Int) < ((blen (x0 * y0) : Nat) : Int)) = false := decide_eq_false (by omega)
    by_cases h2 : blen (x0 * y1 + x1 * y0) ≤ 67108864
    · have d2 : decide ((67108864 : Int) < ((blen (x0 * y1 + x1 * y0) : Nat) : Int)) = false := decide_eq_false (by omega)
      by_cases h3 : blen (x1 * y1) ≤ 67108864
      · have d3 : decide ((67108864 : Int) < ((blen (x1 * y1) : Nat) : Int)) = false := decide_eq_false (by omega)
        go_wp2_with fail
        refine L1.mono ?_
        rintro e w2 ⟨rfl, hw⟩; subst hw
        go_wp2_with fail
        refine L2.mono ?_
        rintro e w2 ⟨rfl, hw⟩; subst hw
        go_wp2_with fail
        refine L3.mono ?_
        rintro e w2 ⟨rfl, hw⟩; subst hw
        clear L1 L2 L3
        go_wp2
        go_returns
        exact ⟨H.out, _, _, _, _, rfl, .inl ⟨rfl, HD.out.1, HD.out.2.1, HD.out.2.2, h1, h2, h3⟩⟩
      · have d3 : (67108864 : Int) < ((blen (x1 * y1) : Nat) : Int) := by omega
        go_wp2_with fail
        refine L1.mono ?_
        rintro e w2 ⟨rfl, hw⟩; subst hw
        go_wp2_with fail
        refine L2.mono ?_
        rintro e w2 ⟨rfl, hw⟩; subst hw
        go_wp2_with fail
        refine L3.mono ?_
        rintro e w2 ⟨rfl, hw⟩; subst hw
        clear L1 L2 L3
        go_wp2
        go_returns
        exact ⟨H.out, _, _, _, _, rfl, .inr ⟨rfl, .inr (.inr (by omega))⟩⟩
    · have d2 : (67108864 : Int) < ((blen (x0 * y1 + x1 * y0) : Nat) : Int) := by omega
      go_wp2_with fail
      refine L1.mono ?_
      rintro e w2 ⟨rfl, hw⟩; subst hw
      go_wp2_with fail
      refine L2.mono ?_
      rintro e w2 ⟨rfl, hw⟩; subst hw
      clear L1 L2 L3
      go_wp2
      go_returns
      exact ⟨H.out, _, _, _, _, rfl, .inr ⟨rfl, .inr (.inl (by omega))⟩⟩
  · have d1 : (67108864 : Int) < ((blen (x0 * y0) : Nat) : Int) := by omega
    go_wp2_with fail
    refine L1.mono ?_
    rintro e w2 ⟨rfl, hw⟩; subst hw
    clear L1 L2 L3
    go_wp2
    go_returns
    exact ⟨H.out, _, _, _, _, rfl, .inr ⟨rfl, .inl (by omega)⟩⟩

end Go.Proofs.YtmloigbacfllhaaDoor
