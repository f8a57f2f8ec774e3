/- The walk of the law DivCommon. -/
import Derived.Test.YtelfjadonlgkiabDoorQO
import Derived.Test.YtelfjadonlgkiabDoorQM
import Derived.Test.YtelfjadonlgkiabDoorQB
import Derived.Test.YtelfjadonlgkiabDoorLiteZ
namespace Go.Proofs.YtelfjadonlgkiabDoor
open Go.RowKit
open Lm

theorem mul_nva (va vb : Value) (X Y : List Nat) (w : World) (h1 : Arg w va X) (h2 : Arg w vb Y) (hT : Tab w) (hl : X.length + Y.length ≤ 35184372088831) (hf : blen (val X * val Y) ≤ 67108864) :
    Calls Tryd.prog 7 #[va, vb] w fun e w' => (∃ v, e = .returned (.tuple #[v, .int .i64 0]) ∧ Nv w' w.heap.size v (val X * val Y)) ∧ Below w.heap.size w w' := by
  refine (mul_any va vb X Y w h1 h2 hT hl).mono ?_
  rintro e w' ⟨hb, hr⟩
  exact ⟨hr.fits hf, hb⟩

theorem blen_prod {a b m n : Nat} (ha : blen a ≤ m) (hb : blen b ≤ n) : blen (a * b) ≤ m + n := by
  refine (blen_le_iff _ _).2 ?_
  have h1 := (blen_le_iff a m).1 ha
  have h2 := (blen_le_iff b n).1 hb
  rw [Nat.pow_add]
  exact Nat.mul_lt_mul_of_lt_of_lt h1 h2

theorem gcd_few {x y m : Nat} (hx : blen x ≤ m) (hy : blen y ≤ m) : blen (Nat.gcd x y) ≤ m := by
  rcases Nat.eq_zero_or_pos x with h | h
  · rw [h, Nat.gcd_zero_left]; exact hy
  · exact Nat.le_trans ((blen_le_iff _ _).2 (Nat.lt_of_le_of_lt (Nat.gcd_le_left _ h) ((blen_le_iff x _).1 (Nat.le_refl _)))) hx

theorem lcm_gcd (x y : Nat) : x / Nat.gcd x y * y * Nat.gcd x y = x * y := by
  rw [Nat.mul_right_comm, Nat.div_mul_cancel (Nat.gcd_dvd_left x y)]

set_option maxRecDepth 100000 in
set_option maxHeartbeats 4000000 in
theorem divCommon_main (v0 : Value) (z0 : List Nat) (v1 : Value) (z1 : List Nat) (v2 : Value) (z2 : List Nat) (w : World) (hT : Tab w) (A0 : Arg w v0 z0) (s0 : z0.length ≤ 17592186043904) (A1 : Arg w v1 z1) (s1 : z1.length ≤ 17592186043904) (A2 : Arg w v2 z2) (s2 : z2.length ≤ 17592186043904)
    (b0 : blen (val z0) ≤ 1048576) (b1 : blen (val z1) ≤ 1048576) (b2 : blen (val z2) ≤ 1048576) :
    Calls Tryd.prog 3 #[v0, v1, v2] w fun e w' => e = .returned (.bool true) ∧ Below w.heap.size w w' := by
  have H : Hid (Below w.heap.size w w) := Below.refl _ _
  have HT := hide hT
  have L0 := length_val _ _ w A0
  have L1 := length_val _ _ w A1
  have L2 := length_val _ _ w A2
  have i0 : ¬ ((1048576 : Int) < (blen (val z0) : Int)) := by omega
  have i1 : ¬ ((1048576 : Int) < (blen (val z1) : Int)) := by omega
  have i2 : ¬ ((1048576 : Int) < (blen (val z2) : Int)) := by omega
  have HBB := hide (And.intro b0 (And.intro b1 b2))
  obtain ⟨l0, e0⟩ : ∃ l, blen (val z0) = l := ⟨_, rfl⟩
  obtain ⟨l1, e1⟩ : ∃ l, blen (val z1) = l := ⟨_, rfl⟩
  obtain ⟨l2, e2⟩ : ∃ l, blen (val z2) = l := ⟨_, rfl⟩
  rw [e0] at L0 i0
  rw [e1] at L1 i1
  rw [e2] at L2 i2
  have HM1 := mul_nva v0 v2 z0 z2 w A0 A2 hT (by omega) (by have := blen_prod b0 b2; omega)
  clear hT b0 b1 b2 e0 e1 e2
  go_enter Tryd.func3, Tryd.ntmps3
  go_wp2_with fail
  refine L0.mono ?_
  rintro e wn ⟨rfl, hw⟩; rw [hw]; clear hw wn
  go_wp2_with fail
  refine L1.mono ?_
  rintro e wn ⟨rfl, hw⟩; rw [hw]; clear hw wn
  go_wp2_with fail
  refine L2.mono ?_
  rintro e wn ⟨rfl, hw⟩; rw [hw]; clear hw wn
  clear L0 L1 L2
  go_wp2_with fail
  refine HM1.mono ?_
  rintro e w1 ⟨⟨vx, rfl, Nx⟩, hb⟩
  replace H := hid_below H hb; replace A0 := A0.below hb; replace A1 := A1.below hb; replace A2 := A2.below hb
  clear hb HM1
  have HM2 := mul_nva v1 v2 z1 z2 w1 A1 A2 (HT.out.below H.out) (by omega) (by have := blen_prod HBB.out.2.1 HBB.out.2.2; omega)
  go_wp2_with fail
  refine HM2.mono ?_
  rintro e w2 ⟨⟨vy, rfl, Ny⟩, hb⟩
  replace H := hid_below H hb; replace A0 := A0.below hb; replace A1 := A1.below hb; replace A2 := A2.below hb
  replace Nx := Nx.below hb
  clear hb HM2
  obtain ⟨X, AX, eX, _, lX⟩ := Nx.arg
  obtain ⟨Y, AY, eY, _, lY⟩ := Ny.arg
  have HG := gcd_any vx vy X Y w2 AX AY (HT.out.below H.out) (by omega) (by omega)
  clear Nx Ny
  go_wp2_with fail
  refine HG.mono ?_
  rintro e w3 ⟨⟨vg, gs, rfl, Ag, tg, eg⟩, hb⟩
  have bg : blen (val gs) ≤ 2097152 := by
    rw [eg, eX, eY]
    exact gcd_few (blen_prod HBB.out.1 HBB.out.2.2) (blen_prod HBB.out.2.1 HBB.out.2.2)
  have lg : gs.length ≤ 32768 := by
    have := few_limbs gs 32768 (by omega)
    rwa [tg] at this
  have AG := Ag.arg (by omega)
  replace H := hid_below H hb; replace A0 := A0.below hb; replace A1 := A1.below hb; replace A2 := A2.below hb
  replace AX := AX.below hb
  replace AY := AY.below hb
  clear hb HG Ag
  have HD := dDivides_any vx vg X gs w3 AX AG (HT.out.below H.out) (by omega) (by omega)
  rw [show decide (val X % val gs = 0) = true from decide_eq_true (by rw [eg]; exact Nat.mod_eq_zero_of_dvd (Nat.gcd_dvd_left _ _))] at HD
  go_wp2_with fail
  refine HD.mono ?_
  rintro e w4 ⟨hb, rfl⟩
  replace H := hid_below H hb; replace A0 := A0.below hb; replace A1 := A1.below hb; replace A2 := A2.below hb
  replace AG := AG.below hb
  replace AY := AY.below hb
  clear hb HD AX
  have HD := dDivides_any vy vg Y gs w4 AY AG (HT.out.below H.out) (by omega) (by omega)
  rw [show decide (val Y % val gs = 0) = true from decide_eq_true (by rw [eg]; exact Nat.mod_eq_zero_of_dvd (Nat.gcd_dvd_right _ _))] at HD
  go_wp2_with fail
  refine HD.mono ?_
  rintro e w5 ⟨hb, rfl⟩
  replace H := hid_below H hb; replace A0 := A0.below hb; replace A1 := A1.below hb; replace A2 := A2.below hb
  replace AG := AG.below hb
  clear hb HD AY
  have HD := dDivides_any vg v2 gs z2 w5 AG A2 (HT.out.below H.out) (by omega) (by omega)
  rw [show decide (val gs % val z2 = 0) = true from decide_eq_true (by rw [eg, eX, eY]; exact Nat.mod_eq_zero_of_dvd (Nat.dvd_gcd (Nat.dvd_mul_left _ _) (Nat.dvd_mul_left _ _)))] at HD
  clear eX eY lX lY eg bg
  go_wp2_with fail
  refine HD.mono ?_
  rintro e w6 ⟨hb, rfl⟩
  replace H := hid_below H hb; replace A0 := A0.below hb; replace A1 := A1.below hb; replace A2 := A2.below hb
  clear hb HD AG
  have HL := lcm_any v0 v1 z0 z1 w6 A0 A1 (HT.out.below H.out) (by omega) (by omega)
  go_wp2_with fail
  refine HL.mono ?_
  rintro e w7 ⟨hb, hr⟩
  have bl : blen (val z0 / Nat.gcd (val z0) (val z1) * val z1) ≤ 2097152 := by
    refine blen_prod (Nat.le_trans ?_ HBB.out.1) HBB.out.2.1
    exact (blen_le_iff _ _).2 (Nat.lt_of_le_of_lt (Nat.div_le_self _ _) ((blen_le_iff (val z0) _).1 (Nat.le_refl _)))
  obtain ⟨vl, rfl, Nl⟩ := hr.fits (by omega)
  replace H := hid_below H hb; replace A0 := A0.below hb; replace A1 := A1.below hb; replace A2 := A2.below hb
  clear hb HL hr
  have HG := gcd_any v0 v1 z0 z1 w7 A0 A1 (HT.out.below H.out) (by omega) (by omega)
  go_wp2_with fail
  refine HG.mono ?_
  rintro e w8 ⟨⟨vh, hs, rfl, Ah, th, eh⟩, hb⟩
  have bh : blen (val hs) ≤ 1048576 := by rw [eh]; exact gcd_few HBB.out.1 HBB.out.2.1
  have lh : hs.length ≤ 16384 := by
    have := few_limbs hs 16384 (by omega)
    rwa [th] at this
  have AH := Ah.arg (by omega)
  replace H := hid_below H hb; replace A0 := A0.below hb; replace A1 := A1.below hb; replace A2 := A2.below hb
  replace Nl := Nl.below hb
  clear hb HG Ah
  obtain ⟨Lm', AL, eL, _, lL⟩ := Nl.arg
  have HM := mul_nva vl vh Lm' hs w8 AL AH (HT.out.below H.out) (by omega) (by rw [eL]; have := blen_prod bl bh; omega)
  rw [eL, eh, lcm_gcd] at HM
  clear eL lL AL AH Nl eh bh bl th
  go_wp2_with fail
  refine HM.mono ?_
  rintro e w9 ⟨⟨vp, rfl, Np⟩, hb⟩
  replace H := hid_below H hb; replace A0 := A0.below hb; replace A1 := A1.below hb; replace A2 := A2.below hb
  clear hb HM
  have HM := mul_nva v0 v1 z0 z1 w9 A0 A1 (HT.out.below H.out) (by omega) (by have := blen_prod HBB.out.1 HBB.out.2.1; omega)
  go_wp2_with fail
  refine HM.mono ?_
  rintro e w10 ⟨⟨vq, rfl, Nq⟩, hb⟩
  replace H := hid_below H hb; replace A0 := A0.below hb; replace A1 := A1.below hb; replace A2 := A2.below hb
  replace Np := Np.below hb
  clear hb HM
  obtain ⟨P, AP, eP, _, _⟩ := Np.arg
  obtain ⟨Q, AQ, eQ, _, _⟩ := Nq.arg
  have HC := compare_any vp vq P Q w10 AP AQ
  rw [eP, eQ, cmpN_self] at HC
  clear AP AQ eP eQ Np Nq A0 A1 A2
  go_wp2_with fail
  refine HC.mono ?_
  rintro e w11 ⟨rfl, hs'⟩
  replace H := hid_below H (hs'.below _)
  clear HC hs'
  have HA := lives3_any _ (HT.out.below H.out)
  go_wp2_with fail
  refine HA.mono ?_
  rintro e w99 ⟨rfl, hb⟩
  replace H := hid_below H hb; clear hb HA
  go_wp2
  go_ret
  exact ⟨rfl, H.out⟩

set_option maxRecDepth 100000 in
set_option maxHeartbeats 4000000 in
theorem divCommon_walk (v0 : Value) (z0 : List Nat) (v1 : Value) (z1 : List Nat) (v2 : Value) (z2 : List Nat) (w : World) (hT : Tab w) (A0 : Arg w v0 z0) (s0 : z0.length ≤ 17592186043904) (A1 : Arg w v1 z1) (s1 : z1.length ≤ 17592186043904) (A2 : Arg w v2 z2) (s2 : z2.length ≤ 17592186043904) :
    Calls Tryd.prog 3 #[v0, v1, v2] w fun e w' => e = .returned (.bool true) ∧ Below w.heap.size w w' := by
  by_cases h0 : blen (val z0) ≤ 1048576
  · by_cases h1 : blen (val z1) ≤ 1048576
    · by_cases h2 : blen (val z2) ≤ 1048576
      · exact divCommon_main v0 z0 v1 z1 v2 z2 w hT A0 s0 A1 s1 A2 s2 h0 h1 h2
      · have H : Hid (Below w.heap.size w w) := Below.refl _ _
        have HT := hide hT
        have L0 := length_val _ _ w A0
        have L1 := length_val _ _ w A1
        have L2 := length_val _ _ w A2
        have i0 : ¬ ((1048576 : Int) < (blen (val z0) : Int)) := by omega
        have i1 : ¬ ((1048576 : Int) < (blen (val z1) : Int)) := by omega
        have i2 : (1048576 : Int) < (blen (val z2) : Int) := by omega
        generalize blen (val z0) = l0 at *
        generalize blen (val z1) = l1 at *
        generalize blen (val z2) = l2 at *
        clear hT A0 A1 A2
        go_enter Tryd.func3, Tryd.ntmps3
        go_wp2_with fail
        refine L0.mono ?_
        rintro e wn ⟨rfl, hw⟩; rw [hw]; clear hw wn
        go_wp2_with fail
        refine L1.mono ?_
        rintro e wn ⟨rfl, hw⟩; rw [hw]; clear hw wn
        go_wp2_with fail
        refine L2.mono ?_
        rintro e wn ⟨rfl, hw⟩; rw [hw]; clear hw wn
        clear L0 L1 L2
        have HA := lives3_any _ (HT.out.below H.out)
        go_wp2_with fail
        refine HA.mono ?_
        rintro e w99 ⟨rfl, hb⟩
        replace H := hid_below H hb; clear hb HA
        go_wp2
        go_ret
        exact ⟨rfl, H.out⟩
    · have H : Hid (Below w.heap.size w w) := Below.refl _ _
      have HT := hide hT
      have L0 := length_val _ _ w A0
      have L1 := length_val _ _ w A1
      have i0 : ¬ ((1048576 : Int) < (blen (val z0) : Int)) := by omega
      have i1 : (1048576 : Int) < (blen (val z1) : Int) := by omega
      generalize blen (val z0) = l0 at *
      generalize blen (val z1) = l1 at *
      clear hT A0 A1 A2
      go_enter Tryd.func3, Tryd.ntmps3
      go_wp2_with fail
      refine L0.mono ?_
      rintro e wn ⟨rfl, hw⟩; rw [hw]; clear hw wn
      go_wp2_with fail
      refine L1.mono ?_
      rintro e wn ⟨rfl, hw⟩; rw [hw]; clear hw wn
      clear L0 L1
      have HA := lives3_any _ (HT.out.below H.out)
      go_wp2_with fail
      refine HA.mono ?_
      rintro e w99 ⟨rfl, hb⟩
      replace H := hid_below H hb; clear hb HA
      go_wp2
      go_ret
      exact ⟨rfl, H.out⟩
  · have H : Hid (Below w.heap.size w w) := Below.refl _ _
    have HT := hide hT
    have L0 := length_val _ _ w A0
    have i0 : (1048576 : Int) < (blen (val z0) : Int) := by omega
    generalize blen (val z0) = l0 at *
    clear hT A0 A1 A2
    go_enter Tryd.func3, Tryd.ntmps3
    go_wp2_with fail
    refine L0.mono ?_
    rintro e wn ⟨rfl, hw⟩; rw [hw]; clear hw wn
    clear L0
    have HA := lives3_any _ (HT.out.below H.out)
    go_wp2_with fail
    refine HA.mono ?_
    rintro e w99 ⟨rfl, hb⟩
    replace H := hid_below H hb; clear hb HA
    go_wp2
    go_ret
    exact ⟨rfl, H.out⟩

end Go.Proofs.YtelfjadonlgkiabDoor
