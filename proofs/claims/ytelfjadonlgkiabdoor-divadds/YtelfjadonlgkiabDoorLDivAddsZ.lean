/- The walk of the law DivAdds. -/
import Derived.Test.YtelfjadonlgkiabDoorPowBZ
import Derived.Test.YtelfjadonlgkiabDoorQM
import Derived.Test.YtelfjadonlgkiabDoorLiteZ
import Derived.Test.YtelfjadonlgkiabDoorQB
namespace Go.Proofs.YtelfjadonlgkiabDoor
open Go.RowKit
open Lm

theorem blen_mono4 {a b : Nat} (h : a ≤ b) : blen a ≤ blen b := (blen_le_iff a _).2 (Nat.lt_of_le_of_lt h ((blen_le_iff b _).1 (Nat.le_refl _)))

theorem blen_add_le (a b n : Nat) (ha : blen a ≤ n) (hb : blen b ≤ n) : blen (a + b) ≤ n + 1 := by
  refine (blen_le_iff _ _).2 ?_
  have h1 := (blen_le_iff a n).1 ha
  have h2 := (blen_le_iff b n).1 hb
  rw [Nat.pow_succ]; omega

theorem blen_mul_le (a b n : Nat) (ha : blen a ≤ n) (hb : blen b ≤ n) : blen (a * b) ≤ n + n := by
  refine (blen_le_iff _ _).2 ?_
  have h1 := (blen_le_iff a n).1 ha
  have h2 := (blen_le_iff b n).1 hb
  rw [Nat.pow_add]
  exact Nat.mul_lt_mul_of_lt_of_lt h1 h2

theorem res_of {w : World} {base : Nat} {e : Ending} {s : Nat} (h : Res w base e s) (hs : blen s ≤ 1048577 ∨ blen s ≤ 67108864) : ∃ v rs, e = .returned (.tuple #[v, .int .i64 0]) ∧ Arg w v rs ∧ val rs = s ∧ rs.length ≤ 1048576 := by
  obtain ⟨v, c, rs, rfl, An, hr⟩ := h
  have hl := Res.few An hr
  rcases hr with ⟨rfl, hv, _, _⟩ | ⟨_, _, hbig⟩
  · exact ⟨v, rs, rfl, An.arg (by omega), hv, hl⟩
  · omega

set_option maxRecDepth 100000 in
set_option maxHeartbeats 4000000 in
theorem divAdds_main (v0 : Value) (z0 : List Nat) (v1 : Value) (z1 : List Nat) (v2 : Value) (z2 : List Nat) (w : World) (hT : Tab w) (A0 : Hid (Arg w v0 z0)) (s0 : z0.length ≤ 17592186043904) (A1 : Hid (Arg w v1 z1)) (s1 : z1.length ≤ 17592186043904) (A2 : Hid (Arg w v2 z2)) (s2 : z2.length ≤ 17592186043904)
    (HZ : Hid (val z2 ≠ 0)) (HB : Hid (blen (val z2) ≤ 1048576 ∧ blen (val z1) ≤ 1048576)) :
    Calls Tryd.prog 4 #[v0, v1, v2] w fun e w' => e = .returned (.bool true) ∧ Below w.heap.size w w' := by
  have H : Hid (Below w.heap.size w w) := Below.refl _ _
  have HT := hide hT
  have L1 := length_val _ _ w A1.out
  have L2 := length_val _ _ w A2.out
  have hz2 : ((blen (val z2) : Int) == 0) = false := by
    rw [beq_eq_false_iff_ne]
    have := (blen_zero_iff (val z2)).1
    have := HZ.out
    omega
  have i2 : ¬ ((1048576 : Int) < (blen (val z2) : Int)) := by have := HB.out.1; omega
  have i1 : ¬ ((1048576 : Int) < (blen (val z1) : Int)) := by have := HB.out.2; omega
  have HF : Hid ((tr z2).length ≤ 1000000000000) := hide (Nat.le_trans (few_limbs z2 16384 (by have := HB.out.1; omega)) (by omega))
  obtain ⟨x1, hx1⟩ : ∃ x, blen (val z1) = x := ⟨_, rfl⟩
  obtain ⟨x2, hx2⟩ : ∃ x, blen (val z2) = x := ⟨_, rfl⟩
  rw [hx1] at L1 i1
  rw [hx2] at L2 i2 hz2
  clear hT hx1 hx2
  go_enter Tryd.func4, Tryd.ntmps4
  go_wp2_with fail
  refine L2.mono ?_
  rintro e wn ⟨rfl, hw⟩; rw [hw]; clear hw wn
  go_wp2_with fail
  refine L2.mono ?_
  rintro e wn ⟨rfl, hw⟩; rw [hw]; clear hw wn
  go_wp2_with fail
  refine L1.mono ?_
  rintro e wn ⟨rfl, hw⟩; rw [hw]; clear hw wn
  clear L1 L2
  obtain ⟨wa, hwa⟩ : ∃ wa, wa = w.alloc (.cells #[.int .u64 77] 33) := ⟨_, rfl⟩
  have hbela : Below w.heap.size w wa := by rw [hwa]; exact (Below.refl _ _).alloc (Nat.le_refl _) _
  have hA7 : Arg wa (.slice (some ⟨w.heap.size, 0, none⟩) 1 1) [77] := by rw [hwa]; exact Arg.lits w [77] #[.int .u64 77] 1 rfl rfl (by intro z hz; simp at hz; omega) (by simp)
  have K : Hid (Args wa [(.slice (some ⟨w.heap.size, 0, none⟩) 1 1, [77])]) := hide ((Args.none wa).add hA7)
  replace H := hid_below H hbela
  have HS := add_any _ _ z1 [77] wa (A1.out.below H.out) hA7 (by omega) (by simp)
  have HWA := hide hwa
  clear hwa hbela hA7
  go_wp2_with fail
  rw [← HWA.out]
  refine HS.mono ?_
  rintro e w1 ⟨hb, hres⟩
  have h77 : blen (val [77]) ≤ 1048576 := by
    have : blen (val [77]) ≤ 64 := (blen_le_iff _ 64).2 (by decide)
    omega
  obtain ⟨vs, ss, rfl, As, es, ls⟩ := res_of hres (.inl (blen_add_le _ _ _ HB.out.2 h77))
  replace H := hid_below H hb
  replace K := hide ((K.out.below hb).add As)
  have HES := hide es
  clear hres hb HS As es h77
  have AE := A1.out.below H.out
  have HP := dPower_any v0 v1 v2 z0 z1 z2 w1 (A0.out.below H.out) AE (A2.out.below H.out) (HT.out.below H.out) (by omega) (by omega) HF.out HZ.out
  go_wp2_with fail
  refine HP.mono ?_
  rintro e w2 ⟨hb, hres⟩
  obtain ⟨vp, ps, rfl, Ap, ep, lp⟩ := res_of hres (.inl (Nat.le_trans (Nat.le_trans (blen_mono4 (Nat.le_of_lt (Nat.mod_lt _ (Nat.pos_of_ne_zero HZ.out)))) HB.out.1) (by omega)))
  replace H := hid_below H hb
  replace K := hide ((K.out.below hb).add Ap)
  have HEP := hide ep
  clear hres hb HP Ap ep
  replace AE := K.out (.slice (some ⟨w.heap.size, 0, none⟩) 1 1, [77]) (by simp)
  have HP := dPower_any v0 _ v2 z0 _ z2 w2 (A0.out.below H.out) AE (A2.out.below H.out) (HT.out.below H.out) (by omega) (by omega) HF.out HZ.out
  go_wp2_with fail
  refine HP.mono ?_
  rintro e w3 ⟨hb, hres⟩
  obtain ⟨vq, qs, rfl, Aq, eq, lq⟩ := res_of hres (.inl (Nat.le_trans (Nat.le_trans (blen_mono4 (Nat.le_of_lt (Nat.mod_lt _ (Nat.pos_of_ne_zero HZ.out)))) HB.out.1) (by omega)))
  replace H := hid_below H hb
  replace K := hide ((K.out.below hb).add Aq)
  have HEQ := hide eq
  clear hres hb HP Aq eq
  replace AE := K.out (vs, ss) (by simp)
  have HP := dPower_any v0 vs v2 z0 ss z2 w3 (A0.out.below H.out) AE (A2.out.below H.out) (HT.out.below H.out) (by omega) (by omega) HF.out HZ.out
  go_wp2_with fail
  refine HP.mono ?_
  rintro e w4 ⟨hb, hres⟩
  obtain ⟨vr, rs, rfl, Ar, er, lr⟩ := res_of hres (.inl (Nat.le_trans (Nat.le_trans (blen_mono4 (Nat.le_of_lt (Nat.mod_lt _ (Nat.pos_of_ne_zero HZ.out)))) HB.out.1) (by omega)))
  replace H := hid_below H hb
  replace K := hide ((K.out.below hb).add Ar)
  have HER := hide er
  clear hres hb HP Ar er
  clear AE
  have HM := mul_any vp vq ps qs w4 (K.out (vp, ps) (by simp)) (K.out (vq, qs) (by simp)) (HT.out.below H.out) (by omega)
  go_wp2_with fail
  refine HM.mono ?_
  rintro e w5 ⟨hb, hres⟩
  have hmx : ∀ t : Nat, blen (t % val z2) ≤ 1048576 := fun t => Nat.le_trans (blen_mono4 (Nat.le_of_lt (Nat.mod_lt _ (Nat.pos_of_ne_zero HZ.out)))) HB.out.1
  obtain ⟨vx, xs, rfl, Ax, ex, lx⟩ := res_of hres (.inr (by
    rw [HEP.out, HEQ.out]
    exact Nat.le_trans (blen_mul_le _ _ _ (hmx _) (hmx _)) (by omega)))
  replace H := hid_below H hb
  replace K := hide ((K.out.below hb).add Ax)
  have HEX := hide ex
  clear hres hb HM ex
  have HRS := dRest_any vx v2 xs z2 w5 Ax (A2.out.below H.out) (HT.out.below H.out) (by omega) (by omega) HZ.out
  clear Ax
  go_wp2_with fail
  refine HRS.mono ?_
  rintro e w6 ⟨hb, hres⟩
  obtain ⟨vy, ys, rfl, Ay, ey, ly⟩ := res_of hres (.inl (by have := hmx (val xs); omega))
  replace H := hid_below H hb
  replace K := hide (K.out.below hb)
  have HC := compare_any vr vy rs ys w6 (K.out (vr, rs) (by simp)) Ay
  have e9 : val rs = val ys := by
    rw [ey, HEX.out, HEP.out, HEQ.out, HER.out, HES.out, ← Nat.mul_mod, ← Nat.pow_add]
  rw [e9, cmpN_self] at HC
  clear hres hb HRS Ay ey e9 hmx K
  go_wp2_with fail
  refine HC.mono ?_
  rintro e w7 ⟨rfl, hsm⟩
  replace H := hid_below H (hsm.below w6.heap.size)
  clear hsm HC
  have HA := lives3_any _ (HT.out.below H.out)
  go_wp2_with fail
  refine HA.mono ?_
  rintro e w99 ⟨rfl, hb⟩
  replace H := hid_below H hb; clear hb HA
  go_wp2
  go_ret
  exact ⟨rfl, H.out⟩

set_option maxRecDepth 100000 in
set_option maxHeartbeats 4000000 in
theorem divAdds_walk (v0 : Value) (z0 : List Nat) (v1 : Value) (z1 : List Nat) (v2 : Value) (z2 : List Nat) (w : World) (hT : Tab w) (A0 : Arg w v0 z0) (s0 : z0.length ≤ 17592186043904) (A1 : Arg w v1 z1) (s1 : z1.length ≤ 17592186043904) (A2 : Arg w v2 z2) (s2 : z2.length ≤ 17592186043904) :
    Calls Tryd.prog 4 #[v0, v1, v2] w fun e w' => e = .returned (.bool true) ∧ Below w.heap.size w w' := by
  have H : Hid (Below w.heap.size w w) := Below.refl _ _
  have HT := hide hT
  have L1 := length_val _ _ w A1
  have L2 := length_val _ _ w A2
  by_cases hz : val z2 = 0
  · have hb0 : blen (val z2) = 0 := (blen_zero_iff _).2 hz
    rw [hb0] at L2
    clear hz hb0 hT A0 A1 A2
    go_enter Tryd.func4, Tryd.ntmps4
    go_wp2_with fail
    refine L2.mono ?_
    rintro e wn ⟨rfl, hw⟩; rw [hw]; clear hw wn
    clear L1 L2
    have HA := lives3_any _ (HT.out.below H.out)
    go_wp2_with fail
    refine HA.mono ?_
    rintro e w99 ⟨rfl, hb⟩
    replace H := hid_below H hb; clear hb HA
    go_wp2
    go_ret
    exact ⟨rfl, H.out⟩
  · by_cases h2 : blen (val z2) ≤ 1048576
    · by_cases h1 : blen (val z1) ≤ 1048576
      · exact divAdds_main v0 z0 v1 z1 v2 z2 w hT A0 s0 A1 s1 A2 s2 hz ⟨h2, h1⟩
      · have hz2 : ((blen (val z2) : Int) == 0) = false := by
          rw [beq_eq_false_iff_ne]
          have := (blen_zero_iff (val z2)).1
          omega
        have i2 : ¬ ((1048576 : Int) < (blen (val z2) : Int)) := by omega
        have i1 : (1048576 : Int) < (blen (val z1) : Int) := by omega
        generalize blen (val z1) = x1 at *
        generalize blen (val z2) = x2 at *
        clear hz hT A0 A1 A2 h1 h2
        go_enter Tryd.func4, Tryd.ntmps4
        go_wp2_with fail
        refine L2.mono ?_
        rintro e wn ⟨rfl, hw⟩; rw [hw]; clear hw wn
        go_wp2_with fail
        refine L2.mono ?_
        rintro e wn ⟨rfl, hw⟩; rw [hw]; clear hw wn
        go_wp2_with fail
        refine L1.mono ?_
        rintro e wn ⟨rfl, hw⟩; rw [hw]; clear hw wn
        clear L1 L2
        have HA := lives3_any _ (HT.out.below H.out)
        go_wp2_with fail
        refine HA.mono ?_
        rintro e w99 ⟨rfl, hb⟩
        replace H := hid_below H hb; clear hb HA
        go_wp2
        go_ret
        exact ⟨rfl, H.out⟩
    · have hz2 : ((blen (val z2) : Int) == 0) = false := by
        rw [beq_eq_false_iff_ne]
        have := (blen_zero_iff (val z2)).1
        omega
      have i2 : (1048576 : Int) < (blen (val z2) : Int) := by omega
      generalize blen (val z2) = x2 at *
      clear hz hT A0 A1 A2 h2
      go_enter Tryd.func4, Tryd.ntmps4
      go_wp2_with fail
      refine L2.mono ?_
      rintro e wn ⟨rfl, hw⟩; rw [hw]; clear hw wn
      go_wp2_with fail
      refine L2.mono ?_
      rintro e wn ⟨rfl, hw⟩; rw [hw]; clear hw wn
      clear L1 L2
      have HA := lives3_any _ (HT.out.below H.out)
      go_wp2_with fail
      refine HA.mono ?_
      rintro e w99 ⟨rfl, hb⟩
      replace H := hid_below H hb; clear hb HA
      go_wp2
      go_ret
      exact ⟨rfl, H.out⟩

end Go.Proofs.YtelfjadonlgkiabDoor
