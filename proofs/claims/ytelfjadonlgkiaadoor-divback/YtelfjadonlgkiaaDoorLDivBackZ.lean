/- The walk of the law DivBack. -/
import Derived.Test.YtelfjadonlgkiaaDoorQM
import Derived.Test.YtelfjadonlgkiaaDoorRefLZ
import Derived.Test.YtelfjadonlgkiaaDoorQB
namespace Go.Proofs.YtelfjadonlgkiaaDoor
open Go.RowKit
open Lm

theorem blen_le_of_le {a b : Nat} (h : a ≤ b) : blen a ≤ blen b := (blen_le_iff a _).2 (Nat.lt_of_le_of_lt h ((blen_le_iff b _).1 (Nat.le_refl _)))

set_option maxRecDepth 100000 in
set_option maxHeartbeats 4000000 in
theorem divBack_walk (v0 : Value) (z0 : List Nat) (v1 : Value) (z1 : List Nat) (w : World) (hT : Tab w) (A0 : Arg w v0 z0) (s0 : z0.length ≤ 17592186043904) (A1 : Arg w v1 z1) (s1 : z1.length ≤ 17592186043904) :
    Calls Tryd.prog 7 #[v0, v1] w fun e w' => e = .returned (.bool true) ∧ Below w.heap.size w w' := by
  have H : Hid (Below w.heap.size w w) := Below.refl _ _
  have HT := hide hT
  have L0 := length_val _ _ w A0
  have L1 := length_val _ _ w A1
  have HA0 := hide A0
  have HA1 := hide A1
  clear hT A0 A1
  by_cases h0 : blen (val z0) ≤ 67108864
  · have i0 : ¬ ((67108864 : Int) < (blen (val z0) : Int)) := by omega
    by_cases h1 : blen (val z1) ≤ 67108864
    · have i1 : ¬ ((67108864 : Int) < (blen (val z1) : Int)) := by omega
      by_cases hz : val z1 = 0
      · have HB := dBoth_zero v0 v1 z0 z1 w HA0.out HA1.out hz
        have hb0 : blen (val z1) = 0 := (blen_zero_iff _).2 hz
        rw [hb0] at L1 i1
        clear hz hb0 h1
        generalize blen (val z0) = x0 at *
        go_enter Tryd.func7, Tryd.ntmps7
        go_wp2_with fail
        refine L0.mono ?_
        rintro e wn ⟨rfl, hw⟩; rw [hw]; clear hw wn
        go_wp2_with fail
        refine L1.mono ?_
        rintro e wn ⟨rfl, hw⟩; rw [hw]; clear hw wn
        go_wp2_with fail
        refine HB.mono ?_
        rintro e wn ⟨rfl, hw⟩; rw [hw]; clear hw wn HB
        go_wp2_with fail
        refine L1.mono ?_
        rintro e wn ⟨rfl, hw⟩; rw [hw]; clear hw wn L0 L1
        have HA := lives3_any _ (HT.out.below H.out)
        go_wp2_with fail
        refine HA.mono ?_
        rintro e w99 ⟨rfl, hb⟩
        replace H := hid_below H hb; clear hb HA
        go_wp2
        go_ret
        exact ⟨rfl, H.out⟩
      · have HB := dBoth_any v0 v1 z0 z1 w HA0.out HA1.out HT.out (by omega) (by omega) hz
        have hb0 : ((blen (val z1) : Int) == 0) = false := by
          rw [beq_eq_false_iff_ne]
          have := (blen_zero_iff (val z1)).1
          omega
        have HZ := hide (And.intro hz (And.intro h0 h1))
        clear hz h0 h1
        obtain ⟨x0, hx0⟩ : ∃ x, blen (val z0) = x := ⟨_, rfl⟩
        obtain ⟨x1, hx1⟩ : ∃ x, blen (val z1) = x := ⟨_, rfl⟩
        rw [hx0] at L0 i0
        rw [hx1] at L1 i1 hb0
        have HX := hide (And.intro hx0 hx1)
        clear hx0 hx1
        go_enter Tryd.func7, Tryd.ntmps7
        go_wp2_with fail
        refine L0.mono ?_
        rintro e wn ⟨rfl, hw⟩; rw [hw]; clear hw wn
        go_wp2_with fail
        refine L1.mono ?_
        rintro e wn ⟨rfl, hw⟩; rw [hw]; clear hw wn L0 L1
        go_wp2_with fail
        refine HB.mono ?_
        rintro e w1 ⟨⟨vq, vr, c, qs, rs, mid, rfl, Aq, hmid, _, Ar, hres⟩, hb⟩
        have hq1 : blen (val z0 / val z1) ≤ 67108864 := Nat.le_trans (blen_le_of_le (Nat.div_le_self _ _)) HZ.out.2.1
        have hr1 : blen (val z0 % val z1) ≤ 67108864 := Nat.le_trans (blen_le_of_le (Nat.mod_le _ _)) HZ.out.2.1
        rcases hres with ⟨rfl, eq, tq, er, tr', _, _⟩ | ⟨_, _, _, hbad⟩
        · have lq : qs.length ≤ 1048577 := by
            have := few_limbs qs 1048577 (by rw [eq]; omega)
            rwa [tq] at this
          have lr : rs.length ≤ 1048577 := by
            have := few_limbs rs 1048577 (by rw [er]; omega)
            rwa [tr'] at this
          replace H := hid_below H hb
          have HQ := hide (And.intro (Aq.arg (by omega)) eq)
          have HR := hide (And.intro (Ar.arg (by omega)) er)
          have B0 := hide (HA0.out.below H.out)
          have B1 := hide (HA1.out.below H.out)
          have L1 := length_val _ _ w1 B1.out
          rw [HX.out.2] at L1
          have HM := mul_any vq v1 qs z1 w1 HQ.out.1 B1.out (HT.out.below H.out) (by omega)
          rw [HQ.out.2] at HM
          clear HB Aq Ar hmid hb eq tq er tr'
          go_wp2_with fail
          refine L1.mono ?_
          rintro e wn ⟨rfl, hw⟩; rw [hw]; clear hw wn L1
          go_wp2_with fail
          refine HM.mono ?_
          rintro e w2 ⟨hb, vp, cp, ps, rfl, Ap, hp⟩
          have hle : val z0 / val z1 * val z1 ≤ val z0 := Nat.div_mul_le_self _ _
          have hbp : blen (val z0 / val z1 * val z1) ≤ 67108864 := Nat.le_trans (blen_le_of_le hle) HZ.out.2.1
          rcases hp with ⟨rfl, ep, tp, _⟩ | ⟨_, _, hbad⟩
          · have lp : ps.length ≤ 1048577 := by
              have := few_limbs ps 1048577 (by rw [ep]; omega)
              rwa [tp] at this
            replace H := hid_below H hb
            have B2 := hide (HR.out.1.below hb)
            have HS := add_any vp vr ps rs w2 (Ap.arg (by omega)) B2.out (by omega) (by omega)
            rw [ep, HR.out.2, Nat.mul_comm, Nat.div_add_mod] at HS
            clear HM Ap hb hle hbp ep tp
            go_wp2_with fail
            refine HS.mono ?_
            rintro e w3 ⟨hb, vs, cs, ss, rfl, As, hs⟩
            rcases hs with ⟨rfl, es, ts, _⟩ | ⟨_, _, hbad⟩
            · have ls : ss.length ≤ 1048577 := by
                have := few_limbs ss 1048577 (by rw [es]; have := HZ.out.2.1; omega)
                rwa [ts] at this
              replace H := hid_below H hb
              have HC := compare_any _ _ _ _ w3 (As.arg (by omega)) (HA0.out.below H.out)
              rw [es, cmpN_self] at HC
              have B3 := hide (B2.out.below hb)
              clear HS As hb es ts
              go_wp2_with fail
              refine HC.mono ?_
              rintro e w4 ⟨rfl, hsm⟩
              have hb4 := hsm.below w3.heap.size
              replace H := hid_below H hb4
              have HC := compare_any _ _ _ _ w4 (B3.out.below hb4) (HA1.out.below H.out)
              rw [HR.out.2, cmpN_lt (Nat.mod_lt _ (Nat.pos_of_ne_zero HZ.out.1))] at HC
              clear hsm hb4
              go_wp2_with fail
              refine HC.mono ?_
              rintro e w5 ⟨rfl, hsm⟩
              replace H := hid_below H (hsm.below w4.heap.size)
              clear hsm HC
              have HA := lives3_any _ (HT.out.below H.out)
              go_wp2_with fail
              refine HA.mono ?_
              rintro e w99 ⟨rfl, hb⟩
              replace H := hid_below H hb; clear hb HA
              go_wp2
              go_ret
              exact ⟨rfl, H.out⟩
            · exact absurd HZ.out.2.1 (by omega)
          · exact absurd hbp (by omega)
        · exact absurd hbad (by omega)
    · have i1 : (67108864 : Int) < (blen (val z1) : Int) := by omega
      clear h0 h1
      generalize blen (val z0) = x0 at *
      generalize blen (val z1) = x1 at *
      go_enter Tryd.func7, Tryd.ntmps7
      go_wp2_with fail
      refine L0.mono ?_
      rintro e wn ⟨rfl, hw⟩; rw [hw]; clear hw wn
      go_wp2_with fail
      refine L1.mono ?_
      rintro e wn ⟨rfl, hw⟩; rw [hw]; clear hw wn L0 L1
      have HA := lives3_any _ (HT.out.below H.out)
      go_wp2_with fail
      refine HA.mono ?_
      rintro e w99 ⟨rfl, hb⟩
      replace H := hid_below H hb; clear hb HA
      go_wp2
      go_ret
      exact ⟨rfl, H.out⟩
  · have i0 : (67108864 : Int) < (blen (val z0) : Int) := by omega
    clear h0
    generalize blen (val z0) = x0 at *
    go_enter Tryd.func7, Tryd.ntmps7
    go_wp2_with fail
    refine L0.mono ?_
    rintro e wn ⟨rfl, hw⟩; rw [hw]; clear hw wn L0
    have HA := lives3_any _ (HT.out.below H.out)
    go_wp2_with fail
    refine HA.mono ?_
    rintro e w99 ⟨rfl, hb⟩
    replace H := hid_below H hb; clear hb HA
    go_wp2
    go_ret
    exact ⟨rfl, H.out⟩

end Go.Proofs.YtelfjadonlgkiaaDoor
