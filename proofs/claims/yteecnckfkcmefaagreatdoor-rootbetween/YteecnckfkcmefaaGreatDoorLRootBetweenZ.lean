/- The walk of the law RootBetween. -/
import Derived.Test.YteecnckfkcmefaaGreatDoorQU
import Derived.Test.YteecnckfkcmefaaGreatDoorQV
import Derived.Test.YteecnckfkcmefaaGreatDoorRPowZ
namespace Go.Proofs.YteecnckfkcmefaaGreatDoor
open Go.RowKit
open Lm
attribute [local go_sem ↓] Go.wp_at_zero Go.wp_at_succ

set_option maxRecDepth 100000 in
set_option maxHeartbeats 8000000 in
theorem rootBetween_walk (v0 : Value) (z0 : List Nat) (k : Int) (w : World) (hT : Tab w) (A0 : Arg w v0 z0) (s0 : z0.length ≤ 17592186043904) (_ : -9223372036854775808 ≤ k) (_ : k ≤ 9223372036854775807) :
    Calls Tryz.prog 6 #[v0, .int .i64 k] w fun e w' => e = .returned (.bool true) ∧ Below w.heap.size w w' := by
  have H : Hid (Below w.heap.size w w) := Below.refl _ _
  have HT := hide hT
  have HO := of_any _ _ _ A0 (by omega)
  clear hT
  by_cases c1 : k < 1
  · clear A0
    go_enter Tryz.func6, Tryz.ntmps6
    go_wp2_with fail
    refine HO.mono ?_
    rintro e w2 ⟨⟨vx, rfl, Nn⟩, hb⟩
    replace H := hid_below H hb
    clear hb HO Nn
    have HA := awake4_any w2
    go_wp2_with fail
    refine HA.mono ?_
    rintro e w9 ⟨rfl, hb⟩
    replace H := hid_below H hb; clear hb HA
    go_wp2
    go_ret
    exact ⟨rfl, H.out⟩
  · by_cases c2 : (200 : Int) < k
    · clear A0
      go_enter Tryz.func6, Tryz.ntmps6
      go_wp2_with fail
      refine HO.mono ?_
      rintro e w2 ⟨⟨vx, rfl, Nn⟩, hb⟩
      replace H := hid_below H hb
      clear hb HO Nn
      have HA := awake4_any w2
      go_wp2_with fail
      refine HA.mono ?_
      rintro e w9 ⟨rfl, hb⟩
      replace H := hid_below H hb; clear hb HA
      go_wp2
      go_ret
      exact ⟨rfl, H.out⟩
    · by_cases c5 : 67108864 < blen (val z0)
      · have i5 : (67108864 : Int) < ((blen (val z0) : Nat) : Int) := by omega
        clear A0
        go_enter Tryz.func6, Tryz.ntmps6
        go_wp2_with fail
        refine HO.mono ?_
        rintro e w2 ⟨⟨vx, rfl, Nn⟩, hb⟩
        replace H := hid_below H hb
        have HL := len_any vx _ w2 Nn
        clear hb HO Nn c5
        generalize blen (val z0) = l0 at *
        go_wp2_with fail
        refine HL.mono ?_
        rintro e wn ⟨rfl, hw⟩; rw [hw]; clear hw wn HL
        have HA := awake4_any w2
        go_wp2_with fail
        refine HA.mono ?_
        rintro e w9 ⟨rfl, hb⟩
        replace H := hid_below H hb; clear hb HA
        go_wp2
        go_ret
        exact ⟨rfl, H.out⟩
      · have i5 : ¬ (67108864 : Int) < ((blen (val z0) : Nat) : Int) := by omega
        obtain ⟨K, rfl⟩ : ∃ K : Nat, k = (K : Int) := ⟨k.toNat, by omega⟩
        obtain ⟨r, hr⟩ := rootK_is (val z0) K (by omega)
        obtain ⟨p, hp⟩ := root2_is (val z0)
        have br : blen r ≤ 67108864 := Nat.le_trans (blen_mono (rootK_small (by omega) hr)) (by omega)
        have bp : blen p ≤ 67108864 := by have := root2_len hp; omega
        have bs : blen (val z0 - r ^ K) ≤ 67108864 := Nat.le_trans (blen_mono (Nat.sub_le _ _)) (by omega)
        have bq : blen (val z0 - p * p) ≤ 67108864 := Nat.le_trans (blen_mono (Nat.sub_le _ _)) (by omega)
        have bu : blen (r + 1) ≤ 67108865 := by
          have e1 := (blen_le_iff r 67108864).1 br
          obtain ⟨L, hL⟩ : ∃ L, 67108864 = L := ⟨_, rfl⟩
          rw [hL] at e1
          have := (blen_le_iff (r + 1) (L + 1)).2 (by rw [Nat.pow_succ]; have := Nat.two_pow_pos L; omega)
          omega
        have e1 : r ^ K + (val z0 - r ^ K) = val z0 := Nat.add_sub_cancel' hr.1
        have e2 : p * p + (val z0 - p * p) = val z0 := Nat.add_sub_cancel' hp.1
        have e3 : val z0 - p * p ≤ p + p := by
          have h2 := hp.2
          have : (p + 1) * (p + 1) = p * p + 2 * p + 1 := by grind
          omega
        have m1 : blen r * K + blen r ≤ 281474976710656 := by
          have := Nat.mul_le_mul br (show K ≤ 200 by omega)
          omega
        have m2 : blen (r + 1) * K + blen (r + 1) ≤ 281474976710656 := by
          have := Nat.mul_le_mul bu (show K ≤ 200 by omega)
          omega
        have brk : blen (r ^ K) ≤ 67108864 := Nat.le_trans (blen_mono hr.1) (by omega)
        have bpp : blen (p * p) ≤ 67108864 := Nat.le_trans (blen_mono hp.1) (by omega)
        have HH := hide (And.intro hr (And.intro hp (And.intro br (And.intro bp (And.intro bs (And.intro bq (And.intro bu (And.intro e1 (And.intro e2 (And.intro e3 (And.intro m1 (And.intro m2 (And.intro brk (And.intro bpp (show blen (val z0) ≤ 67108864 by omega)))))))))))))))
        have hKb : 1 ≤ K ∧ K ≤ 200 := by omega
        have HKB := hide hKb
        obtain ⟨s, hs⟩ : ∃ s, val z0 - r ^ K = s := ⟨_, rfl⟩
        obtain ⟨q, hq⟩ : ∃ q, val z0 - p * p = q := ⟨_, rfl⟩
        rw [hs, hq] at HH
        have HSQ := hide (And.intro hs hq)
        clear hr hp br bp bs bq bu e1 e2 e3 m1 m2 brk bpp hs hq c5 hKb
        go_enter Tryz.func6, Tryz.ntmps6
        go_wp2_with fail
        refine HO.mono ?_
        rintro e w2 ⟨⟨vx, rfl, Nn⟩, hb⟩
        replace H := hid_below H hb; replace A0 := A0.below hb
        have HL := len_any vx _ w2 Nn
        obtain ⟨l0, hl0⟩ : ∃ l0, blen (val z0) = l0 := ⟨_, rfl⟩
        rw [hl0] at HL i5
        clear hb HO hl0
        go_wp2_with fail
        refine HL.mono ?_
        rintro e wn ⟨rfl, hw⟩; rw [hw]; clear hw wn HL
        obtain ⟨hr, hp, br, bp, bs, bq, bu, e1, e2, e3, m1, m2, brk, bpp, bn⟩ := HH.out
        have F := rroot_any v0 z0 K r w2 A0 (HT.out.below H.out) (by omega) bn (by have := HKB.out; omega) (by have := HKB.out; omega) hr
        rw [HSQ.out.1] at F
        clear hr hp br bp bs bq bu e1 e2 e3 m1 m2 brk bpp bn
        go_wp2_with fail
        refine F.mono ?_
        rintro e w3 ⟨⟨vr, vs, rfl, Nr, Ns⟩, hb⟩
        obtain ⟨hr, hp, br, bp, bs, bq, bu, e1, e2, e3, m1, m2, brk, bpp, bn⟩ := HH.out
        replace H := hid_below H hb; replace A0 := A0.below hb; replace Nn := Nn.below hb
        have Rr := Nr.rd (by omega)
        have Rs := Ns.rd (by omega)
        have F' := rsqrt_any v0 z0 p w3 A0 (HT.out.below H.out) (by omega) hp
        rw [HSQ.out.2] at F'
        clear hb F Nr Ns A0 hr hp br bp bs bq bu e1 e2 e3 m1 m2 brk bpp bn
        go_wp2_with fail
        refine F'.mono ?_
        rintro e w4 ⟨htell, hb⟩
        obtain ⟨hr, hp, br, bp, bs, bq, bu, e1, e2, e3, m1, m2, brk, bpp, bn⟩ := HH.out
        rcases htell with ⟨_, _, vp, vq, rfl, Np, Nq⟩ | ⟨hbad, _⟩
        rotate_left
        · omega
        have Rp := Np.rd (by omega)
        have Rq := Nq.rd (by omega)
        replace H := hid_below H hb; replace Nn := Nn.below hb; replace Rr := Rr.below hb; replace Rs := Rs.below hb
        clear hb F' Np Nq hr hp br bp bs bq bu e1 e2 e3 m1 m2 brk bpp bn
        go_wp2_with fail
        refine (num4_any 0 w4).mono ?_
        rintro e wn ⟨rfl, hw⟩; rw [hw]; clear hw wn
        go_wp2_with fail
        refine (num4_any 0 w4).mono ?_
        rintro e wn ⟨rfl, hw⟩; rw [hw]; clear hw wn
        have F := of4_rd Rr
        go_wp2_with fail
        refine F.mono ?_
        rintro e w5 ⟨⟨vr1, rfl, Nr1⟩, hb⟩
        replace H := hid_below H hb
        replace Nn := Nn.below hb; replace Rr := Rr.below hb; replace Rs := Rs.below hb; replace Rp := Rp.below hb; replace Rq := Rq.below hb
        clear hb F
        have F := one4_any w5
        go_wp2_with fail
        refine F.mono ?_
        rintro e w6 ⟨⟨vo, rfl, No⟩, hb⟩
        replace H := hid_below H hb
        replace Nn := Nn.below hb; replace Rr := Rr.below hb; replace Rs := Rs.below hb; replace Rp := Rp.below hb; replace Rq := Rq.below hb
        replace Nr1 := Nr1.below hb
        clear hb F
        have F := radd_any vr1 vo _ _ w6 Nr1 No (by have := HH.out.2.2.1; omega) (by rw [show blen 1 = 1 from rfl]; omega)
        clear Nr1 No
        go_wp2_with fail
        refine F.mono ?_
        rintro e w7 ⟨⟨vr2, rfl, Nr2⟩, hb⟩
        replace H := hid_below H hb
        replace Nn := Nn.below hb; replace Rr := Rr.below hb; replace Rs := Rs.below hb; replace Rp := Rp.below hb; replace Rq := Rq.below hb
        clear hb F
        have F := refPow_any vr2 (r + 1) K w7 Nr2 (by have := HKB.out; omega) HH.out.2.2.2.2.2.2.2.2.2.2.2.1
        clear Nr2
        go_wp2_with fail
        refine F.mono ?_
        rintro e w8 ⟨⟨vup, rfl, Nup⟩, hb⟩
        replace H := hid_below H hb
        replace Nn := Nn.below hb; replace Rr := Rr.below hb; replace Rs := Rs.below hb; replace Rp := Rp.below hb; replace Rq := Rq.below hb
        clear hb F
        have F := of4_rd Rp
        go_wp2_with fail
        refine F.mono ?_
        rintro e w10 ⟨⟨vp1, rfl, Np1⟩, hb⟩
        replace H := hid_below H hb
        replace Nn := Nn.below hb; replace Rr := Rr.below hb; replace Rs := Rs.below hb; replace Rp := Rp.below hb; replace Rq := Rq.below hb
        replace Nup := Nup.below hb
        clear hb F
        have F := of4_rd Rp
        go_wp2_with fail
        refine F.mono ?_
        rintro e w11 ⟨⟨vp2, rfl, Np2⟩, hb⟩
        replace H := hid_below H hb
        replace Nn := Nn.below hb; replace Rr := Rr.below hb; replace Rs := Rs.below hb; replace Rp := Rp.below hb; replace Rq := Rq.below hb
        replace Nup := Nup.below hb; replace Np1 := Np1.below hb
        clear hb F
        have F := radd_any vp1 vp2 _ _ w11 Np1 Np2 (by have := HH.out.2.2.2.1; omega) (by have := HH.out.2.2.2.1; omega)
        clear Np1 Np2
        go_wp2_with fail
        refine F.mono ?_
        rintro e w12 ⟨⟨vtw, rfl, Ntw⟩, hb⟩
        replace H := hid_below H hb
        replace Nn := Nn.below hb; replace Rr := Rr.below hb; replace Rs := Rs.below hb; replace Rp := Rp.below hb; replace Rq := Rq.below hb
        replace Nup := Nup.below hb
        clear hb F
        have F := of4_rd Rr
        go_wp2_with fail
        refine F.mono ?_
        rintro e w13 ⟨⟨vr3, rfl, Nr3⟩, hb⟩
        replace H := hid_below H hb
        replace Nn := Nn.below hb; replace Rr := Rr.below hb; replace Rs := Rs.below hb; replace Rp := Rp.below hb; replace Rq := Rq.below hb
        replace Nup := Nup.below hb; replace Ntw := Ntw.below hb
        clear hb F
        have F := refPow_any vr3 r K w13 Nr3 (by have := HKB.out; omega) HH.out.2.2.2.2.2.2.2.2.2.2.1
        clear Nr3
        go_wp2_with fail
        refine F.mono ?_
        rintro e w14 ⟨⟨vrk, rfl, Nrk⟩, hb⟩
        replace H := hid_below H hb
        replace Nn := Nn.below hb; replace Rr := Rr.below hb; replace Rs := Rs.below hb; replace Rp := Rp.below hb; replace Rq := Rq.below hb
        replace Nup := Nup.below hb; replace Ntw := Ntw.below hb
        clear hb F
        have F := of4_rd Rs
        go_wp2_with fail
        refine F.mono ?_
        rintro e w15 ⟨⟨vs1, rfl, Ns1⟩, hb⟩
        replace H := hid_below H hb
        replace Nn := Nn.below hb; replace Rr := Rr.below hb; replace Rs := Rs.below hb; replace Rp := Rp.below hb; replace Rq := Rq.below hb
        replace Nup := Nup.below hb; replace Ntw := Ntw.below hb; replace Nrk := Nrk.below hb
        clear hb F
        have F := radd_any vrk vs1 _ _ w15 Nrk Ns1 (by have := HH.out.2.2.2.2.2.2.2.2.2.2.2.2.1; omega) (by have := HH.out.2.2.2.2.1; omega)
        rw [HH.out.2.2.2.2.2.2.2.1] at F
        clear Nrk Ns1
        go_wp2_with fail
        refine F.mono ?_
        rintro e w16 ⟨⟨va, rfl, Na⟩, hb⟩
        replace H := hid_below H hb
        replace Nn := Nn.below hb; replace Rr := Rr.below hb; replace Rs := Rs.below hb; replace Rp := Rp.below hb; replace Rq := Rq.below hb
        replace Nup := Nup.below hb; replace Ntw := Ntw.below hb
        clear hb F
        have HC := rcmp_any va vx _ _ w16 Na Nn
        rw [cmpN_self] at HC
        clear Na
        go_wp2_with fail
        refine HC.mono ?_
        rintro e w17 ⟨rfl, hsm⟩
        have hb := hsm.below w16.heap.size
        replace H := hid_below H hb
        replace Nn := Nn.below hb; replace Rr := Rr.below hb; replace Rs := Rs.below hb; replace Rp := Rp.below hb; replace Rq := Rq.below hb
        replace Nup := Nup.below hb; replace Ntw := Ntw.below hb
        clear hb hsm HC
        have HC := rcmp_any vup vx _ _ w17 Nup Nn
        rw [cmpN_gt HH.out.1.2] at HC
        clear Nup
        go_wp2_with fail
        refine HC.mono ?_
        rintro e w18 ⟨rfl, hsm⟩
        have hb := hsm.below w17.heap.size
        replace H := hid_below H hb
        replace Nn := Nn.below hb; replace Rr := Rr.below hb; replace Rs := Rs.below hb; replace Rp := Rp.below hb; replace Rq := Rq.below hb
        replace Ntw := Ntw.below hb
        clear hb hsm HC
        have F := of4_rd Rp
        go_wp2_with fail
        refine F.mono ?_
        rintro e w19 ⟨⟨vp3, rfl, Np3⟩, hb⟩
        replace H := hid_below H hb
        replace Nn := Nn.below hb; replace Rr := Rr.below hb; replace Rs := Rs.below hb; replace Rp := Rp.below hb; replace Rq := Rq.below hb
        replace Ntw := Ntw.below hb
        clear hb F
        have F := of4_rd Rp
        go_wp2_with fail
        refine F.mono ?_
        rintro e w20 ⟨⟨vp4, rfl, Np4⟩, hb⟩
        replace H := hid_below H hb
        replace Nn := Nn.below hb; replace Rr := Rr.below hb; replace Rs := Rs.below hb; replace Rp := Rp.below hb; replace Rq := Rq.below hb
        replace Ntw := Ntw.below hb; replace Np3 := Np3.below hb
        clear hb F
        have F := rmul_any vp3 vp4 _ _ w20 Np3 Np4 (by have := HH.out.2.2.2.1; omega)
        clear Np3 Np4
        go_wp2_with fail
        refine F.mono ?_
        rintro e w21 ⟨⟨vpp, rfl, Npp⟩, hb⟩
        replace H := hid_below H hb
        replace Nn := Nn.below hb; replace Rr := Rr.below hb; replace Rs := Rs.below hb; replace Rp := Rp.below hb; replace Rq := Rq.below hb
        replace Ntw := Ntw.below hb
        clear hb F
        have F := of4_rd Rq
        go_wp2_with fail
        refine F.mono ?_
        rintro e w22 ⟨⟨vq1, rfl, Nq1⟩, hb⟩
        replace H := hid_below H hb
        replace Nn := Nn.below hb; replace Rr := Rr.below hb; replace Rs := Rs.below hb; replace Rp := Rp.below hb; replace Rq := Rq.below hb
        replace Ntw := Ntw.below hb; replace Npp := Npp.below hb
        clear hb F
        have F := radd_any vpp vq1 _ _ w22 Npp Nq1 (by have := HH.out.2.2.2.2.2.2.2.2.2.2.2.2.2.1; omega) (by have := HH.out.2.2.2.2.2.1; omega)
        rw [HH.out.2.2.2.2.2.2.2.2.1] at F
        clear Npp Nq1
        go_wp2_with fail
        refine F.mono ?_
        rintro e w23 ⟨⟨vb, rfl, Nb2⟩, hb⟩
        replace H := hid_below H hb
        replace Nn := Nn.below hb; replace Rr := Rr.below hb; replace Rs := Rs.below hb; replace Rp := Rp.below hb; replace Rq := Rq.below hb
        replace Ntw := Ntw.below hb
        clear hb F
        have HC := rcmp_any vb vx _ _ w23 Nb2 Nn
        rw [cmpN_self] at HC
        clear Nb2 Nn
        go_wp2_with fail
        refine HC.mono ?_
        rintro e w24 ⟨rfl, hsm⟩
        have hb := hsm.below w23.heap.size
        replace H := hid_below H hb
        replace Rq := Rq.below hb; replace Ntw := Ntw.below hb
        clear hb hsm HC Rr Rs Rp
        have F := of4_rd Rq
        go_wp2_with fail
        refine F.mono ?_
        rintro e w25 ⟨⟨vq2, rfl, Nq2⟩, hb⟩
        replace H := hid_below H hb
        replace Ntw := Ntw.below hb
        clear hb F Rq
        have HC := rcmp_any vq2 vtw _ _ w25 Nq2 Ntw
        have hle : cmpN q (p + p) ≤ 0 := cmpN_le HH.out.2.2.2.2.2.2.2.2.2.1
        obtain ⟨cc, hcc⟩ : ∃ cc, cmpN q (p + p) = cc := ⟨_, rfl⟩
        rw [hcc] at HC hle
        clear Nq2 Ntw hcc
        go_wp2_with fail
        refine HC.mono ?_
        rintro e w26 ⟨rfl, hsm⟩
        have hb := hsm.below w25.heap.size
        replace H := hid_below H hb
        clear hb hsm HC
        have HA := awake4_any w26
        go_wp2_with fail
        refine HA.mono ?_
        rintro e w9 ⟨rfl, hb⟩
        replace H := hid_below H hb; clear hb HA
        go_wp2
        go_ret
        exact ⟨rfl, H.out⟩

end Go.Proofs.YteecnckfkcmefaaGreatDoor
