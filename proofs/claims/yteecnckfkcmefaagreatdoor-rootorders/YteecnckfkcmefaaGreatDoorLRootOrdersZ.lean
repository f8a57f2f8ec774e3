/- The walk of the law RootOrders. -/
import Derived.Test.YteecnckfkcmefaaGreatDoorQU
import Derived.Test.YteecnckfkcmefaaGreatDoorQV
namespace Go.Proofs.YteecnckfkcmefaaGreatDoor
open Go.RowKit
open Lm
attribute [local go_sem ↓] Go.wp_at_zero Go.wp_at_succ

set_option maxRecDepth 100000 in
set_option maxHeartbeats 8000000 in
theorem rootOrders_walk (v0 : Value) (z0 : List Nat) (v1 : Value) (z1 : List Nat) (k : Int) (w : World) (hT : Tab w) (A0 : Arg w v0 z0) (s0 : z0.length ≤ 17592186043904) (A1 : Arg w v1 z1) (s1 : z1.length ≤ 17592186043904) (_ : -9223372036854775808 ≤ k) (_ : k ≤ 9223372036854775807) :
    Calls Tryz.prog 8 #[v0, v1, .int .i64 k] w fun e w' => e = .returned (.bool true) ∧ Below w.heap.size w w' := by
  have H : Hid (Below w.heap.size w w) := Below.refl _ _
  have HT := hide hT
  clear hT
  by_cases c1 : k < 1
  · go_enter Tryz.func8, Tryz.ntmps8
    have HO := of_any _ _ _ A0 (by omega)
    go_wp2_with fail
    refine HO.mono ?_
    rintro e w2 ⟨⟨vx, rfl, Nx⟩, hb⟩
    replace H := hid_below H hb; replace A0 := A0.below hb; replace A1 := A1.below hb; clear hb HO
    have HO := of_any _ _ _ A1 (by omega)
    go_wp2_with fail
    refine HO.mono ?_
    rintro e w3 ⟨⟨vy, rfl, Ny⟩, hb⟩
    replace H := hid_below H hb; replace A0 := A0.below hb; replace A1 := A1.below hb; replace Nx := Nx.below hb; clear hb HO
    clear Nx Ny A0 A1
    have HA := awake4_any w3
    go_wp2_with fail
    refine HA.mono ?_
    rintro e w9 ⟨rfl, hb⟩
    replace H := hid_below H hb; clear hb HA
    go_wp2
    go_ret
    exact ⟨rfl, H.out⟩
  · by_cases c2 : 67108864 ≤ blen (val z0)
    · have i2 : (67108864 : Int) ≤ ((blen (val z0) : Nat) : Int) := by omega
      go_enter Tryz.func8, Tryz.ntmps8
      have HO := of_any _ _ _ A0 (by omega)
      go_wp2_with fail
      refine HO.mono ?_
      rintro e w2 ⟨⟨vx, rfl, Nx⟩, hb⟩
      replace H := hid_below H hb; replace A0 := A0.below hb; replace A1 := A1.below hb; clear hb HO
      have HO := of_any _ _ _ A1 (by omega)
      go_wp2_with fail
      refine HO.mono ?_
      rintro e w3 ⟨⟨vy, rfl, Ny⟩, hb⟩
      replace H := hid_below H hb; replace A0 := A0.below hb; replace A1 := A1.below hb; replace Nx := Nx.below hb; clear hb HO
      have HL := len_any vx _ w3 Nx
      clear Nx Ny A0 A1 c2
      generalize blen (val z0) = l0 at *
      go_wp2_with fail
      refine HL.mono ?_
      rintro e wn ⟨rfl, hw⟩; rw [hw]; clear hw wn HL
      have HA := awake4_any w3
      go_wp2_with fail
      refine HA.mono ?_
      rintro e w9 ⟨rfl, hb⟩
      replace H := hid_below H hb; clear hb HA
      go_wp2
      go_ret
      exact ⟨rfl, H.out⟩
    · have i2 : ¬ (67108864 : Int) ≤ ((blen (val z0) : Nat) : Int) := by omega
      by_cases c3 : 67108864 ≤ blen (val z1)
      · have i3 : (67108864 : Int) ≤ ((blen (val z1) : Nat) : Int) := by omega
        go_enter Tryz.func8, Tryz.ntmps8
        have HO := of_any _ _ _ A0 (by omega)
        go_wp2_with fail
        refine HO.mono ?_
        rintro e w2 ⟨⟨vx, rfl, Nx⟩, hb⟩
        replace H := hid_below H hb; replace A0 := A0.below hb; replace A1 := A1.below hb; clear hb HO
        have HO := of_any _ _ _ A1 (by omega)
        go_wp2_with fail
        refine HO.mono ?_
        rintro e w3 ⟨⟨vy, rfl, Ny⟩, hb⟩
        replace H := hid_below H hb; replace A0 := A0.below hb; replace A1 := A1.below hb; replace Nx := Nx.below hb; clear hb HO
        have HL := len_any vx _ w3 Nx
        have HL2 := len_any vy _ w3 Ny
        clear Nx Ny A0 A1 c2 c3
        generalize blen (val z0) = l0 at *
        generalize blen (val z1) = l1 at *
        go_wp2_with fail
        refine HL.mono ?_
        rintro e wn ⟨rfl, hw⟩; rw [hw]; clear hw wn HL
        go_wp2_with fail
        refine HL2.mono ?_
        rintro e wn ⟨rfl, hw⟩; rw [hw]; clear hw wn HL2
        have HA := awake4_any w3
        go_wp2_with fail
        refine HA.mono ?_
        rintro e w9 ⟨rfl, hb⟩
        replace H := hid_below H hb; clear hb HA
        go_wp2
        go_ret
        exact ⟨rfl, H.out⟩
      · have i3 : ¬ (67108864 : Int) ≤ ((blen (val z1) : Nat) : Int) := by omega
        obtain ⟨K, rfl⟩ : ∃ K : Nat, k = (K : Int) := ⟨k.toNat, by omega⟩
        obtain ⟨r, hr⟩ := rootK_is (val z0) K (by omega)
        obtain ⟨s, hs⟩ := rootK_is (val z1) K (by omega)
        obtain ⟨t, ht⟩ := rootK_is (val z0 + 1) K (by omega)
        obtain ⟨t1, t2⟩ := rootK_succ (by omega) hr ht
        have b1 : blen (val z0 + 1) ≤ 67108864 := by
          have e1 := (blen_le_iff (val z0) 67108863).1 (by omega)
          obtain ⟨L, hL⟩ : ∃ L, 67108863 = L := ⟨_, rfl⟩
          rw [hL] at e1
          have := (blen_le_iff (val z0 + 1) (L + 1)).2 (by rw [Nat.pow_succ]; have := Nat.two_pow_pos L; omega)
          omega
        have br : blen r ≤ 67108864 := Nat.le_trans (blen_mono (rootK_small (by omega) hr)) (by omega)
        have bs : blen s ≤ 67108864 := Nat.le_trans (blen_mono (rootK_small (by omega) hs)) (by omega)
        have bt : blen t ≤ 67108864 := Nat.le_trans (blen_mono (rootK_small (by omega) ht)) b1
        have HH := hide (And.intro hr (And.intro hs (And.intro ht (And.intro t1 (And.intro t2 (And.intro br (And.intro bs bt)))))))
        have HB := hide (And.intro b1 (show blen (val z0) ≤ 67108863 ∧ blen (val z1) ≤ 67108863 by omega))
        have HM : Hid ((val z0 ≤ val z1 → r ≤ s) ∧ (val z1 ≤ val z0 → s ≤ r)) := hide ⟨rootK_mono hr hs, rootK_mono hs hr⟩
        clear hr hs ht t1 t2 b1 br bs bt c2 c3
        go_enter Tryz.func8, Tryz.ntmps8
        have HO := of_any _ _ _ A0 (by omega)
        go_wp2_with fail
        refine HO.mono ?_
        rintro e w2 ⟨⟨vx, rfl, Nx⟩, hb⟩
        replace H := hid_below H hb; replace A0 := A0.below hb; replace A1 := A1.below hb; clear hb HO
        have HO := of_any _ _ _ A1 (by omega)
        go_wp2_with fail
        refine HO.mono ?_
        rintro e w3 ⟨⟨vy, rfl, Ny⟩, hb⟩
        replace H := hid_below H hb; replace A0 := A0.below hb; replace A1 := A1.below hb; replace Nx := Nx.below hb; clear hb HO
        have HL := len_any vx _ w3 Nx
        have HL2 := len_any vy _ w3 Ny
        obtain ⟨l0, hl0⟩ : ∃ l0, blen (val z0) = l0 := ⟨_, rfl⟩
        obtain ⟨l1, hl1⟩ : ∃ l1, blen (val z1) = l1 := ⟨_, rfl⟩
        rw [hl0] at HL i2
        rw [hl1] at HL2 i3
        have hd2 : decide ((67108864 : Int) ≤ (l0 : Int)) = false := decide_eq_false (by omega)
        have hd3 : decide ((67108864 : Int) ≤ (l1 : Int)) = false := decide_eq_false (by omega)
        have hd4 : decide (67108864 ≤ l0) = false := decide_eq_false (by omega)
        have hd5 : decide (67108864 ≤ l1) = false := decide_eq_false (by omega)
        clear hl0 hl1 i2 i3
        go_wp2_with fail
        refine HL.mono ?_
        rintro e wn ⟨rfl, hw⟩; rw [hw]; clear hw wn HL
        go_wp2_with fail
        refine HL2.mono ?_
        rintro e wn ⟨rfl, hw⟩; rw [hw]; clear hw wn HL2
        have F := rroot_any v0 z0 K r w3 A0 (HT.out.below H.out) (by omega) (by have := HB.out.2.1; omega) (by omega) (by omega) HH.out.1
        clear A0
        go_wp2_with fail
        refine F.mono ?_
        rintro e w4 ⟨⟨vr, vr', rfl, Nr, _⟩, hb⟩
        replace H := hid_below H hb; replace A1 := A1.below hb; replace Nx := Nx.below hb; replace Ny := Ny.below hb
        have Rr := Nr.rd (by have := HH.out.2.2.2.2.2.1; omega)
        clear hb F Nr
        have F := rroot_any v1 z1 K s w4 A1 (HT.out.below H.out) (by omega) (by have := HB.out.2.2; omega) (by omega) (by omega) HH.out.2.1
        clear A1
        go_wp2_with fail
        refine F.mono ?_
        rintro e w5 ⟨⟨vs, vs', rfl, Ns, _⟩, hb⟩
        replace H := hid_below H hb; replace Nx := Nx.below hb; replace Ny := Ny.below hb; replace Rr := Rr.below hb
        have Rs := Ns.rd (by have := HH.out.2.2.2.2.2.2.1; omega)
        clear hb F Ns
        have F := one4_any w5
        go_wp2_with fail
        refine F.mono ?_
        rintro e w6 ⟨⟨vo, rfl, No⟩, hb⟩
        replace H := hid_below H hb; replace Nx := Nx.below hb; replace Ny := Ny.below hb; replace Rr := Rr.below hb; replace Rs := Rs.below hb
        clear hb F
        have F := radd_any vx vo _ _ w6 Nx No (by have := HB.out.2.1; omega) (by rw [show blen 1 = 1 from rfl]; omega)
        clear No
        go_wp2_with fail
        refine F.mono ?_
        rintro e w7 ⟨⟨va, rfl, Na⟩, hb⟩
        replace H := hid_below H hb; replace Nx := Nx.below hb; replace Ny := Ny.below hb; replace Rr := Rr.below hb; replace Rs := Rs.below hb
        clear hb F
        obtain ⟨da, Aa, da2, da3, da4, da5⟩ := Na
        have F := limbs_any va da w7 Aa da2 (by have := num_len da2 da3 2097152 (by rw [da4]; have := HB.out.1; omega); omega)
        clear Aa
        go_wp2_with fail
        refine F.mono ?_
        rintro e w8 ⟨⟨vl, rfl, Al⟩, hb⟩
        replace H := hid_below H hb; replace Nx := Nx.below hb; replace Ny := Ny.below hb; replace Rr := Rr.below hb; replace Rs := Rs.below hb
        have lal : (pairs da).length ≤ 17592186044000 := by
          have := pairs_length da
          have := num_len da2 da3 2097152 (by rw [da4]; have := HB.out.1; omega)
          omega
        have eal : val (pairs da) = val z0 + 1 := by rw [pairs_val]; exact da4
        clear hb F da2 da3 da4 da5
        have F := rroot_any vl (pairs da) K t w8 (Al.arg (by omega)) (HT.out.below H.out) lal (by rw [eal]; exact HB.out.1) (by omega) (by omega) (by rw [eal]; exact HH.out.2.2.1)
        clear Al lal eal
        go_wp2_with fail
        refine F.mono ?_
        rintro e w9 ⟨⟨vt, vt', rfl, Nt, _⟩, hb⟩
        replace H := hid_below H hb; replace Nx := Nx.below hb; replace Ny := Ny.below hb; replace Rr := Rr.below hb; replace Rs := Rs.below hb
        have Rt := Nt.rd (by have := HH.out.2.2.2.2.2.2.2; omega)
        clear hb F Nt
        go_wp2_with fail
        refine (num4_any 0 w9).mono ?_
        rintro e wn ⟨rfl, hw⟩; rw [hw]; clear hw wn
        go_wp2_with fail
        refine (num4_any 0 w9).mono ?_
        rintro e wn ⟨rfl, hw⟩; rw [hw]; clear hw wn
        go_wp2_with fail
        refine (num4_any 0 w9).mono ?_
        rintro e wn ⟨rfl, hw⟩; rw [hw]; clear hw wn
        have F := of4_rd Rr
        go_wp2_with fail
        refine F.mono ?_
        rintro e w10 ⟨⟨vr1, rfl, Nr1⟩, hb⟩
        replace H := hid_below H hb
        replace Nx := Nx.below hb; replace Ny := Ny.below hb; replace Rr := Rr.below hb; replace Rs := Rs.below hb; replace Rt := Rt.below hb
        clear hb F
        have F := of4_rd Rs
        go_wp2_with fail
        refine F.mono ?_
        rintro e w11 ⟨⟨vs1, rfl, Ns1⟩, hb⟩
        replace H := hid_below H hb
        replace Nx := Nx.below hb; replace Ny := Ny.below hb; replace Rr := Rr.below hb; replace Rt := Rt.below hb; replace Nr1 := Nr1.below hb
        clear hb F Rs
        have HC := rcmp_any vr1 vs1 _ _ w11 Nr1 Ns1
        clear Nr1 Ns1
        obtain ⟨cc, hcc⟩ : ∃ cc, cmpN r s = cc := ⟨_, rfl⟩
        rw [hcc] at HC
        go_wp2_with fail
        refine HC.mono ?_
        rintro e w20 ⟨rfl, hsm⟩
        have hb := hsm.below w11.heap.size
        replace H := hid_below H hb
        replace Nx := Nx.below hb; replace Ny := Ny.below hb; replace Rr := Rr.below hb; replace Rt := Rt.below hb
        clear hb hsm HC
        have HC := rcmp_any vx vy _ _ w20 Nx Ny
        rcases cmpN_range (val z0) (val z1) with ⟨hx, h01⟩ | ⟨hx, h01⟩ | ⟨hx, h01⟩
        · rw [hx] at HC
          have i1 : ¬ (0 : Int) < cc := by rw [← hcc]; have := cmpN_le (HM.out.1 (by omega)); omega
          clear hcc h01
          go_wp2_with fail
          refine HC.mono ?_
          rintro e w21 ⟨rfl, hsm⟩
          have hb := hsm.below w20.heap.size
          replace H := hid_below H hb
          replace Nx := Nx.below hb; replace Ny := Ny.below hb; replace Rr := Rr.below hb; replace Rt := Rt.below hb
          clear hb hsm HC
          have HC := rcmp_any vx vy _ _ w21 Nx Ny
          rw [hx] at HC
          clear Nx Ny hx
          go_wp2_with fail
          refine HC.mono ?_
          rintro e w22 ⟨rfl, hsm⟩
          have hb := hsm.below w21.heap.size
          replace H := hid_below H hb
          replace Rr := Rr.below hb; replace Rt := Rt.below hb
          clear hb hsm HC
          have F := of4_rd Rr
          go_wp2_with fail
          refine F.mono ?_
          rintro e w12 ⟨⟨vr2, rfl, Nr2⟩, hb⟩
          replace H := hid_below H hb
          replace Rr := Rr.below hb; replace Rt := Rt.below hb
          clear hb F
          have F := of4_rd Rt
          go_wp2_with fail
          refine F.mono ?_
          rintro e w13 ⟨⟨vt1, rfl, Nt1⟩, hb⟩
          replace H := hid_below H hb
          replace Rr := Rr.below hb; replace Rt := Rt.below hb; replace Nr2 := Nr2.below hb
          clear hb F
          have HC := rcmp_any vr2 vt1 _ _ w13 Nr2 Nt1
          obtain ⟨c3, hc3⟩ : ∃ c3, cmpN r t = c3 := ⟨_, rfl⟩
          have i3 : c3 ≤ 0 := by rw [← hc3]; exact cmpN_le HH.out.2.2.2.1
          rw [hc3] at HC
          clear Nr2 Nt1 hc3
          go_wp2_with fail
          refine HC.mono ?_
          rintro e w14 ⟨rfl, hsm⟩
          have hb := hsm.below w13.heap.size
          replace H := hid_below H hb
          replace Rr := Rr.below hb; replace Rt := Rt.below hb
          clear hb hsm HC
          have F := of4_rd Rt
          go_wp2_with fail
          refine F.mono ?_
          rintro e w15 ⟨⟨vt2, rfl, Nt2⟩, hb⟩
          replace H := hid_below H hb
          replace Rr := Rr.below hb
          clear hb F Rt
          have F := of4_rd Rr
          go_wp2_with fail
          refine F.mono ?_
          rintro e w16 ⟨⟨vr3, rfl, Nr3⟩, hb⟩
          replace H := hid_below H hb
          replace Nt2 := Nt2.below hb
          clear hb F Rr
          have F := one4_any w16
          go_wp2_with fail
          refine F.mono ?_
          rintro e w17 ⟨⟨vo, rfl, No⟩, hb⟩
          replace H := hid_below H hb; replace Nt2 := Nt2.below hb; replace Nr3 := Nr3.below hb
          clear hb F
          have F := radd_any vr3 vo _ _ w17 Nr3 No (by have := HH.out.2.2.2.2.2.1; omega) (by rw [show blen 1 = 1 from rfl]; omega)
          clear Nr3 No
          go_wp2_with fail
          refine F.mono ?_
          rintro e w18 ⟨⟨va, rfl, Na⟩, hb⟩
          replace H := hid_below H hb; replace Nt2 := Nt2.below hb
          clear hb F
          have HC := rcmp_any vt2 va _ _ w18 Nt2 Na
          obtain ⟨c4, hc4⟩ : ∃ c4, cmpN t (r + 1) = c4 := ⟨_, rfl⟩
          have i4 : c4 ≤ 0 := by rw [← hc4]; exact cmpN_le HH.out.2.2.2.2.1
          rw [hc4] at HC
          clear Nt2 Na hc4
          go_wp2_with fail
          refine HC.mono ?_
          rintro e w19 ⟨rfl, hsm⟩
          have hb := hsm.below w18.heap.size
          replace H := hid_below H hb
          clear hb hsm HC
          have HA := awake4_any w19
          go_wp2_with fail
          refine HA.mono ?_
          rintro e w9 ⟨rfl, hb⟩
          replace H := hid_below H hb; clear hb HA
          go_wp2
          go_ret
          exact ⟨rfl, H.out⟩
        · rw [hx] at HC
          obtain rfl : cc = 0 := by rw [← hcc]; have := cmpN_le (HM.out.1 (by omega)); have := cmpN_ge (HM.out.2 (by omega)); omega
          clear hcc h01
          go_wp2_with fail
          refine HC.mono ?_
          rintro e w21 ⟨rfl, hsm⟩
          have hb := hsm.below w20.heap.size
          replace H := hid_below H hb
          replace Nx := Nx.below hb; replace Ny := Ny.below hb; replace Rr := Rr.below hb; replace Rt := Rt.below hb
          clear hb hsm HC
          have HC := rcmp_any vx vy _ _ w21 Nx Ny
          rw [hx] at HC
          clear Nx Ny hx
          go_wp2_with fail
          refine HC.mono ?_
          rintro e w22 ⟨rfl, hsm⟩
          have hb := hsm.below w21.heap.size
          replace H := hid_below H hb
          replace Rr := Rr.below hb; replace Rt := Rt.below hb
          clear hb hsm HC
          have F := of4_rd Rr
          go_wp2_with fail
          refine F.mono ?_
          rintro e w12 ⟨⟨vr2, rfl, Nr2⟩, hb⟩
          replace H := hid_below H hb
          replace Rr := Rr.below hb; replace Rt := Rt.below hb
          clear hb F
          have F := of4_rd Rt
          go_wp2_with fail
          refine F.mono ?_
          rintro e w13 ⟨⟨vt1, rfl, Nt1⟩, hb⟩
          replace H := hid_below H hb
          replace Rr := Rr.below hb; replace Rt := Rt.below hb; replace Nr2 := Nr2.below hb
          clear hb F
          have HC := rcmp_any vr2 vt1 _ _ w13 Nr2 Nt1
          obtain ⟨c3, hc3⟩ : ∃ c3, cmpN r t = c3 := ⟨_, rfl⟩
          have i3 : c3 ≤ 0 := by rw [← hc3]; exact cmpN_le HH.out.2.2.2.1
          rw [hc3] at HC
          clear Nr2 Nt1 hc3
          go_wp2_with fail
          refine HC.mono ?_
          rintro e w14 ⟨rfl, hsm⟩
          have hb := hsm.below w13.heap.size
          replace H := hid_below H hb
          replace Rr := Rr.below hb; replace Rt := Rt.below hb
          clear hb hsm HC
          have F := of4_rd Rt
          go_wp2_with fail
          refine F.mono ?_
          rintro e w15 ⟨⟨vt2, rfl, Nt2⟩, hb⟩
          replace H := hid_below H hb
          replace Rr := Rr.below hb
          clear hb F Rt
          have F := of4_rd Rr
          go_wp2_with fail
          refine F.mono ?_
          rintro e w16 ⟨⟨vr3, rfl, Nr3⟩, hb⟩
          replace H := hid_below H hb
          replace Nt2 := Nt2.below hb
          clear hb F Rr
          have F := one4_any w16
          go_wp2_with fail
          refine F.mono ?_
          rintro e w17 ⟨⟨vo, rfl, No⟩, hb⟩
          replace H := hid_below H hb; replace Nt2 := Nt2.below hb; replace Nr3 := Nr3.below hb
          clear hb F
          have F := radd_any vr3 vo _ _ w17 Nr3 No (by have := HH.out.2.2.2.2.2.1; omega) (by rw [show blen 1 = 1 from rfl]; omega)
          clear Nr3 No
          go_wp2_with fail
          refine F.mono ?_
          rintro e w18 ⟨⟨va, rfl, Na⟩, hb⟩
          replace H := hid_below H hb; replace Nt2 := Nt2.below hb
          clear hb F
          have HC := rcmp_any vt2 va _ _ w18 Nt2 Na
          obtain ⟨c4, hc4⟩ : ∃ c4, cmpN t (r + 1) = c4 := ⟨_, rfl⟩
          have i4 : c4 ≤ 0 := by rw [← hc4]; exact cmpN_le HH.out.2.2.2.2.1
          rw [hc4] at HC
          clear Nt2 Na hc4
          go_wp2_with fail
          refine HC.mono ?_
          rintro e w19 ⟨rfl, hsm⟩
          have hb := hsm.below w18.heap.size
          replace H := hid_below H hb
          clear hb hsm HC
          have HA := awake4_any w19
          go_wp2_with fail
          refine HA.mono ?_
          rintro e w9 ⟨rfl, hb⟩
          replace H := hid_below H hb; clear hb HA
          go_wp2
          go_ret
          exact ⟨rfl, H.out⟩
        · rw [hx] at HC
          have i1 : ¬ cc < 0 := by rw [← hcc]; have := cmpN_ge (HM.out.2 (by omega)); omega
          clear hcc h01
          go_wp2_with fail
          refine HC.mono ?_
          rintro e w21 ⟨rfl, hsm⟩
          have hb := hsm.below w20.heap.size
          replace H := hid_below H hb
          replace Nx := Nx.below hb; replace Ny := Ny.below hb; replace Rr := Rr.below hb; replace Rt := Rt.below hb
          clear hb hsm HC
          have HC := rcmp_any vx vy _ _ w21 Nx Ny
          rw [hx] at HC
          clear Nx Ny hx
          go_wp2_with fail
          refine HC.mono ?_
          rintro e w22 ⟨rfl, hsm⟩
          have hb := hsm.below w21.heap.size
          replace H := hid_below H hb
          replace Rr := Rr.below hb; replace Rt := Rt.below hb
          clear hb hsm HC
          have F := of4_rd Rr
          go_wp2_with fail
          refine F.mono ?_
          rintro e w12 ⟨⟨vr2, rfl, Nr2⟩, hb⟩
          replace H := hid_below H hb
          replace Rr := Rr.below hb; replace Rt := Rt.below hb
          clear hb F
          have F := of4_rd Rt
          go_wp2_with fail
          refine F.mono ?_
          rintro e w13 ⟨⟨vt1, rfl, Nt1⟩, hb⟩
          replace H := hid_below H hb
          replace Rr := Rr.below hb; replace Rt := Rt.below hb; replace Nr2 := Nr2.below hb
          clear hb F
          have HC := rcmp_any vr2 vt1 _ _ w13 Nr2 Nt1
          obtain ⟨c3, hc3⟩ : ∃ c3, cmpN r t = c3 := ⟨_, rfl⟩
          have i3 : c3 ≤ 0 := by rw [← hc3]; exact cmpN_le HH.out.2.2.2.1
          rw [hc3] at HC
          clear Nr2 Nt1 hc3
          go_wp2_with fail
          refine HC.mono ?_
          rintro e w14 ⟨rfl, hsm⟩
          have hb := hsm.below w13.heap.size
          replace H := hid_below H hb
          replace Rr := Rr.below hb; replace Rt := Rt.below hb
          clear hb hsm HC
          have F := of4_rd Rt
          go_wp2_with fail
          refine F.mono ?_
          rintro e w15 ⟨⟨vt2, rfl, Nt2⟩, hb⟩
          replace H := hid_below H hb
          replace Rr := Rr.below hb
          clear hb F Rt
          have F := of4_rd Rr
          go_wp2_with fail
          refine F.mono ?_
          rintro e w16 ⟨⟨vr3, rfl, Nr3⟩, hb⟩
          replace H := hid_below H hb
          replace Nt2 := Nt2.below hb
          clear hb F Rr
          have F := one4_any w16
          go_wp2_with fail
          refine F.mono ?_
          rintro e w17 ⟨⟨vo, rfl, No⟩, hb⟩
          replace H := hid_below H hb; replace Nt2 := Nt2.below hb; replace Nr3 := Nr3.below hb
          clear hb F
          have F := radd_any vr3 vo _ _ w17 Nr3 No (by have := HH.out.2.2.2.2.2.1; omega) (by rw [show blen 1 = 1 from rfl]; omega)
          clear Nr3 No
          go_wp2_with fail
          refine F.mono ?_
          rintro e w18 ⟨⟨va, rfl, Na⟩, hb⟩
          replace H := hid_below H hb; replace Nt2 := Nt2.below hb
          clear hb F
          have HC := rcmp_any vt2 va _ _ w18 Nt2 Na
          obtain ⟨c4, hc4⟩ : ∃ c4, cmpN t (r + 1) = c4 := ⟨_, rfl⟩
          have i4 : c4 ≤ 0 := by rw [← hc4]; exact cmpN_le HH.out.2.2.2.2.1
          rw [hc4] at HC
          clear Nt2 Na hc4
          go_wp2_with fail
          refine HC.mono ?_
          rintro e w19 ⟨rfl, hsm⟩
          have hb := hsm.below w18.heap.size
          replace H := hid_below H hb
          clear hb hsm HC
          have HA := awake4_any w19
          go_wp2_with fail
          refine HA.mono ?_
          rintro e w9 ⟨rfl, hb⟩
          replace H := hid_below H hb; clear hb HA
          go_wp2
          go_ret
          exact ⟨rfl, H.out⟩

end Go.Proofs.YteecnckfkcmefaaGreatDoor
