/- The walk of the law RootRoots. -/
import Derived.Test.YteecnckfkcmefaaGreatDoorQU
import Derived.Test.YteecnckfkcmefaaGreatDoorQV
namespace Go.Proofs.YteecnckfkcmefaaGreatDoor
open Go.RowKit
open Lm
attribute [local go_sem ↓] Go.wp_at_zero Go.wp_at_succ

set_option maxRecDepth 100000 in
set_option maxHeartbeats 4000000 in
theorem rootRoots_walk (v0 : Value) (z0 : List Nat) (m k : Int) (w : World) (hT : Tab w) (A0 : Arg w v0 z0) (s0 : z0.length ≤ 17592186043904) (_ : -9223372036854775808 ≤ m) (_ : m ≤ 9223372036854775807) (_ : -9223372036854775808 ≤ k) (_ : k ≤ 9223372036854775807) :
    Calls Tryz.prog 7 #[v0, .int .i64 m, .int .i64 k] w fun e w' => e = .returned (.bool true) ∧ Below w.heap.size w w' := by
  have H : Hid (Below w.heap.size w w) := Below.refl _ _
  have HT := hide hT
  clear hT
  by_cases c1 : m < 1
  · go_enter Tryz.func7, Tryz.ntmps7
    have HA := awake4_any w
    go_wp2_with fail
    refine HA.mono ?_
    rintro e w9 ⟨rfl, hb⟩
    replace H := hid_below H hb; clear hb HA
    go_wp2
    go_ret
    exact ⟨rfl, H.out⟩
  · by_cases c2 : k < 1
    · go_enter Tryz.func7, Tryz.ntmps7
      have HA := awake4_any w
      go_wp2_with fail
      refine HA.mono ?_
      rintro e w9 ⟨rfl, hb⟩
      replace H := hid_below H hb; clear hb HA
      go_wp2
      go_ret
      exact ⟨rfl, H.out⟩
    · by_cases c3 : (1073741824 : Int) < m
      · go_enter Tryz.func7, Tryz.ntmps7
        have HA := awake4_any w
        go_wp2_with fail
        refine HA.mono ?_
        rintro e w9 ⟨rfl, hb⟩
        replace H := hid_below H hb; clear hb HA
        go_wp2
        go_ret
        exact ⟨rfl, H.out⟩
      · by_cases c4 : (1073741824 : Int) < k
        · go_enter Tryz.func7, Tryz.ntmps7
          have HA := awake4_any w
          go_wp2_with fail
          refine HA.mono ?_
          rintro e w9 ⟨rfl, hb⟩
          replace H := hid_below H hb; clear hb HA
          go_wp2
          go_ret
          exact ⟨rfl, H.out⟩
        · have HO := of_any _ _ _ A0 (by omega)
          by_cases c5 : 67108864 < blen (val z0)
          · have i5 : (67108864 : Int) < ((blen (val z0) : Nat) : Int) := by omega
            clear A0
            go_enter Tryz.func7, Tryz.ntmps7
            go_wp2_with fail
            refine HO.mono ?_
            rintro e w2 ⟨⟨vx, rfl, Nx⟩, hb⟩
            replace H := hid_below H hb
            have HL := len_any vx _ w2 Nx
            clear hb HO Nx c5
            generalize blen (val z0) = l0 at *
            go_wp2_with fail
            refine HL.mono ?_
            rintro e wn ⟨rfl, hw⟩; rw [hw]; clear hw wn HL
            have HA := awake4_any w2
            go_wp2_with fail
            refine HA.mono ?_
            rintro e w9 ⟨rfl, hb⟩
            replace H := hid_below H hb; clear hb HA
            go_wp2
            go_ret
            exact ⟨rfl, H.out⟩
          · have i5 : ¬ (67108864 : Int) < ((blen (val z0) : Nat) : Int) := by omega
            obtain ⟨M, rfl⟩ : ∃ M : Nat, m = (M : Int) := ⟨m.toNat, by omega⟩
            obtain ⟨K, rfl⟩ : ∃ K : Nat, k = (K : Int) := ⟨k.toNat, by omega⟩
            obtain ⟨P, hP⟩ : ∃ P, M * K = P := ⟨_, rfl⟩
            have hPb : P ≤ 1152921504606846976 := by
              rw [← hP]
              exact Nat.mul_le_mul (show M ≤ 1073741824 by omega) (show K ≤ 1073741824 by omega)
            have hP1 : 1 ≤ P := by rw [← hP]; exact Nat.mul_pos (by omega) (by omega)
            have eP : (M : Int) * (K : Int) = (P : Int) := by rw [← hP]; exact (Int.natCast_mul M K).symm
            obtain ⟨r, hr⟩ := rootK_is (val z0) K (by omega)
            obtain ⟨s, hs⟩ := rootK_is r M (by omega)
            obtain ⟨t, ht⟩ := rootK_is (val z0) P hP1
            have est : s = t := rootK_root (by omega) (by omega) hr hs (by rw [hP]; exact ht)
            have br : blen r ≤ 67108864 := Nat.le_trans (blen_mono (rootK_small (by omega) hr)) (by omega)
            have bs : blen s ≤ 67108864 := Nat.le_trans (blen_mono (rootK_small (by omega) hs)) br
            subst est
            have HH := hide (And.intro hr (And.intro hs (And.intro ht (And.intro br (And.intro bs (show blen (val z0) ≤ 67108864 by omega))))))
            have HMK := hide (show 1 ≤ M ∧ 1 ≤ K ∧ M ≤ 1073741824 ∧ K ≤ 1073741824 ∧ 1 ≤ P ∧ P ≤ 1152921504606846976 by omega)
            clear hr hs ht br bs hP c5
            go_enter Tryz.func7, Tryz.ntmps7
            go_wp2_with fail
            refine HO.mono ?_
            rintro e w2 ⟨⟨vx, rfl, Nx⟩, hb⟩
            replace H := hid_below H hb; replace A0 := A0.below hb
            have HL := len_any vx _ w2 Nx
            obtain ⟨l0, hl0⟩ : ∃ l0, blen (val z0) = l0 := ⟨_, rfl⟩
            rw [hl0] at HL i5
            clear hb HO Nx hl0
            go_wp2_with fail
            refine HL.mono ?_
            rintro e wn ⟨rfl, hw⟩; rw [hw]; clear hw wn HL
            have F := rroot_any v0 z0 K r w2 A0 (HT.out.below H.out) (by omega) HH.out.2.2.2.2.2 (by omega) (by omega) HH.out.1
            go_wp2_with fail
            refine F.mono ?_
            rintro e w3 ⟨⟨vr, vr', rfl, Nr, _⟩, hb⟩
            replace H := hid_below H hb; replace A0 := A0.below hb
            obtain ⟨rr, Ar, pr, _, lr⟩ := Nr.arg (by have := HH.out.2.2.2.1; omega)
            clear hb F Nr
            have F := rroot_any vr rr M s w3 Ar (HT.out.below H.out) (by omega) (by rw [pr]; exact HH.out.2.2.2.1) (by omega) (by omega) (by rw [pr]; exact HH.out.2.1)
            clear Ar
            go_wp2_with fail
            refine F.mono ?_
            rintro e w4 ⟨⟨vs, vs', rfl, Ns, _⟩, hb⟩
            replace H := hid_below H hb; replace A0 := A0.below hb
            have Rs := Ns.rd (by have := HH.out.2.2.2.2.1; omega)
            clear hb F Ns pr
            have F := rroot_any v0 z0 P s w4 A0 (HT.out.below H.out) (by omega) HH.out.2.2.2.2.2 hP1 (by omega) HH.out.2.2.1
            clear A0
            go_wp2_with fail
            refine F.mono ?_
            rintro e w5 ⟨⟨vt, vt', rfl, Nt, _⟩, hb⟩
            replace H := hid_below H hb; replace Rs := Rs.below hb
            have Rt := Nt.rd (by have := HH.out.2.2.2.2.1; omega)
            clear hb F Nt
            go_wp2_with fail
            refine (num4_any 0 w5).mono ?_
            rintro e wn ⟨rfl, hw⟩; rw [hw]; clear hw wn
            go_wp2_with fail
            refine (num4_any 0 w5).mono ?_
            rintro e wn ⟨rfl, hw⟩; rw [hw]; clear hw wn
            go_wp2_with fail
            refine (num4_any 0 w5).mono ?_
            rintro e wn ⟨rfl, hw⟩; rw [hw]; clear hw wn
            have F := of4_rd Rs
            go_wp2_with fail
            refine F.mono ?_
            rintro e w6 ⟨⟨vs1, rfl, Ns1⟩, hb⟩
            replace H := hid_below H hb; replace Rt := Rt.below hb
            clear hb F Rs
            have F := of4_rd Rt
            go_wp2_with fail
            refine F.mono ?_
            rintro e w7 ⟨⟨vt1, rfl, Nt1⟩, hb⟩
            replace H := hid_below H hb; replace Ns1 := Ns1.below hb
            clear hb F Rt
            have HC := rcmp_any vs1 vt1 _ _ w7 Ns1 Nt1
            rw [cmpN_self] at HC
            clear Ns1 Nt1
            go_wp2_with fail
            refine HC.mono ?_
            rintro e w8 ⟨rfl, hsm⟩
            have hb := hsm.below w7.heap.size
            replace H := hid_below H hb
            clear hb hsm HC
            have HA := awake4_any w8
            go_wp2_with fail
            refine HA.mono ?_
            rintro e w9 ⟨rfl, hb⟩
            replace H := hid_below H hb; clear hb HA
            go_wp2
            go_ret
            exact ⟨rfl, H.out⟩

end Go.Proofs.YteecnckfkcmefaaGreatDoor
