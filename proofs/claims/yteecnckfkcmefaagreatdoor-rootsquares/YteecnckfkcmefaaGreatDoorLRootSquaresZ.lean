/- The walk of the law RootSquares. -/
import Derived.Test.YteecnckfkcmefaaGreatDoorRSqZ
import Derived.Test.YteecnckfkcmefaaGreatDoorQX
import Derived.Test.YteecnckfkcmefaaGreatDoorLRootKthsZ
namespace Go.Proofs.YteecnckfkcmefaaGreatDoor
open Go.RowKit
open Lm
attribute [local go_sem ↓] Go.wp_at_zero Go.wp_at_succ

/-- What Ceil answers, as a list with its code. -/
theorem ceil_res {w : World} {B : Nat} {c : Nat} {e : Ending} (h : (blen c ≤ 67108864 ∧ ∃ u, e = .returned (.tuple #[u, .int .i64 0]) ∧ Nb w B u c) ∨ (67108864 < blen c ∧ ∃ u, e = .returned (.tuple #[u, .int .i64 3]) ∧ Nb w B u 0)) :
    ∃ ao n cap k rs, e = .returned (.tuple #[.slice ao n cap, .int .i64 k]) ∧ Ans w B (.slice ao n cap) rs ∧ rs.length ≤ 1048576 ∧ ((k = 0 ∧ val rs = c ∧ tr rs = rs ∧ blen c ≤ 67108864) ∨ (k = 3 ∧ rs = [] ∧ 67108864 < blen c)) := by
  rcases h with ⟨h1, u, rfl, hN⟩ | ⟨h1, u, rfl, hN⟩
  · obtain ⟨ao, n, cap, rfl⟩ := hN.slice
    obtain ⟨rs, ha, hv, ht, hl⟩ := hN.few h1
    exact ⟨ao, n, cap, 0, rs, rfl, ha, hl, .inl ⟨rfl, hv, ht, h1⟩⟩
  · obtain ⟨ao, n, cap, rfl⟩ := hN.slice
    obtain ⟨rs, ha, hv, ht⟩ := hN
    have hz : rs = [] := val_zero ht hv
    exact ⟨ao, n, cap, 3, rs, rfl, ha, by rw [hz]; simp, .inr ⟨rfl, hz, h1⟩⟩

set_option maxRecDepth 100000 in
set_option maxHeartbeats 8000000 in
theorem rootSquares_walk (v0 : Value) (z0 : List Nat) (w : World) (hT : Tab w) (A0 : Arg w v0 z0) (s0 : z0.length ≤ 17592186043904) :
    Calls Tryz.prog 3 #[v0] w fun e w' => e = .returned (.bool true) ∧ Below w.heap.size w w' := by
  have H : Hid (Below w.heap.size w w) := Below.refl _ _
  have HT := hide hT
  have b0 := A0.bits s0
  obtain ⟨s, hs⟩ := root2_is (val z0)
  have HR := hide hs
  obtain ⟨bb, hbb⟩ : ∃ bb, decide (s * s = val z0) = bb := ⟨_, rfl⟩
  have HBB := hide hbb
  clear hT hs hbb
  by_cases hfit : blen s ≤ 67108864 ∧ blen (val z0 - s * s) ≤ 67108864
  · have HFIT := hide hfit
    clear hfit
    go_enter Tryz.func3, Tryz.ntmps3
    go_wp2_with fail
    refine (lend_ok _ _ _ A0 (by omega)).mono ?_
    rintro e w0 ⟨⟨vw, vp, rfl, Lw, Ap⟩, hb⟩
    replace H := hid_below H hb; replace A0 := A0.below hb; clear hb
    have HO := of_any _ _ _ A0 (by omega)
    go_wp2_with fail
    refine HO.mono ?_
    rintro e w1 ⟨⟨vx, rfl, Nx⟩, hb⟩
    replace H := hid_below H hb; replace A0 := A0.below hb; replace Ap := Ap.below hb; replace Lw := Lw.below hb; clear hb HO
    have F1 := refSqrt_any vx _ s w1 Nx b0 HR.out
    go_wp2_with fail
    refine F1.mono ?_
    rintro e w2 ⟨hsq, hb⟩
    replace H := hid_below H hb; replace A0 := A0.below hb; replace Ap := Ap.below hb; replace Lw := Lw.below hb; replace Nx := Nx.below hb; clear hb F1
    rcases hsq with ⟨_, _, n1, n2, rfl, N1, N2⟩ | ⟨hbad, _⟩
    rotate_left
    · have := HFIT.out; omega
    have F1 := refCeil_any vx _ s w2 Nx b0 HR.out
    go_wp2_with fail
    refine F1.mono ?_
    rintro e w3 ⟨⟨vc, g, rfl, hC⟩, hb⟩
    replace H := hid_below H hb; replace A0 := A0.below hb; replace Ap := Ap.below hb; replace Lw := Lw.below hb; replace Nx := Nx.below hb
    replace N1 := N1.below hb; replace N2 := N2.below hb
    have HC := hide hC
    clear hb F1 hC
    have F1 := rsqrt_two vp z0 s w3 Ap (HT.out.below H.out) (by omega) HR.out
    go_wp2_with fail
    refine F1.mono ?_
    rintro e w4 ⟨hpq, hb⟩
    have HB := hide hb
    have HB4 := hide hb.size
    have Ap4 := Ap.below hb
    have Nx4 := Nx.below hb
    have hb4 := hb
    rcases hpq with ⟨_, _, v1, v2, m, rfl, M1, M2, q1, q2, q3⟩ | ⟨hbad, _⟩
    rotate_left
    · have := HFIT.out; omega
    obtain ⟨r1, A1, e1, t1, l1⟩ := M1.few HFIT.out.1
    obtain ⟨r2, A2, e2, t2, l2⟩ := M2.few HFIT.out.2
    obtain ⟨o1, c1, rfl⟩ := A1.sl
    obtain ⟨o2, c2, rfl⟩ := A2.sl
    have HPQ := hide (And.intro A1 (And.intro A2 (And.intro q1 (And.intro q2 (And.intro q3 (M2.top))))))
    have HV := hide (And.intro e1 (And.intro t1 (And.intro l1 (And.intro e2 (And.intro t2 l2)))))
    have HNN := hide (And.intro (N1.below hb4) (N2.below hb4))
    clear hb hb4 F1 M1 M2 A1 A2 e1 e2 t1 t2 l1 l2 q1 q2 q3 N1 N2 Ap Nx
    have F1 := rceil_any vp z0 s w4 Ap4 ((HT.out.below H.out).below HB.out) (by omega) HR.out
    go_wp2_with fail
    refine F1.mono ?_
    rintro e w5 ⟨hce, hb⟩
    obtain ⟨ao, nn, cap, k, ru, rfl, Au, lu, hu⟩ := ceil_res hce
    have hb5 := hb
    replace HB := hide (HB.out.trans (hb.mono HB.out.size))
    have Ap5 := Ap4.below hb
    have Nx5 := Nx4.below hb
    have HU := hide (And.intro Au (And.intro lu hu))
    have hC5 : Hid (TellN w5 vc g (ceil2 (val z0) s)) := by
      rcases HC.out with ⟨h1, h2, h3⟩ | h
      · exact hide (.inl ⟨h1, h2.below HB.out, h3⟩)
      · exact hide (.inr h)
    clear F1 hce Ap4 Nx4 Au lu hu
    have F1 := isSquare_any vp z0 s w5 Ap5 ((HT.out.below H.out).below HB.out) (by omega) HR.out
    rw [HBB.out] at F1
    have HCH : Hid (Chain w5 w3.heap.size [.slice o1 r1.length c1, .slice o2 r2.length c2, .slice ao nn cap] [r1, r2, ru]) := hide ⟨m, ⟨HPQ.out.2.2.1, Nat.le_trans HPQ.out.2.2.2.1 hb5.size⟩, HPQ.out.1.below hb5, HPQ.out.2.2.2.2.1, ⟨w4.heap.size, ⟨HPQ.out.2.2.2.1, hb5.size⟩, HPQ.out.2.1.below hb5, HPQ.out.2.2.2.2.2, Chain.one HU.out.1 hb5.size⟩⟩
    have HX1 := hide (fun (wx : World) (hbx : Below w5.heap.size w5 wx) => alike4_val _ n1 r1 s wx (((HPQ.out.1.below hb5).below hbx).arg (by have := HV.out; omega)) ((HNN.out.1.below hb5).below hbx) HV.out.1 HV.out.2.1 (by have := HFIT.out; omega))
    have HX2 := hide (fun (wx : World) (hbx : Below w5.heap.size w5 wx) => alike4_val _ n2 r2 _ wx (((HPQ.out.2.1.below hb5).below hbx).arg (by have := HV.out; omega)) ((HNN.out.2.below hb5).below hbx) HV.out.2.2.2.1 HV.out.2.2.2.2.1 (by have := HFIT.out; omega))
    clear hb hb5
    go_wp2_with fail
    refine F1.mono ?_
    rintro e w6 ⟨rfl, hb⟩
    have HB5 := hide hb
    replace HB := hide (HB.out.trans (hb.mono HB.out.size))
    have Nx6 := Nx5.below hb
    have F2 := HX1.out w6 hb
    clear F1 hb Ap5 Nx5 HX1
    go_wp2_with fail
    refine F2.mono ?_
    rintro e w7 ⟨rfl, hb⟩
    replace HB5 := hid_below HB5 hb
    replace HB := hide (HB.out.trans (hb.mono HB.out.size))
    replace Nx6 := Nx6.below hb
    have F2 := HX2.out w7 HB5.out
    clear hb HX2
    go_wp2_with fail
    refine F2.mono ?_
    rintro e w8 ⟨rfl, hb⟩
    replace HB5 := hid_below HB5 hb
    replace HB := hide (HB.out.trans (hb.mono HB.out.size))
    replace Nx6 := Nx6.below hb
    clear hb F2
    have HX := hide (fun (wx : World) (hbx : Below w5.heap.size w5 wx) => alike4_ok _ vc k g ru _ w4.heap.size wx (HU.out.1.below hbx) HU.out.2.1 HU.out.2.2 (by
      rcases hC5.out with ⟨h1, h2, h3⟩ | h
      · exact .inl ⟨h1, h2.below hbx, h3⟩
      · exact .inr h))
    have F3 := HX.out w8 HB5.out
    clear HX
    go_wp2_with fail
    refine F3.mono ?_
    rintro e w11 ⟨rfl, hb⟩
    replace HB5 := hid_below HB5 hb
    replace HB := hide (HB.out.trans (hb.mono HB.out.size))
    replace Nx6 := Nx6.below hb
    clear F3 hb
    go_wp2_with fail
    refine (num4_any 0 w11).mono ?_
    rintro e wn ⟨rfl, hw⟩; rw [hw]; clear hw wn
    have F4 := refIsSquare_any vx _ s w11 Nx6 b0 HR.out
    rw [HBB.out] at F4
    clear Nx6
    go_wp2_with fail
    refine F4.mono ?_
    rintro e w12 ⟨rfl, hb⟩
    replace HB5 := hid_below HB5 hb
    replace HB := hide (HB.out.trans (hb.mono HB.out.size))
    clear F4 hb
    have hbe : (bb == bb) = true := by cases bb <;> rfl
    have HOW := own_chain w3.heap.size _ _ w12 (HCH.out.below HB5.out) (by simp) (by have := HV.out; have := HU.out.2.1; intro r' hr'; simp at hr'; rcases hr' with rfl | rfl | rfl <;> omega) HB.out.size
    clear HCH HPQ HV HNN
    go_wp2_with fail
    refine HOW.mono ?_
    rintro e w13 ⟨rfl, hb⟩
    have hb13 := HB.out.trans hb
    replace H := hid_below H hb13; replace A0 := A0.below hb13; replace Lw := Lw.below hb13
    clear hb hb13 HOW HB HB5 HU hC5
    go_wp2_with fail
    refine (kept_ok _ _ _ _ Lw A0 (by omega)).mono ?_
    rintro e wn ⟨rfl, hw⟩; rw [hw]; clear hw wn
    have HA := awake4_any w13
    clear A0 Lw
    go_wp2_with fail
    refine HA.mono ?_
    rintro e w9 ⟨rfl, hb⟩
    replace H := hid_below H hb; clear hb HA
    go_wp2
    go_ret
    exact ⟨rfl, H.out⟩
  · have HFIT := hide hfit
    clear hfit
    go_enter Tryz.func3, Tryz.ntmps3
    go_wp2_with fail
    refine (lend_ok _ _ _ A0 (by omega)).mono ?_
    rintro e w0 ⟨⟨vw, vp, rfl, Lw, Ap⟩, hb⟩
    replace H := hid_below H hb; replace A0 := A0.below hb; clear hb
    have HO := of_any _ _ _ A0 (by omega)
    go_wp2_with fail
    refine HO.mono ?_
    rintro e w1 ⟨⟨vx, rfl, Nx⟩, hb⟩
    replace H := hid_below H hb; replace A0 := A0.below hb; replace Ap := Ap.below hb; replace Lw := Lw.below hb; clear hb HO
    have F1 := refSqrt_any vx _ s w1 Nx b0 HR.out
    go_wp2_with fail
    refine F1.mono ?_
    rintro e w2 ⟨hsq, hb⟩
    replace H := hid_below H hb; replace A0 := A0.below hb; replace Ap := Ap.below hb; replace Lw := Lw.below hb; replace Nx := Nx.below hb; clear hb F1
    rcases hsq with ⟨h1, h2, _⟩ | ⟨_, rfl⟩
    · exact absurd ⟨h1, h2⟩ HFIT.out
    have F1 := refCeil_any vx _ s w2 Nx b0 HR.out
    go_wp2_with fail
    refine F1.mono ?_
    rintro e w3 ⟨⟨vc, g, rfl, hC⟩, hb⟩
    replace H := hid_below H hb; replace A0 := A0.below hb; replace Ap := Ap.below hb; replace Lw := Lw.below hb; replace Nx := Nx.below hb
    have HC := hide hC
    clear hb F1 hC
    have F1 := rsqrt_two vp z0 s w3 Ap (HT.out.below H.out) (by omega) HR.out
    go_wp2_with fail
    refine F1.mono ?_
    rintro e w4 ⟨hpq, hb⟩
    have HB := hide hb
    have HB4 := hide hb.size
    have Ap4 := Ap.below hb
    have Nx4 := Nx.below hb
    rcases hpq with ⟨h1, h2, _⟩ | ⟨_, rfl⟩
    · exact absurd ⟨h1, h2⟩ HFIT.out
    clear hb F1 Ap Nx
    have F1 := rceil_any vp z0 s w4 Ap4 ((HT.out.below H.out).below HB.out) (by omega) HR.out
    go_wp2_with fail
    refine F1.mono ?_
    rintro e w5 ⟨hce, hb⟩
    obtain ⟨ao, nn, cap, k, ru, rfl, Au, lu, hu⟩ := ceil_res hce
    have hb5 := hb
    replace HB := hide (HB.out.trans (hb.mono HB.out.size))
    have Ap5 := Ap4.below hb
    have Nx5 := Nx4.below hb
    have HU := hide (And.intro Au (And.intro lu hu))
    have hC5 : Hid (TellN w5 vc g (ceil2 (val z0) s)) := by
      rcases HC.out with ⟨h1, h2, h3⟩ | h
      · exact hide (.inl ⟨h1, h2.below HB.out, h3⟩)
      · exact hide (.inr h)
    clear F1 hce Ap4 Nx4 Au lu hu
    have F1 := isSquare_any vp z0 s w5 Ap5 ((HT.out.below H.out).below HB.out) (by omega) HR.out
    rw [HBB.out] at F1
    have HCH : Hid (Chain w5 w3.heap.size [.slice none 0 0, .slice none 0 0, .slice ao nn cap] [[], [], ru]) := hide ⟨w3.heap.size, ⟨Nat.le_refl _, HB.out.size⟩, Ans.nil _ _, (fun g e => (by cases e)), ⟨w4.heap.size, ⟨HB4.out, hb5.size⟩, Ans.nil _ _, (fun g e => (by cases e)), Chain.one HU.out.1 hb5.size⟩⟩
    clear hb hb5
    go_wp2_with fail
    refine F1.mono ?_
    rintro e w6 ⟨rfl, hb⟩
    have HB5 := hide hb
    replace HB := hide (HB.out.trans (hb.mono HB.out.size))
    have Nx6 := Nx5.below hb
    have HE := alike4_err none 0 (.slice none 0 0) 3 w6 (by omega)
    clear F1 hb Ap5 Nx5
    go_wp2_with fail
    refine HE.mono ?_
    rintro e wn ⟨rfl, hw⟩; rw [hw]; clear hw wn
    go_wp2_with fail
    refine HE.mono ?_
    rintro e wn ⟨rfl, hw⟩; rw [hw]; clear hw wn HE
    have HX := hide (fun (wx : World) (hbx : Below w5.heap.size w5 wx) => alike4_ok _ vc k g ru _ w4.heap.size wx (HU.out.1.below hbx) HU.out.2.1 HU.out.2.2 (by
      rcases hC5.out with ⟨h1, h2, h3⟩ | h
      · exact .inl ⟨h1, h2.below hbx, h3⟩
      · exact .inr h))
    have F3 := HX.out w6 HB5.out
    clear HX
    go_wp2_with fail
    refine F3.mono ?_
    rintro e w11 ⟨rfl, hb⟩
    replace HB5 := hid_below HB5 hb
    replace HB := hide (HB.out.trans (hb.mono HB.out.size))
    replace Nx6 := Nx6.below hb
    clear F3 hb
    go_wp2_with fail
    refine (num4_any 0 w11).mono ?_
    rintro e wn ⟨rfl, hw⟩; rw [hw]; clear hw wn
    have F4 := refIsSquare_any vx _ s w11 Nx6 b0 HR.out
    rw [HBB.out] at F4
    clear Nx6
    go_wp2_with fail
    refine F4.mono ?_
    rintro e w12 ⟨rfl, hb⟩
    replace HB5 := hid_below HB5 hb
    replace HB := hide (HB.out.trans (hb.mono HB.out.size))
    clear F4 hb
    have hbe : (bb == bb) = true := by cases bb <;> rfl
    have HOW := own_chain w3.heap.size _ _ w12 (HCH.out.below HB5.out) (by simp) (by have := HU.out.2.1; intro r' hr'; simp at hr'; rcases hr' with h | h <;> rw [h] <;> first | omega | (simp)) HB.out.size
    clear HCH
    go_wp2_with fail
    refine HOW.mono ?_
    rintro e w13 ⟨rfl, hb⟩
    have hb13 := HB.out.trans hb
    replace H := hid_below H hb13; replace A0 := A0.below hb13; replace Lw := Lw.below hb13
    clear hb hb13 HOW HB HB5 HU hC5
    go_wp2_with fail
    refine (kept_ok _ _ _ _ Lw A0 (by omega)).mono ?_
    rintro e wn ⟨rfl, hw⟩; rw [hw]; clear hw wn
    have HA := awake4_any w13
    clear A0 Lw
    go_wp2_with fail
    refine HA.mono ?_
    rintro e w9 ⟨rfl, hb⟩
    replace H := hid_below H hb; clear hb HA
    go_wp2
    go_ret
    exact ⟨rfl, H.out⟩

end Go.Proofs.YteecnckfkcmefaaGreatDoor
