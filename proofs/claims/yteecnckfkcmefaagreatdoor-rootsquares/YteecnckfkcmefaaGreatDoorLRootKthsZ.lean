/- The walk of the law RootKths, of lists that aren't long. -/
import Derived.Test.YteecnckfkcmefaaGreatDoorQW
import Derived.Test.YteecnckfkcmefaaGreatDoorLRootStepsZ
namespace Go.Proofs.YteecnckfkcmefaaGreatDoor
open Go.RowKit
open Lm
attribute [local go_sem ↓] Go.wp_at_zero Go.wp_at_succ

theorem Nb.few {w : World} {base : Nat} {v : Value} {x : Nat} (h : Nb w base v x) (hb : blen x ≤ 67108864) : ∃ rs, Ans w base v rs ∧ val rs = x ∧ tr rs = rs ∧ rs.length ≤ 1048576 := by
  obtain ⟨rs, h1, h2, h3⟩ := h
  exact ⟨rs, h1, h2, h3, few_of h3 h2 (by omega)⟩

set_option maxRecDepth 100000 in
set_option maxHeartbeats 2000000 in
theorem rootKths_walk (v0 : Value) (z0 : List Nat) (k : Int) (w : World) (hT : Tab w) (A0 : Arg w v0 z0) (s0 : z0.length ≤ 1048576) (_ : -9223372036854775808 ≤ k) (_ : k ≤ 9223372036854775807) :
    Calls Tryz.prog 4 #[v0, .int .i64 k] w fun e w' => e = .returned (.bool true) ∧ Below w.heap.size w w' := by
  have H : Hid (Below w.heap.size w w) := Below.refl _ _
  have HT := hide hT
  have b0 : blen (val z0) ≤ 67108864 := by have := blen_val_le z0 A0.limbs; omega
  clear hT
  by_cases hk : k < 1
  · go_enter Tryz.func4, Tryz.ntmps4
    go_wp2_with fail
    refine (lend_ok _ _ _ A0 (by omega)).mono ?_
    rintro e w0 ⟨⟨vw, vp, rfl, Lw, Ap⟩, hb⟩
    replace H := hid_below H hb; replace A0 := A0.below hb; clear hb
    have HO := of_any _ _ _ A0 (by omega)
    go_wp2_with fail
    refine HO.mono ?_
    rintro e w1 ⟨⟨vx, rfl, Nx⟩, hb⟩
    replace H := hid_below H hb; replace A0 := A0.below hb; replace Ap := Ap.below hb; replace Lw := Lw.below hb; clear hb HO
    have F1 := refRoot_none vx k w1 hk
    have F2 := rroot_none vp z0 k w1 Ap hk
    clear Nx Ap
    go_wp2_with fail
    refine F1.mono ?_
    rintro e wn ⟨rfl, hw⟩; rw [hw]; clear hw wn F1
    go_wp2_with fail
    refine F2.mono ?_
    rintro e wn ⟨rfl, hw⟩; rw [hw]; clear hw wn F2
    have HE := alike4_err none 0 (.slice none 0 0) 40 w1 (by omega)
    go_wp2_with fail
    refine HE.mono ?_
    rintro e wn ⟨rfl, hw⟩; rw [hw]; clear hw wn
    go_wp2_with fail
    refine HE.mono ?_
    rintro e wn ⟨rfl, hw⟩; rw [hw]; clear hw wn HE
    go_wp2_with fail
    refine (kept_ok _ _ _ _ Lw A0 (by omega)).mono ?_
    rintro e wn ⟨rfl, hw⟩; rw [hw]; clear hw wn
    have HOW := own_chain w1.heap.size [.slice none 0 0, .slice none 0 0] [[], []] w1 ⟨_, ⟨Nat.le_refl _, Nat.le_refl _⟩, Ans.nil _ _, (fun g e => (by cases e)), ⟨_, ⟨Nat.le_refl _, Nat.le_refl _⟩, Ans.nil _ _, (fun g e => (by cases e)), trivial⟩⟩ (by simp) (by simp) (Nat.le_refl _)
    go_wp2_with fail
    refine HOW.mono ?_
    rintro e w6 ⟨rfl, hb⟩
    replace H := hid_below H hb; replace A0 := A0.below hb; replace Lw := Lw.below hb
    clear hb HOW
    go_wp2_with fail
    refine (kept_ok _ _ _ _ Lw A0 (by omega)).mono ?_
    rintro e wn ⟨rfl, hw⟩; rw [hw]; clear hw wn
    have HA := awake4_any w6
    clear A0 Lw
    go_wp2_with fail
    refine HA.mono ?_
    rintro e w9 ⟨rfl, hb⟩
    replace H := hid_below H hb; clear hb HA
    go_wp2
    go_ret
    exact ⟨rfl, H.out⟩
  · obtain ⟨K, rfl⟩ : ∃ K : Nat, k = (K : Int) := ⟨k.toNat, by omega⟩
    obtain ⟨r, hr⟩ := rootK_is (val z0) K (by omega)
    have br : blen r ≤ 67108864 := Nat.le_trans (blen_mono (rootK_small (by omega) hr)) b0
    have bs : blen (val z0 - r ^ K) ≤ 67108864 := Nat.le_trans (blen_mono (Nat.sub_le _ _)) b0
    have HR := hide hr
    clear hr
    go_enter Tryz.func4, Tryz.ntmps4
    go_wp2_with fail
    refine (lend_ok _ _ _ A0 (by omega)).mono ?_
    rintro e w0 ⟨⟨vw, vp, rfl, Lw, Ap⟩, hb⟩
    replace H := hid_below H hb; replace A0 := A0.below hb; clear hb
    have HO := of_any _ _ _ A0 (by omega)
    go_wp2_with fail
    refine HO.mono ?_
    rintro e w1 ⟨⟨vx, rfl, Nx⟩, hb⟩
    replace H := hid_below H hb; replace A0 := A0.below hb; replace Ap := Ap.below hb; replace Lw := Lw.below hb; clear hb HO
    have F1 := refRoot_any vx _ K r w1 Nx (by omega) (by omega) b0 HR.out
    clear Nx
    go_wp2_with fail
    refine F1.mono ?_
    rintro e w2 ⟨⟨n1, n2, rfl, N1, N2⟩, hb⟩
    replace H := hid_below H hb; replace A0 := A0.below hb; replace Ap := Ap.below hb; replace Lw := Lw.below hb; clear hb F1
    have F2 := rroot_two vp z0 K r w2 Ap (HT.out.below H.out) (by omega) b0 (by omega) (by omega) HR.out
    clear Ap
    go_wp2_with fail
    refine F2.mono ?_
    rintro e w3 ⟨⟨v1, v2, m, rfl, M1, M2, q1, q2, q3⟩, hb⟩
    obtain ⟨r1, A1, e1, t1, l1⟩ := M1.few br
    obtain ⟨r2, A2, e2, t2, l2⟩ := M2.few bs
    obtain ⟨o1, c1, rfl⟩ := A1.sl
    obtain ⟨o2, c2, rfl⟩ := A2.sl
    have HCH : Hid (Chain w3 w2.heap.size [.slice o1 r1.length c1, .slice o2 r2.length c2] [r1, r2]) := hide ⟨m, ⟨q1, q2⟩, A1, q3, Chain.one A2 q2⟩
    have HX1 := alike4_val _ n1 r1 r w3 (A1.arg (by omega)) (N1.below hb) e1 t1 (by omega)
    have HX2 := hide (fun (w4 : World) (hb4 : Below w3.heap.size w3 w4) => alike4_val _ n2 r2 _ w4 ((A2.below hb4).arg (by omega)) ((N2.below hb).below hb4) e2 t2 (by omega))
    have HB3 := hide hb
    have HLL := hide (And.intro l1 l2)
    clear F2 M1 M2 A1 A2 N1 N2 q1 q2 q3 e1 e2 t1 t2 hb l1 l2
    go_wp2_with fail
    refine HX1.mono ?_
    rintro e w4 ⟨rfl, hb4⟩
    have HX3 := HX2.out w4 hb4
    have HCH4 := hide (HCH.out.below hb4)
    have HB4 := hide (HB3.out.trans (hb4.mono HB3.out.size))
    clear HX1 HX2 hb4 HCH
    go_wp2_with fail
    refine HX3.mono ?_
    rintro e w5 ⟨rfl, hb5⟩
    have HCH5 := hide (HCH4.out.below hb5)
    have HB5 := hide (HB4.out.trans (hb5.mono HB4.out.size))
    clear HX3 hb5 HCH4
    have Lw5 := Lw.below HB5.out
    have A05 := A0.below HB5.out
    go_wp2_with fail
    refine (kept_ok _ _ _ _ Lw5 A05 (by omega)).mono ?_
    rintro e wn ⟨rfl, hw⟩; rw [hw]; clear hw wn Lw5 A05
    have HOW := own_chain w2.heap.size _ _ w5 HCH5.out (by simp) (by have := HLL.out; intro r' hr'; simp at hr'; rcases hr' with rfl | rfl <;> omega) HB5.out.size
    go_wp2_with fail
    refine HOW.mono ?_
    rintro e w6 ⟨rfl, hb⟩
    have hb6 := HB5.out.trans hb
    replace H := hid_below H hb6; replace A0 := A0.below hb6; replace Lw := Lw.below hb6
    clear hb hb6 HOW HCH5
    go_wp2_with fail
    refine (kept_ok _ _ _ _ Lw A0 (by omega)).mono ?_
    rintro e wn ⟨rfl, hw⟩; rw [hw]; clear hw wn
    have HA := awake4_any w6
    clear A0 Lw
    go_wp2_with fail
    refine HA.mono ?_
    rintro e w9 ⟨rfl, hb⟩
    replace H := hid_below H hb; clear hb HA
    go_wp2
    go_ret
    exact ⟨rfl, H.out⟩

end Go.Proofs.YteecnckfkcmefaaGreatDoor
