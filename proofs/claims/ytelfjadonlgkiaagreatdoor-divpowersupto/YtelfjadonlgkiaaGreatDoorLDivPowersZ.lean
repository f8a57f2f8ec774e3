/- The walk of the law DivPowers. -/
import Derived.Test.YtelfjadonlgkiaaGreatDoorPowBZ
import Derived.Test.YtelfjadonlgkiaaGreatDoorQM
import Derived.Test.YtelfjadonlgkiaaGreatDoorRefPwZ
namespace Go.Proofs.YtelfjadonlgkiaaGreatDoor
open Go.RowKit
open Lm

theorem Arg.bits4 {w : World} {v : Value} {zs : List Nat} (h : Arg w v zs) (hs : zs.length ≤ 1048576) : blen (val zs) ≤ 67108864 := by
  have : blen (val zs) ≤ 64 * zs.length := (blen_le_iff _ _).2 (by have := val_lt h.limbs; rw [show (18446744073709551616 : Nat) = 2 ^ 64 from rfl, ← Nat.pow_mul] at this; exact this)
  omega

set_option maxRecDepth 100000 in
set_option maxHeartbeats 4000000 in
theorem divPowers_walk (v0 : Value) (z0 : List Nat) (v1 : Value) (z1 : List Nat) (v2 : Value) (z2 : List Nat) (w : World) (hT : Tab w) (A0 : Arg w v0 z0) (s0 : z0.length ≤ 1048576) (A1 : Arg w v1 z1) (s1 : z1.length ≤ 1048576) (A2 : Arg w v2 z2) (s2 : z2.length ≤ 1048576) :
    Calls Tryz.prog 3 #[v0, v1, v2] w fun e w' => e = .returned (.bool true) ∧ Below w.heap.size w w' := by
  have H : Hid (Below w.heap.size w w) := Below.refl _ _
  have HT := hide hT
  have b0 := A0.bits4 s0
  have b1 := A1.bits4 s1
  have b2 := A2.bits4 s2
  by_cases hz : val z2 = 0
  · have HP := dPower_zero v0 v1 v2 z2 w A2 hz
    have HZ := hide hz
    clear hz hT
    go_enter Tryz.func3, Tryz.ntmps3
    go_wp2_with fail
    refine HP.mono ?_
    rintro e wn ⟨rfl, hw⟩; rw [hw]; clear hw wn HP
    have HO := of_any _ _ _ (A0.below H.out) (by omega)
    go_wp2_with fail
    refine HO.mono ?_
    rintro e w2 ⟨⟨vx, rfl, Nx⟩, hb⟩
    replace H := hid_below H hb
    (try replace An := An.below hb)
    (try replace Nx := Nx.below hb)
    (try replace Ne := Ne.below hb)
    clear HO
    clear hb
    have HO := of_any _ _ _ (A1.below H.out) (by omega)
    go_wp2_with fail
    refine HO.mono ?_
    rintro e w3 ⟨⟨ve, rfl, Ne⟩, hb⟩
    replace H := hid_below H hb
    (try replace An := An.below hb)
    (try replace Nx := Nx.below hb)
    (try replace Ne := Ne.below hb)
    clear HO
    clear hb
    have HO := of_any _ _ _ (A2.below H.out) (by omega)
    go_wp2_with fail
    refine HO.mono ?_
    rintro e w4 ⟨⟨vm, rfl, Nm⟩, hb⟩
    replace H := hid_below H hb
    (try replace An := An.below hb)
    (try replace Nx := Nx.below hb)
    (try replace Ne := Ne.below hb)
    clear HO
    clear hb
    rw [HZ.out] at Nm
    have HR := rPower_zero vx ve vm w4 Nm
    clear Nx Ne Nm
    go_wp2_with fail
    refine HR.mono ?_
    rintro e wn ⟨rfl, hw⟩; rw [hw]; clear hw wn HR
    have HE := same3_err (.slice none 0 0) 30 none 0 w4 (by omega)
    go_wp2_with fail
    refine HE.mono ?_
    rintro e wn ⟨rfl, hw⟩; rw [hw]; clear hw wn HE
    have HOW := own_chain w4.heap.size [.slice none 0 0] [[]] w4 ⟨_, ⟨Nat.le_refl _, Nat.le_refl _⟩, Ans.nil _ _, (fun g e => (by cases e)), trivial⟩ (by simp) (by simp) (Nat.le_refl _)
    go_wp2_with fail
    refine HOW.mono ?_
    rintro e w6 ⟨rfl, hb⟩
    replace H := hid_below H hb
    clear hb HOW
    have HA := lives3_any w6 (HT.out.below H.out)
    go_wp2_with fail
    refine HA.mono ?_
    rintro e w7 ⟨rfl, hb⟩
    replace H := hid_below H hb
    clear hb HA A0 A1 A2
    go_wp2
    go_ret
    exact ⟨rfl, H.out⟩
  · have hl2 := tr_length_le z2
    have HP := dPower_any v0 v1 v2 z0 z1 z2 w A0 A1 A2 hT (by omega) (by omega) (by omega) hz
    have HZ := hide hz
    clear hz hT hl2
    go_enter Tryz.func3, Tryz.ntmps3
    go_wp2_with fail
    refine HP.mono ?_
    rintro e w1 ⟨hb, v, c, rs, rfl, An, hres⟩
    have lr := Res.few An hres
    obtain ⟨o1, n1, c1, rfl⟩ := An.slice
    have HRS := hide hres
    replace H := hid_below H hb
    clear hb HP hres
    have HO := of_any _ _ _ (A0.below H.out) (by omega)
    go_wp2_with fail
    refine HO.mono ?_
    rintro e w2 ⟨⟨vx, rfl, Nx⟩, hb⟩
    replace H := hid_below H hb
    (try replace An := An.below hb)
    (try replace Nx := Nx.below hb)
    (try replace Ne := Ne.below hb)
    clear HO
    clear hb
    have HO := of_any _ _ _ (A1.below H.out) (by omega)
    go_wp2_with fail
    refine HO.mono ?_
    rintro e w3 ⟨⟨ve, rfl, Ne⟩, hb⟩
    replace H := hid_below H hb
    (try replace An := An.below hb)
    (try replace Nx := Nx.below hb)
    (try replace Ne := Ne.below hb)
    clear HO
    clear hb
    have HO := of_any _ _ _ (A2.below H.out) (by omega)
    go_wp2_with fail
    refine HO.mono ?_
    rintro e w4 ⟨⟨vm, rfl, Nm⟩, hb⟩
    replace H := hid_below H hb
    (try replace An := An.below hb)
    (try replace Nx := Nx.below hb)
    (try replace Ne := Ne.below hb)
    clear HO
    clear hb
    have HR := rPower_any vx ve vm _ _ _ w4 Nx Ne Nm HZ.out b0 b1 b2
    clear Nx Ne Nm
    go_wp2_with fail
    refine HR.mono ?_
    rintro e w5 ⟨⟨vn, rfl, Nn⟩, hb⟩
    replace H := hid_below H hb
    replace An := An.below hb
    clear hb HR
    have HS := same3_ok _ vn c rs _ w.heap.size w5 An lr HRS.out Nn
    clear Nn
    go_wp2_with fail
    refine HS.mono ?_
    rintro e w6 ⟨rfl, hb⟩
    replace H := hid_below H hb
    replace An := An.below hb
    clear hb HS
    have HOW := own_chain w.heap.size [.slice o1 n1 c1] [rs] w6 (Chain.one An H.out.size) (by simp) (by simp; omega) H.out.size
    go_wp2_with fail
    refine HOW.mono ?_
    rintro e w7 ⟨rfl, hb⟩
    replace H : Hid (Below w.heap.size w w7) := H.out.trans hb
    clear hb HOW An
    have HA := lives3_any w7 (HT.out.below H.out)
    go_wp2_with fail
    refine HA.mono ?_
    rintro e w8 ⟨rfl, hb⟩
    replace H := hid_below H hb
    clear hb HA A0 A1 A2
    go_wp2
    go_ret
    exact ⟨rfl, H.out⟩

end Go.Proofs.YtelfjadonlgkiaaGreatDoor
