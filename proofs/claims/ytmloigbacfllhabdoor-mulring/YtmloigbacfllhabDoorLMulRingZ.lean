/- The walk of the law MulRing. -/
import Derived.Test.YtmloigbacfllhabDoorRefLZ
import Derived.Test.YtmloigbacfllhabDoorQF
namespace Go.Proofs.YtmloigbacfllhabDoor
open Go.RowKit
open Lm

theorem res_zero {c : Int} {rs : List Nat} {s : Nat} (h : (c = 0 ∧ val rs = s ∧ tr rs = rs ∧ blen s ≤ 67108864) ∨ (c = 3 ∧ rs = [] ∧ 67108864 < blen s)) (hc : c = 0) : val rs = s := by
  rcases h with ⟨_, h, _⟩ | ⟨h, _⟩
  · exact h
  · omega

theorem all0_4 (a b c d : Int) : all0 [a, b, c, d] = decide (a = 0 ∧ b = 0 ∧ c = 0 ∧ d = 0) := by
  unfold all0
  simp [List.all_cons, Bool.decide_and]
  rfl

theorem all0_3 (a b c : Int) : all0 [a, b, c] = decide (a = 0 ∧ b = 0 ∧ c = 0) := by
  unfold all0
  simp [List.all_cons, Bool.decide_and]
  rfl

set_option maxRecDepth 100000 in
set_option maxHeartbeats 4000000 in
theorem mulRing_walk (v0 : Value) (z0 : List Nat) (v1 : Value) (z1 : List Nat) (v2 : Value) (z2 : List Nat) (w : World) (hT : Tab w) (A0 : Arg w v0 z0) (s0 : z0.length ≤ 17592186043904) (A1 : Arg w v1 z1) (s1 : z1.length ≤ 17592186043904) (A2 : Arg w v2 z2) (s2 : z2.length ≤ 17592186043904) :
    Calls Tryd.prog 6 #[v0, v1, v2] w fun e w' => e = .returned (.bool true) ∧ Below w.heap.size w w' := by
  have H : Hid (Below w.heap.size w w) := Below.refl _ _
  have HT := hide hT
  have K := hide ((((Args.none w).add A2).add A1).add A0)
  clear hT A0 A1 A2
  go_enter Tryd.func6, Tryd.ntmps6
  have HM := mul_any v0 v1 z0 z1 _ (K.out (v0, z0) (by simp)) (K.out (v1, z1) (by simp)) (HT.out.below H.out) (by omega)
  go_wp2_with fail
  refine HM.mono ?_
  rintro e w1 ⟨hb, vab, c1, rab, rfl, An, h1⟩
  have l1 := Res.few An h1
  replace K := hide ((K.out.below hb).add (An.arg (by omega)))
  replace H := hid_below H hb
  clear hb HM An
  have HM := mul_any v1 v0 z1 z0 _ (K.out (v1, z1) (by simp)) (K.out (v0, z0) (by simp)) (HT.out.below H.out) (by omega)
  go_wp2_with fail
  refine HM.mono ?_
  rintro e w2 ⟨hb, vba, c2, rba, rfl, An, h2⟩
  have l2 := Res.few An h2
  replace K := hide ((K.out.below hb).add (An.arg (by omega)))
  replace H := hid_below H hb
  clear hb HM An
  have HM := mul_any v0 v2 z0 z2 _ (K.out (v0, z0) (by simp)) (K.out (v2, z2) (by simp)) (HT.out.below H.out) (by omega)
  go_wp2_with fail
  refine HM.mono ?_
  rintro e w3 ⟨hb, vac, c3, rac, rfl, An, h3⟩
  have l3 := Res.few An h3
  replace K := hide ((K.out.below hb).add (An.arg (by omega)))
  replace H := hid_below H hb
  clear hb HM An
  have HM := mul_any v1 v2 z1 z2 _ (K.out (v1, z1) (by simp)) (K.out (v2, z2) (by simp)) (HT.out.below H.out) (by omega)
  go_wp2_with fail
  refine HM.mono ?_
  rintro e w4 ⟨hb, vbc, c4, rbc, rfl, An, h4⟩
  have l4 := Res.few An h4
  replace K := hide ((K.out.below hb).add (An.arg (by omega)))
  replace H := hid_below H hb
  clear hb HM An
  have HM := all_lits w4 [c1, c2, c3, c4] _ 4 rfl rfl (by simp)
  rw [all0_4] at HM
  by_cases hall : c1 = 0 ∧ c2 = 0 ∧ c3 = 0 ∧ c4 = 0
  · rw [decide_eq_true hall] at HM
    obtain ⟨k1, k2, k3, k4⟩ := hall
    have G1 := hide (res_zero h1 k1)
    have G2 := hide (res_zero h2 k2)
    have G3 := hide (res_zero h3 k3)
    have G4 := hide (res_zero h4 k4)
    have E1 : Hid (val rab = val rba) := hide (by rw [G1.out, G2.out, Nat.mul_comm])
    clear h1 h2 h3 h4 k1 k2 k3 k4
    go_wp2_with fail
    refine HM.mono ?_
    rintro e w5 ⟨rfl, hb⟩
    replace K := hide (K.out.below hb)
    replace H := hid_below H hb
    clear hb HM
    clear G2
    have HM := mul_any vab v2 rab z2 _ (K.out (vab, rab) (by simp)) (K.out (v2, z2) (by simp)) (HT.out.below H.out) (by omega)
    go_wp2_with fail
    refine HM.mono ?_
    rintro e w6 ⟨hb, vl, c5, rl, rfl, An, h5⟩
    have l5 := Res.few An h5
    replace K := hide ((K.out.below hb).add (An.arg (by omega)))
    replace H := hid_below H hb
    clear hb HM An
    have HM := mul_any v0 vbc z0 rbc _ (K.out (v0, z0) (by simp)) (K.out (vbc, rbc) (by simp)) (HT.out.below H.out) (by omega)
    go_wp2_with fail
    refine HM.mono ?_
    rintro e w7 ⟨hb, vr, c6, rr, rfl, An, h6⟩
    have l6 := Res.few An h6
    replace K := hide ((K.out.below hb).add (An.arg (by omega)))
    replace H := hid_below H hb
    clear hb HM An
    have HM := lsum_any v1 v2 z1 z2 _ (K.out (v1, z1) (by simp)) (K.out (v2, z2) (by simp)) (by omega) (by omega)
    go_wp2_with fail
    refine HM.mono ?_
    rintro e w8 ⟨⟨vs, rs, rfl, An, g5, _, l7⟩, hb⟩
    replace K := hide ((K.out.below hb).add (An.arg (by omega)))
    replace H := hid_below H hb
    have G5 := hide g5
    clear hb HM An g5
    have HM := mul_any v0 vs z0 rs _ (K.out (v0, z0) (by simp)) (K.out (vs, rs) (by simp)) (HT.out.below H.out) (by omega)
    go_wp2_with fail
    refine HM.mono ?_
    rintro e w9 ⟨hb, vo, c7, ro, rfl, An, h7⟩
    have l8 := Res.few An h7
    replace K := hide ((K.out.below hb).add (An.arg (by omega)))
    replace H := hid_below H hb
    clear hb HM An
    have HM := all_lits w9 [c5, c6, c7] _ 3 rfl rfl (by simp)
    rw [all0_3] at HM
    by_cases hall : c5 = 0 ∧ c6 = 0 ∧ c7 = 0
    · rw [decide_eq_true hall] at HM
      obtain ⟨k1, k2, k3⟩ := hall
      have G6 := hide (res_zero h5 k1)
      have G7 := hide (res_zero h6 k2)
      have G8 := hide (res_zero h7 k3)
      have E2 : Hid (val rl = val rr) := hide (by rw [G6.out, G7.out, G1.out, G4.out, Nat.mul_assoc])
      clear h5 h6 h7 k1 k2 k3
      go_wp2_with fail
      refine HM.mono ?_
      rintro e w10 ⟨rfl, hb⟩
      replace K := hide (K.out.below hb)
      replace H := hid_below H hb
      clear hb HM
      have HM := lsum_any v0 v1 z0 z1 _ (K.out (v0, z0) (by simp)) (K.out (v1, z1) (by simp)) (by omega) (by omega)
      go_wp2_with fail
      refine HM.mono ?_
      rintro e w11 ⟨⟨vt, rt, rfl, An, g9, _, l9⟩, hb⟩
      replace K := hide ((K.out.below hb).add (An.arg (by omega)))
      replace H := hid_below H hb
      have G9 := hide g9
      clear hb HM An g9
      have HM := square_any vt rt _ (K.out (vt, rt) (by simp)) (HT.out.below H.out) (by omega)
      go_wp2_with fail
      refine HM.mono ?_
      rintro e w12 ⟨hb, vq, c8, rq, rfl, An, h8⟩
      have l10 := Res.few An h8
      replace K := hide ((K.out.below hb).add (An.arg (by omega)))
      replace H := hid_below H hb
      clear hb HM An
      have HM := square_any v0 z0 _ (K.out (v0, z0) (by simp)) (HT.out.below H.out) (by omega)
      go_wp2_with fail
      refine HM.mono ?_
      rintro e w13 ⟨hb, vx, c9, rx, rfl, An, h9⟩
      have l11 := Res.few An h9
      replace K := hide ((K.out.below hb).add (An.arg (by omega)))
      replace H := hid_below H hb
      clear hb HM An
      have HM := square_any v1 z1 _ (K.out (v1, z1) (by simp)) (HT.out.below H.out) (by omega)
      go_wp2_with fail
      refine HM.mono ?_
      rintro e w14 ⟨hb, vy, c10, ry, rfl, An, h10⟩
      have l12 := Res.few An h10
      replace K := hide ((K.out.below hb).add (An.arg (by omega)))
      replace H := hid_below H hb
      clear hb HM An
      have HM := all_lits w14 [c8, c9, c10] _ 3 rfl rfl (by simp)
      rw [all0_3] at HM
      by_cases hall : c8 = 0 ∧ c9 = 0 ∧ c10 = 0
      · rw [decide_eq_true hall] at HM
        obtain ⟨k1, k2, k3⟩ := hall
        have G10 := hide (res_zero h8 k1)
        have G11 := hide (res_zero h9 k2)
        have G12 := hide (res_zero h10 k3)
        clear h8 h9 h10 k1 k2 k3
        go_wp2_with fail
        refine HM.mono ?_
        rintro e w15 ⟨rfl, hb⟩
        replace K := hide (K.out.below hb)
        replace H := hid_below H hb
        clear hb HM
        have HM := lsame_any vab vba rab rba _ (K.out (vab, rab) (by simp)) (K.out (vba, rba) (by simp)) (by omega) (by omega)
        rw [decide_eq_true E1.out] at HM
        go_wp2_with fail
        refine HM.mono ?_
        rintro e w16 ⟨rfl, hb⟩
        replace K := hide (K.out.below hb)
        replace H := hid_below H hb
        clear hb HM
        have HM := lsame_any vl vr rl rr _ (K.out (vl, rl) (by simp)) (K.out (vr, rr) (by simp)) (by omega) (by omega)
        rw [decide_eq_true E2.out] at HM
        go_wp2_with fail
        refine HM.mono ?_
        rintro e w17 ⟨rfl, hb⟩
        replace K := hide (K.out.below hb)
        replace H := hid_below H hb
        clear hb HM
        have HM := lsum_any vab vac rab rac _ (K.out (vab, rab) (by simp)) (K.out (vac, rac) (by simp)) (by omega) (by omega)
        go_wp2_with fail
        refine HM.mono ?_
        rintro e w18 ⟨⟨vu, ru, rfl, An, g13, _, l13⟩, hb⟩
        replace K := hide ((K.out.below hb).add (An.arg (by omega)))
        replace H := hid_below H hb
        have G13 := hide g13
        clear hb HM An g13
        have E3 : Hid (val ro = val ru) := hide (by rw [G8.out, G5.out, G13.out, G1.out, G3.out, Nat.mul_add])
        have HM := lsame_any vo vu ro ru _ (K.out (vo, ro) (by simp)) (K.out (vu, ru) (by simp)) (by omega) (by omega)
        rw [decide_eq_true E3.out] at HM
        go_wp2_with fail
        refine HM.mono ?_
        rintro e w19 ⟨rfl, hb⟩
        replace K := hide (K.out.below hb)
        replace H := hid_below H hb
        clear hb HM
        have HM := lsum_any vx vy rx ry _ (K.out (vx, rx) (by simp)) (K.out (vy, ry) (by simp)) (by omega) (by omega)
        go_wp2_with fail
        refine HM.mono ?_
        rintro e w20 ⟨⟨vm, rm, rfl, An, g14, _, l14⟩, hb⟩
        replace K := hide ((K.out.below hb).add (An.arg (by omega)))
        replace H := hid_below H hb
        have G14 := hide g14
        clear hb HM An g14
        have HM := lsum_any vab vab rab rab _ (K.out (vab, rab) (by simp)) (K.out (vab, rab) (by simp)) (by omega) (by omega)
        go_wp2_with fail
        refine HM.mono ?_
        rintro e w21 ⟨⟨vn, rn, rfl, An, g15, _, l15⟩, hb⟩
        replace K := hide ((K.out.below hb).add (An.arg (by omega)))
        replace H := hid_below H hb
        have G15 := hide g15
        clear hb HM An g15
        have HM := lsum_any vm vn rm rn _ (K.out (vm, rm) (by simp)) (K.out (vn, rn) (by simp)) (by omega) (by omega)
        go_wp2_with fail
        refine HM.mono ?_
        rintro e w22 ⟨⟨vp, rp, rfl, An, g16, _, l16⟩, hb⟩
        replace K := hide ((K.out.below hb).add (An.arg (by omega)))
        replace H := hid_below H hb
        have G16 := hide g16
        clear hb HM An g16
        have E4 : Hid (val rq = val rp) := hide (by
          rw [G10.out, G9.out, G16.out, G14.out, G15.out, G11.out, G12.out, G1.out]
          generalize val z0 = a
          generalize val z1 = b
          grind)
        have HM := lsame_any vq vp rq rp _ (K.out (vq, rq) (by simp)) (K.out (vp, rp) (by simp)) (by omega) (by omega)
        rw [decide_eq_true E4.out] at HM
        go_wp2_with fail
        refine HM.mono ?_
        rintro e w23 ⟨rfl, hb⟩
        replace K := hide (K.out.below hb)
        replace H := hid_below H hb
        clear hb HM
        have HA := awake_any _ (HT.out.below H.out)
        clear K
        go_wp2_with fail
        refine HA.mono ?_
        rintro e w99 ⟨rfl, hb⟩
        replace H := hid_below H hb; clear hb HA
        go_wp2
        go_ret
        exact ⟨rfl, H.out⟩
      · rw [decide_eq_false hall] at HM
        clear h8 h9 h10
        go_wp2_with fail
        refine HM.mono ?_
        rintro e w15 ⟨rfl, hb⟩
        replace K := hide (K.out.below hb)
        replace H := hid_below H hb
        clear hb HM
        have HM := lsame_any vab vba rab rba _ (K.out (vab, rab) (by simp)) (K.out (vba, rba) (by simp)) (by omega) (by omega)
        rw [decide_eq_true E1.out] at HM
        go_wp2_with fail
        refine HM.mono ?_
        rintro e w16 ⟨rfl, hb⟩
        replace K := hide (K.out.below hb)
        replace H := hid_below H hb
        clear hb HM
        have HM := lsame_any vl vr rl rr _ (K.out (vl, rl) (by simp)) (K.out (vr, rr) (by simp)) (by omega) (by omega)
        rw [decide_eq_true E2.out] at HM
        go_wp2_with fail
        refine HM.mono ?_
        rintro e w17 ⟨rfl, hb⟩
        replace K := hide (K.out.below hb)
        replace H := hid_below H hb
        clear hb HM
        have HM := lsum_any vab vac rab rac _ (K.out (vab, rab) (by simp)) (K.out (vac, rac) (by simp)) (by omega) (by omega)
        go_wp2_with fail
        refine HM.mono ?_
        rintro e w18 ⟨⟨vu, ru, rfl, An, g13, _, l13⟩, hb⟩
        replace K := hide ((K.out.below hb).add (An.arg (by omega)))
        replace H := hid_below H hb
        have G13 := hide g13
        clear hb HM An g13
        have E3 : Hid (val ro = val ru) := hide (by rw [G8.out, G5.out, G13.out, G1.out, G3.out, Nat.mul_add])
        have HM := lsame_any vo vu ro ru _ (K.out (vo, ro) (by simp)) (K.out (vu, ru) (by simp)) (by omega) (by omega)
        rw [decide_eq_true E3.out] at HM
        go_wp2_with fail
        refine HM.mono ?_
        rintro e w19 ⟨rfl, hb⟩
        replace K := hide (K.out.below hb)
        replace H := hid_below H hb
        clear hb HM
        have HA := awake_any _ (HT.out.below H.out)
        clear K
        go_wp2_with fail
        refine HA.mono ?_
        rintro e w99 ⟨rfl, hb⟩
        replace H := hid_below H hb; clear hb HA
        go_wp2
        go_ret
        exact ⟨rfl, H.out⟩
    · rw [decide_eq_false hall] at HM
      clear h5 h6 h7
      go_wp2_with fail
      refine HM.mono ?_
      rintro e w10 ⟨rfl, hb⟩
      replace K := hide (K.out.below hb)
      replace H := hid_below H hb
      clear hb HM
      have HM := lsame_any vab vba rab rba _ (K.out (vab, rab) (by simp)) (K.out (vba, rba) (by simp)) (by omega) (by omega)
      rw [decide_eq_true E1.out] at HM
      go_wp2_with fail
      refine HM.mono ?_
      rintro e w16 ⟨rfl, hb⟩
      replace K := hide (K.out.below hb)
      replace H := hid_below H hb
      clear hb HM
      have HA := awake_any _ (HT.out.below H.out)
      clear K
      go_wp2_with fail
      refine HA.mono ?_
      rintro e w99 ⟨rfl, hb⟩
      replace H := hid_below H hb; clear hb HA
      go_wp2
      go_ret
      exact ⟨rfl, H.out⟩
  · rw [decide_eq_false hall] at HM
    clear h1 h2 h3 h4
    go_wp2_with fail
    refine HM.mono ?_
    rintro e w5 ⟨rfl, hb⟩
    replace K := hide (K.out.below hb)
    replace H := hid_below H hb
    clear hb HM
    have HA := awake_any _ (HT.out.below H.out)
    clear K
    go_wp2_with fail
    refine HA.mono ?_
    rintro e w99 ⟨rfl, hb⟩
    replace H := hid_below H hb; clear hb HA
    go_wp2
    go_ret
    exact ⟨rfl, H.out⟩

end Go.Proofs.YtmloigbacfllhabDoor
