/- Package mul: sumOfProducts, Parts. -/
import Derived.Test.YtmloigbacfllhabDoorQI
import Derived.Test.YtmloigbacfllhabDoorQH
import Derived.Test.YtmloigbacfllhabDoorQB
namespace Go.Proofs.YtmloigbacfllhabDoor
open Go.RowKit
open Lm

theorem blen_mono {x y : Nat} (h : x ≤ y) : blen x ≤ blen y := (blen_le_iff x (blen y)).2 (Nat.lt_of_le_of_lt h ((blen_le_iff y (blen y)).1 (Nat.le_refl _)))

set_option maxHeartbeats 400000 in
theorem sumOf_any (va vb vc vd : Value) (X Y U V : List Nat) (w : World) (hA : Arg w va X) (hB : Arg w vb Y) (hC : Arg w vc U) (hD : Arg w vd V) (hT : Tab w) (h1 : X.length + Y.length ≤ 35184372088831) (h2 : U.length + V.length ≤ 35184372088831) :
    Calls Tryd.prog 67 #[va, vb, vc, vd] w fun e w' => Below w.heap.size w w' ∧ Res w' w.heap.size e (val X * val Y + val U * val V) := by
  have HM := mul_any va vb X Y w hA hB hT h1
  have HCD := hide (And.intro hC hD)
  have HT := hide hT
  have m1 := blen_mono (Nat.le_add_right (val X * val Y) (val U * val V))
  have m2 := blen_mono (Nat.le_add_left (val U * val V) (val X * val Y))
  clear hA hB hC hD hT
  go_enter Tryd.func67, Tryd.ntmps67
  go_wp2_with fail
  refine HM.mono ?_
  rintro e w1 ⟨hb, v1, c1, r1, rfl, An1, hr1⟩
  have l1 := Res.few An1 hr1
  have HB := hide hb
  have HM2 := mul_any vc vd U V w1 (HCD.out.1.below hb) (HCD.out.2.below hb) (HT.out.below hb) h2
  clear HM hb
  rcases hr1 with ⟨rfl, e1, t1, b1⟩ | ⟨rfl, e1, b1⟩
  · have HA1 := hide (An1.arg (by omega))
    have HE1 := hide e1
    clear An1 e1 t1
    go_wp2_with fail
    refine HM2.mono ?_
    rintro e w2 ⟨hb, v2, c2, r2, rfl, An2, hr2⟩
    have l2 := Res.few An2 hr2
    have HB2 := hid_below HB hb
    rcases hr2 with ⟨rfl, e2, t2, b2⟩ | ⟨rfl, e2, b2⟩
    · have HP := add_any v1 v2 r1 r2 w2 (HA1.out.below hb) (An2.arg (by omega)) (by omega) (by omega)
      rw [HE1.out, e2] at HP
      clear HM2 hb An2 e2 t2
      go_wp2_with fail
      refine HP.mono ?_
      rintro e w3 ⟨hb, v, c, rs, rfl, hans, hres⟩
      have HR := hide (And.intro (hid_below HB2 hb).out (And.intro (hans.base HB2.out.size) hres))
      clear hb hans hres HP
      go_wp2
      go_ret2
      exact ⟨HR.out.1, v, c, rs, rfl, HR.out.2.1, HR.out.2.2⟩
    · clear HM2 hb An2 e2
      go_wp2
      go_ret2
      exact ⟨HB2.out, _, _, [], rfl, Ans.nil _ _, .inr ⟨rfl, rfl, by omega⟩⟩
  · clear HM2 An1 e1
    go_wp2
    go_ret2
    exact ⟨HB.out, _, _, [], rfl, Ans.nil _ _, .inr ⟨rfl, rfl, by omega⟩⟩

/-- Three answers, or an error. -/
def Res3 (w : World) (base : Nat) (e : Ending) (s t u : Nat) : Prop :=
  ∃ v1 v2 v3 c r1 r2 r3, e = .returned (.tuple #[v1, v2, v3, .int .i64 c]) ∧ Chain w base [v1, v2, v3] [r1, r2, r3] ∧
    ((c = 0 ∧ (val r1 = s ∧ tr r1 = r1) ∧ (val r2 = t ∧ tr r2 = r2) ∧ (val r3 = u ∧ tr r3 = r3) ∧ blen s ≤ 67108864 ∧ blen t ≤ 67108864 ∧ blen u ≤ 67108864) ∨
     (c = 3 ∧ r1 = [] ∧ r2 = [] ∧ r3 = [] ∧ (67108864 < blen s ∨ 67108864 < blen t ∨ 67108864 < blen u)))

theorem chain_nil3 (w : World) (base : Nat) (h : base ≤ w.heap.size) : Chain w base [.slice none 0 0, .slice none 0 0, .slice none 0 0] [[], [], []] :=
  ⟨base, ⟨Nat.le_refl _, h⟩, Ans.nil _ _, (fun g hg => by cases hg), base, ⟨Nat.le_refl _, h⟩, Ans.nil _ _, (fun g hg => by cases hg), base, ⟨Nat.le_refl _, h⟩, Ans.nil _ _, (fun g hg => by cases hg), trivial⟩

theorem parts_no (va vb : Value) (k : Int) (w : World) (hk : k < 0) :
    Calls Tryd.prog 32 #[va, vb, .int .i64 k] w fun e w' => e = .returned (.tuple #[.slice none 0 0, .slice none 0 0, .slice none 0 0, .int .i64 1]) ∧ w' = w := by
  go_enter Tryd.func32, Tryd.ntmps32
  go_wp2
  go_returns
  exact ⟨rfl, rfl⟩

set_option maxRecDepth 20000 in
set_option maxHeartbeats 1000000 in
theorem parts_any (va vb : Value) (X Y : List Nat) (k : Int) (w : World) (hA : Arg w va X) (hA2 : Arg w vb Y) (hT : Tab w) (hk : 0 ≤ k) (hX : X.length ≤ 17592186044415) (hY : Y.length ≤ 17592186044415) :
    Calls Tryd.prog 32 #[va, vb, .int .i64 k] w fun e w' => Below w.heap.size w w' ∧ Res3 w' w.heap.size e (val ((tr X).take k.toNat) * val ((tr Y).take k.toNat))
      (val ((tr X).take k.toNat) * val ((tr Y).drop k.toNat) + val ((tr X).drop k.toNat) * val ((tr Y).take k.toNat)) (val ((tr X).drop k.toNat) * val ((tr Y).drop k.toNat)) := by
  have HS := split_any va X k w hA hk
  have hle := tr_length_le X
  have hle2 := tr_length_le Y
  have hkd : decide (k < 0) = false := decide_eq_false (by omega)
  have lp1 : ((tr X).take k.toNat).length ≤ 17592186044415 := by simp; omega
  have lp2 : ((tr X).drop k.toNat).length ≤ 17592186044415 := by simp; omega
  have lq1 : ((tr Y).take k.toNat).length ≤ 17592186044415 := by simp; omega
  have lq2 : ((tr Y).drop k.toNat).length ≤ 17592186044415 := by simp; omega
  have HT := hide hT
  have HA2 := hide hA2
  clear hA hA2 hT
  have HS2 := hide (fun w1 (h : Arg w1 vb Y) => split_any vb Y k w1 h hk)
  generalize (tr X).take k.toNat = P at *
  generalize (tr X).drop k.toNat = Q at *
  generalize (tr Y).take k.toNat = U at *
  generalize (tr Y).drop k.toNat = V at *
  unfold Res3
  go_enter Tryd.func32, Tryd.ntmps32
  go_wp2_with fail
  refine HS.mono ?_
  rintro e w1 ⟨⟨p1, p2, rfl, A1, A2⟩, hs⟩
  have hb := hs.below w.heap.size
  have HB := hide hb
  have hz := hs.size
  have HSB := HS2.out w1 (HA2.out.below hb)
  have HP := hide (And.intro (A1.below hb) (A2.below hb))
  clear A1 A2 hs hb HS
  go_wp2_with fail
  refine HSB.mono ?_
  rintro e w2 ⟨⟨q1, q2, rfl, B1, B2⟩, hs⟩
  have hb : Below w1.heap.size w1 w2 := hs.below _
  have HB2 := hid_below HB hb
  have hz2 := hs.size
  have P1 := hide (HP.out.1.below hb)
  have P2 := hide (HP.out.2.below hb)
  have Q1 := hide (B1.below hb)
  have Q2 := hide (B2.below hb)
  have HT2 := hide (HT.out.below HB2.out)
  clear B1 B2 hs hb HSB HP HB HS2 HA2
  have HM := mul_any p1 q1 P U w2 P1.out Q1.out HT2.out (by omega)
  have H2 : Hid (Below w2.heap.size w2 w2) := Below.refl _ _
  go_wp2_with fail
  refine HM.mono ?_
  rintro e w3 ⟨hb, v1, c1, r1, rfl, An1, hr1⟩
  have l1 := Res.few An1 hr1
  have Ch1 := hide (Chain.one An1 hb.size)
  replace H2 := hid_below H2 hb
  clear HM hb An1
  rcases hr1 with ⟨rfl, e1, t1, b1⟩ | ⟨rfl, e1, b1⟩
  · have E1 := hide (And.intro e1 t1)
    clear e1 t1
    have HM := sumOf_any p1 q2 p2 q1 P V Q U w3 (P1.out.below H2.out) (Q2.out.below H2.out) (P2.out.below H2.out) (Q1.out.below H2.out) (HT2.out.below H2.out) (by omega) (by omega)
    go_wp2_with fail
    refine HM.mono ?_
    rintro e w4 ⟨hb, v2, c2, r2, rfl, An2, hr2⟩
    have l2 := Res.few An2 hr2
    have Ch2 := hide (Ch1.out.snoc hb An2 H2.out.size)
    replace H2 := hid_below H2 hb
    clear HM hb An2 Ch1
    rcases hr2 with ⟨rfl, e2, t2, b2⟩ | ⟨rfl, e2, b2⟩
    · have E2 := hide (And.intro e2 t2)
      clear e2 t2
      have HM := mul_any p2 q2 Q V w4 (P2.out.below H2.out) (Q2.out.below H2.out) (HT2.out.below H2.out) (by omega)
      go_wp2_with fail
      refine HM.mono ?_
      rintro e w5 ⟨hb, v3, c3, r3, rfl, An3, hr3⟩
      have l3 := Res.few An3 hr3
      have Ch3 := hide (Ch2.out.snoc hb An3 H2.out.size)
      replace H2 := hid_below H2 hb
      clear HM hb An3 Ch2
      have hsz : w2.heap.size = w.heap.size := by omega
      rcases hr3 with ⟨rfl, e3, t3, b3⟩ | ⟨rfl, e3, b3⟩
      · have E3 := hide (And.intro e3 t3)
        have HSZ := hide hsz
        clear e3 t3 hsz
        go_wp2
        go_returns
        exact ⟨HB2.out.trans (H2.out.mono HB2.out.size), v1, v2, v3, 0, r1, r2, r3, rfl, by rw [← HSZ.out]; exact Ch3.out, .inl ⟨rfl, E1.out, E2.out, E3.out, b1, b2, b3⟩⟩
      · clear e3 hsz
        go_wp2
        go_returns
        exact ⟨HB2.out.trans (H2.out.mono HB2.out.size), _, _, _, _, [], [], [], rfl, chain_nil3 _ _ (Nat.le_trans HB2.out.size H2.out.size), .inr ⟨rfl, rfl, rfl, rfl, .inr (.inr b3)⟩⟩
    · clear e2
      go_wp2
      go_returns
      exact ⟨HB2.out.trans (H2.out.mono HB2.out.size), _, _, _, _, [], [], [], rfl, chain_nil3 _ _ (Nat.le_trans HB2.out.size H2.out.size), .inr ⟨rfl, rfl, rfl, rfl, .inr (.inl b2)⟩⟩
  · clear e1
    go_wp2
    go_returns
    exact ⟨HB2.out.trans (H2.out.mono HB2.out.size), _, _, _, _, [], [], [], rfl, chain_nil3 _ _ (Nat.le_trans HB2.out.size H2.out.size), .inr ⟨rfl, rfl, rfl, rfl, .inl b1⟩⟩

end Go.Proofs.YtmloigbacfllhabDoor
