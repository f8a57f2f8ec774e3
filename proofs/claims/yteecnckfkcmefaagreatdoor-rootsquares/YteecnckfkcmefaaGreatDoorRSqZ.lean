/- The document's square roots. -/
import Derived.Test.YteecnckfkcmefaaGreatDoorQW
import Derived.Test.YteecnckfkcmefaaGreatDoorLRootStepsZ
namespace Go.Proofs.YteecnckfkcmefaaGreatDoor
open Go.RowKit
open Lm
attribute [local go_sem ↓] Go.wp_at_zero Go.wp_at_succ

namespace Lm

theorem root2_le {x s o : Nat} (h : IsRoot2 x s) (ho : o * o ≤ x) : o ≤ s := by
  refine Nat.le_of_not_lt fun hlt => ?_
  have := Nat.mul_le_mul (Nat.succ_le_of_lt hlt) (Nat.succ_le_of_lt hlt)
  have := h.2
  simp only [Nat.succ_eq_add_one] at *
  omega

theorem root2_lt {x s o : Nat} (h : IsRoot2 x s) (ho : x < o * o) : s < o := by
  refine Nat.lt_of_not_le fun hle => ?_
  have := Nat.mul_le_mul hle hle
  have := h.1
  omega

end Lm

set_option maxRecDepth 20000 in
set_option maxHeartbeats 2000000 in
theorem refRoot2_any (va : Value) (x s : Nat) (w : World) (h1 : Num w va x) (bx : blen x ≤ 1125899906809856) (hs : IsRoot2 x s) :
    Calls Tryz.prog 35 #[va] w fun e w' => (∃ v, e = .returned v ∧ Num w' v s) ∧ Below w.heap.size w w' := by
  have L1 := len_any va x w h1
  have hsl := root2_len hs
  obtain ⟨q, eq, hq⟩ : ∃ q : Nat, ((blen x : Nat) : Int) / 2 = (q : Int) ∧ blen x / 2 = q := ⟨blen x / 2, by omega, rfl⟩
  have hrq : s < 2 ^ (q + 1) := Nat.lt_of_lt_of_le ((blen_le_iff s _).1 (Nat.le_refl _)) (Nat.pow_le_pow_right (by omega) (by omega))
  have hqb : q ≤ 562949953404928 := by omega
  have bs : blen s ≤ 562949953404928 := by omega
  obtain ⟨L, hL⟩ : ∃ L, blen x = L := ⟨_, rfl⟩
  rw [hL] at L1 eq
  have HN := hide h1
  have HR := hide hs
  have HX := hide (And.intro bx (And.intro hrq bs))
  clear h1 hs bx hrq hL hq hsl bs
  go_enter Tryz.func35, Tryz.ntmps35
  go_wp2_with fail
  refine L1.mono ?_
  rintro e wn ⟨rfl, hw⟩; rw [hw]; clear hw wn L1
  go_wp2
  go_loopw [3, 4] (fun v i wr => ∃ b o : Nat, i = .int .i64 ((b : Int) - 1) ∧ b ≤ q + 1 ∧ Num wr v o ∧ o ≤ s ∧ s < o + 2 ^ b ∧ Below w.heap.size w wr) (fun _ i _ => (intOf i + 1).toNat)
  case atStart => exact ⟨q + 1, 0, by go_num, Nat.le_refl _, Num.nil _, Nat.zero_le _, by rw [Nat.zero_add]; exact HX.out.2.1, Below.refl _ _⟩
  case round =>
    obtain ⟨b, o, rfl, hb, hn, ho1, ho2, hbel⟩ := hrel
    have HB := hide hbel
    clear hbel
    by_cases hb0 : b = 0
    · subst hb0
      obtain rfl : o = s := by rw [Nat.pow_zero] at ho2; omega
      have HD := hide hn
      clear hn ho1 ho2
      go_wp2
      go_ret
      exact ⟨⟨_, rfl, HD.out⟩, HB.out⟩
    · obtain ⟨d, rfl⟩ : ∃ d, b = d + 1 := ⟨b - 1, by omega⟩
      have ed : (((d + 1 : Nat) : Int) - 1) = (d : Int) := by omega
      rw [ed]
      have hd0 : (0 : Int) ≤ (d : Int) := by omega
      have HI := rint_any 1 wr (by omega)
      have bo : blen o ≤ 562949953404928 := Nat.le_trans (blen_mono ho1) HX.out.2.2
      have bd : blen (2 ^ d) ≤ d + 1 := blen_pow5 (Nat.le_refl _)
      have bxx : blen (o + 2 ^ d) ≤ 562949953404930 := by
        obtain ⟨K, hK⟩ : ∃ K, 562949953404929 = K := ⟨_, rfl⟩
        have e1 := (blen_le_iff o K).1 (by omega)
        have e2 : 2 ^ d ≤ 2 ^ K := Nat.pow_le_pow_right (by omega) (by omega)
        have := (blen_le_iff (o + 2 ^ d) (K + 1)).2 (by rw [Nat.pow_succ]; omega)
        omega
      rw [Nat.pow_succ] at ho2
      have HO := hide (And.intro ho1 ho2)
      have HNO := hide hn
      have HBB := hide (And.intro bo (And.intro bd bxx))
      clear hn ho1 ho2 bo bd bxx hb0
      go_wp2_with fail
      refine HI.mono ?_
      rintro e w1 ⟨⟨v1, rfl, N1⟩, hb1⟩
      have HB1 := hid_below HB hb1
      have HNO1 := hide (HNO.out.below hb1)
      have F := rshl_any v1 1 d w1 N1 (by rw [show blen 1 = 1 from rfl]; omega)
      rw [Nat.one_mul] at F
      clear HI N1 hb1
      go_wp2_with fail
      refine F.mono ?_
      rintro e w2 ⟨⟨v2, rfl, N2⟩, hb2⟩
      have HB2 := hid_below HB1 hb2
      have F := radd_any _ v2 _ _ w2 (HNO1.out.below hb2) N2 (by have := HBB.out.1; omega) (by have := HBB.out.2.1; omega)
      have HNO2 := hide (HNO1.out.below hb2)
      clear N2 hb2
      go_wp2_with fail
      refine F.mono ?_
      rintro e w3 ⟨⟨v3, rfl, N3⟩, hb3⟩
      have HB3 := hid_below HB2 hb3
      have HNO3 := hide (HNO2.out.below hb3)
      have F := rmul_any v3 v3 _ _ w3 N3 N3 (by have := HBB.out.2.2; omega)
      have HN3 := hide N3
      clear N3 hb3
      go_wp2_with fail
      refine F.mono ?_
      rintro e w4 ⟨⟨v4, rfl, N4⟩, hb4⟩
      have HB4 := hid_below HB3 hb4
      have HNO4 := hide (HNO3.out.below hb4)
      have HN4 := hide (HN3.out.below hb4)
      have HC := rcmp_any v4 va _ _ w4 N4 (HN.out.below HB4.out)
      clear F hb4 N4
      by_cases hle : (o + 2 ^ d) * (o + 2 ^ d) ≤ x
      · have hc := cmpN_le hle
        have HS := hide (root2_le HR.out hle)
        generalize cmpN ((o + 2 ^ d) * (o + 2 ^ d)) x = cc at *
        clear hle
        go_wp2_with fail
        refine HC.mono ?_
        rintro e w5 ⟨rfl, hsm⟩
        have hb := hsm.below w4.heap.size
        have HB5 := hid_below HB4 hb
        have HN5 := hide (HN4.out.below hb)
        clear hsm HC hb
        go_wp2
        go_roundw
        case rel => exact ⟨d, o + 2 ^ d, rfl, by omega, HN5.out, HS.out, by have := HO.out.2; omega, HB5.out⟩
        case measure => simp [intOf]
      · have hc : (0 : Int) < cmpN ((o + 2 ^ d) * (o + 2 ^ d)) x := by rw [cmpN_gt (by omega)]; omega
        have HS := hide (root2_lt HR.out (show x < (o + 2 ^ d) * (o + 2 ^ d) by omega))
        generalize cmpN ((o + 2 ^ d) * (o + 2 ^ d)) x = cc at *
        have hc2 : ¬ cc ≤ 0 := by omega
        clear hle
        go_wp2_with fail
        refine HC.mono ?_
        rintro e w5 ⟨rfl, hsm⟩
        have hb := hsm.below w4.heap.size
        have HB5 := hid_below HB4 hb
        have HNO5 := hide (HNO4.out.below hb)
        clear hsm HC hb
        go_wp2
        go_roundw
        case rel => exact ⟨d, o, rfl, by omega, HNO5.out, HO.out.1, HS.out, HB5.out⟩
        case measure => simp [intOf]

theorem told4_gen (v1 v2 : Value) (x y : Nat) (w : World) (h1 : Num w v1 x) (h2 : Num w v2 y) :
    Calls Tryz.prog 36 #[v1, v2] w fun e w' => w' = w ∧ ((blen x ≤ 67108864 ∧ blen y ≤ 67108864 ∧ e = .returned (.tuple #[v1, v2, .int .i64 0])) ∨ ((67108864 < blen x ∨ 67108864 < blen y) ∧ e = .returned (.tuple #[.slice none 0 0, .slice none 0 0, .int .i64 3]))) := by
  by_cases hx : blen x ≤ 67108864
  · by_cases hy : blen y ≤ 67108864
    · refine (told4_two v1 v2 x y w h1 h2 hx hy).mono ?_
      rintro e w' ⟨rfl, hw⟩
      exact ⟨hw, .inl ⟨hx, hy, rfl⟩⟩
    · have L1 := len_any v1 x w h1
      have L2 := len_any v2 y w h2
      have HH := hide (show 67108864 < blen x ∨ 67108864 < blen y by omega)
      obtain ⟨lx, hlx⟩ : ∃ lx, blen x = lx := ⟨_, rfl⟩
      obtain ⟨ly, hly⟩ : ∃ ly, blen y = ly := ⟨_, rfl⟩
      rw [hlx] at L1 hx
      rw [hly] at L2 hy
      have d1 : decide ((67108864 : Int) < (lx : Int)) = false := decide_eq_false (by omega)
      have d2 : decide ((67108864 : Int) < (ly : Int)) = true := decide_eq_true (by omega)
      have i2 : (67108864 : Int) < (ly : Int) := by omega
      clear h1 h2 hlx hly
      go_enter Tryz.func36, Tryz.ntmps36
      go_wp2_with fail
      refine L1.mono ?_
      rintro e w1 ⟨rfl, hw⟩; rw [hw]; clear hw
      go_wp2_with fail
      refine L2.mono ?_
      rintro e w1 ⟨rfl, hw⟩; rw [hw]; clear hw
      clear L1 L2
      go_wp2
      go_returns
      exact ⟨rfl, .inr ⟨HH.out, rfl⟩⟩
  · have L1 := len_any v1 x w h1
    have HH := hide (show 67108864 < blen x ∨ 67108864 < blen y by omega)
    obtain ⟨lx, hlx⟩ : ∃ lx, blen x = lx := ⟨_, rfl⟩
    rw [hlx] at L1 hx
    have i1 : (67108864 : Int) < (lx : Int) := by omega
    clear h1 h2 hlx
    go_enter Tryz.func36, Tryz.ntmps36
    go_wp2_with fail
    refine L1.mono ?_
    rintro e w1 ⟨rfl, hw⟩; rw [hw]; clear hw
    clear L1
    go_wp2
    go_returns
    exact ⟨rfl, .inr ⟨HH.out, rfl⟩⟩

theorem refSqrt_any (va : Value) (x s : Nat) (w : World) (h1 : Num w va x) (bx : blen x ≤ 1125899906809856) (hs : IsRoot2 x s) :
    Calls Tryz.prog 11 #[va] w fun e w' => ((blen s ≤ 67108864 ∧ blen (x - s * s) ≤ 67108864 ∧ ∃ v1 v2, e = .returned (.tuple #[v1, v2, .int .i64 0]) ∧ Num w' v1 s ∧ Num w' v2 (x - s * s)) ∨ ((67108864 < blen s ∨ 67108864 < blen (x - s * s)) ∧ e = .returned (.tuple #[.slice none 0 0, .slice none 0 0, .int .i64 3]))) ∧ Below w.heap.size w w' := by
  have F1 := refRoot2_any va x s w h1 bx hs
  have hsl := root2_len hs
  have HN := hide h1
  have HX := hide (And.intro bx (And.intro hs.1 hsl))
  clear h1 bx hs hsl
  go_enter Tryz.func11, Tryz.ntmps11
  go_wp2_with fail
  refine F1.mono ?_
  rintro e w1 ⟨⟨v1, rfl, N1⟩, hb1⟩
  have HB1 := hide hb1
  have F2 := rmul_any v1 v1 _ _ w1 N1 N1 (by have := HX.out; omega)
  have HN1 := hide N1
  clear F1 hb1 N1
  go_wp2_with fail
  refine F2.mono ?_
  rintro e w2 ⟨⟨v2, rfl, N2⟩, hb2⟩
  have HB2 := hid_below HB1 hb2
  have F3 := rsub_any va v2 _ _ w2 (HN.out.below HB2.out) N2 HX.out.2.1 (by have := HX.out.1; omega)
  have HN2 := hide (HN1.out.below hb2)
  clear F2 hb2 N2
  go_wp2_with fail
  refine F3.mono ?_
  rintro e w3 ⟨⟨v3, rfl, N3⟩, hb3⟩
  have HB3 := hid_below HB2 hb3
  have HN3 := hide (HN2.out.below hb3)
  have HNS := hide N3
  have F4 := told4_gen v1 v3 _ _ w3 HN3.out N3
  clear F3 hb3 N3
  go_wp2_with fail
  refine F4.mono ?_
  rintro e wn ⟨hw, ht⟩
  subst hw
  clear F4
  rcases ht with ⟨q1, q2, rfl⟩ | ⟨q1, rfl⟩
  · go_wp2
    go_returns
    exact ⟨.inl ⟨q1, q2, _, _, rfl, HN3.out, HNS.out⟩, HB3.out⟩
  · go_wp2
    go_returns
    exact ⟨.inr ⟨q1, rfl⟩, HB3.out⟩

theorem refIsSquare_any (va : Value) (x s : Nat) (w : World) (h1 : Num w va x) (bx : blen x ≤ 1125899906809856) (hs : IsRoot2 x s) :
    Calls Tryz.prog 18 #[va] w fun e w' => e = .returned (.bool (decide (s * s = x))) ∧ Below w.heap.size w w' := by
  have F1 := refRoot2_any va x s w h1 bx hs
  have hsl := root2_len hs
  have HN := hide h1
  have HX := hide (And.intro bx (And.intro hs.1 hsl))
  have HCZ : Hid ((cmpN (s * s) x == 0) = decide (s * s = x)) := by
    by_cases h : s * s = x
    · exact hide (by rw [decide_eq_true h, h, cmpN_self]; rfl)
    · exact hide (by rw [decide_eq_false h, cmpN_lt (by have := hs.1; omega)]; rfl)
  obtain ⟨bb, hbb⟩ : ∃ bb, decide (s * s = x) = bb := ⟨_, rfl⟩
  rw [hbb] at HCZ ⊢
  clear h1 bx hs hsl hbb
  go_enter Tryz.func18, Tryz.ntmps18
  go_wp2_with fail
  refine F1.mono ?_
  rintro e w1 ⟨⟨v1, rfl, N1⟩, hb1⟩
  have HB1 := hide hb1
  have F2 := rmul_any v1 v1 _ _ w1 N1 N1 (by have := HX.out; omega)
  clear F1 hb1 N1
  go_wp2_with fail
  refine F2.mono ?_
  rintro e w2 ⟨⟨v2, rfl, N2⟩, hb2⟩
  have HB2 := hid_below HB1 hb2
  have HC := rcmp_any v2 va _ _ w2 N2 (HN.out.below HB2.out)
  have hz := HCZ.out
  generalize cmpN (s * s) x = cc at *
  clear F2 hb2 N2
  go_wp2_with fail
  refine HC.mono ?_
  rintro e w3 ⟨rfl, hsm⟩
  have HB3 := hid_below HB2 (hsm.below w2.heap.size)
  clear hsm HC
  go_wp2
  go_ret
  exact ⟨rfl, HB3.out⟩

theorem refCeil_any (va : Value) (x s : Nat) (w : World) (h1 : Num w va x) (bx : blen x ≤ 1125899906809856) (hs : IsRoot2 x s) :
    Calls Tryz.prog 12 #[va] w fun e w' => (∃ vn f, e = .returned (.tuple #[vn, .int .i64 f]) ∧ TellN w' vn f (ceil2 x s)) ∧ Below w.heap.size w w' := by
  have F1 := refRoot2_any va x s w h1 bx hs
  have hsl := root2_len hs
  have HN := hide h1
  have HX := hide (And.intro bx (And.intro hs.1 hsl))
  clear h1 bx hs hsl
  by_cases h0 : s * s = x
  · have ec : ceil2 x s = s := by unfold ceil2; rw [if_pos (by omega)]
    rw [ec]
    clear ec
    go_enter Tryz.func12, Tryz.ntmps12
    go_wp2_with fail
    refine F1.mono ?_
    rintro e w1 ⟨⟨v1, rfl, N1⟩, hb1⟩
    have HB1 := hide hb1
    have F2 := rmul_any v1 v1 _ _ w1 N1 N1 (by have := HX.out; omega)
    have HN1 := hide N1
    clear F1 hb1 N1
    go_wp2_with fail
    refine F2.mono ?_
    rintro e w2 ⟨⟨v2, rfl, N2⟩, hb2⟩
    have HB2 := hid_below HB1 hb2
    have HN2 := hide (HN1.out.below hb2)
    have HC := rcmp_any v2 va _ _ w2 N2 (HN.out.below HB2.out)
    rw [h0, cmpN_self] at HC
    clear F2 hb2 N2 h0
    go_wp2_with fail
    refine HC.mono ?_
    rintro e w3 ⟨rfl, hsm⟩
    have hb := hsm.below w2.heap.size
    have HB3 := hid_below HB2 hb
    have F4 := told4_any v1 _ w3 (HN2.out.below hb)
    clear hsm HC hb
    go_wp2_with fail
    refine F4.mono ?_
    rintro e wn ⟨hw, vn, v2', f, rfl, ht⟩
    subst hw
    have HTT := hide ht
    clear ht F4
    go_wp2
    go_returns
    exact ⟨⟨_, _, rfl, HTT.out⟩, HB3.out⟩
  · have ec : ceil2 x s = s + 1 := by unfold ceil2; rw [if_neg (by have := HX.out.2.1; omega)]
    rw [ec]
    clear ec
    go_enter Tryz.func12, Tryz.ntmps12
    go_wp2_with fail
    refine F1.mono ?_
    rintro e w1 ⟨⟨v1, rfl, N1⟩, hb1⟩
    have HB1 := hide hb1
    have F2 := rmul_any v1 v1 _ _ w1 N1 N1 (by have := HX.out; omega)
    have HN1 := hide N1
    clear F1 hb1 N1
    go_wp2_with fail
    refine F2.mono ?_
    rintro e w2 ⟨⟨v2, rfl, N2⟩, hb2⟩
    have HB2 := hid_below HB1 hb2
    have HN2 := hide (HN1.out.below hb2)
    have HC := rcmp_any v2 va _ _ w2 N2 (HN.out.below HB2.out)
    rw [cmpN_lt (by have := HX.out.2.1; omega)] at HC
    clear F2 hb2 N2 h0
    go_wp2_with fail
    refine HC.mono ?_
    rintro e w3 ⟨rfl, hsm⟩
    have hb := hsm.below w2.heap.size
    have HB3 := hid_below HB2 hb
    have HN3 := hide (HN2.out.below hb)
    have HI := rint_any 1 w3 (by omega)
    clear hsm HC hb
    go_wp2_with fail
    refine HI.mono ?_
    rintro e w4 ⟨⟨v4, rfl, N4⟩, hb4⟩
    have HB4 := hid_below HB3 hb4
    have F3 := radd_any v1 v4 _ _ w4 (HN3.out.below hb4) N4 (by have := HX.out; omega) (by rw [show blen 1 = 1 from rfl]; omega)
    clear HI N4 hb4
    go_wp2_with fail
    refine F3.mono ?_
    rintro e w5 ⟨⟨v5, rfl, N5⟩, hb5⟩
    have HB5 := hid_below HB4 hb5
    have F4 := told4_any v5 _ w5 N5
    clear F3 N5 hb5
    go_wp2_with fail
    refine F4.mono ?_
    rintro e wn ⟨hw, vn, v2', f, rfl, ht⟩
    subst hw
    have HTT := hide ht
    clear ht F4
    go_wp2
    go_returns
    exact ⟨⟨_, _, rfl, HTT.out⟩, HB5.out⟩

end Go.Proofs.YteecnckfkcmefaaGreatDoor
