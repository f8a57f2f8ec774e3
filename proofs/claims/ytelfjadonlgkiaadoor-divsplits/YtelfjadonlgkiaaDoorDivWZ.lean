/- Package div: split, Split. -/
import Derived.Test.YtelfjadonlgkiaaDoorQM
import Derived.Test.YtelfjadonlgkiaaDoorSplitPZ
namespace Go.Proofs.YtelfjadonlgkiaaDoor
open Go.RowKit
open Lm
attribute [local go_sem ↓] Go.wp_at_zero Go.wp_at_succ

/-- The exponents where no pairs were found. -/
def one : Nat := 1
def two : Nat := 2
theorem one_is : 1 + 2 * 0 = one := rfl
theorem two_is : 1 + 2 * 0 + 1 = two := rfl

/-- What split answers: it may be the number's own memory. -/
def SplitDone (w : World) (x y k : Nat) (e : Ending) (w' : World) : Prop :=
  (∃ (n : Nat) (v : Value) (rs : List Nat), e = .returned (.tuple #[.int .i64 n, v]) ∧ Arg w' v rs ∧ IsSplit x y n (val rs) ∧ rs.length ≤ k) ∧ Below w.heap.size w w'

theorem blen_lt_of {x n : Nat} (h : 2 ^ n ≤ x) : n < blen x := by
  refine Nat.lt_of_not_le fun hle => ?_
  have := (blen_le_iff x n).1 hle
  omega

theorem blen_two {y : Nat} (h : 2 ≤ blen y) : 2 ≤ y := by
  refine Nat.le_of_not_lt fun hlt => ?_
  have : blen y ≤ 1 := (blen_le_iff y 1).2 (by omega)
  omega

/-- A square's bits. -/
theorem blen_sq {y : Nat} (hy : 0 < y) : 2 * blen y - 1 ≤ blen (y * y) ∧ blen (y * y) ≤ 2 * blen y := by
  have hb : 0 < blen y := by
    rcases Nat.eq_zero_or_pos (blen y) with h | h
    · have := (blen_le_iff y 0).1 (by omega); omega
    · exact h
  have h1 : 2 ^ (blen y - 1) ≤ y := Nat.le_of_not_lt fun h => by
    have := (blen_le_iff y (blen y - 1)).2 h
    omega
  have h2 : y < 2 ^ blen y := (blen_le_iff y _).1 (Nat.le_refl _)
  constructor
  · have h3 := Nat.mul_le_mul h1 h1
    rw [← Nat.pow_add] at h3
    have := blen_lt_of h3
    omega
  · refine (blen_le_iff _ _).2 ?_
    rw [Nat.two_mul, Nat.pow_add]
    exact Nat.mul_lt_mul_of_lt_of_lt h2 h2

set_option maxRecDepth 20000 in
set_option maxHeartbeats 2000000 in
theorem split_any : ∀ (N : Nat) (va vb : Value) (X Y : List Nat) (w : World), val X < N → Arg w va X → Arg w vb Y → Tab w → X.length ≤ 17592186043904 → Y.length ≤ 17592186044400 → 0 < val X → 2 ≤ val Y →
    Calls Tryd.prog 48 #[va, vb] w (SplitDone w (val X) (val Y) X.length) := by
  intro N
  induction N with
  | zero => intro va vb X Y w h; omega
  | succ N ih =>
    intro va vb X Y w hN hA hA2 hT hf1 hf2 hX hY
    have HDV := divisorOf_any vb Y w hA2 hT (by omega) (by omega)
    have HA := hide hA
    have HA2 := hide hA2
    have HT := hide hT
    have HXY := hide (And.intro hX hY)
    have HN := hide hN
    have HIH := hide ih
    obtain ⟨a1, k1, rfl, _, _, _⟩ := hA.form
    obtain ⟨a2, k2, rfl, _, _, _⟩ := hA2.form
    clear hA hA2 hT hX hY hN ih
    go_enter Tryd.func48, Tryd.ntmps48
    go_wp2_with fail
    refine HDV.mono ?_
    rintro e w1 ⟨⟨vd, rfl, hd⟩, hb1⟩
    have hd0 := hd
    obtain ⟨g, nn, s, j, h, V, rfl, hg, hV, lV, hj, ht, hs, eV, eB, en, hnf⟩ := hd
    obtain ⟨w2, hw2⟩ : ∃ w2, w2 = w1.alloc (.cells #[.slice (some ⟨g, 0, none⟩) V.length V.length, .int .i64 nn, .int .i64 s] 55) := ⟨_, rfl⟩
    have hbel2 : Below w1.heap.size w1 w2 := by rw [hw2]; exact (Below.refl _ _).alloc (Nat.le_refl _) _
    have hb2 : w2.heap[w1.heap.size]? = some (.cells #[.slice (some ⟨g, 0, none⟩) V.length V.length, .int .i64 nn, .int .i64 s] 55) := by rw [hw2]; exact heap_alloc_new ..
    have HB2 := hide (hb1.trans (hbel2.mono hb1.size))
    have HD2 := hide (hd0.below hbel2)
    have H1 := both_any _ _ X _ _ _ w2 (HA.out.below HB2.out) HD2.out (HT.out.below HB2.out) (by omega)
    have HBX := hide hb2
    obtain ⟨hk0, hk1, hk2⟩ := box3 hb2
    rw [hw2] at hk0 hk1 hk2
    have HW2 := hide hw2
    have hlt12 : w1.heap.size < w2.heap.size := by rw [hw2]; simp
    clear hd0 hV lV hj ht eV eB en hb2 hw2 hbel2 hb1 HDV
    go_wp2_with fail
    rw [← HW2.out]
    refine H1.mono ?_
    rintro e w3 ⟨⟨vq, vr, qs, rs, mid, rfl, A1, hmid, hq, A2, e1, e2, l1, l2, _⟩, hb3⟩
    have HZ := isZero_any vr rs w3 (A2.arg (by omega))
    rw [e2] at HZ
    have HB3 := hide (HB2.out.trans (hb3.mono HB2.out.size))
    have HX3 := hide ((hb3.block w1.heap.size hlt12).trans HBX.out)
    have HD3 := hide (HD2.out.below hb3)
    have HQ := hide (And.intro (A1.arg (by omega)) e1)
    clear A1 A2 hmid hq e1 e2 l2 hb3 H1 hk0 hk1 hk2
    by_cases hr : val X % val Y = 0
    · rw [decide_eq_true hr] at HZ
      have HR := hide hr
      clear hr
      go_wp2_with fail
      refine HZ.mono ?_
      rintro e wn ⟨rfl, hw⟩; rw [hw]; clear hw wn HZ
      have L1 := length_val _ _ w3 HQ.out.1
      have L2 := length_val _ _ w3 (HA2.out.below HB3.out)
      rw [HQ.out.2] at L1
      have hqp : 0 < val X / val Y := by
        rcases Nat.eq_zero_or_pos (val X / val Y) with z | z
        · have := Nat.div_add_mod (val X) (val Y)
          rw [z, HR.out] at this
          have := HXY.out.1
          omega
        · exact z
      have HQP := hide hqp
      have hsq := blen_sq (y := val Y) (by have := HXY.out.2; omega)
      have hbx : blen (val X / val Y) ≤ 64 * qs.length := by
        rw [← HQ.out.2]
        exact (blen_le_iff _ _).2 (by have := val_lt HQ.out.1.limbs; rw [show (18446744073709551616 : Nat) = 2 ^ 64 from rfl, ← Nat.pow_mul] at this; exact this)
      have hby : blen (val Y) ≤ 64 * Y.length := (blen_le_iff _ _).2 (by have := val_lt HA2.out.limbs; rw [show (18446744073709551616 : Nat) = 2 ^ 64 from rfl, ← Nat.pow_mul] at this; exact this)
      by_cases hlen : 2 * blen (val Y) - 1 ≤ blen (val X / val Y)
      · have hb1 : 2 ≤ blen (val Y) := Nat.succ_le_of_lt (blen_lt_of (n := 1) (by have := HXY.out.2; omega))
        have HSQ := hide (And.intro hsq (And.intro hbx hlen))
        obtain ⟨p, hp⟩ : ∃ p, blen (val X / val Y) = p := ⟨_, rfl⟩
        obtain ⟨q, hq⟩ : ∃ q, blen (val Y) = q := ⟨_, rfl⟩
        rw [hp] at L1 hlen hbx
        rw [hq] at L2 hlen hb1 hby
        have i1 : (2 : Int) * (q : Int) - 1 ≤ (p : Int) := by omega
        have HPQ := hide (And.intro hp hq)
        clear hp hq hsq hqp
        have HPR := dproduct_any (Y.length + Y.length + 1) Y Y _ _ w3 (by omega) (by omega) (HA2.out.below HB3.out) (HA2.out.below HB3.out) (HT.out.below HB3.out)
        go_wp2_with fail
        refine L1.mono ?_
        rintro e wn ⟨rfl, hw⟩; rw [hw]; clear hw wn L1
        go_wp2_with fail
        refine L2.mono ?_
        rintro e wn ⟨rfl, hw⟩; rw [hw]; clear hw wn L2
        go_wp2_with fail
        refine HPR.mono ?_
        rintro e w4 ⟨⟨v4, rs4, rfl, An4, t4, e4⟩, hb4⟩
        have hl4 : rs4.length ≤ qs.length + 1 := by
          have h1 := HSQ.out
          rw [HPQ.out.1, HPQ.out.2] at h1
          have h2 : blen (val rs4) ≤ 64 * (qs.length + 1) := by rw [e4]; omega
          have h3 := tr_len_lt rs4 (qs.length + 1) (by
            have := (blen_le_iff _ _).1 h2
            rw [show (18446744073709551616 : Nat) = 2 ^ 64 from rfl, ← Nat.pow_mul]; exact this)
          rw [t4] at h3; exact h3
        have hdec : val X / val Y < val X := Nat.div_lt_self HXY.out.1 HXY.out.2
        have HSPL := HIH.out vq v4 qs rs4 w4 (by rw [HQ.out.2]; have := HN.out; omega) (HQ.out.1.below hb4) (An4.arg (by omega)) (HT.out.below (HB3.out.trans (hb4.mono HB3.out.size))) (by omega) (by omega) (by rw [HQ.out.2]; exact HQP.out) (by rw [e4]; have := HXY.out.2; exact Nat.le_trans this (Nat.le_mul_of_pos_right _ (by omega)))
        rw [HQ.out.2, e4] at HSPL
        have HB4 := hide (HB3.out.trans (hb4.mono HB3.out.size))
        have HX4 := hide ((hb4.block w1.heap.size (lt_of_block HX3.out)).trans HX3.out)
        have HD4 := hide (HD3.out.below hb4)
        clear An4 t4 e4 hb4 HPR hl4 hdec
        go_wp2_with fail
        refine HSPL.mono ?_
        rintro e w5 ⟨⟨n5, v5, rs5, rfl, A5, s5, l5⟩, hb5⟩
        have hn5 : n5 < p := by
          have h1 := split_le HQP.out (by have := HXY.out.2; exact Nat.le_trans this (Nat.le_mul_of_pos_right _ (by omega))) s5
          have := blen_lt_of h1
          rw [HPQ.out.1] at this
          exact this
        have HBW := hide (HB4.out.trans (hb5.mono HB4.out.size))
        have HXW := hide ((hb5.block w1.heap.size (lt_of_block HX4.out)).trans HX4.out)
        have HDW := hide (HD4.out.below hb5)
        have HAQ := hide A5
        have HSP := hide s5
        obtain ⟨kk, ekk, ek1, ek2⟩ : ∃ kk : Nat, (1 : Int) + 2 * (n5 : Int) = (kk : Int) ∧ 1 + 2 * n5 = kk ∧ kk ≤ 2251799813685248 := ⟨1 + 2 * n5, by omega, rfl, by omega⟩
        obtain ⟨k2', ek3, ek4⟩ : ∃ k2 : Nat, (kk : Int) + 1 = (k2 : Int) ∧ kk + 1 = k2 := ⟨kk + 1, by omega, rfl⟩
        have HKE := hide ek1
        have HKU := hide (show 1 + 2 * n5 + 1 = k2' by omega)
        clear A5 s5 hb5 HSPL HX4 HD4 HB4 ek1 ek4
        have H9 := both_any _ _ rs5 _ _ _ w5 HAQ.out HDW.out (HT.out.below HBW.out) (by omega)
        obtain ⟨hk0, hk1, hk2⟩ := box3 HXW.out
        have HSS := hide (split_square HR.out HSP.out)
        go_wp2_with fail
        refine H9.mono ?_
        rintro e w9 ⟨⟨vl, vr9, ls, rs9, mid9, rfl, B1, _, _, B2, f1, f2, m1, m2, _⟩, hb9⟩
        have HZ9 := isZero_any vr9 rs9 w9 (B2.arg (by omega))
        rw [f2] at HZ9
        have HB9 := hide (HBW.out.trans (hb9.mono HBW.out.size))
        have HL9 := hide (And.intro (B1.arg (by omega)) f1)
        have HQ9 := hide (HAQ.out.below hb9)
        clear B1 B2 f1 f2 m2 hb9 H9 hk0 hk1 hk2
        by_cases hr9 : val rs5 % val Y = 0
        · rw [decide_eq_true hr9] at HZ9
          have HX : Hid (SplitDone w (val X) (val Y) X.length (.returned (.tuple #[.int .i64 ((k2' : Nat) : Int), vl])) w9) := by
            have h := HSS.out.1 hr9
            rw [← HL9.out.2, HKU.out] at h
            exact hide ⟨⟨k2', vl, ls, rfl, HL9.out.1, h, by omega⟩, HB9.out⟩
          clear hr9
          go_wp2_with fail
          refine HZ9.mono ?_
          rintro e wn ⟨rfl, hw⟩; rw [hw]; clear hw wn HZ9
          go_wp2
          go_ret2
          exact HX.out
        · rw [decide_eq_false hr9] at HZ9
          have HX : Hid (SplitDone w (val X) (val Y) X.length (.returned (.tuple #[.int .i64 ((kk : Nat) : Int), v5])) w9) := by
            have h := HSS.out.2 hr9
            rw [HKE.out] at h
            exact hide ⟨⟨kk, v5, rs5, rfl, HQ9.out, h, by omega⟩, HB9.out⟩
          clear hr9
          go_wp2_with fail
          refine HZ9.mono ?_
          rintro e wn ⟨rfl, hw⟩; rw [hw]; clear hw wn HZ9
          go_wp2
          go_ret2
          exact HX.out
      · have HSP : Hid (IsSplit (val X / val Y) (val Y * val Y) 0 (val qs)) := by
          rw [HQ.out.2]
          refine hide (split_few HQP.out ?_)
          have h1 := (blen_le_iff (val X / val Y) _).1 (Nat.le_refl _)
          have h2 : 2 ^ (blen (val Y * val Y) - 1) ≤ val Y * val Y := Nat.le_of_not_lt fun h => by
            have := (blen_le_iff (val Y * val Y) (blen (val Y * val Y) - 1)).2 h
            omega
          exact Nat.lt_of_lt_of_le h1 (Nat.le_trans (Nat.pow_le_pow_right (by omega) (by omega)) h2)
        obtain ⟨p, hp⟩ : ∃ p, blen (val X / val Y) = p := ⟨_, rfl⟩
        obtain ⟨q, hq⟩ : ∃ q, blen (val Y) = q := ⟨_, rfl⟩
        rw [hp] at L1 hlen hbx
        rw [hq] at L2 hlen hby
        have i1 : ¬ ((2 : Int) * (q : Int) - 1 ≤ (p : Int)) := by omega
        have HBW := HB3
        have HXW := HX3
        have HDW := HD3
        have HAQ := hide HQ.out.1
        clear hp hq hsq hqp
        go_wp2_with fail
        refine L1.mono ?_
        rintro e wn ⟨rfl, hw⟩; rw [hw]; clear hw wn L1
        go_wp2_with fail
        refine L2.mono ?_
        rintro e wn ⟨rfl, hw⟩; rw [hw]; clear hw wn L2
        have H9 := both_any _ _ qs _ _ _ w3 HAQ.out HDW.out (HT.out.below HBW.out) (by omega)
        obtain ⟨hk0, hk1, hk2⟩ := box3 HXW.out
        have HSS := hide (split_square HR.out HSP.out)
        go_wp2_with fail
        refine H9.mono ?_
        rintro e w9 ⟨⟨vl, vr9, ls, rs9, mid9, rfl, B1, _, _, B2, f1, f2, m1, m2, _⟩, hb9⟩
        have HZ9 := isZero_any vr9 rs9 w9 (B2.arg (by omega))
        rw [f2] at HZ9
        have HB9 := hide (HBW.out.trans (hb9.mono HBW.out.size))
        have HL9 := hide (And.intro (B1.arg (by omega)) f1)
        have HQ9 := hide (HAQ.out.below hb9)
        clear B1 B2 f1 f2 m2 hb9 H9 hk0 hk1 hk2
        by_cases hr9 : val qs % val Y = 0
        · rw [decide_eq_true hr9] at HZ9
          have HX : Hid (SplitDone w (val X) (val Y) X.length (.returned (.tuple #[.int .i64 ((two : Nat) : Int), vl])) w9) := by
            have h := HSS.out.1 hr9
            rw [← HL9.out.2, two_is] at h
            exact hide ⟨⟨two, vl, ls, rfl, HL9.out.1, h, by omega⟩, HB9.out⟩
          clear hr9
          go_wp2_with fail
          refine HZ9.mono ?_
          rintro e wn ⟨rfl, hw⟩; rw [hw]; clear hw wn HZ9
          go_wp2
          go_ret2
          exact HX.out
        · rw [decide_eq_false hr9] at HZ9
          have HX : Hid (SplitDone w (val X) (val Y) X.length (.returned (.tuple #[.int .i64 ((one : Nat) : Int), vq])) w9) := by
            have h := HSS.out.2 hr9
            rw [one_is] at h
            exact hide ⟨⟨one, vq, qs, rfl, HQ9.out, h, by omega⟩, HB9.out⟩
          clear hr9
          go_wp2_with fail
          refine HZ9.mono ?_
          rintro e wn ⟨rfl, hw⟩; rw [hw]; clear hw wn HZ9
          go_wp2
          go_ret2
          exact HX.out
    · rw [decide_eq_false hr] at HZ
      have HX : Hid (SplitDone w (val X) (val Y) X.length (.returned (.tuple #[.int .i64 ((0 : Nat) : Int), .slice a1 X.length k1])) w3) := hide ⟨⟨0, _, X, rfl, HA.out.below HB3.out, ⟨by simp, hr⟩, Nat.le_refl _⟩, HB3.out⟩
      clear hr
      go_wp2_with fail
      refine HZ.mono ?_
      rintro e wn ⟨rfl, hw⟩; rw [hw]; clear hw wn HZ
      go_wp2
      go_ret2
      exact HX.out

end Go.Proofs.YtelfjadonlgkiaaDoor
