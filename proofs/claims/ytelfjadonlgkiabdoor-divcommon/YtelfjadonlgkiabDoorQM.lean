/- Package div: rest, Both, Quo, Rest, Divides. -/
import Derived.Test.YtelfjadonlgkiabDoorQL
import Derived.Test.YtelfjadonlgkiabDoorQJ
import Derived.Deep.RegionWith
namespace Go.Proofs.YtelfjadonlgkiabDoor
open Go.RowKit
open Lm
attribute [local go_sem ↓] Go.wp_at_zero Go.wp_at_succ

/-- What rest answers. -/
def RestDone (w : World) (x B k : Nat) (e : Ending) (w' : World) : Prop :=
  (∃ (vr : Value) (rs : List Nat), e = .returned vr ∧ Ans w' w.heap.size vr rs ∧ val rs = x % B ∧ rs.length ≤ k ∧ (B ≤ x → 1 ≤ rs.length)) ∧ Below w.heap.size w w'

set_option maxRecDepth 20000 in
set_option maxHeartbeats 1000000 in
theorem rest_any (va vd : Value) (X : List Nat) (base B n : Nat) (w : World) (hA : Arg w va X) (hD : Dvs w base vd B n) (hT : Tab w) (hfew : X.length ≤ 17592186044416) :
    Calls Tryd.prog 27 #[vd, va] w (RestDone w (val X) B X.length) := by
  have hD0 := hD
  obtain ⟨g, nn, s, j, h, V, rfl, hg, hV, lV, hj, ht, hs, eV, eB, en, hnf⟩ := hD
  obtain ⟨w0, hw0⟩ : ∃ w0, w0 = w.alloc (.cells #[.slice (some ⟨g, 0, none⟩) V.length V.length, .int .i64 nn, .int .i64 s] 45) := ⟨_, rfl⟩
  have hbel0 : Below w.heap.size w w0 := by rw [hw0]; exact (Below.refl _ _).alloc (Nat.le_refl _) _
  have hb0 : w0.heap[w.heap.size]? = some (.cells #[.slice (some ⟨g, 0, none⟩) V.length V.length, .int .i64 nn, .int .i64 s] 45) := by rw [hw0]; exact heap_alloc_new ..
  have H1 := both_any va _ X base B n w0 (hA.below hbel0) (hD0.below hbel0) (hT.below hbel0) hfew
  obtain ⟨hk0, hk1, hk2⟩ := box3 hb0
  have HW0 := hide hw0
  have HBL := hide hbel0
  obtain ⟨a0, cap, rfl, hcc, hcm, hl⟩ := hA.form
  rw [hw0] at hk0 hk1 hk2
  clear hA hD0 hV lV hj ht eV eB en hb0 hw0 hbel0 hl hT
  go_enter Tryd.func27, Tryd.ntmps27
  go_wp2_with fail
  rw [← HW0.out]
  refine H1.mono ?_
  rintro e w2 ⟨⟨vq, vr, qs, rs, mid, rfl, A1, hmid, hq, A2, e1, e2, l1, l2, l3⟩, hb⟩
  have HX : Hid (RestDone w (val X) B X.length (.returned vr) w2) := hide ⟨⟨vr, rs, rfl, A2.base (Nat.le_trans HBL.out.size hmid.1), e2, l2, l3⟩, HBL.out.trans (hb.mono HBL.out.size)⟩
  clear A1 hmid hq A2 e1 e2 l1 l2 l3 hb H1 hk0 hk1 hk2
  go_wp2
  go_ret
  exact HX.out

/-- Two answers one behind the other, or an error. -/
def Res2M (w w' : World) (e : Ending) (s t : Nat) : Prop :=
  ∃ v1 v2 c r1 r2 mid, e = .returned (.tuple #[v1, v2, .int .i64 c]) ∧ Ans w' w.heap.size v1 r1 ∧ (w.heap.size ≤ mid ∧ mid ≤ w'.heap.size) ∧ (∀ g, v1.ownBlock = some g → g < mid) ∧ Ans w' mid v2 r2 ∧
    ((c = 0 ∧ val r1 = s ∧ tr r1 = r1 ∧ val r2 = t ∧ tr r2 = r2 ∧ blen s ≤ 67108864 ∧ blen t ≤ 67108864) ∨ (c = 3 ∧ r1 = [] ∧ r2 = [] ∧ (67108864 < blen s ∨ 67108864 < blen t)))

/-- answer, with the block that it answers. -/
theorem danswer_top (v : Value) (base : Nat) (xs : List Nat) (w : World) (h : Ans w base v xs) (hf : xs.length ≤ 1125899906842624) :
    Calls Tryd.prog 40 #[v] w fun e w' => w' = w ∧ ∃ v' c rs, e = .returned (.tuple #[v', .int .i64 c]) ∧ Ans w base v' rs ∧ (∀ g, v'.ownBlock = some g → v.ownBlock = some g) ∧ ((c = 0 ∧ val rs = val xs ∧ tr rs = rs ∧ blen (val xs) ≤ 67108864) ∨ (c = 3 ∧ rs = [] ∧ 67108864 < blen (val xs))) := by
  have ha := h.arg hf
  obtain ⟨ao, cap, rfl, hcap, hmax, hlies⟩ := ha.form
  have hle := tr_length_le xs
  have H1 := dtrim_any _ cap xs w hcap hmax hlies
  have H2 := length_val _ _ _ ha
  have HA : Hid (Ans w base (.slice ao (tr xs).length cap) (tr xs)) := h.trim
  have HT : Hid (tr (tr xs) = tr xs ∧ val (tr xs) = val xs) := ⟨tr_tr xs, val_tr xs⟩
  generalize tr xs = T at *
  generalize val xs = V at *
  generalize blen V = y at *
  clear hlies h ha
  by_cases hy : y ≤ 67108864
  · go_enter Tryd.func40, Tryd.ntmps40
    go_wp2_with fail
    refine H2.mono ?_
    rintro e w' ⟨rfl, rfl⟩
    go_wp2_with fail
    refine H1.mono ?_
    rintro e w' ⟨rfl, rfl⟩
    go_wp2
    go_ret2
    exact ⟨rfl, _, _, T, rfl, HA.out, (fun g e => by cases ao <;> exact e), .inl ⟨rfl, HT.out.2, HT.out.1, hy⟩⟩
  · go_enter Tryd.func40, Tryd.ntmps40
    go_wp2_with fail
    refine H2.mono ?_
    rintro e w' ⟨rfl, rfl⟩
    go_wp2
    go_ret2
    exact ⟨rfl, _, _, [], rfl, Ans.nil _ _, (fun g e => (by cases e)), .inr ⟨rfl, rfl, by omega⟩⟩

/-- A quotient has at least as many bits as its number has more than the divisor. -/
theorem quo_long {x y k : Nat} (hy : 0 < y) (h : k + blen y < blen x) : k < blen (x / y) := by
  refine Nat.lt_of_not_le fun hle => ?_
  have h1 := (blen_le_iff (x / y) k).1 hle
  have h2 : y < 2 ^ blen y := (blen_le_iff y _).1 (Nat.le_refl _)
  have h3 : x < 2 ^ (k + blen y) := by
    rw [Nat.div_lt_iff_lt_mul hy] at h1
    rw [Nat.pow_add]
    exact Nat.lt_of_lt_of_le h1 (Nat.mul_le_mul_left _ (Nat.le_of_lt h2))
  have := (blen_le_iff x _).2 h3
  omega

set_option maxRecDepth 20000 in
set_option maxHeartbeats 1000000 in
theorem dBoth_any (va vb : Value) (X Y : List Nat) (w : World) (hA : Arg w va X) (hA2 : Arg w vb Y) (hT : Tab w) (hf1 : X.length ≤ 17592186044416) (hf2 : Y.length ≤ 17592186044416) (hY : val Y ≠ 0) :
    Calls Tryd.prog 17 #[va, vb] w fun e w' => Res2M w w' e (val X / val Y) (val X % val Y) ∧ Below w.heap.size w w' := by
  have HR := refusal_any va vb X Y w hA hA2
  have HDV := divisorOf_any vb Y w hA2 hT hY (by omega)
  have HA := hide hA
  have HT := hide hT
  obtain ⟨a1, c1, rfl, _, _, _⟩ := hA.form
  obtain ⟨a2, c2, rfl, _, _, _⟩ := hA2.form
  have hr : refusalN (val X) (val Y) = if 67108864 + blen (val Y) < blen (val X) then 3 else 0 := by unfold refusalN; rw [if_neg hY]
  rw [hr] at HR
  have HY := hide (show 0 < val Y by omega)
  clear hA hA2 hT hr hY
  by_cases hb : 67108864 + blen (val Y) < blen (val X)
  · rw [if_pos hb] at HR
    have HX : Hid (67108864 < blen (val X / val Y)) := hide (quo_long HY.out hb)
    clear HDV hb
    go_enter Tryd.func17, Tryd.ntmps17
    go_wp2_with fail
    refine HR.mono ?_
    rintro e wn ⟨rfl, hw⟩; subst hw
    clear HR
    go_wp2
    go_returns
    exact ⟨⟨_, _, _, [], [], wn.heap.size, rfl, Ans.nil _ _, ⟨Nat.le_refl _, Nat.le_refl _⟩, (fun g e => (by cases e)), Ans.nil _ _, .inr ⟨rfl, rfl, rfl, .inl HX.out⟩⟩, Below.refl _ _⟩
  · rw [if_neg hb] at HR
    clear hb
    go_enter Tryd.func17, Tryd.ntmps17
    go_wp2_with fail
    refine HR.mono ?_
    rintro e wn ⟨rfl, hw⟩; rw [hw]; clear hw wn
    go_wp2_with fail
    refine HDV.mono ?_
    rintro e w1 ⟨⟨vd, rfl, hd⟩, hb1⟩
    have H1 := both_any _ vd X _ _ _ w1 (HA.out.below hb1) hd (HT.out.below hb1) hf1
    have HB1 := hide hb1
    clear hd hb1 HDV HR
    go_wp2_with fail
    refine H1.mono ?_
    rintro e w2 ⟨⟨vq, vr, qs, rs, mid, rfl, A1, hmid, hq, A2, e1, e2, l1, l2, _⟩, hb2⟩
    have HQ := danswer_top vq w1.heap.size qs w2 A1 (by omega)
    have HRR := danswer_own vr mid rs w2 A2 (by omega)
    have HB2 := hide (HB1.out.trans (hb2.mono HB1.out.size))
    have HM := hide (And.intro (Nat.le_trans HB1.out.size hmid.1) (And.intro hmid.2 hq))
    rw [e1] at HQ
    rw [e2] at HRR
    clear A1 A2 hmid hq e1 e2 l1 l2 hb2 H1
    go_wp2_with fail
    refine HQ.mono ?_
    rintro e w3 ⟨hw, v1, c1, r1, rfl, An1, hown, hres⟩; subst hw
    clear HQ
    rcases hres with ⟨rfl, ev1, tv1, bl1⟩ | ⟨rfl, rfl, bl1⟩
    · have H1 := hide (And.intro An1 (And.intro hown (And.intro ev1 (And.intro tv1 bl1))))
      clear An1 hown ev1 tv1 bl1
      go_wp2_with fail
      refine HRR.mono ?_
      rintro e w4 ⟨hw, v2, c2, r2, rfl, An2, hres⟩; subst hw
      clear HRR
      rcases hres with ⟨rfl, ev2, tv2, bl2⟩ | ⟨rfl, rfl, bl2⟩
      · have H2 := hide (And.intro An2 (And.intro ev2 (And.intro tv2 bl2)))
        clear An2 ev2 tv2 bl2
        go_wp2
        go_returns
        obtain ⟨a1, a2, a3, a4, a5⟩ := H1.out
        obtain ⟨b1, b2, b3, b4⟩ := H2.out
        exact ⟨⟨v1, v2, _, r1, r2, mid, rfl, a1.base HB1.out.size, ⟨HM.out.1, HM.out.2.1⟩, (fun g e => HM.out.2.2 g (a2 g e)), b1, .inl ⟨rfl, a3, a4, b2, b3, a5, b4⟩⟩, HB2.out⟩
      · have H2 := hide bl2
        clear An2 bl2
        go_wp2
        go_returns
        exact ⟨⟨_, _, _, [], [], w.heap.size, rfl, Ans.nil _ _, ⟨Nat.le_refl _, HB2.out.size⟩, (fun g e => (by cases e)), Ans.nil _ _, .inr ⟨rfl, rfl, rfl, .inr H2.out⟩⟩, HB2.out⟩
    · have H2 := hide bl1
      clear An1 hown bl1 HRR
      go_wp2
      go_returns
      exact ⟨⟨_, _, _, [], [], w.heap.size, rfl, Ans.nil _ _, ⟨Nat.le_refl _, HB2.out.size⟩, (fun g e => (by cases e)), Ans.nil _ _, .inr ⟨rfl, rfl, rfl, .inl H2.out⟩⟩, HB2.out⟩

end Go.Proofs.YtelfjadonlgkiabDoor

/- Package div: Both by 0, Quo, Rest, Divides. -/
namespace Go.Proofs.YtelfjadonlgkiabDoor
open Go.RowKit
open Lm
attribute [local go_sem ↓] Go.wp_at_zero Go.wp_at_succ

theorem dBoth_zero (va vb : Value) (X Y : List Nat) (w : World) (hA : Arg w va X) (hA2 : Arg w vb Y) (hY : val Y = 0) :
    Calls Tryd.prog 17 #[va, vb] w fun e w' => e = .returned (.tuple #[.slice none 0 0, .slice none 0 0, .int .i64 30]) ∧ w' = w := by
  have HR := refusal_any va vb X Y w hA hA2
  have hr : refusalN (val X) (val Y) = 30 := if_pos hY
  rw [hr] at HR
  obtain ⟨a1, c1, rfl, _, _, _⟩ := hA.form
  obtain ⟨a2, c2, rfl, _, _, _⟩ := hA2.form
  clear hA hA2 hr hY
  go_enter Tryd.func17, Tryd.ntmps17
  go_wp2_with fail
  refine HR.mono ?_
  rintro e wn ⟨rfl, hw⟩; subst hw
  clear HR
  go_wp2
  go_returns
  exact ⟨rfl, rfl⟩

theorem dRest_zero (va vb : Value) (X Y : List Nat) (w : World) (hA : Arg w va X) (hA2 : Arg w vb Y) (hY : val Y = 0) :
    Calls Tryd.prog 14 #[va, vb] w fun e w' => e = .returned (.tuple #[.slice none 0 0, .int .i64 30]) ∧ w' = w := by
  have HR := isZero_any vb Y w hA2
  rw [decide_eq_true hY] at HR
  obtain ⟨a1, c1, rfl, _, _, _⟩ := hA.form
  obtain ⟨a2, c2, rfl, _, _, _⟩ := hA2.form
  clear hA hA2 hY
  go_enter Tryd.func14, Tryd.ntmps14
  go_wp2_with fail
  refine HR.mono ?_
  rintro e wn ⟨rfl, hw⟩; subst hw
  clear HR
  go_wp2
  go_returns
  exact ⟨rfl, rfl⟩

set_option maxRecDepth 20000 in
set_option maxHeartbeats 1000000 in
theorem dRest_any (va vb : Value) (X Y : List Nat) (w : World) (hA : Arg w va X) (hA2 : Arg w vb Y) (hT : Tab w) (hf1 : X.length ≤ 17592186044416) (hf2 : Y.length ≤ 17592186044416) (hY : val Y ≠ 0) :
    Calls Tryd.prog 14 #[va, vb] w fun e w' => Below w.heap.size w w' ∧ Res w' w.heap.size e (val X % val Y) := by
  have HR := isZero_any vb Y w hA2
  rw [decide_eq_false hY] at HR
  have HDV := divisorOf_any vb Y w hA2 hT hY (by omega)
  have HA := hide hA
  have HT := hide hT
  obtain ⟨a1, c1, rfl, _, _, _⟩ := hA.form
  obtain ⟨a2, c2, rfl, _, _, _⟩ := hA2.form
  clear hA hA2 hT hY
  go_enter Tryd.func14, Tryd.ntmps14
  go_wp2_with fail
  refine HR.mono ?_
  rintro e wn ⟨rfl, hw⟩; rw [hw]; clear hw wn
  go_wp2_with fail
  refine HDV.mono ?_
  rintro e w1 ⟨⟨vd, rfl, hd⟩, hb1⟩
  have H1 := rest_any _ vd X _ _ _ w1 (HA.out.below hb1) hd (HT.out.below hb1) hf1
  have HB1 := hide hb1
  clear hd hb1 HDV HR
  go_wp2_with fail
  refine H1.mono ?_
  rintro e w2 ⟨⟨vr, rs, rfl, A2, e2, l2, _⟩, hb2⟩
  have HQ := danswer_own vr w1.heap.size rs w2 A2 (by omega)
  have HB2 := hide (HB1.out.trans (hb2.mono HB1.out.size))
  rw [e2] at HQ
  clear A2 e2 l2 hb2 H1
  go_wp2_with fail
  refine HQ.mono ?_
  rintro e w3 ⟨hw, v1, c1, r1, rfl, An1, hres⟩; subst hw
  have H1 := hide (And.intro An1 hres)
  clear HQ An1 hres
  go_wp2
  go_returns
  exact ⟨HB2.out, v1, _, r1, rfl, H1.out.1.base HB1.out.size, H1.out.2⟩

set_option maxRecDepth 20000 in
set_option maxHeartbeats 1000000 in
theorem dDivides_any (va vb : Value) (X Y : List Nat) (w : World) (hA : Arg w va X) (hA2 : Arg w vb Y) (hT : Tab w) (hf1 : X.length ≤ 17592186044416) (hf2 : Y.length ≤ 17592186044416) :
    Calls Tryd.prog 9 #[va, vb] w fun e w' => Below w.heap.size w w' ∧ e = .returned (.bool (decide (val X % val Y = 0))) := by
  have HR := isZero_any vb Y w hA2
  have HZ := isZero_any va X w hA
  have HA := hide hA
  have HA2 := hide hA2
  have HT := hide hT
  obtain ⟨a1, c1, rfl, _, _, _⟩ := hA.form
  obtain ⟨a2, c2, rfl, _, _, _⟩ := hA2.form
  clear hA hA2 hT
  by_cases hY : val Y = 0
  · rw [decide_eq_true hY] at HR
    rw [hY, Nat.mod_zero]
    clear hY
    generalize decide (val X = 0) = d at *
    go_enter Tryd.func9, Tryd.ntmps9
    go_wp2_with fail
    refine HR.mono ?_
    rintro e wn ⟨rfl, hw⟩; subst hw
    clear HR
    go_wp2_with fail
    refine HZ.mono ?_
    rintro e wm ⟨rfl, hw⟩; subst hw
    clear HZ
    go_wp2
    go_ret
    exact ⟨Below.refl _ _, rfl⟩
  · rw [decide_eq_false hY] at HR
    have HDV := divisorOf_any _ Y w HA2.out HT.out hY (by omega)
    generalize hdd : decide (val X % val Y = 0) = d
    have HDD := hide hdd
    clear hY HZ hdd
    go_enter Tryd.func9, Tryd.ntmps9
    go_wp2_with fail
    refine HR.mono ?_
    rintro e wn ⟨rfl, hw⟩; rw [hw]; clear hw wn
    go_wp2_with fail
    refine HDV.mono ?_
    rintro e w1 ⟨⟨vd, rfl, hd⟩, hb1⟩
    have H1 := rest_any _ vd X _ _ _ w1 (HA.out.below hb1) hd (HT.out.below hb1) hf1
    have HB1 := hide hb1
    clear hd hb1 HDV HR
    go_wp2_with fail
    refine H1.mono ?_
    rintro e w2 ⟨⟨vr, rs, rfl, A2, e2, l2, _⟩, hb2⟩
    have HQ := isZero_any vr rs w2 (A2.arg (by omega))
    have HB2 := hide (HB1.out.trans (hb2.mono HB1.out.size))
    rw [e2, HDD.out] at HQ
    clear A2 e2 l2 hb2 H1
    go_wp2_with fail
    refine HQ.mono ?_
    rintro e w3 ⟨rfl, hw⟩; subst hw
    clear HQ
    go_wp2
    go_ret
    exact ⟨HB2.out, rfl⟩

end Go.Proofs.YtelfjadonlgkiabDoor

/- Package div: oddPart, timesTwos. -/
namespace Go.Proofs.YtelfjadonlgkiabDoor
open Go.RowKit
open Lm
attribute [local go_sem ↓] Go.wp_at_zero Go.wp_at_succ

theorem isTail_uniq {x t u : Nat} (h : IsTail x t) (k : IsTail x u) : t = u := by
  have key : ∀ t u, t < u → IsTail x t → IsTail x u → False := by
    intro t u hlt h k
    have e := isTail_of k
    obtain ⟨d, rfl⟩ : ∃ d, u = t + (d + 1) := ⟨u - t - 1, by omega⟩
    have h2 := h.2
    generalize x / 2 ^ (t + (d + 1)) / 2 = m at e
    rw [e, Nat.pow_add, Nat.mul_assoc, Nat.mul_div_cancel_left _ (Nat.two_pow_pos t), Nat.pow_succ, Nat.mul_assoc, Nat.mul_left_comm] at h2
    omega
  rcases Nat.lt_trichotomy t u with h1 | h1 | h1
  · exact (key t u h1 h k).elim
  · exact h1
  · exact (key u t h1 k h).elim

theorem drop_div (T : List Nat) (hT : Limbs T) (n : Nat) (hn : n ≤ T.length) : val (T.drop n) = val T / 18446744073709551616 ^ n := by
  have h1 := val_halves T n hn
  have h2 := val_take_lt' hT n hn
  rw [h1, Nat.add_comm, Nat.mul_add_div (Nat.pow_pos (by omega)), Nat.div_eq_of_lt h2, Nat.add_zero]

/-- What oddPart answers: a block of its own, the number through its power of two. -/
def OddDone (w : World) (x : Nat) (k : Nat) (e : Ending) (w' : World) : Prop :=
  (∃ (g t : Nat) (Z : List Nat), e = .returned (.slice (some ⟨g, 0, none⟩) (tr Z).length Z.length) ∧ w.heap.size ≤ g ∧ Blk w' g Z ∧ Limbs Z ∧ IsTail x t ∧ val Z * 2 ^ t = x ∧ val Z % 2 = 1 ∧ Z.length ≤ k) ∧ Below w.heap.size w w'

set_option maxRecDepth 20000 in
set_option maxHeartbeats 1000000 in
theorem oddPart_any (vb : Value) (X : List Nat) (w : World) (hA : Arg w vb X) (hT : Tab w) (hX0 : val X ≠ 0) (hfew : X.length ≤ 35184372088000) :
    Calls Tryd.prog 24 #[vb] w (OddDone w (val X) X.length) := by
  obtain ⟨a0, cap, rfl, hcc, hcm, hl⟩ := hA.form
  obtain ⟨b, off, rfl⟩ : ∃ b off, a0 = some ⟨b, off, none⟩ := by
    rcases hl with h0 | ⟨b, off, e, _⟩
    · subst h0; exact absurd rfl hX0
    · exact ⟨b, off, e⟩
  have hle := tr_length_le X
  have H1 := dtrim_any _ cap X w hcc hcm hl
  have A0 := hA.trim
  have H2 := tail_any _ (tr X) w A0 hT
  rw [← val_tr X] at hX0 ⊢
  have hbw : b < w.heap.size := hA.block (by
    rcases Nat.eq_zero_or_pos X.length with h | h
    · rw [List.length_eq_zero_iff.1 h] at hX0; exact absurd rfl hX0
    · exact h)
  generalize tr X = T at *
  have HX0 := hide hX0
  have HA0 := hide A0
  obtain ⟨i0, hi, hz0, hz1, hz2⟩ := info_parts Tryd.infoU
  clear hl hA A0 hT hX0
  go_enter Tryd.func24, Tryd.ntmps24
  go_wp2_with fail
  refine H1.mono ?_
  rintro e wn ⟨rfl, hw⟩; rw [hw]; clear hw wn H1
  go_wp2_with fail
  refine H2.mono ?_
  rintro e wn ⟨⟨t, ht, rfl, _, hit⟩, hw⟩; rw [hw]; clear hw wn H2
  have HIT := hide (hit HX0.out)
  have htl : t < 64 * T.length := isTail_lt HIT.out (by have := val_lt HA0.out.limbs; rw [Nat.pow_mul]; exact this)
  obtain ⟨nn, s, en, es, hts, hs64, hts2⟩ : ∃ nn s : Nat, (t : Int) / 64 = (nn : Int) ∧ (t : Int) % 64 = (s : Int) ∧ nn * 64 + s ≤ t ∧ s < 64 ∧ t ≤ nn * 64 + s := ⟨t / 64, t % 64, by omega, by omega, by omega, by omega, by omega⟩
  have hlow : nn < T.length := by omega
  obtain ⟨R, hR1, hR2, hR3⟩ : ∃ R : Nat, T.length - nn = R ∧ R ≤ T.length ∧ 0 < R := ⟨_, rfl, by omega, by omega⟩
  have AD := HA0.out.drop nn (by omega)
  have lD : (T.drop nn).length = R := by rw [List.length_drop]; exact hR1
  rw [hR1] at AD
  have hcne : ¬ cap = nn := by omega
  have k0 : (0 : Int) ≤ (nn : Int) := by omega
  have k1 : (nn : Int) ≤ (T.length : Int) := by omega
  have k2 : (nn : Int) ≤ (cap : Int) := by omega
  have HAD := hide (And.intro AD lD)
  clear AD lD hit
  go_wp2_with (at_make; refine wpList_make_full _ rfl _ _ 23 rfl w.heap.size 33 i0 (.int .u64 0) 1 Tryd.underlying23 hi hz0 hz1 .i64 .i64 _ _ R rfl rfl (by omega) (by omega) (by rw [hz2]; omega) (by unfold maxLen; omega) (Nat.le_refl _) ?_; intro w3 hown hgrow)
  have hm3 : Blk w3 w.heap.size (List.replicate R 0) := Blk.made hown
  have hbel3 : Below w.heap.size w w3 := (Below.refl _ _).grown hgrow (Nat.le_refl _) (fun k hk => by cases hk)
  have HB3 := hide hbel3
  have HSD := shiftDown_any w.heap.size 0 R R (List.replicate R 0) _ (T.drop nn) s w3 hm3 (limbs_replicate _) (HAD.out.1.below hbel3) (fun b' off' n' c' e => by cases e; exact .inl (by omega)) (by simp) (Nat.le_refl _) (by omega) (by rw [HAD.out.2]; exact Nat.le_refl _) (by rw [HAD.out.2]; exact Nat.le_refl _) hs64
  clear hown hgrow hi hz0 hz1 hz2 hbel3 hm3
  refine HSD.mono ?_
  rintro e w4 ⟨he, Z4, O4, L4, B4, F4, S4⟩; subst he
  have l4 : Z4.length = R := by rw [O4.len, List.length_replicate]
  have HTR := dtrim_any (some ⟨w.heap.size, 0, none⟩) R Z4 w4 (by omega) (by omega) (.inr ⟨_, 0, rfl, fun j hj => by rw [Nat.zero_add]; exact B4.cell j hj⟩)
  rw [l4] at HTR
  have HEND : Hid (OddDone w (val T) X.length (.returned (.slice (some ⟨w.heap.size, 0, none⟩) (tr Z4).length R)) w4) := by
    rw [sv_full l4, drop_div T HA0.out.limbs nn (by omega), Nat.div_div_eq_div_mul, show (18446744073709551616 : Nat) ^ nn * 2 ^ s = 2 ^ t by rw [show (18446744073709551616 : Nat) = 2 ^ 64 from rfl, ← Nat.pow_mul, ← Nat.pow_add]; congr 1; omega] at S4
    refine hide ⟨⟨w.heap.size, t, Z4, by rw [l4], Nat.le_refl _, B4, L4, HIT.out, ?_, ?_, by omega⟩, HB3.out.trans (F4.below (Nat.le_refl _) HB3.out.size)⟩
    · rw [S4]
      have h1 := Nat.div_add_mod (val T) (2 ^ t)
      rw [HIT.out.1, Nat.add_zero, Nat.mul_comm] at h1
      exact h1
    · rw [S4]; exact HIT.out.2
  clear O4 L4 B4 F4 S4 HSD l4
  go_wp2_with fail
  refine HTR.mono ?_
  rintro e wn ⟨rfl, hw⟩; subst hw
  clear HTR
  go_wp2
  go_ret
  exact HEND.out

set_option maxRecDepth 20000 in
set_option maxHeartbeats 1000000 in
theorem timesTwos_any (vb : Value) (X : List Nat) (t : Nat) (w : World) (hA : Arg w vb X) (hX : 0 < X.length) (hf1 : t / 64 + X.length ≤ 35184372088000) :
    Calls Tryd.prog 22 #[vb, .int .i64 t] w fun e w' => (∃ v rs, e = .returned v ∧ Ans w' w.heap.size v rs ∧ tr rs = rs ∧ val rs = val X * 2 ^ t) ∧ Below w.heap.size w w' := by
  obtain ⟨a0, cap, rfl, hcc, hcm, hl⟩ := hA.form
  obtain ⟨nn, s, en, es, hts, hs64, hts2⟩ : ∃ nn s : Nat, (t : Int) / 64 = (nn : Int) ∧ (t : Int) % 64 = (s : Int) ∧ nn * 64 + s ≤ t ∧ s < 64 ∧ t ≤ nn * 64 + s := ⟨t / 64, t % 64, by omega, by omega, by omega, by omega, by omega⟩
  obtain ⟨K, eK, hK1, hK2⟩ : ∃ K : Nat, (nn : Int) + (X.length : Int) = (K : Int) ∧ K ≤ nn + X.length ∧ nn + X.length ≤ K := ⟨_, rfl, Nat.le_refl _, Nat.le_refl _⟩
  obtain ⟨R, eR, hR1, hR2⟩ : ∃ R : Nat, (K : Int) + 1 = (R : Int) ∧ R ≤ K + 1 ∧ K + 1 ≤ R := ⟨K + 1, by omega, by omega, by omega⟩
  have hnn : nn ≤ t / 64 := by omega
  have wK : IntKind.i64.wrap (K : Int) = (K : Int) := by rw [IntKind.wrap_i64]; omega
  have HA := hide hA
  obtain ⟨i0, hi, hz0, hz1, hz2⟩ := info_parts Tryd.infoU
  have hcne : ¬ R = nn := by omega
  have k0 : (0 : Int) ≤ (nn : Int) := by omega
  have k1 : (nn : Int) ≤ (R : Int) := by omega
  have k2 : (0 : Int) ≤ (K : Int) := by omega
  have k3 : (K : Int) < (R : Int) := by omega
  clear hl hA
  go_enter Tryd.func22, Tryd.ntmps22
  go_wp2_with (at_make; refine wpList_make_full _ rfl _ _ 23 rfl w.heap.size 33 i0 (.int .u64 0) 1 Tryd.underlying23 hi hz0 hz1 .i64 .i64 _ _ R rfl rfl (by omega) (by omega) (by rw [hz2]; omega) (by unfold maxLen; omega) (Nat.le_refl _) ?_; intro w3 hown hgrow)
  have hm3 : Blk w3 w.heap.size (List.replicate R 0) := Blk.made hown
  have hbel3 : Below w.heap.size w w3 := (Below.refl _ _).grown hgrow (Nat.le_refl _) (fun k hk => by cases hk)
  have HB3 := hide hbel3
  have HAD := HA.out.below hbel3
  have HSU := shiftUp_any w.heap.size nn (R - nn) (R - nn) (List.replicate R 0) _ X s w3 hm3 (limbs_replicate _) HAD (fun b' off' n' c' e => by cases e; exact .inl (by have := HA.out.block hX; omega)) (by simp; omega) (Nat.le_refl _) (by omega) (by omega) hs64
  clear hown hgrow hi hz0 hz1 hz2 hbel3 hm3 HAD
  refine HSU.mono ?_
  rintro e w4 ⟨cy, Z4, hcy, rfl, O4, L4, B4, F4, S4⟩
  have hcy2 : cy < 18446744073709551616 := by
    have := Nat.pow_le_pow_right (n := 2) (by omega) (Nat.le_of_lt hs64)
    omega
  have l4 : Z4.length = R := by rw [O4.len, List.length_replicate]
  have fr4 := B4.free K
  have cl4 := B4.cell K (by omega)
  have B5 := B4.set K cy
  have F5 := F4.setCell K (.int .u64 (cy : Int))
  have l5 : (Z4.set K cy).length = R := by rw [List.length_set]; exact l4
  have HV5 : Hid (val (Z4.set K cy) = val X * 2 ^ t) := by
    refine hide ?_
    have e1 := sv_set_succ Z4 nn X.length cy (by omega)
    rw [show nn + X.length = K by omega] at e1
    have e2 := sv_split (Z4.set K cy) 0 nn (X.length + 1) (by omega)
    rw [show nn + (X.length + 1) = R by omega, sv_full l5, Nat.zero_add, e1] at e2
    have o5 : Out Z4 (Z4.set K cy) K (K + 1) := (Out.refl _ _ _).set _ _ (by omega) (by omega)
    rw [o5.sv 0 nn (by omega), O4.sv 0 nn (by omega), sv_zeros, Nat.zero_add, Nat.mul_comm _ cy, S4] at e2
    rw [e2, Nat.mul_left_comm, show (18446744073709551616 : Nat) ^ nn * 2 ^ s = 2 ^ t by rw [show (18446744073709551616 : Nat) = 2 ^ 64 from rfl, ← Nat.pow_mul, ← Nat.pow_add]; congr 1; omega]
  obtain ⟨w5, hw5⟩ : ∃ w5, w5 = w4.setCell ⟨w.heap.size, K, none⟩ (.int .u64 (cy : Int)) := ⟨_, rfl⟩
  rw [← hw5] at B5 F5
  have L5 := limbs_set L4 K cy hcy2
  generalize Z4.set K cy = Z5 at *
  generalize Z4.getD K 0 = z4 at *
  have HTR := dtrim_any (some ⟨w.heap.size, 0, none⟩) R Z5 w5 (by omega) (by omega) (.inr ⟨_, 0, rfl, fun j hj => by rw [Nat.zero_add]; exact B5.cell j hj⟩)
  rw [l5] at HTR
  have HEND : Hid ((∃ v rs, Ending.returned (.slice (some ⟨w.heap.size, 0, none⟩) (tr Z5).length R) = .returned v ∧ Ans w5 w.heap.size v rs ∧ tr rs = rs ∧ val rs = val X * 2 ^ t) ∧ Below w.heap.size w w5) := by
    have AM := (Ans.of_blk (base := w.heap.size) (zs := Z5) (Nat.le_refl _) B5 List.take_length.symm (Nat.le_refl _) (by omega) L5).trim
    rw [l5] at AM
    exact hide ⟨⟨_, tr Z5, rfl, AM, tr_tr _, by rw [val_tr]; exact HV5.out⟩, HB3.out.trans (F5.below (Nat.le_refl _) HB3.out.size)⟩
  rw [hw5] at HTR
  have HW5 := hide hw5
  clear O4 L4 B4 F4 S4 HSU l4 B5 F5 l5 HV5 L5 hw5
  go_wp2_with fail
  refine HTR.mono ?_
  rintro e wn ⟨rfl, hw⟩; rw [hw, ← HW5.out]; clear hw wn
  clear HTR
  go_wp2
  go_ret
  exact HEND.out

end Go.Proofs.YtelfjadonlgkiabDoor

/- Package div: euclid of numbers of one limb; Gcd. -/
namespace Go.Proofs.YtelfjadonlgkiabDoor
open Go.RowKit
open Lm
attribute [local go_sem ↓] Go.wp_at_zero Go.wp_at_succ

/-- 'euclid' works for these two numbers, wherever their limbs lie from block 'base' on. -/
def EuclidOk (x y : Nat) : Prop :=
  ∀ (gx gy base : Nat) (Zx Zy : List Nat) (w : World), Blk w gx Zx → Limbs Zx → Blk w gy Zy → Limbs Zy → gx ≠ gy → base ≤ gx → base ≤ gy → Tab w → 0 < base → val Zx = x → val Zy = y → Zx.length ≤ 17592186044416 → Zy.length ≤ 17592186044416 →
    Calls Tryd.prog 23 #[.slice (some ⟨gx, 0, none⟩) (tr Zx).length Zx.length, .slice (some ⟨gy, 0, none⟩) (tr Zy).length Zy.length] w fun e w' => (∃ v rs, e = .returned v ∧ Ans w' base v rs ∧ tr rs = rs ∧ val rs = Nat.gcd x y) ∧ Below base w w'

theorem Blk.arg_tr {w : World} {g : Nat} {Z : List Nat} (h : Blk w g Z) (hl : Limbs Z) (hf : Z.length ≤ 1125899906842624) : Arg w (.slice (some ⟨g, 0, none⟩) (tr Z).length Z.length) (tr Z) := by
  have := h.seg_arg hl 0 Z.length Z.length (by omega) (Nat.le_refl _) (by omega) hf
  rw [show seg Z 0 Z.length = Z by simp [seg]] at this
  exact this.trim

/-- An answer of one limb or more, and its lowest limb. -/
theorem ans_some {w : World} {base : Nat} {v : Value} {zs : List Nat} (h : Ans w base v zs) (h1 : 1 ≤ zs.length) : ∃ g cap z : Nat, v = .slice (some ⟨g, 0, none⟩) zs.length cap ∧ base ≤ g ∧ w.cell? ⟨g, 0, none⟩ = some (.int .u64 (z : Int)) ∧ Hid (zs.getD 0 0 = z) := by
  rcases h.form with ⟨_, h0⟩ | ⟨g, cap, e, hg, _, _, _, _, hc⟩
  · rw [h0] at h1; simp at h1
  · exact ⟨g, cap, _, e, hg, hc 0 (by omega), hide rfl⟩

/-- A normal list of a number of one limb. -/
theorem tr_one {Z : List Nat} (h0 : 0 < val Z) (h1 : val Z < 18446744073709551616) : (tr Z).length = 1 ∧ (tr Z).getD 0 0 = val Z := by
  have h2 := tr_len_lt Z 1 (by simpa using h1)
  have h3 : (tr Z).length ≠ 0 := fun h => by
    have : val (tr Z) = 0 := by rw [List.length_eq_zero_iff.1 h]; rfl
    rw [val_tr] at this; omega
  have h4 : (tr Z).length = 1 := by omega
  refine ⟨h4, ?_⟩
  rw [← val_tr Z]
  match h : tr Z with
  | [] => rw [h] at h4; simp at h4
  | [a] => simp [val]
  | a :: b :: c => rw [h] at h4; simp at h4

theorem one_limb {Z : List Nat} (h : val Z < 18446744073709551616) (h1 : 1 ≤ Z.length) : Z.getD 0 0 = val Z := by
  match Z with
  | [] => simp at h1
  | a :: r =>
    simp only [val] at h ⊢
    have : val r = 0 := by omega
    rw [this]
    simp

set_option maxRecDepth 20000 in
set_option maxHeartbeats 1000000 in
theorem euclid_one (x y : Nat) (hx : 0 < x) (hx1 : x < 18446744073709551616) (hy0 : 0 < y) (hy : y < 18446744073709551616) : EuclidOk x y := by
  intro gx gy base Zx Zy w hBx hLx hBy hLy hne hb1 hb2 hT htb ex ey hfx hfy
  have A1 := hBx.arg_tr hLx (by omega)
  have A2 := hBy.arg_tr hLy (by omega)
  have HC := compare_any _ _ (tr Zx) (tr Zy) w A1 A2
  obtain ⟨l1, g1⟩ := tr_one (Z := Zx) (by omega) (by omega)
  obtain ⟨l2, g2⟩ := tr_one (Z := Zy) (by omega) (by omega)
  rw [val_tr, val_tr, ex, ey] at HC
  rw [l1] at HC A1 ⊢
  rw [l2] at HC A2 ⊢
  by_cases hlt : x < y
  · rw [cmpN_lt hlt] at HC
    generalize cmpN x y = cc at *
    have hcell : w.cell? ⟨gx, 0, none⟩ = some (.int .u64 (x : Int)) := by
      have h := hBx.cell 0 (by have := tr_length_le Zx; omega)
      rw [one_limb (Z := Zx) (by omega) (by have := tr_length_le Zx; omega), ex] at h
      exact h
    have hgp : gy < w.heap.size := A2.block (by omega)
    have hgs : gx < w.heap.size := hBx.lt
    have HB := hide hb1
    have HBB := hide hb2
    have HT := hide hT
    have HAP := hide A2
    have HAS := hide A1
    have HVS := hide (show val (tr Zy) = y ∧ val (tr Zx) = x from ⟨by rw [val_tr]; exact ey, by rw [val_tr]; exact ex⟩)
    have hle : x ≤ y := by omega
    have lpp : (tr Zy).length = 1 := l2
    have HLS := hide (And.intro lpp l1)
    clear hBx hLx hBy hLy hT A1 A2 ex ey g1 g2 lpp l1 l2 htb
    go_enter Tryd.func23, Tryd.ntmps23
    go_wp2_with fail
    refine HC.mono ?_
    rintro e w1 ⟨rfl, hs1⟩
    have hcell1 : w1.cell? ⟨gx, 0, none⟩ = some (.int .u64 (x : Int)) := cell_below (hs1.below w.heap.size) hcell hgs
    have HS1 := hide hs1
    clear HC hcell hs1
    go_wp2
    refine wp_loop_rounds 1 ?_
    rw [rounds_succ]
    go_wp2
    have hsz1 : w1.heap.size = w.heap.size := HS1.out.size
    have A1S := (HAS.out.below (HS1.out.below _)).drew
    have HDV := divisorOf_any _ (tr Zx) w1.drew A1S (HT.out.below (HS1.out.below _).drew) (by rw [HVS.out.2]; omega) (by rw [HLS.out.2]; omega)
    rw [HVS.out.2] at HDV
    have HRS := hide (fun (w2 : World) (vd : Value) (hd : Dvs w2 w1.drew.heap.size vd x (tr (tr Zx)).length) (hb : Below w1.drew.heap.size w1.drew w2) =>
      show Calls Tryd.prog 27 #[vd, .slice (some ⟨gy, 0, none⟩) 1 Zy.length] w2 (RestDone w2 y x 1) by
        have h := rest_any _ vd (tr Zy) _ x _ w2 ((HAP.out.below (HS1.out.below _)).drew.below hb) hd ((HT.out.below (HS1.out.below _).drew).below hb) (by rw [HLS.out.1]; omega)
        rw [HVS.out.1, HLS.out.1] at h
        exact h)
    have hgs1 : gx < w1.drew.heap.size := by show gx < w1.heap.size; omega
    clear A1S
    go_region_with (first
      | (go_at_call 26; refine HDV.mono ?_; rintro e w2 ⟨⟨vd, rfl, hd⟩, hb2'⟩; have hcell2 := cell_below hb2' (show w1.drew.cell? ⟨gx, 0, none⟩ = some (.int .u64 (x : Int)) from hcell1) hgs1)
      | (go_at_call 27; refine (HRS.out _ _ hd hb2').mono ?_; rintro e w3 ⟨⟨vr, rs, rfl, A3, e3, l3, l4⟩, hb3'⟩; obtain ⟨g3, c3, z3, rfl, hg3, hc3, hz3⟩ := ans_some A3 (l4 hle); have hl3 : (0 : Int) < (rs.length : Int) := (by have := l4 hle; omega); have hl5 : 0 < rs.length := l4 hle; have hcell3 := cell_below hb3' hcell2 (Nat.lt_of_lt_of_le hgs1 hb2'.size)))
    all_goals
      have hr : z3 = y % x := by
        have h1 : val rs < 18446744073709551616 := by rw [e3]; exact Nat.lt_trans (Nat.mod_lt _ hx) hx1
        rw [← hz3.out, one_limb h1 (l4 hle), e3]
      have hrl : z3 < 18446744073709551616 := by rw [hr]; exact Nat.lt_trans (Nat.mod_lt _ hx) hx1
      have HGG : Hid (Nat.gcd x z3 = Nat.gcd x y) := by rw [hr, Nat.gcd_rec x y, Nat.gcd_comm]; exact hide rfl
      have HW3 : Hid (Below w.heap.size w w3 ∧ base ≤ w3.heap.size) := by
        have q1 : Below w.heap.size w w1.drew := (HS1.out.below _).drew
        have q2 : Below w.heap.size w w2 := q1.trans (hb2'.mono q1.size)
        have q3 := q2.trans (hb3'.mono q2.size)
        exact hide ⟨q3, by have := q3.size; omega⟩
      clear hz3 A3 e3 l3 l4 hb3' hb2' hd HDV HRS hcell1 hcell2 hcell3 hl3 hc3 hr
      simp only [List.getElem_toArray, List.getElem_cons_succ, List.getElem_cons_zero, Act.put, List.setIfInBounds_toArray, List.set_cons_zero, List.set_cons_succ]
      go_wp2
      go_loopw [6, 7] (fun v u wr => ∃ a b : Nat, v = .int .u64 a ∧ u = .int .u64 b ∧ a < 18446744073709551616 ∧ b < 18446744073709551616 ∧ Nat.gcd a b = Nat.gcd x y ∧ Same w3 wr) (fun _ u _ => (intOf u).toNat)
      case atStart => exact ⟨x, z3, rfl, rfl, hx1, hrl, HGG.out, (Same.refl _)⟩
      case round =>
        obtain ⟨a, b, rfl, rfl, ha, hb, hg, hsm⟩ := hrel
        have HG := hide hg
        have HS := hide hsm
        clear hg hsm
        by_cases hb0 : b = 0
        · subst hb0
          have HE : Hid ((∃ v rs, Ending.returned (.slice (some ⟨wr.heap.size, 0, none⟩) 1 1) = .returned v ∧ Ans (wr.alloc (.cells #[.int .u64 (a : Int)] 33)) base v rs ∧ tr rs = rs ∧ val rs = Nat.gcd x y) ∧ Below base w (wr.alloc (.cells #[.int .u64 (a : Int)] 33))) := by
            have hga := HG.out
            rw [Nat.gcd_zero_right] at hga
            have hpos : 0 < Nat.gcd x y := Nat.gcd_pos_of_pos_left _ hx
            have hbk : Blk (wr.alloc (.cells #[.int .u64 (a : Int)] 33)) wr.heap.size [a] := heap_alloc_new ..
            have hsz : wr.heap.size = w3.heap.size := HS.out.size
            have AN := Ans.of_blk (base := base) (zs := [a]) (show base ≤ wr.heap.size by have := HW3.out.2; omega) hbk (by simp) (by simp) (by simp) (by intro z hz; simp at hz; omega)
            refine hide ⟨⟨_, [a], rfl, AN, ?_, ?_⟩, ?_⟩
            · have : a ≠ 0 := by omega
              simp [tr, this]
            · simp [val]; exact hga
            · have q1 : Below w.heap.size w wr := HW3.out.1.trans (HS.out.below _)
              have q2 := q1.alloc (show w.heap.size ≤ wr.heap.size from q1.size) (.cells #[.int .u64 (a : Int)] 33)
              exact q2.mono (by omega)
          go_wp2
          go_ret
          exact HE.out
        · have hpos : (0 : Int) < (b : Int) := by omega
          have hz : ((b : Int) == 0) = false := by rw [beq_eq_false_iff_ne]; omega
          have hlt' : a % b < b := Nat.mod_lt _ (by omega)
          have HGN : Hid (Nat.gcd b (a % b) = Nat.gcd x y) := by rw [← HG.out, Nat.gcd_comm a b, Nat.gcd_rec b a, Nat.gcd_comm]; exact hide rfl
          have hmod : (a : Int) % (b : Int) = ((a % b : Nat) : Int) := by omega
          generalize a % b = c at *
          clear hb0
          go_wp2
          go_quiet (fail)
          go_wp2
          go_roundw
          case rel => exact ⟨b, c, rfl, (by rw [hmod]), hb, by omega, HGN.out, HS.out.drewN _⟩
          case measure => simp [intOf]; omega
  · have hc : decide (cmpN x y < 0) = false := by
      unfold cmpN; rw [if_neg hlt]; split <;> decide
    rw [Nat.gcd_comm]
    generalize cmpN x y = cc at *
    have hcell : w.cell? ⟨gy, 0, none⟩ = some (.int .u64 (y : Int)) := by
      have h := hBy.cell 0 (by have := tr_length_le Zy; omega)
      rw [one_limb (Z := Zy) (by omega) (by have := tr_length_le Zy; omega), ey] at h
      exact h
    have hgp : gx < w.heap.size := A1.block (by omega)
    have hgs : gy < w.heap.size := hBy.lt
    have HB := hide hb1
    have HBB := hide hb2
    have HT := hide hT
    have HAP := hide A1
    have HAS := hide A2
    have HVS := hide (show val (tr Zx) = x ∧ val (tr Zy) = y from ⟨by rw [val_tr]; exact ex, by rw [val_tr]; exact ey⟩)
    have hle : y ≤ x := by omega
    have lpp : (tr Zx).length = 1 := l1
    have HLS := hide (And.intro lpp l2)
    clear hBx hLx hBy hLy hT A1 A2 ex ey g1 g2 lpp l1 l2 htb
    go_enter Tryd.func23, Tryd.ntmps23
    go_wp2_with fail
    refine HC.mono ?_
    rintro e w1 ⟨rfl, hs1⟩
    have hcell1 : w1.cell? ⟨gy, 0, none⟩ = some (.int .u64 (y : Int)) := cell_below (hs1.below w.heap.size) hcell hgs
    have HS1 := hide hs1
    clear HC hcell hs1
    go_wp2
    refine wp_loop_rounds 1 ?_
    rw [rounds_succ]
    go_wp2
    have hsz1 : w1.heap.size = w.heap.size := HS1.out.size
    have A1S := (HAS.out.below (HS1.out.below _)).drew
    have HDV := divisorOf_any _ (tr Zy) w1.drew A1S (HT.out.below (HS1.out.below _).drew) (by rw [HVS.out.2]; omega) (by rw [HLS.out.2]; omega)
    rw [HVS.out.2] at HDV
    have HRS := hide (fun (w2 : World) (vd : Value) (hd : Dvs w2 w1.drew.heap.size vd y (tr (tr Zy)).length) (hb : Below w1.drew.heap.size w1.drew w2) =>
      show Calls Tryd.prog 27 #[vd, .slice (some ⟨gx, 0, none⟩) 1 Zx.length] w2 (RestDone w2 x y 1) by
        have h := rest_any _ vd (tr Zx) _ y _ w2 ((HAP.out.below (HS1.out.below _)).drew.below hb) hd ((HT.out.below (HS1.out.below _).drew).below hb) (by rw [HLS.out.1]; omega)
        rw [HVS.out.1, HLS.out.1] at h
        exact h)
    have hgs1 : gy < w1.drew.heap.size := by show gy < w1.heap.size; omega
    clear A1S
    go_region_with (first
      | (go_at_call 26; refine HDV.mono ?_; rintro e w2 ⟨⟨vd, rfl, hd⟩, hb2'⟩; have hcell2 := cell_below hb2' (show w1.drew.cell? ⟨gy, 0, none⟩ = some (.int .u64 (y : Int)) from hcell1) hgs1)
      | (go_at_call 27; refine (HRS.out _ _ hd hb2').mono ?_; rintro e w3 ⟨⟨vr, rs, rfl, A3, e3, l3, l4⟩, hb3'⟩; obtain ⟨g3, c3, z3, rfl, hg3, hc3, hz3⟩ := ans_some A3 (l4 hle); have hl3 : (0 : Int) < (rs.length : Int) := (by have := l4 hle; omega); have hl5 : 0 < rs.length := l4 hle; have hcell3 := cell_below hb3' hcell2 (Nat.lt_of_lt_of_le hgs1 hb2'.size)))
    all_goals
      have hr : z3 = x % y := by
        have h1 : val rs < 18446744073709551616 := by rw [e3]; exact Nat.lt_trans (Nat.mod_lt _ hy0) hy
        rw [← hz3.out, one_limb h1 (l4 hle), e3]
      have hrl : z3 < 18446744073709551616 := by rw [hr]; exact Nat.lt_trans (Nat.mod_lt _ hy0) hy
      have HGG : Hid (Nat.gcd y z3 = Nat.gcd y x) := by rw [hr, Nat.gcd_rec y x, Nat.gcd_comm]; exact hide rfl
      have HW3 : Hid (Below w.heap.size w w3 ∧ base ≤ w3.heap.size) := by
        have q1 : Below w.heap.size w w1.drew := (HS1.out.below _).drew
        have q2 : Below w.heap.size w w2 := q1.trans (hb2'.mono q1.size)
        have q3 := q2.trans (hb3'.mono q2.size)
        exact hide ⟨q3, by have := q3.size; omega⟩
      clear hz3 A3 e3 l3 l4 hb3' hb2' hd HDV HRS hcell1 hcell2 hcell3 hl3 hc3 hr
      simp only [List.getElem_toArray, List.getElem_cons_succ, List.getElem_cons_zero, Act.put, List.setIfInBounds_toArray, List.set_cons_zero, List.set_cons_succ]
      go_wp2
      go_loopw [6, 7] (fun v u wr => ∃ a b : Nat, v = .int .u64 a ∧ u = .int .u64 b ∧ a < 18446744073709551616 ∧ b < 18446744073709551616 ∧ Nat.gcd a b = Nat.gcd y x ∧ Same w3 wr) (fun _ u _ => (intOf u).toNat)
      case atStart => exact ⟨y, z3, rfl, rfl, hy, hrl, HGG.out, (Same.refl _)⟩
      case round =>
        obtain ⟨a, b, rfl, rfl, ha, hb, hg, hsm⟩ := hrel
        have HG := hide hg
        have HS := hide hsm
        clear hg hsm
        by_cases hb0 : b = 0
        · subst hb0
          have HE : Hid ((∃ v rs, Ending.returned (.slice (some ⟨wr.heap.size, 0, none⟩) 1 1) = .returned v ∧ Ans (wr.alloc (.cells #[.int .u64 (a : Int)] 33)) base v rs ∧ tr rs = rs ∧ val rs = Nat.gcd y x) ∧ Below base w (wr.alloc (.cells #[.int .u64 (a : Int)] 33))) := by
            have hga := HG.out
            rw [Nat.gcd_zero_right] at hga
            have hpos : 0 < Nat.gcd y x := Nat.gcd_pos_of_pos_left _ hy0
            have hbk : Blk (wr.alloc (.cells #[.int .u64 (a : Int)] 33)) wr.heap.size [a] := heap_alloc_new ..
            have hsz : wr.heap.size = w3.heap.size := HS.out.size
            have AN := Ans.of_blk (base := base) (zs := [a]) (show base ≤ wr.heap.size by have := HW3.out.2; omega) hbk (by simp) (by simp) (by simp) (by intro z hz; simp at hz; omega)
            refine hide ⟨⟨_, [a], rfl, AN, ?_, ?_⟩, ?_⟩
            · have : a ≠ 0 := by omega
              simp [tr, this]
            · simp [val]; exact hga
            · have q1 : Below w.heap.size w wr := HW3.out.1.trans (HS.out.below _)
              have q2 := q1.alloc (show w.heap.size ≤ wr.heap.size from q1.size) (.cells #[.int .u64 (a : Int)] 33)
              exact q2.mono (by omega)
          go_wp2
          go_ret
          exact HE.out
        · have hpos : (0 : Int) < (b : Int) := by omega
          have hz : ((b : Int) == 0) = false := by rw [beq_eq_false_iff_ne]; omega
          have hlt' : a % b < b := Nat.mod_lt _ (by omega)
          have HGN : Hid (Nat.gcd b (a % b) = Nat.gcd y x) := by rw [← HG.out, Nat.gcd_comm a b, Nat.gcd_rec b a, Nat.gcd_comm]; exact hide rfl
          have hmod : (a : Int) % (b : Int) = ((a % b : Nat) : Int) := by omega
          generalize a % b = c at *
          clear hb0
          go_wp2
          go_quiet (fail)
          go_wp2
          go_roundw
          case rel => exact ⟨b, c, rfl, (by rw [hmod]), hb, by omega, HGN.out, HS.out.drewN _⟩
          case measure => simp [intOf]; omega

/-- Powers of two beside odd numbers. -/
theorem gcd_twos {x y i j : Nat} (hx : x % 2 = 1) (hy : y % 2 = 1) : Nat.gcd (x * 2 ^ i) (y * 2 ^ j) = Nat.gcd x y * 2 ^ min i j := by
  have cop : ∀ (z k : Nat), z % 2 = 1 → Nat.Coprime z (2 ^ k) := by
    intro z k hz
    refine Nat.Coprime.pow_right k ?_
    have h1 : Nat.gcd z 2 = Nat.gcd 2 (z % 2) := by rw [Nat.gcd_comm, Nat.gcd_rec, Nat.gcd_comm]
    show Nat.gcd z 2 = 1
    rw [h1, hz]; decide
  rcases Nat.le_total i j with h | h
  · obtain ⟨d, rfl⟩ : ∃ d, j = i + d := ⟨j - i, by omega⟩
    rw [Nat.min_eq_left h, Nat.pow_add, Nat.mul_comm (2 ^ i) (2 ^ d), ← Nat.mul_assoc, Nat.gcd_mul_right]
    rw [Nat.Coprime.gcd_mul_right_cancel_right y (cop x d hx).symm]
  · obtain ⟨d, rfl⟩ : ∃ d, i = j + d := ⟨i - j, by omega⟩
    rw [Nat.min_eq_right h, Nat.pow_add, Nat.mul_comm (2 ^ j) (2 ^ d), ← Nat.mul_assoc, Nat.gcd_mul_right]
    rw [Nat.Coprime.gcd_mul_right_cancel x (cop y d hy).symm]

/-- What Gcd answers. -/
def GcdDone (w : World) (G : Nat) (e : Ending) (w' : World) : Prop :=
  (∃ v rs, e = .returned v ∧ Ans w' w.heap.size v rs ∧ tr rs = rs ∧ val rs = G) ∧ Below w.heap.size w w'

set_option maxRecDepth 20000 in
set_option maxHeartbeats 1000000 in
theorem gcd_of (va vb : Value) (X Y : List Nat) (w : World) (hA : Arg w va X) (hA2 : Arg w vb Y) (hT : Tab w) (hf1 : X.length ≤ 17592186044000) (hf2 : Y.length ≤ 17592186044000) (hX : val X ≠ 0) (hY : val Y ≠ 0)
    (hE : ∀ i j, 0 < val X / 2 ^ i → 0 < val Y / 2 ^ j → EuclidOk (val X / 2 ^ i) (val Y / 2 ^ j)) :
    Calls Tryd.prog 8 #[va, vb] w (GcdDone w (Nat.gcd (val X) (val Y))) := by
  have Z1 := isZero_any va X w hA
  have Z2 := isZero_any vb Y w hA2
  rw [decide_eq_false hX] at Z1
  rw [decide_eq_false hY] at Z2
  have O1 := oddPart_any va X w hA hT hX (by omega)
  have HA1 := hide hA
  have HA2 := hide hA2
  have HT := hide hT
  have HE := hide hE
  have HXY := hide (And.intro hX hY)
  obtain ⟨a1, c1, rfl, _, _, _⟩ := hA.form
  obtain ⟨a2, c2, rfl, _, _, _⟩ := hA2.form
  have htab := hT.1
  clear hA hA2 hT hE hX hY
  go_enter Tryd.func8, Tryd.ntmps8
  go_wp2_with fail
  refine Z1.mono ?_
  rintro e wn ⟨rfl, hw⟩; rw [hw]; clear hw wn Z1
  go_wp2_with fail
  refine Z2.mono ?_
  rintro e wn ⟨rfl, hw⟩; rw [hw]; clear hw wn Z2
  go_wp2_with fail
  refine O1.mono ?_
  rintro e w1 ⟨⟨g1, t1, P, rfl, hg1, B1, L1, I1, e1, m1, l1⟩, hb1⟩
  have O2 := oddPart_any _ Y w1 (HA2.out.below hb1) (HT.out.below hb1) HXY.out.2 (by omega)
  have H1 := hide (And.intro B1 (And.intro L1 (And.intro I1 (And.intro e1 m1))))
  have HB1 := hide hb1
  clear O1 B1 L1 I1 e1 m1 hb1
  go_wp2_with fail
  refine O2.mono ?_
  rintro e w2 ⟨⟨g2, t2, R, rfl, hg2, B2, L2, I2, e2, m2, l2⟩, hb2⟩
  have HB2 := hide (HB1.out.trans (hb2.mono HB1.out.size))
  have hE := HE.out t1 t2
  have v1 : val X / 2 ^ t1 = val P := by rw [← H1.out.2.2.2.1, Nat.mul_div_cancel _ (Nat.two_pow_pos _)]
  have v2 : val Y / 2 ^ t2 = val R := by rw [← e2, Nat.mul_div_cancel _ (Nat.two_pow_pos _)]
  rw [v1, v2] at hE
  have hsz1 := HB1.out.size
  have EU := hE (by have := H1.out.2.2.2.2; omega) (by omega) g1 g2 w.heap.size P R w2 (H1.out.1.below hb2 H1.out.1.lt) H1.out.2.1 B2 L2 (by have := H1.out.1.lt; omega) hg1 (by omega) (HT.out.below HB2.out) htab rfl rfl (by omega) (by omega)
  have H2 := hide (And.intro I2 (And.intro e2 m2))
  clear O2 B2 L2 I2 e2 m2 hb2 hE v1 v2
  go_wp2_with fail
  refine EU.mono ?_
  rintro e w3 ⟨⟨v3, rs3, rfl, A3, t3, e3⟩, hb3⟩
  have HB3 := hide (HB2.out.trans hb3)
  have T1 := tail_any _ X w3 (HA1.out.below HB3.out) (HT.out.below HB3.out)
  have T2 := tail_any _ Y w3 (HA2.out.below HB3.out) (HT.out.below HB3.out)
  have H3 := hide (And.intro A3 (And.intro t3 e3))
  clear EU hb3 A3 t3 e3
  go_wp2_with fail
  refine T1.mono ?_
  rintro e wn ⟨⟨s1, hs1, rfl, _, i1⟩, hw⟩; rw [hw]; clear hw wn T1
  go_wp2_with fail
  refine T2.mono ?_
  rintro e wn ⟨⟨s2, hs2, rfl, _, i2⟩, hw⟩; rw [hw]; clear hw wn T2
  have q1 := isTail_uniq (i1 HXY.out.1) H1.out.2.2.1
  have q2 := isTail_uniq (i2 HXY.out.2) H2.out.1
  obtain ⟨t, et, ht1, ht2, ht3⟩ : ∃ t : Nat, min (s1 : Int) (s2 : Int) = (t : Int) ∧ t ≤ s1 ∧ t ≤ s2 ∧ (t = min s1 s2) := ⟨min s1 s2, by omega, by omega, by omega, rfl⟩
  have HG : Hid (Nat.gcd (val P) (val R) * 2 ^ t = Nat.gcd (val X) (val Y)) := by
    rw [← H1.out.2.2.2.1, ← H2.out.2.1, gcd_twos H1.out.2.2.2.2 H2.out.2.2, ht3, q1, q2]; exact hide rfl
  have hgp : 0 < Nat.gcd (val X) (val Y) := Nat.gcd_pos_of_pos_left _ (Nat.pos_of_ne_zero HXY.out.1)
  have hr3 : 0 < rs3.length := by
    rcases Nat.eq_zero_or_pos rs3.length with h | h
    · have : val rs3 = 0 := by rw [List.length_eq_zero_iff.1 h]; rfl
      rw [H3.out.2.2] at this
      rw [← HG.out, this, Nat.zero_mul] at hgp
      omega
    · exact h
  have hlen : t / 64 + rs3.length ≤ 35184372088000 := by
    have h1 : rs3.length ≤ P.length := by
      have h2 := tr_len_lt rs3 P.length (by
        rw [H3.out.2.2]
        have hp : 0 < val P := by have := H1.out.2.2.2.2; omega
        exact Nat.lt_of_le_of_lt (Nat.gcd_le_left _ hp) (val_lt H1.out.2.1))
      rw [H3.out.2.1] at h2
      exact h2
    have : t ≤ 64 * X.length := by omega
    omega
  have TT := timesTwos_any v3 rs3 t w3 (H3.out.1.arg (by omega)) hr3 hlen
  rw [H3.out.2.2, HG.out] at TT
  have HQ := hide (And.intro q1 (And.intro q2 ht3))
  clear i1 i2 q1 q2 ht3 hgp hr3 hlen
  go_wp2_with fail
  refine TT.mono ?_
  rintro e w4 ⟨⟨v4, rs4, rfl, A4, t4, e4⟩, hb4⟩
  have HX : Hid (GcdDone w (Nat.gcd (val X) (val Y)) (.returned v4) w4) := hide ⟨⟨v4, rs4, rfl, A4.base HB3.out.size, t4, e4⟩, HB3.out.trans (hb4.mono HB3.out.size)⟩
  clear TT A4 t4 e4 hb4
  go_wp2
  go_ret
  exact HX.out

end Go.Proofs.YtelfjadonlgkiabDoor

/- The example of the laws of package div. -/
namespace Go.Proofs.YtelfjadonlgkiabDoor
open Go.RowKit
open Lm

theorem gcd_small (va vb : Value) (x y : Nat) (w : World) (hA : Arg w va [x]) (hA2 : Arg w vb [y]) (hT : Tab w) (hx : 0 < x) (hy : 0 < y) (hx1 : x < 18446744073709551616) (hy1 : y < 18446744073709551616) :
    Calls Tryd.prog 8 #[va, vb] w (GcdDone w (Nat.gcd x y)) := by
  have e1 : val [x] = x := by simp [val]
  have e2 : val [y] = y := by simp [val]
  have h := gcd_of va vb [x] [y] w hA hA2 hT (by simp) (by simp) (by omega) (by omega) (fun i j h1 h2 => by
    rw [e1] at h1 ⊢
    rw [e2] at h2 ⊢
    exact euclid_one _ _ h1 (Nat.lt_of_le_of_lt (Nat.div_le_self _ _) hx1) h2 (Nat.lt_of_le_of_lt (Nat.div_le_self _ _) hy1))
  rw [e1, e2] at h
  exact h

theorem blen_few {x : Nat} (h : x < 18446744073709551616) : blen x ≤ 67108864 := by
  have : blen x ≤ 64 := (blen_le_iff x 64).2 h
  omega

set_option maxRecDepth 20000 in
set_option maxHeartbeats 1000000 in
theorem lives3_any (w : World) (hT : Tab w) : Calls Tryd.prog 6 #[] w fun e w' => e = .returned (.bool true) ∧ Below w.heap.size w w' := by
  have HT := hide hT
  clear hT
  go_enter Tryd.func6, Tryd.ntmps6
  go_wp2_with fail
  have hs1 : (w.alloc (.cells #[.int .u64 100] 33)).heap.size = w.heap.size + 1 := by simp
  have hA := (Arg.lits w [100] #[.int .u64 100] 1 rfl rfl (by intro z hz; simp at hz; omega) (by simp)).more (.cells #[.int .u64 7] 33)
  have hA2 := Arg.lits (w.alloc (.cells #[.int .u64 100] 33)) [7] #[.int .u64 7] 1 rfl rfl (by intro z hz; simp at hz; omega) (by simp)
  rw [hs1] at hA2
  have hb0 : Below w.heap.size w ((w.alloc (.cells #[.int .u64 100] 33)).alloc (.cells #[.int .u64 7] 33)) := ((Below.refl _ _).alloc (Nat.le_refl _) _).alloc (by rw [hs1]; omega) _
  refine (dBoth_any _ _ [100] [7] _ hA hA2 (HT.out.below hb0) (by simp) (by simp) (by decide)).mono ?_
  rintro e w1 ⟨⟨v1, v2, c, r1, r2, mid, rfl, An1, hmid, _, An2, hres⟩, hb⟩
  have hb1 : Below w.heap.size w w1 := hb0.trans (hb.mono hb0.size)
  rw [show val [100] / val [7] = 14 by decide, show val [100] % val [7] = 2 by decide] at hres
  rcases hres with ⟨rfl, ev1, tv1, ev2, tv2, _, _⟩ | ⟨_, _, _, hbad⟩
  · have l1 : r1.length = 1 := by
      have := (tr_one (Z := r1) (by omega) (by omega)).1
      rwa [tv1] at this
    have l2 : r2.length = 1 := by
      have := (tr_one (Z := r2) (by omega) (by omega)).1
      rwa [tv2] at this
    have HA1 := hide (And.intro (An1.arg (by omega)) ev1)
    have HA2 := hide (And.intro (An2.arg (by omega)) ev2)
    obtain ⟨a1, k1, rfl, _, _, _⟩ := (An1.arg (by omega)).form
    rw [l1] at HA1 ⊢
    have HB1 := hide hb1
    clear An1 An2 hb hb0 hb1 hA hA2 hs1 ev1 tv1 ev2 tv2 l1 l2 hmid
    go_wp2_with fail
    have h14 := Arg.lits w1 [14] #[.int .u64 14] 1 rfl rfl (by intro z hz; simp at hz; omega) (by simp)
    have hb2 : Below w1.heap.size w1 (w1.alloc (.cells #[.int .u64 14] 33)) := (Below.refl _ _).alloc (Nat.le_refl _) _
    have HC := compare_any _ _ _ _ _ (HA1.out.1.below hb2) h14
    rw [HA1.out.2, show cmpN 14 (val [14]) = 0 by decide] at HC
    refine HC.mono ?_
    rintro e w2 ⟨rfl, hs⟩
    have HB2 := hide (HB1.out.trans ((hb2.mono HB1.out.size).trans (hs.below _)))
    have HW2 := hide (hb2.trans (hs.below _))
    clear HC hs hb2 h14
    go_wp2_with fail
    have h2 := Arg.lits w2 [2] #[.int .u64 2] 1 rfl rfl (by intro z hz; simp at hz; omega) (by simp)
    have hb3 : Below w2.heap.size w2 (w2.alloc (.cells #[.int .u64 2] 33)) := (Below.refl _ _).alloc (Nat.le_refl _) _
    have HC := compare_any _ _ _ _ _ ((HA2.out.1.below HW2.out).below hb3) h2
    rw [HA2.out.2, show cmpN 2 (val [2]) = 0 by decide] at HC
    refine HC.mono ?_
    rintro e w3 ⟨rfl, hs⟩
    have HB3 := hide (HB2.out.trans ((hb3.mono HB2.out.size).trans (hs.below _)))
    clear HC hs hb3 h2
    go_wp2_with fail
    have hs3 : (w3.alloc (.cells #[.int .u64 48] 33)).heap.size = w3.heap.size + 1 := by simp
    have h48 := (Arg.lits w3 [48] #[.int .u64 48] 1 rfl rfl (by intro z hz; simp at hz; omega) (by simp)).more (.cells #[.int .u64 36] 33)
    have h36 := Arg.lits (w3.alloc (.cells #[.int .u64 48] 33)) [36] #[.int .u64 36] 1 rfl rfl (by intro z hz; simp at hz; omega) (by simp)
    rw [hs3] at h36
    have hb4 : Below w3.heap.size w3 ((w3.alloc (.cells #[.int .u64 48] 33)).alloc (.cells #[.int .u64 36] 33)) := ((Below.refl _ _).alloc (Nat.le_refl _) _).alloc (by rw [hs3]; omega) _
    have HB4 := hide (HB3.out.trans (hb4.mono HB3.out.size))
    have HG := gcd_small _ _ 48 36 _ h48 h36 (HT.out.below HB4.out) (by omega) (by omega) (by omega) (by omega)
    rw [show Nat.gcd 48 36 = 12 by decide] at HG
    clear h48 h36 hb4 hs3
    refine HG.mono ?_
    rintro e w5 ⟨⟨v5, r5, rfl, A5, t5, e5⟩, hb5⟩
    have l5 : r5.length = 1 := by
      have := (tr_one (Z := r5) (by omega) (by omega)).1
      rwa [t5] at this
    have HA5 := hide (And.intro (A5.arg (by omega)) e5)
    have HB5 := hide (HB4.out.trans (hb5.mono HB4.out.size))
    clear HG A5 t5 e5 hb5 l5
    go_wp2_with fail
    have h12 := Arg.lits w5 [12] #[.int .u64 12] 1 rfl rfl (by intro z hz; simp at hz; omega) (by simp)
    have hb6 : Below w5.heap.size w5 (w5.alloc (.cells #[.int .u64 12] 33)) := (Below.refl _ _).alloc (Nat.le_refl _) _
    have HC := compare_any _ _ _ _ _ (HA5.out.1.below hb6) h12
    rw [HA5.out.2, show cmpN 12 (val [12]) = 0 by decide] at HC
    refine HC.mono ?_
    rintro e w6 ⟨rfl, hs⟩
    have HB6 := hide (HB5.out.trans ((hb6.mono HB5.out.size).trans (hs.below _)))
    clear HC hs hb6 h12
    go_wp2
    go_ret
    exact ⟨rfl, HB6.out⟩
  · have := blen_few (x := 14) (by omega)
    have := blen_few (x := 2) (by omega)
    omega

end Go.Proofs.YtelfjadonlgkiabDoor
