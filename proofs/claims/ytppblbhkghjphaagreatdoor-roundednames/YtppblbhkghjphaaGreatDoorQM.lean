/- Package div: rest, Both, Quo, Rest, Divides. -/
import Derived.Test.YtppblbhkghjphaaGreatDoorQL
namespace Go.Proofs.YtppblbhkghjphaaGreatDoor
open Go.RowKit
open Lm
attribute [local go_sem ↓] Go.wp_at_zero Go.wp_at_succ

/-- What rest answers. -/
def RestDone (w : World) (x B k : Nat) (e : Ending) (w' : World) : Prop :=
  (∃ (vr : Value) (rs : List Nat), e = .returned vr ∧ Ans w' w.heap.size vr rs ∧ val rs = x % B ∧ rs.length ≤ k ∧ (B ≤ x → 1 ≤ rs.length)) ∧ Below w.heap.size w w'

/-- Two answers one behind the other, or an error. -/
def Res2M (w w' : World) (e : Ending) (s t : Nat) : Prop :=
  ∃ v1 v2 c r1 r2 mid, e = .returned (.tuple #[v1, v2, .int .i64 c]) ∧ Ans w' w.heap.size v1 r1 ∧ (w.heap.size ≤ mid ∧ mid ≤ w'.heap.size) ∧ (∀ g, v1.ownBlock = some g → g < mid) ∧ Ans w' mid v2 r2 ∧
    ((c = 0 ∧ val r1 = s ∧ tr r1 = r1 ∧ val r2 = t ∧ tr r2 = r2 ∧ blen s ≤ 67108864 ∧ blen t ≤ 67108864) ∨ (c = 3 ∧ r1 = [] ∧ r2 = [] ∧ (67108864 < blen s ∨ 67108864 < blen t)))

/-- answer, with the block that it answers. -/
theorem danswer_top (v : Value) (base : Nat) (xs : List Nat) (w : World) (h : Ans w base v xs) (hf : xs.length ≤ 1125899906842624) :
    Calls Tryz.prog 54 #[v] w fun e w' => w' = w ∧ ∃ v' c rs, e = .returned (.tuple #[v', .int .i64 c]) ∧ Ans w base v' rs ∧ (∀ g, v'.ownBlock = some g → v.ownBlock = some g) ∧ ((c = 0 ∧ val rs = val xs ∧ tr rs = rs ∧ blen (val xs) ≤ 67108864) ∨ (c = 3 ∧ rs = [] ∧ 67108864 < blen (val xs))) := by
  have ha := h.arg hf
  obtain ⟨ao, cap, rfl, hcap, hmax, hlies⟩ := ha.form
  have hle := tr_length_le xs
  have H1 := dtrim_any _ cap xs w hcap hmax hlies
  have H2 := length_val _ _ _ ha
  have HA : Hid (Ans w base (.slice ao (tr xs).length cap) (tr xs)) := h.trim
  have HT : Hid (tr (tr xs) = tr xs ∧ val (tr xs) = val xs) := ⟨tr_tr xs, val_tr xs⟩
  generalize tr xs = T at *
  generalize val xs = V at *
  generalize blen V = y at *
  clear hlies h ha
  by_cases hy : y ≤ 67108864
  · go_enter Tryz.func54, Tryz.ntmps54
    go_wp2_with fail
    refine H2.mono ?_
    rintro e w' ⟨rfl, rfl⟩
    go_wp2_with fail
    refine H1.mono ?_
    rintro e w' ⟨rfl, rfl⟩
    go_wp2
    go_ret2
    exact ⟨rfl, _, _, T, rfl, HA.out, (fun g e => by cases ao <;> exact e), .inl ⟨rfl, HT.out.2, HT.out.1, hy⟩⟩
  · go_enter Tryz.func54, Tryz.ntmps54
    go_wp2_with fail
    refine H2.mono ?_
    rintro e w' ⟨rfl, rfl⟩
    go_wp2
    go_ret2
    exact ⟨rfl, _, _, [], rfl, Ans.nil _ _, (fun g e => (by cases e)), .inr ⟨rfl, rfl, by omega⟩⟩

/-- A quotient has at least as many bits as its number has more than the divisor. -/
theorem quo_long {x y k : Nat} (hy : 0 < y) (h : k + blen y < blen x) : k < blen (x / y) := by
  refine Nat.lt_of_not_le fun hle => ?_
  have h1 := (blen_le_iff (x / y) k).1 hle
  have h2 : y < 2 ^ blen y := (blen_le_iff y _).1 (Nat.le_refl _)
  have h3 : x < 2 ^ (k + blen y) := by
    rw [Nat.div_lt_iff_lt_mul hy] at h1
    rw [Nat.pow_add]
    exact Nat.lt_of_lt_of_le h1 (Nat.mul_le_mul_left _ (Nat.le_of_lt h2))
  have := (blen_le_iff x _).2 h3
  omega

set_option maxRecDepth 20000 in
set_option maxHeartbeats 1000000 in
theorem dBoth_any (va vb : Value) (X Y : List Nat) (w : World) (hA : Arg w va X) (hA2 : Arg w vb Y) (hT : Tab w) (hf1 : X.length ≤ 17592186044416) (hf2 : Y.length ≤ 17592186044416) (hY : val Y ≠ 0) :
    Calls Tryz.prog 42 #[va, vb] w fun e w' => Res2M w w' e (val X / val Y) (val X % val Y) ∧ Below w.heap.size w w' := by
  have HR := refusal_any va vb X Y w hA hA2
  have HDV := divisorOf_any vb Y w hA2 hT hY (by omega)
  have HA := hide hA
  have HT := hide hT
  obtain ⟨a1, c1, rfl, _, _, _⟩ := hA.form
  obtain ⟨a2, c2, rfl, _, _, _⟩ := hA2.form
  have hr : refusalN (val X) (val Y) = if 67108864 + blen (val Y) < blen (val X) then 3 else 0 := by unfold refusalN; rw [if_neg hY]
  rw [hr] at HR
  have HY := hide (show 0 < val Y by omega)
  clear hA hA2 hT hr hY
  by_cases hb : 67108864 + blen (val Y) < blen (val X)
  · rw [if_pos hb] at HR
    have HX : Hid (67108864 < blen (val X / val Y)) := hide (quo_long HY.out hb)
    clear HDV hb
    go_enter Tryz.func42, Tryz.ntmps42
    go_wp2_with fail
    refine HR.mono ?_
    rintro e wn ⟨rfl, hw⟩; subst hw
    clear HR
    go_wp2
    go_returns
    exact ⟨⟨_, _, _, [], [], wn.heap.size, rfl, Ans.nil _ _, ⟨Nat.le_refl _, Nat.le_refl _⟩, (fun g e => (by cases e)), Ans.nil _ _, .inr ⟨rfl, rfl, rfl, .inl HX.out⟩⟩, Below.refl _ _⟩
  · rw [if_neg hb] at HR
    clear hb
    go_enter Tryz.func42, Tryz.ntmps42
    go_wp2_with fail
    refine HR.mono ?_
    rintro e wn ⟨rfl, hw⟩; rw [hw]; clear hw wn
    go_wp2_with fail
    refine HDV.mono ?_
    rintro e w1 ⟨⟨vd, rfl, hd⟩, hb1⟩
    have H1 := both_any _ vd X _ _ _ w1 (HA.out.below hb1) hd (HT.out.below hb1) hf1
    have HB1 := hide hb1
    clear hd hb1 HDV HR
    go_wp2_with fail
    refine H1.mono ?_
    rintro e w2 ⟨⟨vq, vr, qs, rs, mid, rfl, A1, hmid, hq, A2, e1, e2, l1, l2, _⟩, hb2⟩
    have HQ := danswer_top vq w1.heap.size qs w2 A1 (by omega)
    have HRR := danswer_own vr mid rs w2 A2 (by omega)
    have HB2 := hide (HB1.out.trans (hb2.mono HB1.out.size))
    have HM := hide (And.intro (Nat.le_trans HB1.out.size hmid.1) (And.intro hmid.2 hq))
    rw [e1] at HQ
    rw [e2] at HRR
    clear A1 A2 hmid hq e1 e2 l1 l2 hb2 H1
    go_wp2_with fail
    refine HQ.mono ?_
    rintro e w3 ⟨hw, v1, c1, r1, rfl, An1, hown, hres⟩; subst hw
    clear HQ
    rcases hres with ⟨rfl, ev1, tv1, bl1⟩ | ⟨rfl, rfl, bl1⟩
    · have H1 := hide (And.intro An1 (And.intro hown (And.intro ev1 (And.intro tv1 bl1))))
      clear An1 hown ev1 tv1 bl1
      go_wp2_with fail
      refine HRR.mono ?_
      rintro e w4 ⟨hw, v2, c2, r2, rfl, An2, hres⟩; subst hw
      clear HRR
      rcases hres with ⟨rfl, ev2, tv2, bl2⟩ | ⟨rfl, rfl, bl2⟩
      · have H2 := hide (And.intro An2 (And.intro ev2 (And.intro tv2 bl2)))
        clear An2 ev2 tv2 bl2
        go_wp2
        go_returns
        obtain ⟨a1, a2, a3, a4, a5⟩ := H1.out
        obtain ⟨b1, b2, b3, b4⟩ := H2.out
        exact ⟨⟨v1, v2, _, r1, r2, mid, rfl, a1.base HB1.out.size, ⟨HM.out.1, HM.out.2.1⟩, (fun g e => HM.out.2.2 g (a2 g e)), b1, .inl ⟨rfl, a3, a4, b2, b3, a5, b4⟩⟩, HB2.out⟩
      · have H2 := hide bl2
        clear An2 bl2
        go_wp2
        go_returns
        exact ⟨⟨_, _, _, [], [], w.heap.size, rfl, Ans.nil _ _, ⟨Nat.le_refl _, HB2.out.size⟩, (fun g e => (by cases e)), Ans.nil _ _, .inr ⟨rfl, rfl, rfl, .inr H2.out⟩⟩, HB2.out⟩
    · have H2 := hide bl1
      clear An1 hown bl1 HRR
      go_wp2
      go_returns
      exact ⟨⟨_, _, _, [], [], w.heap.size, rfl, Ans.nil _ _, ⟨Nat.le_refl _, HB2.out.size⟩, (fun g e => (by cases e)), Ans.nil _ _, .inr ⟨rfl, rfl, rfl, .inl H2.out⟩⟩, HB2.out⟩

end Go.Proofs.YtppblbhkghjphaaGreatDoor

/- Package div: Both by 0, Quo, Rest, Divides. -/
namespace Go.Proofs.YtppblbhkghjphaaGreatDoor
open Go.RowKit
open Lm
attribute [local go_sem ↓] Go.wp_at_zero Go.wp_at_succ

theorem dBoth_zero (va vb : Value) (X Y : List Nat) (w : World) (hA : Arg w va X) (hA2 : Arg w vb Y) (hY : val Y = 0) :
    Calls Tryz.prog 42 #[va, vb] w fun e w' => e = .returned (.tuple #[.slice none 0 0, .slice none 0 0, .int .i64 30]) ∧ w' = w := by
  have HR := refusal_any va vb X Y w hA hA2
  have hr : refusalN (val X) (val Y) = 30 := if_pos hY
  rw [hr] at HR
  obtain ⟨a1, c1, rfl, _, _, _⟩ := hA.form
  obtain ⟨a2, c2, rfl, _, _, _⟩ := hA2.form
  clear hA hA2 hr hY
  go_enter Tryz.func42, Tryz.ntmps42
  go_wp2_with fail
  refine HR.mono ?_
  rintro e wn ⟨rfl, hw⟩; subst hw
  clear HR
  go_wp2
  go_returns
  exact ⟨rfl, rfl⟩

theorem dQuo_zero (va vb : Value) (X Y : List Nat) (w : World) (hA : Arg w va X) (hA2 : Arg w vb Y) (hY : val Y = 0) :
    Calls Tryz.prog 55 #[va, vb] w fun e w' => e = .returned (.tuple #[.slice none 0 0, .int .i64 30]) ∧ w' = w := by
  have HR := refusal_any va vb X Y w hA hA2
  have hr : refusalN (val X) (val Y) = 30 := if_pos hY
  rw [hr] at HR
  obtain ⟨a1, c1, rfl, _, _, _⟩ := hA.form
  obtain ⟨a2, c2, rfl, _, _, _⟩ := hA2.form
  clear hA hA2 hr hY
  go_enter Tryz.func55, Tryz.ntmps55
  go_wp2_with fail
  refine HR.mono ?_
  rintro e wn ⟨rfl, hw⟩; subst hw
  clear HR
  go_wp2
  go_returns
  exact ⟨rfl, rfl⟩

set_option maxRecDepth 20000 in
set_option maxHeartbeats 1000000 in
theorem dQuo_any (va vb : Value) (X Y : List Nat) (w : World) (hA : Arg w va X) (hA2 : Arg w vb Y) (hT : Tab w) (hf1 : X.length ≤ 17592186044416) (hf2 : Y.length ≤ 17592186044416) (hY : val Y ≠ 0) :
    Calls Tryz.prog 55 #[va, vb] w fun e w' => Below w.heap.size w w' ∧ Res w' w.heap.size e (val X / val Y) := by
  have HR := refusal_any va vb X Y w hA hA2
  have HDV := divisorOf_any vb Y w hA2 hT hY (by omega)
  have HA := hide hA
  have HT := hide hT
  obtain ⟨a1, c1, rfl, _, _, _⟩ := hA.form
  obtain ⟨a2, c2, rfl, _, _, _⟩ := hA2.form
  have hr : refusalN (val X) (val Y) = if 67108864 + blen (val Y) < blen (val X) then 3 else 0 := by unfold refusalN; rw [if_neg hY]
  rw [hr] at HR
  have HY := hide (show 0 < val Y by omega)
  clear hA hA2 hT hr hY
  by_cases hb : 67108864 + blen (val Y) < blen (val X)
  · rw [if_pos hb] at HR
    have HX : Hid (67108864 < blen (val X / val Y)) := hide (quo_long HY.out hb)
    clear HDV hb
    go_enter Tryz.func55, Tryz.ntmps55
    go_wp2_with fail
    refine HR.mono ?_
    rintro e wn ⟨rfl, hw⟩; subst hw
    clear HR
    go_wp2
    go_returns
    exact ⟨Below.refl _ _, _, _, [], rfl, Ans.nil _ _, .inr ⟨rfl, rfl, HX.out⟩⟩
  · rw [if_neg hb] at HR
    clear hb
    go_enter Tryz.func55, Tryz.ntmps55
    go_wp2_with fail
    refine HR.mono ?_
    rintro e wn ⟨rfl, hw⟩; rw [hw]; clear hw wn
    go_wp2_with fail
    refine HDV.mono ?_
    rintro e w1 ⟨⟨vd, rfl, hd⟩, hb1⟩
    have H1 := both_any _ vd X _ _ _ w1 (HA.out.below hb1) hd (HT.out.below hb1) hf1
    have HB1 := hide hb1
    clear hd hb1 HDV HR
    go_wp2_with fail
    refine H1.mono ?_
    rintro e w2 ⟨⟨vq, vr, qs, rs, mid, rfl, A1, hmid, hq, A2, e1, e2, l1, l2, _⟩, hb2⟩
    have HQ := danswer_own vq w1.heap.size qs w2 A1 (by omega)
    have HB2 := hide (HB1.out.trans (hb2.mono HB1.out.size))
    rw [e1] at HQ
    clear A1 A2 hmid hq e1 e2 l1 l2 hb2 H1
    go_wp2_with fail
    refine HQ.mono ?_
    rintro e w3 ⟨hw, v1, c1, r1, rfl, An1, hres⟩; subst hw
    have H1 := hide (And.intro An1 hres)
    clear HQ An1 hres
    go_wp2
    go_returns
    exact ⟨HB2.out, v1, _, r1, rfl, H1.out.1.base HB1.out.size, H1.out.2⟩

end Go.Proofs.YtppblbhkghjphaaGreatDoor
