/- Package div: Split; the document's Split. -/
import Derived.Test.YtelfjadonlgkiaaDoorDivWZ
import Derived.Test.YtelfjadonlgkiaaDoorRef3Z
namespace Go.Proofs.YtelfjadonlgkiaaDoor
open Go.RowKit
open Lm
attribute [local go_sem ↓] Go.wp_at_zero Go.wp_at_succ

theorem dSplit_no (va vb : Value) (X Y : List Nat) (w : World) (hA : Arg w va X) (hA2 : Arg w vb Y) (h : val X = 0 ∨ val Y < 2) :
    Calls Tryd.prog 26 #[va, vb] w fun e w' => e = .returned (.tuple #[.int .i64 0, .slice none 0 0, .int .i64 1]) ∧ w' = w := by
  have HZ := isZero_any va X w hA
  have HL := length_val _ _ w hA2
  obtain ⟨a1, k1, rfl, _, _, _⟩ := hA.form
  obtain ⟨a2, k2, rfl, _, _, _⟩ := hA2.form
  clear hA hA2
  by_cases hx : val X = 0
  · rw [decide_eq_true hx] at HZ
    clear hx h HL
    go_enter Tryd.func26, Tryd.ntmps26
    go_wp2_with fail
    refine HZ.mono ?_
    rintro e wn ⟨rfl, hw⟩; subst hw
    clear HZ
    go_wp2
    go_returns
    exact ⟨rfl, rfl⟩
  · rw [decide_eq_false hx] at HZ
    have hb : blen (val Y) ≤ 1 := (blen_le_iff _ 1).2 (by omega)
    have i1 : (blen (val Y) : Int) < 2 := by omega
    generalize blen (val Y) = q at *
    clear hx h hb
    go_enter Tryd.func26, Tryd.ntmps26
    go_wp2_with fail
    refine HZ.mono ?_
    rintro e wn ⟨rfl, hw⟩; rw [hw]; clear hw wn HZ
    go_wp2_with fail
    refine HL.mono ?_
    rintro e wn ⟨rfl, hw⟩; subst hw
    clear HL
    go_wp2
    go_returns
    exact ⟨rfl, rfl⟩

/-- What Split answers. -/
def FaceSplit (w w' : World) (e : Ending) (x y : Nat) : Prop :=
  ∃ (n c : Nat) (m k : Int) (v : Value) (rs : List Nat), IsSplit x y n c ∧ e = .returned (.tuple #[.int .i64 m, v, .int .i64 k]) ∧ Ans w' w.heap.size v rs ∧
    ((k = 0 ∧ m = (n : Int) ∧ val rs = c ∧ tr rs = rs ∧ blen c ≤ 67108864) ∨ (k = 3 ∧ m = 0 ∧ rs = [] ∧ 67108864 < blen c))

set_option maxRecDepth 20000 in
set_option maxHeartbeats 1000000 in
theorem dSplit_any (va vb : Value) (X Y : List Nat) (w : World) (hA : Arg w va X) (hA2 : Arg w vb Y) (hT : Tab w) (hf1 : X.length ≤ 17592186043904) (hf2 : Y.length ≤ 17592186043904) (hX : 0 < val X) (hY : 2 ≤ val Y) :
    Calls Tryd.prog 26 #[va, vb] w fun e w' => FaceSplit w w' e (val X) (val Y) ∧ Below w.heap.size w w' := by
  have HZ := isZero_any va X w hA
  rw [decide_eq_false (by omega)] at HZ
  have HL := length_val _ _ w hA2
  have hb : 2 ≤ blen (val Y) := Nat.succ_le_of_lt (blen_lt_of (n := 1) (by omega))
  have i1 : ¬ ((blen (val Y) : Int) < 2) := by omega
  have HS := split_any (val X + 1) va vb X Y w (by omega) hA hA2 hT hf1 (by omega) hX hY
  obtain ⟨a1, k1, rfl, _, _, _⟩ := hA.form
  obtain ⟨a2, k2, rfl, _, _, _⟩ := hA2.form
  generalize blen (val Y) = q at *
  clear hA hA2 hT hb hX hY
  go_enter Tryd.func26, Tryd.ntmps26
  go_wp2_with fail
  refine HZ.mono ?_
  rintro e wn ⟨rfl, hw⟩; rw [hw]; clear hw wn HZ
  go_wp2_with fail
  refine HL.mono ?_
  rintro e wn ⟨rfl, hw⟩; rw [hw]; clear hw wn HL
  go_wp2_with fail
  refine HS.mono ?_
  rintro e w1 ⟨⟨n, v, rs, rfl, A1, s1, l1⟩, hb1⟩
  have HN := nnorm_any v rs w1 A1 (by omega)
  have HB1 := hide hb1
  have HS1 := hide s1
  clear HS A1 s1 hb1
  go_wp2_with fail
  refine HN.mono ?_
  rintro e w2 ⟨⟨v2, rfl, An2⟩, hb2⟩
  have hle := tr_length_le rs
  have HQ := danswer_own v2 w1.heap.size (tr rs) w2 An2 (by omega)
  rw [val_tr] at HQ
  have HB2 := hide (HB1.out.trans (hb2.mono HB1.out.size))
  clear HN An2 hb2
  go_wp2_with fail
  refine HQ.mono ?_
  rintro e w3 ⟨hw, v3, c3, r3, rfl, An3, hres⟩; subst hw
  clear HQ
  rcases hres with ⟨rfl, ev, tv, bl⟩ | ⟨rfl, rfl, bl⟩
  · have H3 := hide (And.intro An3 (And.intro ev (And.intro tv bl)))
    clear An3 ev tv bl
    go_wp2
    go_returns
    exact ⟨⟨n, val rs, _, _, v3, r3, HS1.out, rfl, H3.out.1.base HB1.out.size, .inl ⟨rfl, rfl, H3.out.2⟩⟩, HB2.out⟩
  · have H3 := hide bl
    clear An3 bl
    go_wp2
    go_returns
    exact ⟨⟨n, val rs, _, _, _, [], HS1.out, rfl, Ans.nil _ _, .inr ⟨rfl, rfl, rfl, H3.out⟩⟩, HB2.out⟩

theorem rSplit_no (va vb : Value) (x y : Nat) (w : World) (hA : Num w va x) (hA2 : Num w vb y) (h : x = 0 ∨ y < 2) :
    Calls Tryd.prog 27 #[va, vb] w fun e w' => e = .returned (.tuple #[.int .i64 0, .slice none 0 0, .int .i64 1]) ∧ w' = w := by
  have HZ := zero_any va x w hA
  have HL := len_any vb y w hA2
  clear hA hA2
  by_cases hx : x = 0
  · rw [show (x == 0) = true by simpa using hx] at HZ
    clear hx h HL
    go_enter Tryd.func27, Tryd.ntmps27
    go_wp2_with fail
    refine HZ.mono ?_
    rintro e wn ⟨rfl, hw⟩; subst hw
    clear HZ
    go_wp2
    go_returns
    exact ⟨rfl, rfl⟩
  · rw [show (x == 0) = false by rw [beq_eq_false_iff_ne]; exact hx] at HZ
    have hb : blen y ≤ 1 := (blen_le_iff _ 1).2 (by omega)
    have i1 : (blen y : Int) < 2 := by omega
    generalize blen y = q at *
    clear hx h hb
    go_enter Tryd.func27, Tryd.ntmps27
    go_wp2_with fail
    refine HZ.mono ?_
    rintro e wn ⟨rfl, hw⟩; rw [hw]; clear hw wn HZ
    go_wp2_with fail
    refine HL.mono ?_
    rintro e wn ⟨rfl, hw⟩; subst hw
    clear HL
    go_wp2
    go_returns
    exact ⟨rfl, rfl⟩

set_option maxRecDepth 20000 in
set_option maxHeartbeats 1000000 in
theorem rSplit_any (va vb : Value) (x y : Nat) (w : World) (hA : Num w va x) (hA2 : Num w vb y) (hx : 0 < x) (hy : 2 ≤ y) (f1 : blen x ≤ 1125899906809856) (f2 : blen y ≤ 1125899906809856) :
    Calls Tryd.prog 27 #[va, vb] w fun e w' => (∃ n c v, e = .returned (.tuple #[.int .i64 ((n : Nat) : Int), v, .int .i64 0]) ∧ Num w' v c ∧ IsSplit x y n c) ∧ Below w.heap.size w w' := by
  have HZ := zero_any va x w hA
  rw [show (x == 0) = false by rw [beq_eq_false_iff_ne]; omega] at HZ
  have HL := len_any vb y w hA2
  have hb : 2 ≤ blen y := Nat.succ_le_of_lt (blen_lt_of (n := 1) (by omega))
  have i1 : ¬ ((blen y : Int) < 2) := by omega
  have HA := hide hA
  have HA2 := hide hA2
  have HXY := hide (And.intro hx (And.intro hy (And.intro f1 f2)))
  obtain ⟨q, hq⟩ : ∃ q, blen y = q := ⟨_, rfl⟩
  rw [hq] at HL i1
  obtain ⟨M, hM⟩ : ∃ M, blen x = M := ⟨_, rfl⟩
  have HM := hide hM
  rw [hM] at f1
  clear hA hA2 hx hy f2 hb hq hM
  go_enter Tryd.func27, Tryd.ntmps27
  go_wp2_with fail
  refine HZ.mono ?_
  rintro e wn ⟨rfl, hw⟩; rw [hw]; clear hw wn HZ
  go_wp2_with fail
  refine HL.mono ?_
  rintro e wn ⟨rfl, hw⟩; rw [hw]; clear hw wn HL
  go_wp2
  go_loopw [0, 7] (fun a k wr => ∃ (va' : Value) (n c : Nat), a = va' ∧ k = .int .i64 n ∧ Num wr va' c ∧ x = y ^ n * c ∧ n ≤ M ∧ Below w.heap.size w wr) (fun _ k _ => M + 1 - (intOf k).toNat)
  case atStart => exact ⟨va, 0, x, rfl, rfl, HA.out, by simp, Nat.zero_le _, Below.refl _ _⟩
  case round =>
    obtain ⟨va', n, c, rfl, rfl, hn, hx, hnM, hbel⟩ := hrel
    have hc0 : 0 < c := by
      rcases Nat.eq_zero_or_pos c with z | z
      · rw [z, Nat.mul_zero] at hx
        have := HXY.out.1
        omega
      · exact z
    have hcx : c ≤ x := by
      rw [hx]
      exact Nat.le_mul_of_pos_left _ (Nat.pow_pos (by have := HXY.out.2.1; omega))
    have hcb : blen c ≤ 1125899906809856 := Nat.le_trans ((blen_le_iff c _).2 (Nat.lt_of_le_of_lt hcx ((blen_le_iff x _).1 (Nat.le_refl _)))) HXY.out.2.2.1
    have HD := rdivides_any _ vb c y wr hn (HA2.out.below hbel) hcb HXY.out.2.2.2
    have HQ := hide hn
    have HXC := hide hx
    have HBW := hide hbel
    have HCB := hide hcb
    clear hn hx hbel hcb hcx
    by_cases hr : c % y = 0
    · rw [decide_eq_true hr] at HD
      have hn1 : n + 1 ≤ M := by
        have e3 : c = y * (c / y) := by have := Nat.div_add_mod c y; omega
        have h1 : 2 ^ (n + 1) ≤ x := by
          have h2 : 0 < c / y := by
            rcases Nat.eq_zero_or_pos (c / y) with z | z
            · rw [z, Nat.mul_zero] at e3; omega
            · exact z
          rw [HXC.out, e3, ← Nat.mul_assoc, ← Nat.pow_succ]
          exact Nat.le_trans (Nat.pow_le_pow_left HXY.out.2.1 _) (Nat.le_mul_of_pos_right _ h2)
        have := blen_lt_of h1
        rw [HM.out] at this
        omega
      have HNX : Hid (x = y ^ (n + 1) * (c / y)) := by
        have e3 : c = y * (c / y) := by have := Nat.div_add_mod c y; omega
        refine hide ?_
        rw [Nat.pow_succ, Nat.mul_assoc, ← e3]; exact HXC.out
      clear hr hc0
      go_wp2_with fail
      refine HD.mono ?_
      rintro e w2 ⟨rfl, hb2⟩
      have HB2 := hide (HBW.out.trans (hb2.mono HBW.out.size))
      have HV := rdiv_any _ vb c y w2 (HQ.out.below hb2) (HA2.out.below HB2.out) (by have := HXY.out.2.1; omega) (by have := HCB.out; omega) HXY.out.2.2.2
      clear HD hb2
      go_wp2_with fail
      refine HV.mono ?_
      rintro e w3 ⟨⟨vq, vr, rfl, Nq, Nr⟩, hb3⟩
      have HB3 := hide (HB2.out.trans (hb3.mono HB2.out.size))
      have HN3 := hide Nq
      clear HV Nq Nr hb3
      go_wp2
      go_roundw
      case rel => exact ⟨vq, n + 1, c / y, rfl, by go_num, HN3.out, HNX.out, hn1, HB3.out⟩
      case measure => simp [intOf]; omega
    · rw [decide_eq_false hr] at HD
      have HR := hide hr
      clear hr hc0
      go_wp2_with fail
      refine HD.mono ?_
      rintro e w2 ⟨rfl, hb2⟩
      have HB2 := hide (HBW.out.trans (hb2.mono HBW.out.size))
      have HN2 := hide (HQ.out.below hb2)
      clear HD hb2
      go_wp2
      go_returns
      exact ⟨⟨n, c, _, rfl, HN2.out, ⟨HXC.out, HR.out⟩⟩, HB2.out⟩

end Go.Proofs.YtelfjadonlgkiaaDoor
