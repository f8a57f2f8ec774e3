/- The walk of the law MulSplits. -/
import Derived.Test.YtmloigbacfllhaaDoorRefMZ
import Derived.Test.YtmloigbacfllhaaDoorQI
import Derived.Test.YtmloigbacfllhaaDoorQH
namespace Go.Proofs.YtmloigbacfllhaaDoor
open Go.RowKit
open Lm

theorem take_mod (X : List Nat) (hX : Limbs X) (k : Nat) : val ((tr X).take k) = val X % 18446744073709551616 ^ k ∧ val ((tr X).drop k) = val X / 18446744073709551616 ^ k := by
  rw [← val_tr X]
  have hT := limbs_tr hX
  generalize tr X = P at *
  by_cases h : k ≤ P.length
  · have e := val_halves P k h
    have hl := val_take_lt' hT k h
    rw [e]
    generalize val (P.take k) = a at *
    generalize val (P.drop k) = b at *
    generalize (18446744073709551616 : Nat) ^ k = W at *
    rw [Nat.add_mul_mod_self_left, Nat.mod_eq_of_lt hl, Nat.add_mul_div_left _ _ (by omega), Nat.div_eq_of_lt hl, Nat.zero_add]
    exact ⟨rfl, rfl⟩
  · have hl : val P < 18446744073709551616 ^ k := Nat.lt_of_lt_of_le (val_lt hT) (Nat.pow_le_pow_right (by omega) (by omega))
    rw [List.take_of_length_le (by omega), List.drop_of_length_le (by omega), Nat.mod_eq_of_lt hl, Nat.div_eq_of_lt hl]
    exact ⟨rfl, rfl⟩

theorem Res2.few {w : World} {base : Nat} {v1 v2 : Value} {c : Int} {r1 r2 : List Nat} {s t : Nat} (_ : Ans w base v1 r1) (_ : Ans w base v2 r2)
    (h : (c = 0 ∧ val r1 = s ∧ tr r1 = r1 ∧ val r2 = t ∧ tr r2 = r2 ∧ blen s ≤ 67108864 ∧ blen t ≤ 67108864) ∨ (c = 3 ∧ r1 = [] ∧ r2 = [] ∧ (67108864 < blen s ∨ 67108864 < blen t))) : r1.length ≤ 1048576 ∧ r2.length ≤ 1048576 := by
  rcases h with ⟨_, h1, h2, h3, h4, h5, h6⟩ | ⟨_, rfl, rfl, _⟩
  · have a := few_limbs r1 1048576 (by rw [h1]; omega)
    have b := few_limbs r2 1048576 (by rw [h3]; omega)
    rw [h2] at a
    rw [h4] at b
    exact ⟨a, b⟩
  · simp

/-- Own, of two answers apart from each other. -/
theorem own_two (base : Nat) (v1 v2 : Value) (r1 r2 : List Nat) (w : World) (h1 : Ans w base v1 r1) (h2 : Ans w base v2 r2) (a1 : v1.ownBlock = none ∨ v1.ownBlock ≠ v2.ownBlock) (a2 : v2.ownBlock = none ∨ v2.ownBlock ≠ v1.ownBlock) (l1 : r1.length ≤ 17592186044000) (l2 : r2.length ≤ 17592186044000) (hb : base ≤ w.heap.size) :
    Calls Tryd.prog 12 #[.slice (some ⟨w.heap.size, 0, none⟩) 2 2] (w.alloc (.cells #[v1, v2] 22)) fun e w' => e = .returned (.bool true) ∧ Below base w w' := by
  have hal := (Below.refl w.heap.size w).alloc (Nat.le_refl _) (.cells #[v1, v2] 22)
  have hst : St (w.alloc (.cells #[v1, v2] 22)) base w.heap.size [v1, v2] (fun i => [r1, r2].getD i []) := by
    refine ⟨by rw [heap_alloc_new], fun i hi => ?_, fun i j hi hj hij => ?_⟩
    · match i, hi with
      | 0, _ => exact h1.below hal
      | 1, _ => exact h2.below hal
      | n + 2, hi => simp at hi; omega
    · match i, j, hi, hj, hij with
      | 0, 0, _, _, hij => exact absurd rfl hij
      | 0, 1, _, _, _ => exact a1
      | 1, 0, _, _, _ => exact a2
      | 1, 1, _, _, hij => exact absurd rfl hij
      | n + 2, _, hi, _, _ => simp at hi; omega
      | 0, n + 2, _, hj, _ => simp at hj; omega
      | 1, n + 2, _, hj, _ => simp at hj; omega
  refine (own_any w.heap.size base [v1, v2] (fun i => [r1, r2].getD i []) _ hst (by simp) ?_ hb).mono ?_
  · intro i hi
    match i, hi with
    | 0, _ => exact l1
    | 1, _ => exact l2
    | n + 2, hi => simp at hi; omega
  · rintro e w' ⟨rfl, hbel⟩
    exact ⟨rfl, ((Below.refl _ _).alloc hb _).trans hbel⟩

set_option maxRecDepth 100000 in
set_option maxHeartbeats 1000000 in
theorem mulSplits_no (v0 : Value) (z0 : List Nat) (k : Int) (w : World) (hT : Tab w) (A0 : Arg w v0 z0) (s0 : z0.length ≤ 17592186043904) (hk : k < 0) :
    Calls Tryd.prog 6 #[v0, .int .i64 k] w fun e w' => e = .returned (.bool true) ∧ Below w.heap.size w w' := by
  have HB : Hid (Below w.heap.size w w) := Below.refl _ _
  have bx := A0.bits s0
  have HT := hide hT
  have HM := hide (take_mod z0 A0.limbs)
  clear hT
  go_enter Tryd.func6, Tryd.ntmps6
  go_wp2_with fail
  refine (lend_ok _ _ _ A0 (by omega)).mono ?_
  rintro e wn ⟨⟨vw, vp, rfl, Lw, Ap⟩, hb⟩
  replace HB := hid_below HB hb; replace A0 := A0.below hb; clear hb
  go_wp2_with fail
  refine (of_any _ _ _ A0 (by omega)).mono ?_
  rintro e w1 ⟨⟨vx, rfl, Nx⟩, hb⟩
  replace HB := hid_below HB hb; replace A0 := A0.below hb; replace Lw := Lw.below hb; replace Ap := Ap.below hb; clear hb
  go_wp2_with fail
  refine (rsplit_no vx k w1 hk).mono ?_
  rintro e w2 ⟨rfl, hw⟩; subst hw
  go_wp2_with fail
  refine (msplit_no vp k w2 hk).mono ?_
  rintro e w3 ⟨rfl, hw⟩; subst hw
  have H3 : Hid (Below w3.heap.size w3 w3) := Below.refl _ _
  clear Nx HM
  go_wp2_with fail
  refine (alike_err none 0 _ 1 _ (by omega)).mono ?_
  rintro e wn ⟨rfl, hw⟩; subst hw
  go_wp2_with fail
  refine (alike_err none 0 _ 1 _ (by omega)).mono ?_
  rintro e wn ⟨rfl, hw⟩; subst hw
  obtain ⟨r1, l1⟩ : ∃ r : List Nat, r = [] := ⟨_, rfl⟩
  obtain ⟨r2, l2⟩ : ∃ r : List Nat, r = [] := ⟨_, rfl⟩
  have An1 : Ans wn wn.heap.size (.slice none 0 0) r1 := by rw [l1]; exact Ans.nil _ _
  have An2 : Ans wn wn.heap.size (.slice none 0 0) r2 := by rw [l2]; exact Ans.nil _ _
  have ap1 : (Value.slice none 0 0).ownBlock = none ∨ (Value.slice none 0 0).ownBlock ≠ (Value.slice none 0 0).ownBlock := .inl rfl
  have ap2 := ap1
  have l1' : r1.length ≤ 0 := by rw [l1]; simp
  have l2' : r2.length ≤ 0 := by rw [l2]; simp
  clear l1 l2
  go_wp2_with fail
  refine (kept_ok _ _ _ _ (Lw.below H3.out) (A0.below H3.out) (by omega)).mono ?_
  rintro e wn ⟨rfl, hw⟩; subst hw
  go_wp2_with fail
  refine (own_two wn.heap.size _ _ r1 r2 _ An1 An2 ap1 ap2 (by omega) (by omega) H3.out.size).mono ?_
  rintro e w12 ⟨rfl, hb⟩
  replace H3 : Hid (Below wn.heap.size wn w12) := H3.out.trans hb
  clear hb An1 An2
  go_wp2_with fail
  refine (kept_ok _ _ _ _ (Lw.below H3.out) (A0.below H3.out) (by omega)).mono ?_
  rintro e wn ⟨rfl, hw⟩; subst hw
  have HA := awake_any _ (HT.out.below (HB.out.trans (H3.out.mono HB.out.size)))
  clear A0 Lw Ap
  go_wp2_with fail
  refine HA.mono ?_
  rintro e w9 ⟨rfl, hb⟩
  replace H3 := hid_below H3 hb; clear hb HA
  go_wp2
  go_ret
  exact ⟨rfl, HB.out.trans (H3.out.mono HB.out.size)⟩

set_option maxRecDepth 100000 in
set_option maxHeartbeats 1000000 in
theorem mulSplits_yes (v0 : Value) (z0 : List Nat) (k : Int) (w : World) (hT : Tab w) (A0 : Arg w v0 z0) (s0 : z0.length ≤ 17592186043904) (hk : 0 ≤ k) :
    Calls Tryd.prog 6 #[v0, .int .i64 k] w fun e w' => e = .returned (.bool true) ∧ Below w.heap.size w w' := by
  have HB : Hid (Below w.heap.size w w) := Below.refl _ _
  have bx := A0.bits s0
  have HT := hide hT
  have HM := hide (take_mod z0 A0.limbs)
  clear hT
  go_enter Tryd.func6, Tryd.ntmps6
  go_wp2_with fail
  refine (lend_ok _ _ _ A0 (by omega)).mono ?_
  rintro e wn ⟨⟨vw, vp, rfl, Lw, Ap⟩, hb⟩
  replace HB := hid_below HB hb; replace A0 := A0.below hb; clear hb
  go_wp2_with fail
  refine (of_any _ _ _ A0 (by omega)).mono ?_
  rintro e w1 ⟨⟨vx, rfl, Nx⟩, hb⟩
  replace HB := hid_below HB hb; replace A0 := A0.below hb; replace Lw := Lw.below hb; replace Ap := Ap.below hb; clear hb
  go_wp2_with fail
  refine (rsplit_any vx _ k w1 Nx hk bx).mono ?_
  rintro e w3 ⟨hb, n1, n2, f, rfl, hn⟩
  replace HB := hid_below HB hb; replace A0 := A0.below hb; replace Lw := Lw.below hb; replace Ap := Ap.below hb; clear hb Nx
  have H3 : Hid (Below w3.heap.size w3 w3) := Below.refl _ _
  have HS := msplit_any vp z0 k w3 Ap hk (by omega)
  rw [(HM.out k.toNat).1, (HM.out k.toNat).2] at HS
  clear HM
  generalize val z0 % 18446744073709551616 ^ k.toNat = s at *
  generalize val z0 / 18446744073709551616 ^ k.toNat = t at *
  go_wp2_with fail
  refine HS.mono ?_
  rintro e w4 ⟨hb, v1, v2, c, r1, r2, rfl, An1, An2, ap1, ap2, hr⟩
  obtain ⟨l1, l2⟩ := Res2.few An1 An2 hr
  obtain ⟨o1, m1, q1, rfl⟩ := An1.slice
  obtain ⟨o2, m2, q2, rfl⟩ := An2.slice
  replace H3 := hid_below H3 hb
  rcases hr with ⟨rfl, e1, e2, e3, e4, e5, e6⟩ | ⟨rfl, e1, e2, e3⟩
  · rcases hn with ⟨rfl, N1, N2, _⟩ | ⟨_, h⟩
    · replace N1 := N1.below hb
      replace N2 := N2.below hb
      clear hb HS
      have HAL := alike_val _ n1 r1 s w4 (An1.arg (by omega)) N1 e1 e2 (by omega)
      clear e1 e2 N1
      go_wp2_with fail
      refine HAL.mono ?_
      rintro e w5 ⟨rfl, hb⟩
      replace H3 := hid_below H3 hb; replace An1 := An1.below hb; replace An2 := An2.below hb; replace N2 := N2.below hb; clear hb HAL
      have HAL := alike_val _ n2 r2 t w5 (An2.arg (by omega)) N2 e3 e4 (by omega)
      clear e3 e4 N2
      go_wp2_with fail
      refine HAL.mono ?_
      rintro e w6 ⟨rfl, hb⟩
      replace H3 := hid_below H3 hb; replace An1 := An1.below hb; replace An2 := An2.below hb; clear hb HAL
      go_wp2_with fail
      refine (kept_ok _ _ _ _ (Lw.below H3.out) (A0.below H3.out) (by omega)).mono ?_
      rintro e wn ⟨rfl, hw⟩; subst hw
      go_wp2_with fail
      refine (own_two w3.heap.size _ _ r1 r2 _ An1 An2 ap1 ap2 (by omega) (by omega) H3.out.size).mono ?_
      rintro e w12 ⟨rfl, hb⟩
      replace H3 : Hid (Below w3.heap.size w3 w12) := H3.out.trans hb
      clear hb An1 An2
      go_wp2_with fail
      refine (kept_ok _ _ _ _ (Lw.below H3.out) (A0.below H3.out) (by omega)).mono ?_
      rintro e wn ⟨rfl, hw⟩; subst hw
      have HA := awake_any _ (HT.out.below (HB.out.trans (H3.out.mono HB.out.size)))
      clear A0 Lw Ap
      go_wp2_with fail
      refine HA.mono ?_
      rintro e w9 ⟨rfl, hb⟩
      replace H3 := hid_below H3 hb; clear hb HA
      go_wp2
      go_ret
      exact ⟨rfl, HB.out.trans (H3.out.mono HB.out.size)⟩
    · omega
  · rcases hn with ⟨_, _, _, h⟩ | ⟨rfl, _⟩
    · omega
    · subst e1
      subst e2
      clear hb HS e3
      have z1 : m1 = 0 := by obtain ⟨_, _, h, _⟩ := (An1.arg (by simp)).form; cases h; rfl
      have z2 : m2 = 0 := by obtain ⟨_, _, h, _⟩ := (An2.arg (by simp)).form; cases h; rfl
      subst z1
      subst z2
      obtain ⟨r1, h1⟩ : ∃ r : List Nat, r = [] := ⟨_, rfl⟩
      obtain ⟨r2, h2⟩ : ∃ r : List Nat, r = [] := ⟨_, rfl⟩
      rw [← h1] at An1 l1
      rw [← h2] at An2 l2
      clear h1 h2
      go_wp2_with fail
      refine (alike_err o1 q1 _ 3 _ (by omega)).mono ?_
      rintro e wn ⟨rfl, hw⟩; subst hw
      go_wp2_with fail
      refine (alike_err o2 q2 _ 3 _ (by omega)).mono ?_
      rintro e wn ⟨rfl, hw⟩; subst hw
      go_wp2_with fail
      refine (kept_ok _ _ _ _ (Lw.below H3.out) (A0.below H3.out) (by omega)).mono ?_
      rintro e wn ⟨rfl, hw⟩; subst hw
      go_wp2_with fail
      refine (own_two w3.heap.size _ _ r1 r2 _ An1 An2 ap1 ap2 (by omega) (by omega) H3.out.size).mono ?_
      rintro e w12 ⟨rfl, hb⟩
      replace H3 : Hid (Below w3.heap.size w3 w12) := H3.out.trans hb
      clear hb An1 An2
      go_wp2_with fail
      refine (kept_ok _ _ _ _ (Lw.below H3.out) (A0.below H3.out) (by omega)).mono ?_
      rintro e wn ⟨rfl, hw⟩; subst hw
      have HA := awake_any _ (HT.out.below (HB.out.trans (H3.out.mono HB.out.size)))
      clear A0 Lw Ap
      go_wp2_with fail
      refine HA.mono ?_
      rintro e w9 ⟨rfl, hb⟩
      replace H3 := hid_below H3 hb; clear hb HA
      go_wp2
      go_ret
      exact ⟨rfl, HB.out.trans (H3.out.mono HB.out.size)⟩

theorem mulSplits_walk (v0 : Value) (z0 : List Nat) (k : Int) (w : World) (hT : Tab w) (A0 : Arg w v0 z0) (s0 : z0.length ≤ 17592186043904) (_h1 : -9223372036854775808 ≤ k) (_h2 : k ≤ 9223372036854775807) :
    Calls Tryd.prog 6 #[v0, .int .i64 k] w fun e w' => e = .returned (.bool true) ∧ Below w.heap.size w w' := by
  by_cases hk : k < 0
  · exact mulSplits_no v0 z0 k w hT A0 s0 hk
  · exact mulSplits_yes v0 z0 k w hT A0 s0 (by omega)

end Go.Proofs.YtmloigbacfllhaaDoor
