/- The walk of the law MulIdentity. -/
import Derived.Test.YtmloigbacfllhabDoorRefLZ
import Derived.Test.YtmloigbacfllhabDoorQG
import Derived.Test.YtmloigbacfllhabDoorQI
import Derived.Test.YtmloigbacfllhabDoorLoHiZ
import Derived.Test.YtmloigbacfllhabDoorPrtZ
namespace Go.Proofs.YtmloigbacfllhabDoor
open Go.RowKit
open Lm

theorem take_mod2 (X : List Nat) (hX : Limbs X) (k : Nat) : val ((tr X).take k) = val X % 18446744073709551616 ^ k ∧ val ((tr X).drop k) = val X / 18446744073709551616 ^ k := by
  rw [← val_tr X]
  have hT := limbs_tr hX
  generalize tr X = P at *
  by_cases h : k ≤ P.length
  · have e := val_halves P k h
    have hl := val_take_lt' hT k h
    rw [e]
    generalize val (P.take k) = a at *
    generalize val (P.drop k) = b at *
    generalize (18446744073709551616 : Nat) ^ k = W at *
    rw [Nat.add_mul_mod_self_left, Nat.mod_eq_of_lt hl, Nat.add_mul_div_left _ _ (by omega), Nat.div_eq_of_lt hl, Nat.zero_add]
    exact ⟨rfl, rfl⟩
  · have hl : val P < 18446744073709551616 ^ k := Nat.lt_of_lt_of_le (val_lt hT) (Nat.pow_le_pow_right (by omega) (by omega))
    rw [List.take_of_length_le (by omega), List.drop_of_length_le (by omega), Nat.mod_eq_of_lt hl, Nat.div_eq_of_lt hl]
    exact ⟨rfl, rfl⟩

theorem blen_shl (x n : Nat) : blen (x * 2 ^ n) ≤ blen x + n := by
  rw [blen_le_iff, Nat.pow_add]
  exact Nat.mul_lt_mul_of_pos_right (lt_blen x) (Nat.pow_pos (by omega))

theorem blen_add (x y n : Nat) (hx : blen x ≤ n) (hy : blen y ≤ n) : blen (x + y) ≤ n + 1 := by
  rw [blen_le_iff] at *
  rw [Nat.pow_succ]
  omega

theorem rlimbs_num (v : Value) (x : Nat) (w : World) (h : Num w v x) (hb : blen x ≤ 1125899906809856) :
    Calls Tryd.prog 36 #[v] w fun e w' => (∃ v' rs, e = .returned v' ∧ Arg w' v' rs ∧ val rs = x ∧ rs.length ≤ 17592186043904) ∧ Below w.heap.size w w' := by
  obtain ⟨ds, hd1, hd2, hd3, hd4, hd5⟩ := h
  have hl := num_len hd2 hd3 35184372087808 (by rw [hd4]; omega)
  have hp := pairs_length ds
  refine (limbs_any v ds w hd1 hd2 (by omega)).mono ?_
  rintro e w' ⟨⟨v', rfl, hans⟩, hbel⟩
  exact ⟨⟨v', pairs ds, rfl, hans.arg (by omega), by rw [pairs_val, hd4], by omega⟩, hbel⟩

theorem all0_6 (a b c d e f : Int) : all0 [a, b, c, d, e, f] = decide (a = 0 ∧ b = 0 ∧ c = 0 ∧ d = 0 ∧ e = 0 ∧ f = 0) := by
  unfold all0
  simp [List.all_cons, Bool.decide_and]
  rfl

theorem all0_1 (a : Int) : all0 [a] = decide (a = 0) := by
  unfold all0
  simp [List.all_cons]
  rfl

theorem ident_sum (x y k : Nat) : (x / 18446744073709551616 ^ k) * (y / 18446744073709551616 ^ k) * 2 ^ (128 * k) + ((x % 18446744073709551616 ^ k) * (y / 18446744073709551616 ^ k) + (x / 18446744073709551616 ^ k) * (y % 18446744073709551616 ^ k)) * 2 ^ (64 * k) + (x % 18446744073709551616 ^ k) * (y % 18446744073709551616 ^ k) = x * y := by
  have e1 : (2 : Nat) ^ (64 * k) = 18446744073709551616 ^ k := by rw [W_pow, Nat.mul_comm]
  have e2 : (2 : Nat) ^ (128 * k) = 18446744073709551616 ^ k * 18446744073709551616 ^ k := by
    rw [← e1, ← Nat.pow_add]; congr 1; omega
  rw [e1, e2]
  have hx := Nat.div_add_mod x (18446744073709551616 ^ k)
  have hy := Nat.div_add_mod y (18446744073709551616 ^ k)
  conv => rhs; rw [← hx, ← hy]
  generalize x / 18446744073709551616 ^ k = x1
  generalize x % 18446744073709551616 ^ k = x0
  generalize y / 18446744073709551616 ^ k = y1
  generalize y % 18446744073709551616 ^ k = y0
  generalize (18446744073709551616 : Nat) ^ k = W
  grind

theorem ident_cross (x0 x1 y0 y1 : Nat) : (x0 + x1) * (y0 + y1) = (x0 * y1 + x1 * y0) + x0 * y0 + x1 * y1 := by grind

theorem res_zero' {c : Int} {rs : List Nat} {s : Nat} (h : (c = 0 ∧ val rs = s ∧ tr rs = rs ∧ blen s ≤ 67108864) ∨ (c = 3 ∧ rs = [] ∧ 67108864 < blen s)) (hc : c = 0) : val rs = s ∧ blen s ≤ 67108864 := by
  rcases h with ⟨_, h, _, h'⟩ | ⟨h, _⟩
  · exact ⟨h, h'⟩
  · omega

set_option maxRecDepth 100000 in
set_option maxHeartbeats 4000000 in
theorem mulIdentity_in (v0 : Value) (z0 : List Nat) (v1 : Value) (z1 : List Nat) (k : Nat) (w : World) (hT : Tab w) (A0 : Arg w v0 z0) (s0 : z0.length ≤ 17592186043904) (A1 : Arg w v1 z1) (s1 : z1.length ≤ 17592186043904) (hk : k ≤ 1048576) :
    Calls Tryd.prog 7 #[v0, v1, .int .i64 k] w fun e w' => e = .returned (.bool true) ∧ Below w.heap.size w w' := by
  have H : Hid (Below w.heap.size w w) := Below.refl _ _
  have HT := hide hT
  have HX := take_mod2 z0 A0.limbs
  have HY := take_mod2 z1 A1.limbs
  have hlow := low_prod (val z0) (val z1) k
  rw [← (HX (limbsOf k)).1, ← (HY (limbsOf k)).1] at hlow
  have HLOW := hide hlow
  have lx : ((tr z0).take (limbsOf k)).length ≤ 4294967296 := by simp [limbsOf]; omega
  have ly : ((tr z1).take (limbsOf k)).length ≤ 4294967296 := by simp [limbsOf]; omega
  have hx := HX k
  have hy := HY k
  have HXY := hide (And.intro hx hy)
  have K := hide (((Args.none w).add A1).add A0)
  have kd1 : decide ((k : Int) < 0) = false := decide_eq_false (by omega)
  have kd2 : decide ((1048576 : Int) < (k : Int)) = false := decide_eq_false (by omega)
  clear hT A0 A1 HX HY hlow hx hy
  go_enter Tryd.func7, Tryd.ntmps7
  have HM := mul_any v0 v1 z0 z1 _ (K.out (v0, z0) (by simp)) (K.out (v1, z1) (by simp)) (HT.out.below H.out) (by omega)
  go_wp2_with fail
  refine HM.mono ?_
  rintro e w1 ⟨hb, vp, c1, rp, rfl, An, h1⟩
  have l1 := Res.few An h1
  replace K := hide ((K.out.below hb).add (An.arg (by omega)))
  replace H := hid_below H hb
  clear hb HM An
  have HM := parts_any v0 v1 z0 z1 (k : Int) _ (K.out (v0, z0) (by simp)) (K.out (v1, z1) (by simp)) (HT.out.below H.out) (by omega) (by omega) (by omega)
  rw [Int.toNat_natCast, HXY.out.1.1, HXY.out.1.2, HXY.out.2.1, HXY.out.2.2] at HM
  go_wp2_with fail
  refine HM.mono ?_
  rintro e w2 ⟨hb, vl, vm, vh, c2, rl, rm, rh, rfl, ⟨_, _, Al, _, _, _, Am, _, _, _, Ah, _⟩, h2⟩
  have l2 : rl.length ≤ 1048576 ∧ rm.length ≤ 1048576 ∧ rh.length ≤ 1048576 := by
    rcases h2 with ⟨_, ⟨a1, a2⟩, ⟨a3, a4⟩, ⟨a5, a6⟩, a7, a8, a9⟩ | ⟨_, rfl, rfl, rfl, _⟩
    · have b1 := few_limbs rl 1048576 (by rw [a1]; omega)
      have b2 := few_limbs rm 1048576 (by rw [a3]; omega)
      have b3 := few_limbs rh 1048576 (by rw [a5]; omega)
      rw [a2] at b1; rw [a4] at b2; rw [a6] at b3
      exact ⟨b1, b2, b3⟩
    · simp
  obtain ⟨l2a, l2b, l2c⟩ := l2
  replace K := hide ((((K.out.below hb).add (Al.arg (by omega))).add (Am.arg (by omega))).add (Ah.arg (by omega)))
  replace H := hid_below H hb
  clear hb HM Al Am Ah
  have HM := msplit_any v0 z0 (k : Int) _ (K.out (v0, z0) (by simp)) (by omega) (by omega)
  rw [Int.toNat_natCast, HXY.out.1.1, HXY.out.1.2] at HM
  go_wp2_with fail
  refine HM.mono ?_
  rintro e w3 ⟨hb, val', vah, c3, ral, rah, rfl, Al, Ah, _, _, h3⟩
  have l3 : ral.length ≤ 1048576 ∧ rah.length ≤ 1048576 := by
    rcases h3 with ⟨_, a1, a2, a3, a4, a5, a6⟩ | ⟨_, rfl, rfl, _⟩
    · have b1 := few_limbs ral 1048576 (by rw [a1]; omega)
      have b2 := few_limbs rah 1048576 (by rw [a3]; omega)
      rw [a2] at b1; rw [a4] at b2
      exact ⟨b1, b2⟩
    · simp
  obtain ⟨l3a, l3b⟩ := l3
  replace K := hide (((K.out.below hb).add (Al.arg (by omega))).add (Ah.arg (by omega)))
  replace H := hid_below H hb
  clear hb HM Al Ah
  have HM := msplit_any v1 z1 (k : Int) _ (K.out (v1, z1) (by simp)) (by omega) (by omega)
  rw [Int.toNat_natCast, HXY.out.2.1, HXY.out.2.2] at HM
  go_wp2_with fail
  refine HM.mono ?_
  rintro e w4 ⟨hb, vbl, vbh, c4, rbl, rbh, rfl, Al, Ah, _, _, h4⟩
  have l4 : rbl.length ≤ 1048576 ∧ rbh.length ≤ 1048576 := by
    rcases h4 with ⟨_, a1, a2, a3, a4, a5, a6⟩ | ⟨_, rfl, rfl, _⟩
    · have b1 := few_limbs rbl 1048576 (by rw [a1]; omega)
      have b2 := few_limbs rbh 1048576 (by rw [a3]; omega)
      rw [a2] at b1; rw [a4] at b2
      exact ⟨b1, b2⟩
    · simp
  obtain ⟨l4a, l4b⟩ := l4
  replace K := hide (((K.out.below hb).add (Al.arg (by omega))).add (Ah.arg (by omega)))
  replace H := hid_below H hb
  clear hb HM Al Ah
  have HM := mlow_any v0 v1 z0 z1 k _ (K.out (v0, z0) (by simp)) (K.out (v1, z1) (by simp)) (HT.out.below H.out) (by omega) lx ly HLOW.out
  go_wp2_with fail
  refine HM.mono ?_
  rintro e w5 ⟨hb, vlo, c5, rlo, rfl, An, h5⟩
  have l5 := Res.few An h5
  replace K := hide ((K.out.below hb).add (An.arg (by omega)))
  replace H := hid_below H hb
  clear hb HM An
  have HM := mhigh_any v0 v1 z0 z1 k _ (K.out (v0, z0) (by simp)) (K.out (v1, z1) (by simp)) (HT.out.below H.out) (by omega) (by omega) (.inl (by omega))
  go_wp2_with fail
  refine HM.mono ?_
  rintro e w6 ⟨hb, vhi, c6, rhi, rfl, An, h6⟩
  have l6 := Res.few An h6
  replace K := hide ((K.out.below hb).add (An.arg (by omega)))
  replace H := hid_below H hb
  clear hb HM An lx ly HLOW HXY
  have HM := all_lits w6 [c1, c2, c3, c4, c5, c6] _ 6 rfl rfl (by simp)
  rw [all0_6] at HM
  by_cases hall : c1 = 0 ∧ c2 = 0 ∧ c3 = 0 ∧ c4 = 0 ∧ c5 = 0 ∧ c6 = 0
  · rw [decide_eq_true hall] at HM
    obtain ⟨k1, k2, k3, k4, k5, k6⟩ := hall
    have G1 := hide (res_zero' h1 k1)
    have G5 := hide (res_zero' h5 k5)
    have G6 := hide (res_zero' h6 k6)
    have G2 := hide (h2.resolve_right (fun h => by omega)).2
    have G3 := hide (h3.resolve_right (fun h => by omega)).2
    have G4 := hide (h4.resolve_right (fun h => by omega)).2
    clear h1 h2 h3 h4 h5 h6 k1 k2 k3 k4 k5 k6
    go_wp2_with fail
    refine HM.mono ?_
    rintro e w7 ⟨rfl, hb⟩
    replace K := hide (K.out.below hb)
    replace H := hid_below H hb
    clear hb HM
    have HM := lsum_any val' vah ral rah _ (K.out (val', ral) (by simp)) (K.out (vah, rah) (by simp)) (by omega) (by omega)
    go_wp2_with fail
    refine HM.mono ?_
    rintro e w8 ⟨⟨vs, rs, rfl, An, g1, _, l7⟩, hb⟩
    replace K := hide ((K.out.below hb).add (An.arg (by omega)))
    replace H := hid_below H hb
    have S1 := hide g1
    clear hb HM An g1
    have HM := lsum_any vbl vbh rbl rbh _ (K.out (vbl, rbl) (by simp)) (K.out (vbh, rbh) (by simp)) (by omega) (by omega)
    go_wp2_with fail
    refine HM.mono ?_
    rintro e w9 ⟨⟨vt, rt, rfl, An, g2, _, l8⟩, hb⟩
    replace K := hide ((K.out.below hb).add (An.arg (by omega)))
    replace H := hid_below H hb
    have S2 := hide g2
    clear hb HM An g2
    have HM := mul_any vs vt rs rt _ (K.out (vs, rs) (by simp)) (K.out (vt, rt) (by simp)) (HT.out.below H.out) (by omega)
    go_wp2_with fail
    refine HM.mono ?_
    rintro e w10 ⟨hb, vc, c7, rc, rfl, An, h7⟩
    have l9 := Res.few An h7
    replace K := hide ((K.out.below hb).add (An.arg (by omega)))
    replace H := hid_below H hb
    clear hb HM An
    have HM := all_lits w10 [c7] _ 1 rfl rfl (by simp)
    rw [all0_1] at HM
    by_cases h70 : c7 = 0
    · rw [decide_eq_true h70] at HM
      have G7 := hide (res_zero' h7 h70).1
      clear h7 h70
      go_wp2_with fail
      refine HM.mono ?_
      rintro e w11 ⟨rfl, hb⟩
      replace K := hide (K.out.below hb)
      replace H := hid_below H hb
      clear hb HM
      have bh : blen (val rh) ≤ 67108864 := by rw [G2.out.2.2.1.1]; exact G2.out.2.2.2.2.2
      have bm : blen (val rm) ≤ 67108864 := by rw [G2.out.2.1.1]; exact G2.out.2.2.2.2.1
      have bhi : blen (val rhi) ≤ 67108864 := by rw [G6.out.1]; exact G6.out.2
      have blo : blen (val rlo) ≤ 67108864 := by rw [G5.out.1]; exact G5.out.2
      obtain ⟨n1, en1, hn1⟩ : ∃ n : Nat, (128 : Int) * (k : Int) = (n : Int) ∧ n = 128 * k := ⟨128 * k, by omega, rfl⟩
      obtain ⟨n2, en2, hn2⟩ : ∃ n : Nat, (64 : Int) * (k : Int) = (n : Int) ∧ n = 64 * k := ⟨64 * k, by omega, rfl⟩
      have HN12 := hide (And.intro hn1 hn2)
      have n1b : n1 ≤ 134217728 := by omega
      have n2b : n2 ≤ 67108864 := by omega
      clear hn1 hn2
      have HM := of_any vh rh _ (K.out (vh, rh) (by simp)) (by omega)
      go_wp2_with fail
      refine HM.mono ?_
      rintro e w12 ⟨⟨xh, rfl, Nh⟩, hb⟩
      replace K := hide (K.out.below hb)
      replace H := hid_below H hb
      clear hb HM
      have HM := rshl_any xh (val rh) n1 _ Nh (by omega)
      clear Nh
      go_wp2_with fail
      refine HM.mono ?_
      rintro e w13 ⟨⟨yh, rfl, Mh⟩, hb⟩
      replace K := hide (K.out.below hb)
      replace H := hid_below H hb
      clear hb HM
      have HM := of_any vm rm _ (K.out (vm, rm) (by simp)) (by omega)
      go_wp2_with fail
      refine HM.mono ?_
      rintro e w14 ⟨⟨xm, rfl, Nm⟩, hb⟩
      replace K := hide (K.out.below hb)
      replace H := hid_below H hb
      replace Mh := Mh.below hb
      clear hb HM
      have HM := rshl_any xm (val rm) n2 _ Nm (by omega)
      clear Nm
      go_wp2_with fail
      refine HM.mono ?_
      rintro e w15 ⟨⟨ym, rfl, Mm⟩, hb⟩
      replace Mh := Mh.below hb
      replace K := hide (K.out.below hb)
      replace H := hid_below H hb
      clear hb HM
      have b1 := blen_shl (val rh) n1
      have b2 := blen_shl (val rm) n2
      have HM := radd_any yh ym _ _ _ Mh Mm (by omega) (by omega)
      clear Mh Mm
      go_wp2_with fail
      refine HM.mono ?_
      rintro e w16 ⟨⟨yu, rfl, Mu⟩, hb⟩
      replace K := hide (K.out.below hb)
      replace H := hid_below H hb
      clear hb HM
      have HM := rlimbs_num yu _ _ Mu (by have := blen_add (val rh * 2 ^ n1) (val rm * 2 ^ n2) 268435456 (by omega) (by omega); omega)
      clear Mu b1 b2
      go_wp2_with fail
      refine HM.mono ?_
      rintro e w17 ⟨⟨vu, ru, rfl, An, eu, lu⟩, hb⟩
      replace K := hide ((K.out.below hb).add An)
      replace H := hid_below H hb
      have GU := hide eu
      clear hb HM An eu
      have HM := of_any vhi rhi _ (K.out (vhi, rhi) (by simp)) (by omega)
      go_wp2_with fail
      refine HM.mono ?_
      rintro e w18 ⟨⟨xi, rfl, Ni⟩, hb⟩
      replace K := hide (K.out.below hb)
      replace H := hid_below H hb
      clear hb HM
      have HM := rshl_any xi (val rhi) k _ Ni (by omega)
      clear Ni
      go_wp2_with fail
      refine HM.mono ?_
      rintro e w19 ⟨⟨yi, rfl, Mi⟩, hb⟩
      replace K := hide (K.out.below hb)
      replace H := hid_below H hb
      clear hb HM
      have HM := of_any vlo rlo _ (K.out (vlo, rlo) (by simp)) (by omega)
      go_wp2_with fail
      refine HM.mono ?_
      rintro e w20 ⟨⟨xo, rfl, No⟩, hb⟩
      replace K := hide (K.out.below hb)
      replace H := hid_below H hb
      replace Mi := Mi.below hb
      clear hb HM
      have b1 := blen_shl (val rhi) k
      have HM := radd_any yi xo _ _ _ Mi No (by omega) (by omega)
      clear Mi No
      go_wp2_with fail
      refine HM.mono ?_
      rintro e w21 ⟨⟨yp, rfl, Mp⟩, hb⟩
      replace K := hide (K.out.below hb)
      replace H := hid_below H hb
      clear hb HM
      have HM := rlimbs_num yp _ _ Mp (by have := blen_add (val rhi * 2 ^ k) (val rlo) 268435456 (by omega) (by omega); omega)
      clear Mp b1
      go_wp2_with fail
      refine HM.mono ?_
      rintro e w22 ⟨⟨vq, rq, rfl, An, eq, lq⟩, hb⟩
      replace K := hide ((K.out.below hb).add An)
      replace H := hid_below H hb
      have GQ := hide eq
      clear hb HM An eq
      have HM := lsum_any vu vl ru rl _ (K.out (vu, ru) (by simp)) (K.out (vl, rl) (by simp)) (by omega) (by omega)
      go_wp2_with fail
      refine HM.mono ?_
      rintro e w23 ⟨⟨va, ra, rfl, An, g3, _, l10⟩, hb⟩
      replace K := hide ((K.out.below hb).add (An.arg (by omega)))
      replace H := hid_below H hb
      have S3 := hide g3
      clear hb HM An g3
      have E1 : Hid (val rp = val ra) := hide (by
        rw [S3.out, GU.out, G1.out.1, G2.out.1.1, G2.out.2.1.1, G2.out.2.2.1.1, HN12.out.1, HN12.out.2, ident_sum])
      have HM := lsame_any vp va rp ra _ (K.out (vp, rp) (by simp)) (K.out (va, ra) (by simp)) (by omega) (by omega)
      rw [decide_eq_true E1.out] at HM
      go_wp2_with fail
      refine HM.mono ?_
      rintro e w24 ⟨rfl, hb⟩
      replace K := hide (K.out.below hb)
      replace H := hid_below H hb
      clear hb HM
      have HM := lsum_any vm vl rm rl _ (K.out (vm, rm) (by simp)) (K.out (vl, rl) (by simp)) (by omega) (by omega)
      go_wp2_with fail
      refine HM.mono ?_
      rintro e w25 ⟨⟨vd, rd, rfl, An, g4, _, l11⟩, hb⟩
      replace K := hide ((K.out.below hb).add (An.arg (by omega)))
      replace H := hid_below H hb
      have S4 := hide g4
      clear hb HM An g4
      have HM := lsum_any vd vh rd rh _ (K.out (vd, rd) (by simp)) (K.out (vh, rh) (by simp)) (by omega) (by omega)
      go_wp2_with fail
      refine HM.mono ?_
      rintro e w26 ⟨⟨ve, re, rfl, An, g5, _, l12⟩, hb⟩
      replace K := hide ((K.out.below hb).add (An.arg (by omega)))
      replace H := hid_below H hb
      have S5 := hide g5
      clear hb HM An g5
      have E2 : Hid (val rc = val re) := hide (by
        rw [G7.out, S1.out, S2.out, S5.out, S4.out, G2.out.1.1, G2.out.2.1.1, G2.out.2.2.1.1, G3.out.1, G3.out.2.2.1, G4.out.1, G4.out.2.2.1, ident_cross])
      have HM := lsame_any vc ve rc re _ (K.out (vc, rc) (by simp)) (K.out (ve, re) (by simp)) (by omega) (by omega)
      rw [decide_eq_true E2.out] at HM
      go_wp2_with fail
      refine HM.mono ?_
      rintro e w27 ⟨rfl, hb⟩
      replace K := hide (K.out.below hb)
      replace H := hid_below H hb
      clear hb HM
      have E3 : Hid (val rp = val rq) := hide (by
        rw [GQ.out, G1.out.1, G5.out.1, G6.out.1]
        have := Nat.div_add_mod (val z0 * val z1) (2 ^ k)
        rw [Nat.mul_comm] at this
        exact this.symm)
      have HM := lsame_any vp vq rp rq _ (K.out (vp, rp) (by simp)) (K.out (vq, rq) (by simp)) (by omega) (by omega)
      rw [decide_eq_true E3.out] at HM
      go_wp2_with fail
      refine HM.mono ?_
      rintro e w28 ⟨rfl, hb⟩
      replace K := hide (K.out.below hb)
      replace H := hid_below H hb
      clear hb HM
      have HA := awake_any _ (HT.out.below H.out)
      clear K
      go_wp2_with fail
      refine HA.mono ?_
      rintro e w99 ⟨rfl, hb⟩
      replace H := hid_below H hb; clear hb HA
      go_wp2
      go_ret
      exact ⟨rfl, H.out⟩
    · rw [decide_eq_false h70] at HM
      clear h7
      go_wp2_with fail
      refine HM.mono ?_
      rintro e w11 ⟨rfl, hb⟩
      replace K := hide (K.out.below hb)
      replace H := hid_below H hb
      clear hb HM
      have HA := awake_any _ (HT.out.below H.out)
      clear K
      go_wp2_with fail
      refine HA.mono ?_
      rintro e w99 ⟨rfl, hb⟩
      replace H := hid_below H hb; clear hb HA
      go_wp2
      go_ret
      exact ⟨rfl, H.out⟩
  · rw [decide_eq_false hall] at HM
    clear h1 h2 h3 h4 h5 h6
    go_wp2_with fail
    refine HM.mono ?_
    rintro e w7 ⟨rfl, hb⟩
    replace K := hide (K.out.below hb)
    replace H := hid_below H hb
    clear hb HM
    have HA := awake_any _ (HT.out.below H.out)
    clear K
    go_wp2_with fail
    refine HA.mono ?_
    rintro e w99 ⟨rfl, hb⟩
    replace H := hid_below H hb; clear hb HA
    go_wp2
    go_ret
    exact ⟨rfl, H.out⟩

theorem mulIdentity_walk (v0 : Value) (z0 : List Nat) (v1 : Value) (z1 : List Nat) (k : Int) (w : World) (hT : Tab w) (A0 : Arg w v0 z0) (s0 : z0.length ≤ 17592186043904) (A1 : Arg w v1 z1) (s1 : z1.length ≤ 17592186043904) (_h1 : -9223372036854775808 ≤ k) (_h2 : k ≤ 9223372036854775807) :
    Calls Tryd.prog 7 #[v0, v1, .int .i64 k] w fun e w' => e = .returned (.bool true) ∧ Below w.heap.size w w' := by
  by_cases hk : 0 ≤ k ∧ k ≤ 1048576
  · obtain ⟨n, rfl⟩ := Int.eq_ofNat_of_zero_le hk.1
    exact mulIdentity_in v0 z0 v1 z1 n w hT A0 s0 A1 s1 (by omega)
  · have HA := awake_any w hT
    clear hT A0 A1
    by_cases h1 : k < 0
    · go_enter Tryd.func7, Tryd.ntmps7
      go_wp2_with fail
      refine HA.mono ?_
      rintro e w9 ⟨rfl, hb⟩
      have HB := hide hb
      clear hb HA
      go_wp2
      go_ret
      exact ⟨rfl, HB.out⟩
    · have d1 : decide (k < 0) = false := decide_eq_false h1
      have d2 : (1048576 : Int) < k := by omega
      go_enter Tryd.func7, Tryd.ntmps7
      go_wp2_with fail
      refine HA.mono ?_
      rintro e w9 ⟨rfl, hb⟩
      have HB := hide hb
      clear hb HA
      go_wp2
      go_ret
      exact ⟨rfl, HB.out⟩

end Go.Proofs.YtmloigbacfllhabDoor
