/- The document's Cmp and Scale of dyadics. -/
import Derived.Test.YtolebfnkmjmfnaaGreatDoorB09
import Derived.Deep.RegionHeld3
import Derived.Test.YtolebfnkmjmfnaaGreatDoorB06
namespace Go.Proofs.YtolebfnkmjmfnaaGreatDoor
open Go.RowKit
open Lm
attribute [local go_sem ↓] Go.wp_at_zero Go.wp_at_succ

theorem shift_lt9 {x y p q : Nat} (h : blen x + p < blen y + q) (hy : y ≠ 0) : x * 2 ^ p < y * 2 ^ q := by
  have h1 : x < 2 ^ blen x := (blen_le_iff x _).1 (Nat.le_refl _)
  have hb : 0 < blen y := by
    rcases Nat.eq_zero_or_pos (blen y) with h0 | h0
    · exact absurd ((blen_zeroW y).1 h0) hy
    · exact h0
  have h2 : 2 ^ (blen y - 1) ≤ y := by
    rcases Nat.lt_or_ge y (2 ^ (blen y - 1)) with h3 | h3
    · have := (blen_le_iff y (blen y - 1)).2 h3
      omega
    · exact h3
  have h3 : x * 2 ^ p < 2 ^ blen x * 2 ^ p := Nat.mul_lt_mul_of_pos_right h1 (Nat.two_pow_pos p)
  have h4 : 2 ^ (blen y - 1) * 2 ^ q ≤ y * 2 ^ q := Nat.mul_le_mul_right _ h2
  have h5 : 2 ^ blen x * 2 ^ p ≤ 2 ^ (blen y - 1) * 2 ^ q := by
    rw [← Nat.pow_add, ← Nat.pow_add]
    exact Nat.pow_le_pow_right (by omega) (by omega)
  omega

theorem pos_pow9 (p : Nat) : (0 : Int) < 2 ^ p := Int.pow_pos (by decide)

theorem cmpZ_mul9 {a b T : Int} (hT : 0 < T) : cmpZ (a * T) (b * T) = cmpZ a b := by
  unfold cmpZ
  have h1 : a * T < b * T ↔ a < b := ⟨fun h => Int.lt_of_mul_lt_mul_right h (by omega), fun h => Int.mul_lt_mul_of_pos_right h hT⟩
  have h2 : b * T < a * T ↔ b < a := ⟨fun h => Int.lt_of_mul_lt_mul_right h (by omega), fun h => Int.mul_lt_mul_of_pos_right h hT⟩
  simp only [h1, h2]

theorem sign_mul9 (M : Int) (p : Nat) : (M * 2 ^ p).sign = M.sign := by
  rw [Int.sign_mul, Int.sign_eq_one_of_pos (pos_pow9 p), Int.mul_one]

theorem sign_vals9 (z : Int) : (z.sign = -1 ∧ z < 0) ∨ (z.sign = 0 ∧ z = 0) ∨ (z.sign = 1 ∧ 0 < z) := by
  rcases Int.lt_trichotomy z 0 with h | h | h
  · exact .inl ⟨Int.sign_eq_neg_one_of_neg h, h⟩
  · exact .inr (.inl ⟨by rw [h]; rfl, h⟩)
  · exact .inr (.inr ⟨Int.sign_eq_one_of_pos h, h⟩)

/-- The order of two numbers by their signs. -/
theorem cmp_signs9 {V1 V2 : Int} (h : V1.sign ≠ V2.sign) : cmpZ V1 V2 = if V1.sign < V2.sign then -1 else 1 := by
  have h1 := sign_vals9 V1
  have h2 := sign_vals9 V2
  unfold cmpZ
  by_cases h3 : V1 < V2
  · rw [if_pos h3, if_pos (by omega)]
  · rw [if_neg h3, if_pos (show V2 < V1 by omega), if_neg (by omega)]

theorem abs_mul9 (M : Int) (p : Nat) : (M * 2 ^ p).natAbs = M.natAbs * 2 ^ p := by
  rw [Int.natAbs_mul, Int.natAbs_pow]; rfl

/-- The order of two numbers with the same sign, by their tops. -/
theorem cmp_tops9 {M1 M2 : Int} {p q : Nat} (hs : M1.sign = M2.sign) (h0 : M1.sign ≠ 0) (ht : blen M1.natAbs + p ≠ blen M2.natAbs + q) : cmpZ (M1 * 2 ^ p) (M2 * 2 ^ q) = if blen M1.natAbs + p < blen M2.natAbs + q then -M1.sign else M1.sign := by
  have h1 := sign_vals9 (M1 * 2 ^ p)
  have h2 := sign_vals9 (M2 * 2 ^ q)
  rw [sign_mul9] at h1 h2
  have n1 : M1.natAbs ≠ 0 := by rintro h; exact h0 (by rw [Int.natAbs_eq_zero.1 h]; rfl)
  have n2 : M2.natAbs ≠ 0 := by rintro h; exact h0 (by rw [hs, Int.natAbs_eq_zero.1 h]; rfl)
  have a1 := abs_mul9 M1 p
  have a2 := abs_mul9 M2 q
  unfold cmpZ
  by_cases hlt : blen M1.natAbs + p < blen M2.natAbs + q
  · have h9 := shift_lt9 hlt n2
    rw [if_pos hlt]
    rcases h1 with h1 | h1 | h1
    · rw [if_neg (by omega), if_pos (by omega)]; omega
    · omega
    · rw [if_pos (by omega)]; omega
  · have h9 := shift_lt9 (show blen M2.natAbs + q < blen M1.natAbs + p by omega) n1
    rw [if_neg hlt]
    rcases h1 with h1 | h1 | h1
    · rw [if_pos (by omega)]; omega
    · omega
    · rw [if_neg (by omega), if_pos (by omega)]; omega

set_option maxRecDepth 20000 in
set_option maxHeartbeats 4000000 in
theorem rdCmp_signs (b1 : Bool) (a1 : Option Addr) (n1 c1 : Nat) (M1 E1 : Int) (b2 : Bool) (a2 : Option Addr) (n2 c2 : Nat) (M2 E2 : Int) (w : World) (hD1 : Dn w b1 (.slice a1 n1 c1) M1) (hD2 : Dn w b2 (.slice a2 n2 c2) M2) (f1 : blen M1.natAbs ≤ 1125899906840000) (f2 : blen M2.natAbs ≤ 1125899906840000) (he1 : -1152921504606846976 ≤ E1) (he2 : E1 ≤ 1152921504606846976) (he3 : -1152921504606846976 ≤ E2) (he4 : E2 ≤ 1152921504606846976) (hs : M1.sign ≠ M2.sign) :
    Calls Tryz.prog 18 #[.agg #[.bool b1, .slice a1 n1 c1, .int .i64 E1], .agg #[.bool b2, .slice a2 n2 c2, .int .i64 E2]] w fun e w' => e = .returned (.int .i64 (if M1.sign < M2.sign then -1 else 1)) ∧ Below w.heap.size w w' := by
  obtain ⟨w0, hw0, hb0, k0, k1⟩ := enter2 w (.cells #[.bool b1, .slice a1 n1 c1, .int .i64 E1] 41) (.cells #[.bool b2, .slice a2 n2 c2, .int .i64 E2] 41)
  have gd : Below w.heap.size w w0.drew := hb0.drew
  have SG1 := hide (fun (W : World) (hg : Below w0.drew.heap.size w0.drew W) => rzsign_any (.agg #[.bool b1, .slice a1 n1 c1]) M1 W ((hD1.below gd).below hg).zn)
  have SG2 := hide (fun (W : World) (hg : Below w0.drew.heap.size w0.drew W) => rzsign_any (.agg #[.bool b2, .slice a2 n2 c2]) M2 W ((hD2.below gd).below hg).zn)
  have TP1 := hide (fun (W : World) (hg : Below w0.drew.heap.size w0.drew W) => rdTop_any b1 a1 n1 c1 M1 E1 W ((hD1.below gd).below hg) (by omega) (by omega) (by omega))
  have TP2 := hide (fun (W : World) (hg : Below w0.drew.heap.size w0.drew W) => rdTop_any b2 a2 n2 c2 M2 E2 W ((hD2.below gd).below hg) (by omega) (by omega) (by omega))
  have HD1 := hide (hD1.below gd)
  have HD2 := hide (hD2.below gd)
  have KB := hide (fun (W : World) (hg : Below w0.drew.heap.size w0.drew W) => And.intro (block_upW hg (show w0.drew.heap[w.heap.size]? = some (.cells #[.bool b1, .slice a1 n1 c1, .int .i64 E1] 41) from k0)) (block_upW hg (show w0.drew.heap[w.heap.size + 1]? = some (.cells #[.bool b2, .slice a2 n2 c2, .int .i64 E2] 41) from k1)))
  have KS := hide (fun (W : World) (hg : Below w0.drew.heap.size w0.drew W) => show W.cell? ⟨w.heap.size, 0, none⟩ = some (.bool b1) ∧ W.cell? ⟨w.heap.size, 1, none⟩ = some (.slice a1 n1 c1) ∧ W.cell? ⟨w.heap.size, 2, none⟩ = some (.int .i64 E1) ∧ W.cell? ⟨w.heap.size + 1, 0, none⟩ = some (.bool b2) ∧ W.cell? ⟨w.heap.size + 1, 1, none⟩ = some (.slice a2 n2 c2) ∧ W.cell? ⟨w.heap.size + 1, 2, none⟩ = some (.int .i64 E2) from ⟨(tri8 (KB.out W hg).1).1, (tri8 (KB.out W hg).1).2.1, (tri8 (KB.out W hg).1).2.2, (tri8 (KB.out W hg).2).1, (tri8 (KB.out W hg).2).2.1, (tri8 (KB.out W hg).2).2.2⟩)
  have g0 : Below w0.drew.heap.size w0.drew w0.drew := Below.refl _ _
  have HGD := hide gd
  clear k0 k1 hb0 gd hD1 hD2
  have hne : (M1.sign != M2.sign) = true := bne_iff_ne.2 hs
  generalize M1.sign = x at *
  generalize M2.sign = y at *
  by_cases hlt : x < y
  · have hd : decide (x < y) = true := decide_eq_true hlt
    rw [if_pos hlt]
    go_enter Tryz.func18, Tryz.ntmps18
    go_wp2_with fail
    go_region_held3 (fun w' => w'.cell? ⟨w.heap.size, 0, none⟩ = some (.bool b1) ∧ w'.cell? ⟨w.heap.size, 1, none⟩ = some (.slice a1 n1 c1) ∧ w'.cell? ⟨w.heap.size, 2, none⟩ = some (.int .i64 E1) ∧ w'.cell? ⟨w.heap.size + 1, 0, none⟩ = some (.bool b2) ∧ w'.cell? ⟨w.heap.size + 1, 1, none⟩ = some (.slice a2 n2 c2) ∧ w'.cell? ⟨w.heap.size + 1, 2, none⟩ = some (.int .i64 E2)) (first | with_reducible exact KS.out _ g2 | with_reducible exact KS.out _ g1 | with_reducible exact KS.out _ g0) (first
      | (go_at_call_of 43 a1; refine (SG1.out _ g0).mono ?_; rintro e' t1 ⟨rfl, hb1⟩; have g1 := bl_trans8 g0 hb1)
      | (go_at_call_of 43 a2; refine (SG2.out _ g1).mono ?_; rintro e' t2 ⟨rfl, hb2⟩; have g2 := bl_trans8 g1 hb2))
    clear hb1 hb2
    have HE := hide (bl_trans8 HGD.out g2)
    clear g0 g1 g2
    go_wp2
    go_ret
    exact ⟨rfl, HE.out⟩
  · have hd : decide (x < y) = false := decide_eq_false hlt
    rw [if_neg hlt]
    go_enter Tryz.func18, Tryz.ntmps18
    go_wp2_with fail
    go_region_held3 (fun w' => w'.cell? ⟨w.heap.size, 0, none⟩ = some (.bool b1) ∧ w'.cell? ⟨w.heap.size, 1, none⟩ = some (.slice a1 n1 c1) ∧ w'.cell? ⟨w.heap.size, 2, none⟩ = some (.int .i64 E1) ∧ w'.cell? ⟨w.heap.size + 1, 0, none⟩ = some (.bool b2) ∧ w'.cell? ⟨w.heap.size + 1, 1, none⟩ = some (.slice a2 n2 c2) ∧ w'.cell? ⟨w.heap.size + 1, 2, none⟩ = some (.int .i64 E2)) (first | with_reducible exact KS.out _ g2 | with_reducible exact KS.out _ g1 | with_reducible exact KS.out _ g0) (first
      | (go_at_call_of 43 a1; refine (SG1.out _ g0).mono ?_; rintro e' t1 ⟨rfl, hb1⟩; have g1 := bl_trans8 g0 hb1)
      | (go_at_call_of 43 a2; refine (SG2.out _ g1).mono ?_; rintro e' t2 ⟨rfl, hb2⟩; have g2 := bl_trans8 g1 hb2))
    clear hb1 hb2
    have HE := hide (bl_trans8 HGD.out g2)
    clear g0 g1 g2
    go_wp2
    go_ret
    exact ⟨rfl, HE.out⟩

set_option maxRecDepth 20000 in
set_option maxHeartbeats 4000000 in
theorem rdCmp_zero (b1 : Bool) (a1 : Option Addr) (n1 c1 : Nat) (M1 E1 : Int) (b2 : Bool) (a2 : Option Addr) (n2 c2 : Nat) (M2 E2 : Int) (w : World) (hD1 : Dn w b1 (.slice a1 n1 c1) M1) (hD2 : Dn w b2 (.slice a2 n2 c2) M2) (f1 : blen M1.natAbs ≤ 1125899906840000) (f2 : blen M2.natAbs ≤ 1125899906840000) (he1 : -1152921504606846976 ≤ E1) (he2 : E1 ≤ 1152921504606846976) (he3 : -1152921504606846976 ≤ E2) (he4 : E2 ≤ 1152921504606846976) (hs : M1.sign = M2.sign) (h0 : M1.sign = 0) :
    Calls Tryz.prog 18 #[.agg #[.bool b1, .slice a1 n1 c1, .int .i64 E1], .agg #[.bool b2, .slice a2 n2 c2, .int .i64 E2]] w fun e w' => e = .returned (.int .i64 0) ∧ Below w.heap.size w w' := by
  obtain ⟨w0, hw0, hb0, k0, k1⟩ := enter2 w (.cells #[.bool b1, .slice a1 n1 c1, .int .i64 E1] 41) (.cells #[.bool b2, .slice a2 n2 c2, .int .i64 E2] 41)
  have gd : Below w.heap.size w w0.drew := hb0.drew
  have SG1 := hide (fun (W : World) (hg : Below w0.drew.heap.size w0.drew W) => rzsign_any (.agg #[.bool b1, .slice a1 n1 c1]) M1 W ((hD1.below gd).below hg).zn)
  have SG2 := hide (fun (W : World) (hg : Below w0.drew.heap.size w0.drew W) => rzsign_any (.agg #[.bool b2, .slice a2 n2 c2]) M2 W ((hD2.below gd).below hg).zn)
  have TP1 := hide (fun (W : World) (hg : Below w0.drew.heap.size w0.drew W) => rdTop_any b1 a1 n1 c1 M1 E1 W ((hD1.below gd).below hg) (by omega) (by omega) (by omega))
  have TP2 := hide (fun (W : World) (hg : Below w0.drew.heap.size w0.drew W) => rdTop_any b2 a2 n2 c2 M2 E2 W ((hD2.below gd).below hg) (by omega) (by omega) (by omega))
  have HD1 := hide (hD1.below gd)
  have HD2 := hide (hD2.below gd)
  have KB := hide (fun (W : World) (hg : Below w0.drew.heap.size w0.drew W) => And.intro (block_upW hg (show w0.drew.heap[w.heap.size]? = some (.cells #[.bool b1, .slice a1 n1 c1, .int .i64 E1] 41) from k0)) (block_upW hg (show w0.drew.heap[w.heap.size + 1]? = some (.cells #[.bool b2, .slice a2 n2 c2, .int .i64 E2] 41) from k1)))
  have KS := hide (fun (W : World) (hg : Below w0.drew.heap.size w0.drew W) => show W.cell? ⟨w.heap.size, 0, none⟩ = some (.bool b1) ∧ W.cell? ⟨w.heap.size, 1, none⟩ = some (.slice a1 n1 c1) ∧ W.cell? ⟨w.heap.size, 2, none⟩ = some (.int .i64 E1) ∧ W.cell? ⟨w.heap.size + 1, 0, none⟩ = some (.bool b2) ∧ W.cell? ⟨w.heap.size + 1, 1, none⟩ = some (.slice a2 n2 c2) ∧ W.cell? ⟨w.heap.size + 1, 2, none⟩ = some (.int .i64 E2) from ⟨(tri8 (KB.out W hg).1).1, (tri8 (KB.out W hg).1).2.1, (tri8 (KB.out W hg).1).2.2, (tri8 (KB.out W hg).2).1, (tri8 (KB.out W hg).2).2.1, (tri8 (KB.out W hg).2).2.2⟩)
  have g0 : Below w0.drew.heap.size w0.drew w0.drew := Below.refl _ _
  have HGD := hide gd
  clear k0 k1 hb0 gd hD1 hD2
  rw [← hs, h0] at SG2
  rw [h0] at SG1
  clear hs h0
  go_enter Tryz.func18, Tryz.ntmps18
  go_wp2_with fail
  go_region_held3 (fun w' => w'.cell? ⟨w.heap.size, 0, none⟩ = some (.bool b1) ∧ w'.cell? ⟨w.heap.size, 1, none⟩ = some (.slice a1 n1 c1) ∧ w'.cell? ⟨w.heap.size, 2, none⟩ = some (.int .i64 E1) ∧ w'.cell? ⟨w.heap.size + 1, 0, none⟩ = some (.bool b2) ∧ w'.cell? ⟨w.heap.size + 1, 1, none⟩ = some (.slice a2 n2 c2) ∧ w'.cell? ⟨w.heap.size + 1, 2, none⟩ = some (.int .i64 E2)) (first | with_reducible exact KS.out _ g2 | with_reducible exact KS.out _ g1 | with_reducible exact KS.out _ g0) (first
    | (go_at_call_of 43 a1; refine (SG1.out _ g0).mono ?_; rintro e' t1 ⟨rfl, hb1⟩; have g1 := bl_trans8 g0 hb1)
    | (go_at_call_of 43 a2; refine (SG2.out _ g1).mono ?_; rintro e' t2 ⟨rfl, hb2⟩; have g2 := bl_trans8 g1 hb2))
  clear hb1 hb2
  have HE := hide (bl_trans8 HGD.out g2)
  clear g0 g1 g2
  go_wp2
  go_ret
  exact ⟨rfl, HE.out⟩

set_option maxRecDepth 20000 in
set_option maxHeartbeats 4000000 in
theorem rdCmp_tops (b1 : Bool) (a1 : Option Addr) (n1 c1 : Nat) (M1 E1 : Int) (b2 : Bool) (a2 : Option Addr) (n2 c2 : Nat) (M2 E2 : Int) (w : World) (hD1 : Dn w b1 (.slice a1 n1 c1) M1) (hD2 : Dn w b2 (.slice a2 n2 c2) M2) (f1 : blen M1.natAbs ≤ 1125899906840000) (f2 : blen M2.natAbs ≤ 1125899906840000) (he1 : -1152921504606846976 ≤ E1) (he2 : E1 ≤ 1152921504606846976) (he3 : -1152921504606846976 ≤ E2) (he4 : E2 ≤ 1152921504606846976) (hs : M1.sign = M2.sign) (h0 : M1.sign ≠ 0) (ht : ((blen M1.natAbs : Nat) : Int) - 1 + E1 ≠ ((blen M2.natAbs : Nat) : Int) - 1 + E2) :
    Calls Tryz.prog 18 #[.agg #[.bool b1, .slice a1 n1 c1, .int .i64 E1], .agg #[.bool b2, .slice a2 n2 c2, .int .i64 E2]] w fun e w' => e = .returned (.int .i64 (if ((blen M1.natAbs : Nat) : Int) - 1 + E1 < ((blen M2.natAbs : Nat) : Int) - 1 + E2 then -M1.sign else M1.sign)) ∧ Below w.heap.size w w' := by
  obtain ⟨w0, hw0, hb0, k0, k1⟩ := enter2 w (.cells #[.bool b1, .slice a1 n1 c1, .int .i64 E1] 41) (.cells #[.bool b2, .slice a2 n2 c2, .int .i64 E2] 41)
  have gd : Below w.heap.size w w0.drew := hb0.drew
  have SG1 := hide (fun (W : World) (hg : Below w0.drew.heap.size w0.drew W) => rzsign_any (.agg #[.bool b1, .slice a1 n1 c1]) M1 W ((hD1.below gd).below hg).zn)
  have SG2 := hide (fun (W : World) (hg : Below w0.drew.heap.size w0.drew W) => rzsign_any (.agg #[.bool b2, .slice a2 n2 c2]) M2 W ((hD2.below gd).below hg).zn)
  have TP1 := hide (fun (W : World) (hg : Below w0.drew.heap.size w0.drew W) => rdTop_any b1 a1 n1 c1 M1 E1 W ((hD1.below gd).below hg) (by omega) (by omega) (by omega))
  have TP2 := hide (fun (W : World) (hg : Below w0.drew.heap.size w0.drew W) => rdTop_any b2 a2 n2 c2 M2 E2 W ((hD2.below gd).below hg) (by omega) (by omega) (by omega))
  have HD1 := hide (hD1.below gd)
  have HD2 := hide (hD2.below gd)
  have KB := hide (fun (W : World) (hg : Below w0.drew.heap.size w0.drew W) => And.intro (block_upW hg (show w0.drew.heap[w.heap.size]? = some (.cells #[.bool b1, .slice a1 n1 c1, .int .i64 E1] 41) from k0)) (block_upW hg (show w0.drew.heap[w.heap.size + 1]? = some (.cells #[.bool b2, .slice a2 n2 c2, .int .i64 E2] 41) from k1)))
  have KS := hide (fun (W : World) (hg : Below w0.drew.heap.size w0.drew W) => show W.cell? ⟨w.heap.size, 0, none⟩ = some (.bool b1) ∧ W.cell? ⟨w.heap.size, 1, none⟩ = some (.slice a1 n1 c1) ∧ W.cell? ⟨w.heap.size, 2, none⟩ = some (.int .i64 E1) ∧ W.cell? ⟨w.heap.size + 1, 0, none⟩ = some (.bool b2) ∧ W.cell? ⟨w.heap.size + 1, 1, none⟩ = some (.slice a2 n2 c2) ∧ W.cell? ⟨w.heap.size + 1, 2, none⟩ = some (.int .i64 E2) from ⟨(tri8 (KB.out W hg).1).1, (tri8 (KB.out W hg).1).2.1, (tri8 (KB.out W hg).1).2.2, (tri8 (KB.out W hg).2).1, (tri8 (KB.out W hg).2).2.1, (tri8 (KB.out W hg).2).2.2⟩)
  have g0 : Below w0.drew.heap.size w0.drew w0.drew := Below.refl _ _
  have HGD := hide gd
  clear k0 k1 hb0 gd hD1 hD2
  have hsv := sign_vals9 M1
  rw [← hs] at SG2
  generalize ((blen M1.natAbs : Nat) : Int) - 1 + E1 = T1 at *
  generalize ((blen M2.natAbs : Nat) : Int) - 1 + E2 = T2 at *
  have hx : M1.sign = -1 ∨ M1.sign = 1 := by omega
  generalize M1.sign = x at *
  clear hs hsv
  have htb : (T1 != T2) = true := bne_iff_ne.2 ht
  have h0b : (x == 0) = false := beq_eq_false_iff_ne.2 h0
  have hxx : (x != x) = false := by simp
  have hwr : IntKind.i64.wrap (-x) = -x := by rw [IntKind.wrap_i64]; omega
  clear hx
  by_cases hlt : T1 < T2
  · have hd : decide (T1 < T2) = true := decide_eq_true hlt
    rw [if_pos hlt]
    obtain ⟨mx, hmx⟩ : ∃ mx, -x = mx := ⟨_, rfl⟩
    rw [hmx] at hwr
    have hmx2 : -x = mx := hmx
    rw [hmx]
    clear hmx
    go_enter Tryz.func18, Tryz.ntmps18
    go_wp2_with fail
    go_region_held3 (fun w' => w'.cell? ⟨w.heap.size, 0, none⟩ = some (.bool b1) ∧ w'.cell? ⟨w.heap.size, 1, none⟩ = some (.slice a1 n1 c1) ∧ w'.cell? ⟨w.heap.size, 2, none⟩ = some (.int .i64 E1) ∧ w'.cell? ⟨w.heap.size + 1, 0, none⟩ = some (.bool b2) ∧ w'.cell? ⟨w.heap.size + 1, 1, none⟩ = some (.slice a2 n2 c2) ∧ w'.cell? ⟨w.heap.size + 1, 2, none⟩ = some (.int .i64 E2)) (first | with_reducible exact KS.out _ g2 | with_reducible exact KS.out _ g1 | with_reducible exact KS.out _ g0) (first
      | (go_at_call_of 43 a1; refine (SG1.out _ g0).mono ?_; rintro e' t1 ⟨rfl, hb1⟩; have g1 := bl_trans8 g0 hb1)
      | (go_at_call_of 43 a2; refine (SG2.out _ g1).mono ?_; rintro e' t2 ⟨rfl, hb2⟩; have g2 := bl_trans8 g1 hb2))
    clear hb1 hb2
    have h0a : Below t2.heap.size t2 t2.drew := (Below.refl _ _).drew
    have g3 := bl_trans8 g2 h0a
    obtain ⟨ca0, cb0, cc0⟩ := tri8 (KB.out _ g3).1
    obtain ⟨ca1, cb1, cc1⟩ := tri8 (KB.out _ g3).2
    clear h0a
    go_wp2_with fail
    go_region_held3 (fun w' => w'.cell? ⟨w.heap.size, 0, none⟩ = some (.bool b1) ∧ w'.cell? ⟨w.heap.size, 1, none⟩ = some (.slice a1 n1 c1) ∧ w'.cell? ⟨w.heap.size, 2, none⟩ = some (.int .i64 E1) ∧ w'.cell? ⟨w.heap.size + 1, 0, none⟩ = some (.bool b2) ∧ w'.cell? ⟨w.heap.size + 1, 1, none⟩ = some (.slice a2 n2 c2) ∧ w'.cell? ⟨w.heap.size + 1, 2, none⟩ = some (.int .i64 E2)) (first | with_reducible exact KS.out _ g5 | with_reducible exact KS.out _ g4 | with_reducible exact KS.out _ g3) (first
      | (go_at_call_of 51 a1; refine (TP1.out _ g3).mono ?_; rintro e' t4 ⟨rfl, hb4⟩; have g4 := bl_trans8 g3 hb4)
      | (go_at_call_of 51 a2; refine (TP2.out _ g4).mono ?_; rintro e' t5 ⟨rfl, hb5⟩; have g5 := bl_trans8 g4 hb5))
    clear hb4 hb5 ca0 cb0 cc0 ca1 cb1 cc1
    have g2x := g2
    have t2b := t2
    clear g0 g1 g2 t2b g2x
    have HG5 := hide g5
    clear g3 g4 g5
    have h0a : Below t5.heap.size t5 t5.drew := (Below.refl _ _).drew
    have g3 := bl_trans8 HG5.out h0a
    obtain ⟨ca0, cb0, cc0⟩ := tri8 (KB.out _ g3).1
    obtain ⟨ca1, cb1, cc1⟩ := tri8 (KB.out _ g3).2
    clear h0a
    go_wp2_with fail
    go_region_held3 (fun w' => w'.cell? ⟨w.heap.size, 0, none⟩ = some (.bool b1) ∧ w'.cell? ⟨w.heap.size, 1, none⟩ = some (.slice a1 n1 c1) ∧ w'.cell? ⟨w.heap.size, 2, none⟩ = some (.int .i64 E1) ∧ w'.cell? ⟨w.heap.size + 1, 0, none⟩ = some (.bool b2) ∧ w'.cell? ⟨w.heap.size + 1, 1, none⟩ = some (.slice a2 n2 c2) ∧ w'.cell? ⟨w.heap.size + 1, 2, none⟩ = some (.int .i64 E2)) (first | with_reducible exact KS.out _ g7 | with_reducible exact KS.out _ g6 | with_reducible exact KS.out _ g3) (first
      | (go_at_call_of 51 a1; refine (TP1.out _ g3).mono ?_; rintro e' t6 ⟨rfl, hb6⟩; have g6 := bl_trans8 g3 hb6)
      | (go_at_call_of 51 a2; refine (TP2.out _ g6).mono ?_; rintro e' t7 ⟨rfl, hb7⟩; have g7 := bl_trans8 g6 hb7))
    have HE := hide (bl_trans8 HGD.out g7)
    clear g3 g6 g7 hb6 hb7 ca0 cb0 cc0 ca1 cb1 cc1
    go_wp2
    go_ret
    exact ⟨rfl, HE.out⟩
  · have hd : decide (T1 < T2) = false := decide_eq_false hlt
    rw [if_neg hlt]
    go_enter Tryz.func18, Tryz.ntmps18
    go_wp2_with fail
    go_region_held3 (fun w' => w'.cell? ⟨w.heap.size, 0, none⟩ = some (.bool b1) ∧ w'.cell? ⟨w.heap.size, 1, none⟩ = some (.slice a1 n1 c1) ∧ w'.cell? ⟨w.heap.size, 2, none⟩ = some (.int .i64 E1) ∧ w'.cell? ⟨w.heap.size + 1, 0, none⟩ = some (.bool b2) ∧ w'.cell? ⟨w.heap.size + 1, 1, none⟩ = some (.slice a2 n2 c2) ∧ w'.cell? ⟨w.heap.size + 1, 2, none⟩ = some (.int .i64 E2)) (first | with_reducible exact KS.out _ g2 | with_reducible exact KS.out _ g1 | with_reducible exact KS.out _ g0) (first
      | (go_at_call_of 43 a1; refine (SG1.out _ g0).mono ?_; rintro e' t1 ⟨rfl, hb1⟩; have g1 := bl_trans8 g0 hb1)
      | (go_at_call_of 43 a2; refine (SG2.out _ g1).mono ?_; rintro e' t2 ⟨rfl, hb2⟩; have g2 := bl_trans8 g1 hb2))
    clear hb1 hb2
    have h0a : Below t2.heap.size t2 t2.drew := (Below.refl _ _).drew
    have g3 := bl_trans8 g2 h0a
    obtain ⟨ca0, cb0, cc0⟩ := tri8 (KB.out _ g3).1
    obtain ⟨ca1, cb1, cc1⟩ := tri8 (KB.out _ g3).2
    clear h0a
    go_wp2_with fail
    go_region_held3 (fun w' => w'.cell? ⟨w.heap.size, 0, none⟩ = some (.bool b1) ∧ w'.cell? ⟨w.heap.size, 1, none⟩ = some (.slice a1 n1 c1) ∧ w'.cell? ⟨w.heap.size, 2, none⟩ = some (.int .i64 E1) ∧ w'.cell? ⟨w.heap.size + 1, 0, none⟩ = some (.bool b2) ∧ w'.cell? ⟨w.heap.size + 1, 1, none⟩ = some (.slice a2 n2 c2) ∧ w'.cell? ⟨w.heap.size + 1, 2, none⟩ = some (.int .i64 E2)) (first | with_reducible exact KS.out _ g5 | with_reducible exact KS.out _ g4 | with_reducible exact KS.out _ g3) (first
      | (go_at_call_of 51 a1; refine (TP1.out _ g3).mono ?_; rintro e' t4 ⟨rfl, hb4⟩; have g4 := bl_trans8 g3 hb4)
      | (go_at_call_of 51 a2; refine (TP2.out _ g4).mono ?_; rintro e' t5 ⟨rfl, hb5⟩; have g5 := bl_trans8 g4 hb5))
    clear hb4 hb5 ca0 cb0 cc0 ca1 cb1 cc1
    clear g0 g1 g2
    have HG5 := hide g5
    clear g3 g4 g5
    have h0a : Below t5.heap.size t5 t5.drew := (Below.refl _ _).drew
    have g3 := bl_trans8 HG5.out h0a
    obtain ⟨ca0, cb0, cc0⟩ := tri8 (KB.out _ g3).1
    obtain ⟨ca1, cb1, cc1⟩ := tri8 (KB.out _ g3).2
    clear h0a
    go_wp2_with fail
    go_region_held3 (fun w' => w'.cell? ⟨w.heap.size, 0, none⟩ = some (.bool b1) ∧ w'.cell? ⟨w.heap.size, 1, none⟩ = some (.slice a1 n1 c1) ∧ w'.cell? ⟨w.heap.size, 2, none⟩ = some (.int .i64 E1) ∧ w'.cell? ⟨w.heap.size + 1, 0, none⟩ = some (.bool b2) ∧ w'.cell? ⟨w.heap.size + 1, 1, none⟩ = some (.slice a2 n2 c2) ∧ w'.cell? ⟨w.heap.size + 1, 2, none⟩ = some (.int .i64 E2)) (first | with_reducible exact KS.out _ g7 | with_reducible exact KS.out _ g6 | with_reducible exact KS.out _ g3) (first
      | (go_at_call_of 51 a1; refine (TP1.out _ g3).mono ?_; rintro e' t6 ⟨rfl, hb6⟩; have g6 := bl_trans8 g3 hb6)
      | (go_at_call_of 51 a2; refine (TP2.out _ g6).mono ?_; rintro e' t7 ⟨rfl, hb7⟩; have g7 := bl_trans8 g6 hb7))
    have HE := hide (bl_trans8 HGD.out g7)
    clear g3 g6 g7 hb6 hb7 ca0 cb0 cc0 ca1 cb1 cc1
    go_wp2
    go_ret
    exact ⟨rfl, HE.out⟩

end Go.Proofs.YtolebfnkmjmfnaaGreatDoor

namespace Go.Proofs.YtolebfnkmjmfnaaGreatDoor
open Go.RowKit
open Lm
attribute [local go_sem ↓] Go.wp_at_zero Go.wp_at_succ

set_option maxRecDepth 20000 in
set_option maxHeartbeats 4000000 in
theorem rdCmp_low (b1 : Bool) (a1 : Option Addr) (n1 c1 : Nat) (M1 E1 : Int) (b2 : Bool) (a2 : Option Addr) (n2 c2 : Nat) (M2 E2 : Int) (g : Nat) (w : World) (hD1 : Dn w b1 (.slice a1 n1 c1) M1) (hD2 : Dn w b2 (.slice a2 n2 c2) M2) (f1 : blen M1.natAbs ≤ 1125899906840000) (f2 : blen M2.natAbs ≤ 1125899906840000) (he1 : -1152921504606846976 ≤ E1) (he2 : E1 ≤ 1152921504606846976) (he3 : -1152921504606846976 ≤ E2) (he4 : E2 ≤ 1152921504606846976) (hs : M1.sign = M2.sign) (h0 : M1.sign ≠ 0) (ht : ((blen M1.natAbs : Nat) : Int) - 1 + E1 = ((blen M2.natAbs : Nat) : Int) - 1 + E2) (hg9 : E2 - E1 = (g : Int)) :
    Calls Tryz.prog 18 #[.agg #[.bool b1, .slice a1 n1 c1, .int .i64 E1], .agg #[.bool b2, .slice a2 n2 c2, .int .i64 E2]] w fun e w' => e = .returned (.int .i64 (cmpZ M1 (M2 * 2 ^ g))) ∧ Below w.heap.size w w' := by
  obtain ⟨w0, hw0, hb0, k0, k1⟩ := enter2 w (.cells #[.bool b1, .slice a1 n1 c1, .int .i64 E1] 41) (.cells #[.bool b2, .slice a2 n2 c2, .int .i64 E2] 41)
  have gd : Below w.heap.size w w0.drew := hb0.drew
  have SG1 := hide (fun (W : World) (hg : Below w0.drew.heap.size w0.drew W) => rzsign_any (.agg #[.bool b1, .slice a1 n1 c1]) M1 W ((hD1.below gd).below hg).zn)
  have SG2 := hide (fun (W : World) (hg : Below w0.drew.heap.size w0.drew W) => rzsign_any (.agg #[.bool b2, .slice a2 n2 c2]) M2 W ((hD2.below gd).below hg).zn)
  have TP1 := hide (fun (W : World) (hg : Below w0.drew.heap.size w0.drew W) => rdTop_any b1 a1 n1 c1 M1 E1 W ((hD1.below gd).below hg) (by omega) (by omega) (by omega))
  have TP2 := hide (fun (W : World) (hg : Below w0.drew.heap.size w0.drew W) => rdTop_any b2 a2 n2 c2 M2 E2 W ((hD2.below gd).below hg) (by omega) (by omega) (by omega))
  have HD1 := hide (hD1.below gd)
  have HD2 := hide (hD2.below gd)
  have KB := hide (fun (W : World) (hg : Below w0.drew.heap.size w0.drew W) => And.intro (block_upW hg (show w0.drew.heap[w.heap.size]? = some (.cells #[.bool b1, .slice a1 n1 c1, .int .i64 E1] 41) from k0)) (block_upW hg (show w0.drew.heap[w.heap.size + 1]? = some (.cells #[.bool b2, .slice a2 n2 c2, .int .i64 E2] 41) from k1)))
  have KS := hide (fun (W : World) (hg : Below w0.drew.heap.size w0.drew W) => show W.cell? ⟨w.heap.size, 0, none⟩ = some (.bool b1) ∧ W.cell? ⟨w.heap.size, 1, none⟩ = some (.slice a1 n1 c1) ∧ W.cell? ⟨w.heap.size, 2, none⟩ = some (.int .i64 E1) ∧ W.cell? ⟨w.heap.size + 1, 0, none⟩ = some (.bool b2) ∧ W.cell? ⟨w.heap.size + 1, 1, none⟩ = some (.slice a2 n2 c2) ∧ W.cell? ⟨w.heap.size + 1, 2, none⟩ = some (.int .i64 E2) from ⟨(tri8 (KB.out W hg).1).1, (tri8 (KB.out W hg).1).2.1, (tri8 (KB.out W hg).1).2.2, (tri8 (KB.out W hg).2).1, (tri8 (KB.out W hg).2).2.1, (tri8 (KB.out W hg).2).2.2⟩)
  have g0 : Below w0.drew.heap.size w0.drew w0.drew := Below.refl _ _
  have HGD := hide gd
  clear k0 k1 hb0 gd hD1 hD2
  have SHF := hide (fun (W : World) (hg : Below w0.drew.heap.size w0.drew W) => rzshift_any b2 a2 n2 c2 M2 g W (HD2.out.below hg).zn (by omega))
  rw [← hs] at SG2
  rw [← ht] at TP2
  have htt : (((blen M1.natAbs : Nat) : Int) - 1 + E1 != ((blen M1.natAbs : Nat) : Int) - 1 + E1) = false := by simp
  have htd : E1 ≤ E2 := by omega
  have htd2 : decide (E1 ≤ E2) = true := decide_eq_true htd
  have hwr : IntKind.i64.wrap (E2 - E1) = (g : Int) := by rw [hg9, IntKind.wrap_i64]; omega
  generalize ((blen M1.natAbs : Nat) : Int) - 1 + E1 = T1 at *
  have h0b : (M1.sign == 0) = false := beq_eq_false_iff_ne.2 h0
  have hxx : (M1.sign != M1.sign) = false := by simp
  generalize M1.sign = x at *
  have HG9 := hide hg9
  clear hs ht h0 hg9
  go_enter Tryz.func18, Tryz.ntmps18
  go_wp2_with fail
  go_region_held3 (fun w' => w'.cell? ⟨w.heap.size, 0, none⟩ = some (.bool b1) ∧ w'.cell? ⟨w.heap.size, 1, none⟩ = some (.slice a1 n1 c1) ∧ w'.cell? ⟨w.heap.size, 2, none⟩ = some (.int .i64 E1) ∧ w'.cell? ⟨w.heap.size + 1, 0, none⟩ = some (.bool b2) ∧ w'.cell? ⟨w.heap.size + 1, 1, none⟩ = some (.slice a2 n2 c2) ∧ w'.cell? ⟨w.heap.size + 1, 2, none⟩ = some (.int .i64 E2)) (first | with_reducible exact KS.out _ g2 | with_reducible exact KS.out _ g1 | with_reducible exact KS.out _ g0) (first
    | (go_at_call_of 43 a1; refine (SG1.out _ g0).mono ?_; rintro e' t1 ⟨rfl, hb1⟩; have g1 := bl_trans8 g0 hb1)
    | (go_at_call_of 43 a2; refine (SG2.out _ g1).mono ?_; rintro e' t2 ⟨rfl, hb2⟩; have g2 := bl_trans8 g1 hb2))
  clear hb1 hb2
  have h0a : Below t2.heap.size t2 t2.drew := (Below.refl _ _).drew
  have g3 := bl_trans8 g2 h0a
  obtain ⟨ca0, cb0, cc0⟩ := tri8 (KB.out _ g3).1
  obtain ⟨ca1, cb1, cc1⟩ := tri8 (KB.out _ g3).2
  clear h0a
  go_wp2_with fail
  go_region_held3 (fun w' => w'.cell? ⟨w.heap.size, 0, none⟩ = some (.bool b1) ∧ w'.cell? ⟨w.heap.size, 1, none⟩ = some (.slice a1 n1 c1) ∧ w'.cell? ⟨w.heap.size, 2, none⟩ = some (.int .i64 E1) ∧ w'.cell? ⟨w.heap.size + 1, 0, none⟩ = some (.bool b2) ∧ w'.cell? ⟨w.heap.size + 1, 1, none⟩ = some (.slice a2 n2 c2) ∧ w'.cell? ⟨w.heap.size + 1, 2, none⟩ = some (.int .i64 E2)) (first | with_reducible exact KS.out _ g5 | with_reducible exact KS.out _ g4 | with_reducible exact KS.out _ g3) (first
    | (go_at_call_of 51 a1; refine (TP1.out _ g3).mono ?_; rintro e' t4 ⟨rfl, hb4⟩; have g4 := bl_trans8 g3 hb4)
    | (go_at_call_of 51 a2; refine (TP2.out _ g4).mono ?_; rintro e' t5 ⟨rfl, hb5⟩; have g5 := bl_trans8 g4 hb5))
  clear hb4 hb5 ca0 cb0 cc0 ca1 cb1 cc1
  clear g0 g1 g2
  have HG5 := hide g5
  clear g3 g4 g5
  obtain ⟨da0, db0, dc0⟩ := tri8 (KB.out _ HG5.out).1
  obtain ⟨da1, db1, dc1⟩ := tri8 (KB.out _ HG5.out).2
  go_wp2_with fail
  have h0a : Below t5.heap.size t5 t5.drew := (Below.refl _ _).drew
  have g7 := bl_trans8 HG5.out h0a
  obtain ⟨ca0, cb0, cc0⟩ := tri8 (KB.out _ g7).1
  obtain ⟨ca1, cb1, cc1⟩ := tri8 (KB.out _ g7).2
  clear h0a da0 db0 dc0 da1 db1 dc1
  go_region_held3 (fun w' => w'.cell? ⟨w.heap.size, 0, none⟩ = some (.bool b1) ∧ w'.cell? ⟨w.heap.size, 1, none⟩ = some (.slice a1 n1 c1) ∧ w'.cell? ⟨w.heap.size, 2, none⟩ = some (.int .i64 E1) ∧ w'.cell? ⟨w.heap.size + 1, 0, none⟩ = some (.bool b2) ∧ w'.cell? ⟨w.heap.size + 1, 1, none⟩ = some (.slice a2 n2 c2) ∧ w'.cell? ⟨w.heap.size + 1, 2, none⟩ = some (.int .i64 E2)) (first | with_reducible exact KS.out _ g9 | with_reducible exact KS.out _ g8 | with_reducible exact KS.out _ g7) (first
    | (go_at_call 52; refine (rzcmp_any (.agg #[.bool b1, .slice a1 n1 c1]) (.agg #[.bool b8, .slice a8 n8 k8]) M1 (M2 * 2 ^ g) _ (HD1.out.below g8).zn y8).mono ?_; rintro e' t9 ⟨rfl, hb9⟩; have g9 := bl_trans8 g8 hb9)
    | (go_at_call 53; refine (SHF.out _ g7).mono ?_; rintro e' t8 ⟨⟨b8, a8, n8, k8, rfl, y8⟩, hb8⟩; have g8 := bl_trans8 g7 hb8))
  have HE := hide (bl_trans8 HGD.out g9)
  clear g7 g8 g9 hb8 hb9 ca0 cb0 cc0 ca1 cb1 cc1
  go_wp2
  go_ret
  exact ⟨rfl, HE.out⟩

set_option maxRecDepth 20000 in
set_option maxHeartbeats 4000000 in
theorem rdCmp_high (b1 : Bool) (a1 : Option Addr) (n1 c1 : Nat) (M1 E1 : Int) (b2 : Bool) (a2 : Option Addr) (n2 c2 : Nat) (M2 E2 : Int) (g : Nat) (w : World) (hD1 : Dn w b1 (.slice a1 n1 c1) M1) (hD2 : Dn w b2 (.slice a2 n2 c2) M2) (f1 : blen M1.natAbs ≤ 1125899906840000) (f2 : blen M2.natAbs ≤ 1125899906840000) (he1 : -1152921504606846976 ≤ E1) (he2 : E1 ≤ 1152921504606846976) (he3 : -1152921504606846976 ≤ E2) (he4 : E2 ≤ 1152921504606846976) (hs : M1.sign = M2.sign) (h0 : M1.sign ≠ 0) (ht : ((blen M1.natAbs : Nat) : Int) - 1 + E1 = ((blen M2.natAbs : Nat) : Int) - 1 + E2) (hg9 : E1 - E2 = (g : Int)) (hg0 : 0 < g) :
    Calls Tryz.prog 18 #[.agg #[.bool b1, .slice a1 n1 c1, .int .i64 E1], .agg #[.bool b2, .slice a2 n2 c2, .int .i64 E2]] w fun e w' => e = .returned (.int .i64 (cmpZ (M1 * 2 ^ g) M2)) ∧ Below w.heap.size w w' := by
  obtain ⟨w0, hw0, hb0, k0, k1⟩ := enter2 w (.cells #[.bool b1, .slice a1 n1 c1, .int .i64 E1] 41) (.cells #[.bool b2, .slice a2 n2 c2, .int .i64 E2] 41)
  have gd : Below w.heap.size w w0.drew := hb0.drew
  have SG1 := hide (fun (W : World) (hg : Below w0.drew.heap.size w0.drew W) => rzsign_any (.agg #[.bool b1, .slice a1 n1 c1]) M1 W ((hD1.below gd).below hg).zn)
  have SG2 := hide (fun (W : World) (hg : Below w0.drew.heap.size w0.drew W) => rzsign_any (.agg #[.bool b2, .slice a2 n2 c2]) M2 W ((hD2.below gd).below hg).zn)
  have TP1 := hide (fun (W : World) (hg : Below w0.drew.heap.size w0.drew W) => rdTop_any b1 a1 n1 c1 M1 E1 W ((hD1.below gd).below hg) (by omega) (by omega) (by omega))
  have TP2 := hide (fun (W : World) (hg : Below w0.drew.heap.size w0.drew W) => rdTop_any b2 a2 n2 c2 M2 E2 W ((hD2.below gd).below hg) (by omega) (by omega) (by omega))
  have HD1 := hide (hD1.below gd)
  have HD2 := hide (hD2.below gd)
  have KB := hide (fun (W : World) (hg : Below w0.drew.heap.size w0.drew W) => And.intro (block_upW hg (show w0.drew.heap[w.heap.size]? = some (.cells #[.bool b1, .slice a1 n1 c1, .int .i64 E1] 41) from k0)) (block_upW hg (show w0.drew.heap[w.heap.size + 1]? = some (.cells #[.bool b2, .slice a2 n2 c2, .int .i64 E2] 41) from k1)))
  have KS := hide (fun (W : World) (hg : Below w0.drew.heap.size w0.drew W) => show W.cell? ⟨w.heap.size, 0, none⟩ = some (.bool b1) ∧ W.cell? ⟨w.heap.size, 1, none⟩ = some (.slice a1 n1 c1) ∧ W.cell? ⟨w.heap.size, 2, none⟩ = some (.int .i64 E1) ∧ W.cell? ⟨w.heap.size + 1, 0, none⟩ = some (.bool b2) ∧ W.cell? ⟨w.heap.size + 1, 1, none⟩ = some (.slice a2 n2 c2) ∧ W.cell? ⟨w.heap.size + 1, 2, none⟩ = some (.int .i64 E2) from ⟨(tri8 (KB.out W hg).1).1, (tri8 (KB.out W hg).1).2.1, (tri8 (KB.out W hg).1).2.2, (tri8 (KB.out W hg).2).1, (tri8 (KB.out W hg).2).2.1, (tri8 (KB.out W hg).2).2.2⟩)
  have g0 : Below w0.drew.heap.size w0.drew w0.drew := Below.refl _ _
  have HGD := hide gd
  clear k0 k1 hb0 gd hD1 hD2
  have SHF := hide (fun (W : World) (hg : Below w0.drew.heap.size w0.drew W) => rzshift_any b1 a1 n1 c1 M1 g W (HD1.out.below hg).zn (by omega))
  rw [← hs] at SG2
  rw [← ht] at TP2
  have htt : (((blen M1.natAbs : Nat) : Int) - 1 + E1 != ((blen M1.natAbs : Nat) : Int) - 1 + E1) = false := by simp
  have htd : ¬ E1 ≤ E2 := by omega
  have htd2 : decide (E1 ≤ E2) = false := decide_eq_false htd
  have hwr : IntKind.i64.wrap (E1 - E2) = (g : Int) := by rw [hg9, IntKind.wrap_i64]; omega
  generalize ((blen M1.natAbs : Nat) : Int) - 1 + E1 = T1 at *
  have h0b : (M1.sign == 0) = false := beq_eq_false_iff_ne.2 h0
  have hxx : (M1.sign != M1.sign) = false := by simp
  generalize M1.sign = x at *
  have HG9 := hide hg9
  clear hs ht h0 hg9
  go_enter Tryz.func18, Tryz.ntmps18
  go_wp2_with fail
  go_region_held3 (fun w' => w'.cell? ⟨w.heap.size, 0, none⟩ = some (.bool b1) ∧ w'.cell? ⟨w.heap.size, 1, none⟩ = some (.slice a1 n1 c1) ∧ w'.cell? ⟨w.heap.size, 2, none⟩ = some (.int .i64 E1) ∧ w'.cell? ⟨w.heap.size + 1, 0, none⟩ = some (.bool b2) ∧ w'.cell? ⟨w.heap.size + 1, 1, none⟩ = some (.slice a2 n2 c2) ∧ w'.cell? ⟨w.heap.size + 1, 2, none⟩ = some (.int .i64 E2)) (first | with_reducible exact KS.out _ g2 | with_reducible exact KS.out _ g1 | with_reducible exact KS.out _ g0) (first
    | (go_at_call_of 43 a1; refine (SG1.out _ g0).mono ?_; rintro e' t1 ⟨rfl, hb1⟩; have g1 := bl_trans8 g0 hb1)
    | (go_at_call_of 43 a2; refine (SG2.out _ g1).mono ?_; rintro e' t2 ⟨rfl, hb2⟩; have g2 := bl_trans8 g1 hb2))
  clear hb1 hb2
  have h0a : Below t2.heap.size t2 t2.drew := (Below.refl _ _).drew
  have g3 := bl_trans8 g2 h0a
  obtain ⟨ca0, cb0, cc0⟩ := tri8 (KB.out _ g3).1
  obtain ⟨ca1, cb1, cc1⟩ := tri8 (KB.out _ g3).2
  clear h0a
  go_wp2_with fail
  go_region_held3 (fun w' => w'.cell? ⟨w.heap.size, 0, none⟩ = some (.bool b1) ∧ w'.cell? ⟨w.heap.size, 1, none⟩ = some (.slice a1 n1 c1) ∧ w'.cell? ⟨w.heap.size, 2, none⟩ = some (.int .i64 E1) ∧ w'.cell? ⟨w.heap.size + 1, 0, none⟩ = some (.bool b2) ∧ w'.cell? ⟨w.heap.size + 1, 1, none⟩ = some (.slice a2 n2 c2) ∧ w'.cell? ⟨w.heap.size + 1, 2, none⟩ = some (.int .i64 E2)) (first | with_reducible exact KS.out _ g5 | with_reducible exact KS.out _ g4 | with_reducible exact KS.out _ g3) (first
    | (go_at_call_of 51 a1; refine (TP1.out _ g3).mono ?_; rintro e' t4 ⟨rfl, hb4⟩; have g4 := bl_trans8 g3 hb4)
    | (go_at_call_of 51 a2; refine (TP2.out _ g4).mono ?_; rintro e' t5 ⟨rfl, hb5⟩; have g5 := bl_trans8 g4 hb5))
  clear hb4 hb5 ca0 cb0 cc0 ca1 cb1 cc1
  clear g0 g1 g2
  have HG5 := hide g5
  clear g3 g4 g5
  obtain ⟨da0, db0, dc0⟩ := tri8 (KB.out _ HG5.out).1
  obtain ⟨da1, db1, dc1⟩ := tri8 (KB.out _ HG5.out).2
  go_wp2_with fail
  have h0a : Below t5.heap.size t5 t5.drew := (Below.refl _ _).drew
  have g7 := bl_trans8 HG5.out h0a
  obtain ⟨ca0, cb0, cc0⟩ := tri8 (KB.out _ g7).1
  obtain ⟨ca1, cb1, cc1⟩ := tri8 (KB.out _ g7).2
  clear h0a da0 db0 dc0 da1 db1 dc1
  go_region_held3 (fun w' => w'.cell? ⟨w.heap.size, 0, none⟩ = some (.bool b1) ∧ w'.cell? ⟨w.heap.size, 1, none⟩ = some (.slice a1 n1 c1) ∧ w'.cell? ⟨w.heap.size, 2, none⟩ = some (.int .i64 E1) ∧ w'.cell? ⟨w.heap.size + 1, 0, none⟩ = some (.bool b2) ∧ w'.cell? ⟨w.heap.size + 1, 1, none⟩ = some (.slice a2 n2 c2) ∧ w'.cell? ⟨w.heap.size + 1, 2, none⟩ = some (.int .i64 E2)) (first | with_reducible exact KS.out _ g9 | with_reducible exact KS.out _ g8 | with_reducible exact KS.out _ g7) (first
    | (go_at_call 52; refine (rzcmp_any (.agg #[.bool b8, .slice a8 n8 k8]) (.agg #[.bool b2, .slice a2 n2 c2]) (M1 * 2 ^ g) M2 _ y8 (HD2.out.below g8).zn).mono ?_; rintro e' t9 ⟨rfl, hb9⟩; have g9 := bl_trans8 g8 hb9)
    | (go_at_call 53; refine (SHF.out _ g7).mono ?_; rintro e' t8 ⟨⟨b8, a8, n8, k8, rfl, y8⟩, hb8⟩; have g8 := bl_trans8 g7 hb8))
  have HE := hide (bl_trans8 HGD.out g9)
  clear g7 g8 g9 hb8 hb9 ca0 cb0 cc0 ca1 cb1 cc1
  go_wp2
  go_ret
  exact ⟨rfl, HE.out⟩

theorem rdCmp_any (b1 : Bool) (a1 : Option Addr) (n1 c1 : Nat) (M1 E1 : Int) (b2 : Bool) (a2 : Option Addr) (n2 c2 : Nat) (M2 E2 : Int) (L p q : Nat) (w : World) (hD1 : Dn w b1 (.slice a1 n1 c1) M1) (hD2 : Dn w b2 (.slice a2 n2 c2) M2) (f1 : blen M1.natAbs ≤ 1125899906840000) (f2 : blen M2.natAbs ≤ 1125899906840000) (he1 : -1152921504606846976 ≤ E1) (he2 : E1 ≤ 1152921504606846976) (he3 : -1152921504606846976 ≤ E2) (he4 : E2 ≤ 1152921504606846976) (hp : (p : Int) = E1 + L) (hq : (q : Int) = E2 + L) :
    Calls Tryz.prog 18 #[.agg #[.bool b1, .slice a1 n1 c1, .int .i64 E1], .agg #[.bool b2, .slice a2 n2 c2, .int .i64 E2]] w fun e w' => e = .returned (.int .i64 (cmpZ (M1 * 2 ^ p) (M2 * 2 ^ q))) ∧ Below w.heap.size w w' := by
  by_cases hs : M1.sign = M2.sign
  · by_cases h0 : M1.sign = 0
    · have z1 : M1 = 0 := by have := sign_vals9 M1; omega
      have z2 : M2 = 0 := by have := sign_vals9 M2; omega
      have e : cmpZ (M1 * 2 ^ p) (M2 * 2 ^ q) = 0 := by rw [z1, z2, Int.zero_mul, Int.zero_mul]; rfl
      rw [e]
      exact rdCmp_zero b1 a1 n1 c1 M1 E1 b2 a2 n2 c2 M2 E2 w hD1 hD2 f1 f2 he1 he2 he3 he4 hs h0
    · by_cases ht : ((blen M1.natAbs : Nat) : Int) - 1 + E1 = ((blen M2.natAbs : Nat) : Int) - 1 + E2
      · by_cases hle : E1 ≤ E2
        · obtain ⟨g, hg⟩ : ∃ g : Nat, E2 - E1 = (g : Int) := ⟨(E2 - E1).toNat, by omega⟩
          have e : cmpZ (M1 * 2 ^ p) (M2 * 2 ^ q) = cmpZ M1 (M2 * 2 ^ g) := by
            rw [show q = g + p by omega, Int.pow_add, ← Int.mul_assoc, cmpZ_mul9 (pos_pow9 p)]
          rw [e]
          exact rdCmp_low b1 a1 n1 c1 M1 E1 b2 a2 n2 c2 M2 E2 g w hD1 hD2 f1 f2 he1 he2 he3 he4 hs h0 ht hg
        · obtain ⟨g, hg⟩ : ∃ g : Nat, E1 - E2 = (g : Int) := ⟨(E1 - E2).toNat, by omega⟩
          have e : cmpZ (M1 * 2 ^ p) (M2 * 2 ^ q) = cmpZ (M1 * 2 ^ g) M2 := by
            rw [show p = g + q by omega, Int.pow_add, ← Int.mul_assoc, cmpZ_mul9 (pos_pow9 q)]
          rw [e]
          exact rdCmp_high b1 a1 n1 c1 M1 E1 b2 a2 n2 c2 M2 E2 g w hD1 hD2 f1 f2 he1 he2 he3 he4 hs h0 ht hg (by omega)
      · rw [cmp_tops9 hs h0 (by omega)]
        have e : (blen M1.natAbs + p < blen M2.natAbs + q) ↔ ((blen M1.natAbs : Nat) : Int) - 1 + E1 < ((blen M2.natAbs : Nat) : Int) - 1 + E2 := by omega
        simp only [e]
        exact rdCmp_tops b1 a1 n1 c1 M1 E1 b2 a2 n2 c2 M2 E2 w hD1 hD2 f1 f2 he1 he2 he3 he4 hs h0 ht
  · have hs2 : (M1 * 2 ^ p).sign ≠ (M2 * 2 ^ q).sign := by rw [sign_mul9, sign_mul9]; exact hs
    rw [cmp_signs9 hs2, sign_mul9, sign_mul9]
    exact rdCmp_signs b1 a1 n1 c1 M1 E1 b2 a2 n2 c2 M2 E2 w hD1 hD2 f1 f2 he1 he2 he3 he4 hs

set_option maxRecDepth 20000 in
set_option maxHeartbeats 4000000 in
theorem rdScale_any (b : Bool) (a : Option Addr) (n c : Nat) (M E k : Int) (w : World) (h : Dn w b (.slice a n c) M) (hw : M ≠ 0 → -9223372036854775808 ≤ E + k ∧ E + k ≤ 9223372036854775807) :
    Calls Tryz.prog 41 #[.agg #[.bool b, .slice a n c, .int .i64 E], .int .i64 k] w (DnDone w M (if M = 0 then E else E + k)) := by
  obtain ⟨w0, hw0, hb0, h0, h1⟩ := enter2 w (.cells #[.bool b, .slice a n c, .int .i64 E] 41) (.cells #[.bool false, .slice none 0 0, .int .i64 0] 41)
  obtain ⟨k0, k1, k2⟩ := tri8 h0
  have SG := rzsign_any (.agg #[.bool b, .slice a n c]) M w0 (h.below hb0).zn
  have HK0 := hide h0
  have HK1 := hide h1
  have HB := hide hb0
  have HD := hide h
  clear h0 h1 hb0 h
  have hsv := sign_vals9 M
  by_cases hM : M = 0
  · rw [if_pos hM]
    have e : M.sign = 0 := by omega
    rw [e] at SG
    clear hsv e hw
    go_enter Tryz.func41, Tryz.ntmps41
    go_wp2_with fail
    refine SG.mono ?_
    rintro e t1 ⟨rfl, g1⟩
    have HC1 := hide (block_upW g1 HK1.out)
    have HG := hide (bl_trans8 HB.out g1)
    have HDN := hide (HD.out.below HG.out)
    have hf1 := tri8f HC1.out
    obtain ⟨m0, m1, m2⟩ := tri8 HC1.out
    obtain ⟨l0, l1, l2⟩ := tri8 (block_upW g1 HK0.out)
    clear g1 SG k0 k1 k2
    go_wp2
    have T3 := tri8_all HC1.out (.bool b) (.slice a n c) (.int .i64 E)
    have T4 := below_tri8 HG.out (show w.heap.size ≤ w.heap.size + 1 by omega) (.bool b) (.slice a n c) (.int .i64 E)
    have T5 := HDN.out.tri8 HC1.out b a n c (.int .i64 E)
    obtain ⟨p0, p1, p2⟩ := tri8 T3
    have HE := hide (And.intro T5 T4)
    clear T3 T4 T5
    generalize ((t1.setCell ⟨w.heap.size + 1, 0, none⟩ (.bool b)).setCell ⟨w.heap.size + 1, 1, none⟩ (.slice a n c)).setCell ⟨w.heap.size + 1, 2, none⟩ (.int .i64 E) = w5 at *
    refine bodyPost_ret (v := .agg #[.bool b, .slice a n c, .int .i64 E]) (by simp [results, Tryz.results41, go_sem, p0, p1, p2]) rfl ?_
    exact ⟨⟨_, _, _, _, rfl, HE.out.1⟩, HE.out.2⟩
  · rw [if_neg hM]
    have hwr : IntKind.i64.wrap (E + k) = E + k := by have := hw hM; rw [IntKind.wrap_i64]; omega
    have e : M.sign ≠ 0 := by omega
    clear hw
    have e2 : (M.sign == 0) = false := beq_eq_false_iff_ne.2 e
    obtain ⟨es, hes⟩ : ∃ es, E + k = es := ⟨_, rfl⟩
    rw [hes] at hwr
    have hes2 : E + k = es := hes
    rw [hes]
    generalize M.sign = x at *
    clear hsv e hes
    go_enter Tryz.func41, Tryz.ntmps41
    go_wp2_with fail
    refine SG.mono ?_
    rintro e t1 ⟨rfl, g1⟩
    have HC1 := hide (block_upW g1 HK1.out)
    have HG := hide (bl_trans8 HB.out g1)
    have HDN := hide (HD.out.below HG.out)
    have hf1 := tri8f HC1.out
    obtain ⟨m0, m1, m2⟩ := tri8 HC1.out
    obtain ⟨l0, l1, l2⟩ := tri8 (block_upW g1 HK0.out)
    clear g1 SG k0 k1 k2
    go_wp2
    have T3 := tri8_all HC1.out (.bool b) (.slice a n c) (.int .i64 es)
    have T4 := below_tri8 HG.out (show w.heap.size ≤ w.heap.size + 1 by omega) (.bool b) (.slice a n c) (.int .i64 es)
    have T5 := HDN.out.tri8 HC1.out b a n c (.int .i64 es)
    obtain ⟨p0, p1, p2⟩ := tri8 T3
    have HE := hide (And.intro T5 T4)
    clear T3 T4 T5
    generalize ((t1.setCell ⟨w.heap.size + 1, 0, none⟩ (.bool b)).setCell ⟨w.heap.size + 1, 1, none⟩ (.slice a n c)).setCell ⟨w.heap.size + 1, 2, none⟩ (.int .i64 es) = w5 at *
    refine bodyPost_ret (v := .agg #[.bool b, .slice a n c, .int .i64 es]) (by simp [results, Tryz.results41, go_sem, p0, p1, p2]) rfl ?_
    exact ⟨⟨_, _, _, _, rfl, HE.out.1⟩, HE.out.2⟩

end Go.Proofs.YtolebfnkmjmfnaaGreatDoor

namespace Go.Proofs.YtolebfnkmjmfnaaGreatDoor
open Go.RowKit
open Lm
attribute [local go_sem ↓] Go.wp_at_zero Go.wp_at_succ

/-- Lists that lie apart from each other, and the list of them. -/
structure StX (sp : List Value) (w : World) (base L : Nat) (vs : List Value) (rows : Nat → List Nat) : Prop where
  list : w.heap[L]? = some (.cells (vs ++ sp).toArray 22 (0, 0))
  row : ∀ i, i < vs.length → Ans w base (vs.getD i nilV) (rows i)
  apart : ∀ i j, i < vs.length → j < vs.length → i ≠ j → (vs.getD i nilV).ownBlock = none ∨ (vs.getD i nilV).ownBlock ≠ (vs.getD j nilV).ownBlock

theorem StX.cell {sp : List Value} {w : World} {base L : Nat} {vs : List Value} {rows : Nat → List Nat} (h : StX sp w base L vs rows) (i : Nat) (hi : i < vs.length) : w.cell? ⟨L, i, none⟩ = some (vs.getD i nilV) := by
  simp [World.cell?, h.list, hi, List.getD, List.getElem?_append_left hi]

theorem StX.free {sp : List Value} {w : World} {base L : Nat} {vs : List Value} {rows : Nat → List Nat} (h : StX sp w base L vs rows) (i : Nat) : w.frozen? ⟨L, i, none⟩ = false := by
  simp [World.frozen?, h.list]

theorem StX.store {sp : List Value} {w : World} {base L : Nat} {vs : List Value} {rows : Nat → List Nat} (h : StX sp w base L vs rows) (i g cap : Nat) (hi : i < vs.length) (hv : vs.getD i nilV = .slice (some ⟨g, 0, none⟩) (rows i).length cap) (j z : Nat) (hz : z < 18446744073709551616) :
    StX sp (w.setCell ⟨g, j, none⟩ (.int .u64 (z : Int))) base L vs (upd rows i ((rows i).set j z)) := by
  have hri := h.row i hi
  have hne := hri.ne h.list
  rw [hv] at hne
  have hgL : L ≠ g := fun e => hne (by simp [Value.ownBlock, e])
  refine ⟨?_, fun m hm => ?_, h.apart⟩
  · rw [Below.heap_setCell _ _ _ _ hgL]; exact h.list
  · by_cases e : m = i
    · subst e
      rw [upd_same, hv]
      rw [hv] at hri
      have := hri.stored j z hz
      rw [List.length_set] at this
      exact this
    · rw [upd_other _ _ _ _ e]
      refine ⟨ownsRow_setCell_other (h.row m hm).own ?_ _, (h.row m hm).limbs⟩
      have := h.apart m i hm hi e
      rw [hv] at this
      rcases this with h1 | h1
      · rw [h1]; simp
      · simpa [Value.ownBlock] using h1

theorem StX.grow {sp : List Value} {w w2 : World} {base L : Nat} {vs : List Value} {rows : Nat → List Nat} (h : StX sp w base L vs rows) (k : Nat) (hk : k < vs.length) (o : Obj) (v' : Value) (r : List Nat)
    (ho : w2.ownsRow base 101 1 v' r.length (r.map lv)) (hl : Limbs r) (hg : (w.alloc o).grownBy w2 (vs.getD k nilV).ownBlock) (hat : v'.ownBlock = (vs.getD k nilV).ownBlock ∨ v'.ownBlock = some (w.alloc o).heap.size) :
    StX sp (w2.setCell ⟨L, k, none⟩ v') base L (vs.set k v') (upd rows k r) := by
  have hL := lt_of_block h.list
  have hsz : (w.alloc o).heap.size = w.heap.size + 1 := by simp
  have hneL := (h.row k hk).ne h.list
  have hL2 : w2.heap[L]? = some (.cells (vs ++ sp).toArray 22 (0, 0)) := by
    have e1 : (w.alloc o).heap[L]? = w.heap[L]? := Below.heap_alloc w o L hL
    rw [hg.block L (by omega) (fun e => hneL e.symm), e1]; exact h.list
  have hneL' : v'.ownBlock ≠ some L := by
    rcases hat with e | e
    · rw [e]; exact hneL
    · rw [e]; intro e2; simp at e2; omega
  refine ⟨?_, fun m hm => ?_, fun i j hi hj hij => ?_⟩
  · have hlt := lt_of_block hL2
    have h' : w2.heap[L] = .cells (vs ++ sp).toArray 22 (0, 0) := by simpa [Array.getElem?_eq_getElem hlt] using hL2
    show (w2.heap.modify L _)[L]? = _
    rw [Array.getElem?_eq_getElem (by simpa using hlt), Array.getElem_modify_self, h']
    simp [List.set_append_left _ _ hk]
  · rw [List.length_set] at hm
    by_cases e : m = k
    · subst e
      have ev : (vs.set m v').getD m nilV = v' := by simp [List.getD, hm]
      rw [upd_same, ev]
      exact ⟨ownsRow_setCell_other ho hneL' _, hl⟩
    · have ev : (vs.set k v').getD m nilV = vs.getD m nilV := by
        simp [List.getD, List.getElem?_set_ne (Ne.symm e)]
      rw [upd_other _ _ _ _ e, ev]
      have hr := h.row m hm
      refine ⟨ownsRow_setCell_other (((hr.own).alloc o).kept hg ?_) (hr.ne h.list) _, hr.limbs⟩
      exact h.apart m k hm hk e
  · rw [List.length_set] at hi hj
    have hlt : ∀ m, m < vs.length → ∀ g, (vs.getD m nilV).ownBlock = some g → g < w.heap.size := fun m hm g hg => ((h.row m hm).own.lt g hg).2
    by_cases e1 : i = k
    · subst e1
      have ev : (vs.set i v').getD i nilV = v' := by simp [List.getD, hi]
      have ev2 : (vs.set i v').getD j nilV = vs.getD j nilV := by simp [List.getD, List.getElem?_set_ne hij]
      rw [ev, ev2]
      rcases hat with e | e
      · rw [e]; exact h.apart i j hi hj hij
      · right
        rw [e]
        intro e2
        have := hlt j hj _ e2.symm
        omega
    · by_cases e2 : j = k
      · subst e2
        have ev : (vs.set j v').getD j nilV = v' := by simp [List.getD, hj]
        have ev2 : (vs.set j v').getD i nilV = vs.getD i nilV := by simp [List.getD, List.getElem?_set_ne (Ne.symm e1)]
        rw [ev, ev2]
        rcases hat with e | e
        · rw [e]; exact h.apart i j hi hj hij
        · right
          rw [e]
          intro e3
          have := hlt i hi _ e3
          omega
      · have ev : (vs.set k v').getD i nilV = vs.getD i nilV := by simp [List.getD, List.getElem?_set_ne (Ne.symm e1)]
        have ev2 : (vs.set k v').getD j nilV = vs.getD j nilV := by simp [List.getD, List.getElem?_set_ne (Ne.symm e2)]
        rw [ev, ev2]
        exact h.apart i j hi hj hij

theorem StX.congr {sp : List Value} {w : World} {base L : Nat} {vs : List Value} {rows rows' : Nat → List Nat} (h : StX sp w base L vs rows) (he : ∀ i, i < vs.length → rows i = rows' i) : StX sp w base L vs rows' :=
  ⟨h.list, fun i hi => by rw [← he i hi]; exact h.row i hi, h.apart⟩

theorem StX.kept {sp : List Value} {w w2 : World} {base L : Nat} {vs : List Value} {rows : Nat → List Nat} {v : Value} (h : StX sp w base L vs rows) (k : Nat) (hk : k < vs.length) (hv : vs.getD k nilV = v) (o : Obj) (hg : (w.alloc o).grownBy w2 v.ownBlock) :
    w2.cell? ⟨L, k, none⟩ = some v ∧ w2.frozen? ⟨L, k, none⟩ = false := by
  have hL := lt_of_block h.list
  have hneL := (h.row k hk).ne h.list
  rw [hv] at hneL
  have hsz : (w.alloc o).heap.size = w.heap.size + 1 := by simp
  have e : w2.heap[L]? = w.heap[L]? := by
    rw [hg.block L (by omega) (fun e => hneL e.symm)]; exact Below.heap_alloc w o L hL
  refine ⟨?_, ?_⟩
  · rw [World.cell?_of_block (w := w) (a := ⟨L, k, none⟩) e, h.cell k hk, hv]
  · rw [World.frozen?_of_block (w := w) (a := ⟨L, k, none⟩) e]; exact h.free k

set_option maxHeartbeats 1000000 in
theorem own_anyX (sp : List Value) (cap : Nat) (L base : Nat) (vs : List Value) (rows : Nat → List Nat) (w : World) (h : StX sp w base L vs rows) (hn : vs.length ≤ 1000) (hl : ∀ i, i < vs.length → (rows i).length ≤ 17592186044000) (hb : base ≤ L) :
    Calls Tryz.prog 20 #[.slice (some ⟨L, 0, none⟩) vs.length cap] w fun e w' => e = .returned (.bool true) ∧ BK base w w' := by
  go_enter Tryz.func20, Tryz.ntmps20
  go_wp2
  go_loopw [15] (fun i wr => ∃ k : Nat, k ≤ vs.length ∧ i = .int .i64 k ∧ StX sp wr base L vs (overTo rows k) ∧ BK base w wr) (fun i _ => vs.length - (intOf i).toNat)
  case atStart => exact ⟨0, Nat.zero_le _, rfl, h.congr (fun i _ => by simp [overTo]), BK.refl _ _⟩
  case round =>
    obtain ⟨k, hk, rfl, hst, hbl⟩ := hrel
    by_cases hkl : k < vs.length
    · have hck := hst.cell k hkl
      have hrow := hst.row k hkl
      have hrk : overTo rows k k = rows k := by simp [overTo]
      rw [hrk] at hrow
      have hlk := hl k hkl
      have ec : (k : Int) % 251 + 1 = ((k % 251 + 1 : Nat) : Int) := by omega
      have bc : k % 251 + 1 < 18446744073709551616 := by omega
      have HRK := hide hrk
      have HOV : Hid (over rows k = List.replicate (rows k).length (k % 251 + 1)) := rfl
      have HST := hide hst
      have HBL := hide hbl
      generalize k % 251 + 1 = c at *
      clear hst hbl hrk h
      rcases hrow.form with ⟨hv, hz⟩ | ⟨g, cap, hv, hg1, hg2, hcap, hmax, _, _⟩
      · rw [hv] at hck
        have HZ := hide hz
        clear hrow hv hz
        go_wp2
        refine wp_loop_rounds 1 ?_
        rw [rounds_succ]
        go_wp2
        go_roundw
        case rel =>
          refine ⟨k + 1, by omega, by go_num, HST.out.congr (fun m _ => ?_), HBL.out⟩
          by_cases e : m = k
          · subst e
            rw [HRK.out]
            simp [overTo, over, HZ.out]
          · exact overTo_step rows k m e
        case measure => simp [intOf]; omega
      · rw [hv] at hck
        go_wp2
        go_loopw [22] (fun i wr => ∃ j : Nat, j ≤ (rows k).length ∧ i = .int .i64 j ∧ StX sp wr base L vs (upd (overTo rows k) k (List.replicate j c ++ (rows k).drop j)) ∧ BK base w wr) (fun i _ => (rows k).length - (intOf i).toNat)
        case atStart =>
          refine ⟨0, Nat.zero_le _, rfl, HST.out.congr (fun m _ => ?_), HBL.out⟩
          by_cases e : m = k
          · subst e; rw [HRK.out, upd_same]; simp
          · rw [upd_other _ _ _ _ e]
        case round =>
          obtain ⟨j, hj, rfl, hst, hbl⟩ := hrel
          clear HST HBL
          by_cases hjl : j < (rows k).length
          · have hr2 := hst.row k hkl
            rw [upd_same] at hr2
            have hfl := fill_length (rows k) j c hj
            rcases hr2.form with ⟨hv2, _⟩ | ⟨g', cap', hv2, hg1', hg2', _, _, hfr', hcl'⟩
            · rw [hv2] at hv; cases hv
            · have hgg : g' = g := by rw [hv2] at hv; simp only [Value.slice.injEq, Option.some.injEq, Addr.mk.injEq] at hv; exact hv.1.1
              subst hgg
              have hfr := hfr' j
              have hco := hcl' j (by omega)
              have hst2 := hst.store k g' cap' hkl (by rw [upd_same]; exact hv2) j c bc
              rw [upd_same, fill_set (rows k) j c hjl] at hst2
              have HS := hide hst2
              have HL := hide (hbl.store (hv2 ▸ hr2) j (.int .u64 (c : Int)))
              generalize (List.replicate j c ++ (rows k).drop j).getD j 0 = o at *
              clear hst hbl hst2 hr2 hv2 hfr' hcl' hrow hv hck hfl
              go_wp2
              go_roundw
              case rel =>
                refine ⟨j + 1, by omega, by go_num, HS.out.congr (fun m _ => ?_), HL.out⟩
                by_cases e : m = k
                · subst e; rw [upd_same, upd_same]
                · rw [upd_other _ _ _ _ e, upd_other _ _ _ _ e, upd_other _ _ _ _ e]
              case measure => simp [intOf]; omega
          · have ej : j = (rows k).length := by omega
            subst ej
            have HS := hide hst
            have HL := hide hbl
            clear hst hbl hrow hv hck
            go_wp2
            go_roundw
            case rel =>
              refine ⟨k + 1, by omega, by go_num, HS.out.congr (fun m _ => ?_), HL.out⟩
              by_cases e : m = k
              · subst e
                rw [upd_same]
                have : overTo rows (m + 1) m = over rows m := by simp [overTo]
                rw [this, HOV.out]; simp
              · rw [upd_other _ _ _ _ e]; exact overTo_step rows k m e
            case measure => simp [intOf]; omega
    · have ek : k = vs.length := by omega
      subst ek
      have hst3 : StX sp wr base L vs (over rows) := hst.congr (fun m hm => by simp [overTo, hm])
      have HST := hide hst3
      have HBL := hide hbl
      clear hst hbl hst3 h
      obtain ⟨i0, hi, hz0, hz1, hz2⟩ := info_parts Tryz.infoU
      go_wp2
      go_loopw [36] (fun i wr => ∃ (k : Nat) (us : List Value), k ≤ vs.length ∧ us.length = vs.length ∧ i = .int .i64 k ∧ StX sp wr base L us (fun m => if m < k then over rows m ++ five (300 + 5 * m) else over rows m) ∧ BK base w wr) (fun i _ => vs.length - (intOf i).toNat)
      case atStart => exact ⟨0, vs, Nat.zero_le _, rfl, rfl, HST.out.congr (fun m _ => by simp), HBL.out⟩
      case round =>
        obtain ⟨k, us, hk', hus, rfl, hst, hbl⟩ := hrel
        clear HST HBL
        by_cases hkl' : k < vs.length
        · have hku : k < us.length := by omega
          have hck := hst.cell k hku
          have hrow := hst.row k hku
          simp only [Nat.lt_irrefl, if_false] at hrow
          have hfr := hst.free k
          have hlen : (over rows k).length ≤ 17592186044000 := by unfold over; rw [List.length_replicate]; exact hl k hkl'
          have eb : (300 : Int) + 5 * (k : Int) = ((300 + 5 * k : Nat) : Int) := by omega
          have HST := hide hst
          have HBL := hide hbl
          have HV := hide (rfl : us.getD k nilV = us.getD k nilV)
          have HB5 : Hid (300 + 5 * k < 6000) := by unfold Hid; omega
          obtain ⟨bb, hbb⟩ : ∃ bb, bb = 300 + 5 * k := ⟨_, rfl⟩
          rw [← hbb] at eb
          have hb6 : bb < 6000 := by omega
          have HBB := hide hbb
          generalize hv : us.getD k nilV = v at *
          have HVV := hide hv
          obtain ⟨b1, h1⟩ : ∃ b1, b1 = bb + 1 := ⟨_, rfl⟩
          obtain ⟨b2, h2⟩ : ∃ b2, b2 = bb + 2 := ⟨_, rfl⟩
          obtain ⟨b3, h3⟩ : ∃ b3, b3 = bb + 3 := ⟨_, rfl⟩
          obtain ⟨b4, h4⟩ : ∃ b4, b4 = bb + 4 := ⟨_, rfl⟩
          have g1 : (bb : Int) + 1 = (b1 : Int) := by omega
          have g2 : (bb : Int) + 2 = (b2 : Int) := by omega
          have g3 : (bb : Int) + 3 = (b3 : Int) := by omega
          have g4 : (bb : Int) + 4 = (b4 : Int) := by omega
          have q1 : b1 < 18446744073709551616 := by omega
          have q2 : b2 < 18446744073709551616 := by omega
          have q3 : b3 < 18446744073709551616 := by omega
          have q4 : b4 < 18446744073709551616 := by omega
          have H5 : Hid ([bb, b1, b2, b3, b4] = five (300 + 5 * k)) := hide (by rw [h1, h2, h3, h4, hbb]; rfl)
          clear hst hbl hv hbb HV h1 h2 h3 h4
          go_wp2_with (at_builtin; refine wpList_append_own_at _ rfl _ _ 22 rfl base 101 i0 (.int .u64 0) 1 8 Tryz.underlying22 hi hz0 hz1 hz2 rfl (by decide) v (over rows k).length _ rfl (hrow.own.alloc _) ⟨wr.heap.size, 0, none⟩ 5 5 ([bb, b1, b2, b3, b4].map lv) rfl rfl (news_cells [bb, b1, b2, b3, b4]) (lv_oneCell _) (by unfold maxLen; omega) (by omega) (by have := lt_of_block HST.out.list; simp; omega) ?_; intro v' w2 hown2 hgrow2 _ hat2; have hkp := HST.out.kept k hku HVV.out _ hgrow2; have hck2 := hkp.1; have hfr2 := hkp.2; clear hkp; obtain ⟨g5, cap5, hv5⟩ := own_shape hown2 (by omega); subst hv5; have HO := hide hown2; have HG := hide hgrow2; have HAT := hide hat2; clear hown2 hgrow2 hat2)
          go_roundw
          case rel =>
            refine ⟨k + 1, us.set k _, by omega, by rw [List.length_set]; exact hus, by go_num, (HST.out.grow k hku _ _ (over rows k ++ five (300 + 5 * k)) ?_ ?_ (by rw [HVV.out]; exact HG.out) (by rw [HVV.out]; exact HAT.out)).congr (fun m _ => ?_), ?_⟩
            · rw [← H5.out, List.length_append, List.map_append]; exact HO.out
            · exact row_limbs rows k (by omega)
            · by_cases e : m = k
              · subst e; rw [upd_same]; simp
              · rw [upd_other _ _ _ _ e]
                by_cases h1 : m < k
                · rw [if_pos h1, if_pos (by omega)]
                · rw [if_neg h1, if_neg (by omega)]
            · have hLs := lt_of_block HST.out.list
              exact HBL.out.grew hrow HST.out.list hb HG.out k _
          case measure => simp [intOf]; omega
        · have ek : k = vs.length := by omega
          subst ek
          have hst4 : StX sp wr base L us (fun m => over rows m ++ five (300 + 5 * m)) := hst.congr (fun m hm => by simp [show m < vs.length by omega])
          have HST := hide hst4
          have HBL := hide hbl
          clear hst hbl hst4 hi hz0 hz1 hz2
          go_wp2
          go_loop [64] (fun i => ∃ k : Nat, k ≤ vs.length ∧ i = .int .i64 k) (fun i => vs.length - (intOf i).toNat)
          case atStart => exact ⟨0, Nat.zero_le _, rfl⟩
          case round =>
            obtain ⟨k, hk4, rfl⟩ := hrel
            by_cases hkl4 : k < vs.length
            · have hku : k < us.length := by omega
              have hck := HST.out.cell k hku
              have hrow := HST.out.row k hku
              have hlr : (over rows k ++ five (300 + 5 * k)).length = (rows k).length + 5 := by simp [over, five]
              rcases hrow.form with ⟨_, h0⟩ | ⟨g, cap, hv, _, _, hgl, hgm, _, hgc⟩
              · rw [h0] at hlr; simp at hlr
              · rw [hlr] at hv hgl hgc
                rw [hv] at hck
                have hzl := hl k hkl4
                have HGC := hide hgc
                clear hrow hgc hv hlr
                go_wp2
                go_loop [71] (fun i => ∃ j : Nat, j ≤ (rows k).length + 5 ∧ i = .int .i64 j) (fun i => (rows k).length + 5 - (intOf i).toNat)
                case atStart => exact ⟨0, Nat.zero_le _, rfl⟩
                case round =>
                  obtain ⟨j, hj, rfl⟩ := hrel
                  by_cases hjl : j < (rows k).length + 5
                  · have hcj := HGC.out j hjl
                    by_cases hj2 : j < (rows k).length
                    · rw [row_low rows k j hj2] at hcj
                      have ec : (k : Int) % 251 + 1 = ((k % 251 + 1 : Nat) : Int) := by omega
                      have bc : k % 251 + 1 < 18446744073709551616 := by omega
                      generalize k % 251 + 1 = c at *
                      have hne : ((c : Int) != (c : Int)) = false := by simp
                      have i1 : (j : Int) < ((rows k).length : Int) := by omega
                      have hd2 : decide (((rows k).length : Int) ≤ (j : Int)) = false := decide_eq_false (by omega)
                      generalize (rows k).length = zl at *
                      go_wp2
                      go_round
                      case rel => exact ⟨j + 1, by omega, by go_num⟩
                      case measure => simp [intOf]; omega
                    · rw [row_high rows k j (by omega) hjl] at hcj
                      have hd1 : decide ((j : Int) < ((rows k).length : Int)) = false := decide_eq_false (by omega)
                      have i1 : ((rows k).length : Int) ≤ (j : Int) := by omega
                      generalize (rows k).length = zl at *
                      obtain ⟨t, ht⟩ : ∃ t, t = 300 + 5 * k + (j - zl) := ⟨_, rfl⟩
                      rw [← ht] at hcj
                      have et : (300 : Int) + 5 * (k : Int) + (j : Int) - ((zl : Int) + 5) + 5 = (t : Int) := by omega
                      have bt : t < 18446744073709551616 := by omega
                      have hne : ((t : Int) != (t : Int)) = false := by simp
                      have HT := hide ht
                      clear ht
                      go_wp2
                      go_round
                      case rel => exact ⟨j + 1, by omega, by go_num⟩
                      case measure => simp [intOf]; omega
                  · go_wp2
                    go_round
                    case rel => exact ⟨k + 1, by omega, by go_num⟩
                    case measure => simp [intOf]; omega
            · go_wp2
              go_ret
              exact ⟨rfl, HBL.out⟩

end Go.Proofs.YtolebfnkmjmfnaaGreatDoor

namespace Go.Proofs.YtolebfnkmjmfnaaGreatDoor
open Go.RowKit
open Lm
attribute [local go_sem ↓] Go.wp_at_zero Go.wp_at_succ

theorem bl_alloc10 {W0 W : World} (h : Below W0.heap.size W0 W) (o : Obj) : Below W0.heap.size W0 (W.alloc o) := h.alloc h.size _
theorem bl_drew10 {W0 W : World} (h : Below W0.heap.size W0 W) : Below W0.heap.size W0 W.drew := h.drew
theorem made10 {W t : World} {o : Obj} (h : Below (W.alloc o).heap.size (W.alloc o) t) : t.heap[W.heap.size]? = some o := block_upW h (heap_alloc_new W o)
theorem made10d {W t : World} {o : Obj} (h : Below (W.alloc o).drew.heap.size (W.alloc o).drew t) : t.heap[W.heap.size]? = some o := block_upW h (heap_alloc_new W o)

/-- A number that is handed in, counted in 2^-L. -/
def vof (b : Bool) (X : List Nat) (ex : Int) (L : Nat) : Int := zz b (val X) * 2 ^ (ex + L).toNat

/-- What is wrong with a span. -/
def flt (ex1 ex2 V1 V2 : Int) : Int := if fitE ex1 = true then (if fitE ex2 = true then (if V2 < V1 then 100 else 0) else 80) else 80

theorem cmpZ_pos {y z : Int} : 0 < cmpZ y z ↔ z < y := by
  unfold cmpZ
  split
  · omega
  · split <;> omega

/-- A dyadic of the document's: V, counted in 2^-L. -/
def V8 (w : World) (b : Bool) (a : Option Addr) (n c : Nat) (E : Int) (L : Nat) (V : Int) : Prop :=
  ∃ M, Dn w b (.slice a n c) M ∧ Rp L M E V ∧ Nr8 M E ∧ blen M.natAbs ≤ 1125899906840000 ∧ -1152921504606846976 ≤ E ∧ E ≤ 1152921504606846976

theorem V8.below {w w' : World} {b : Bool} {a : Option Addr} {n c : Nat} {E : Int} {L : Nat} {V : Int} (h : V8 w b a n c E L V) (hb : Below w.heap.size w w') : V8 w' b a n c E L V := by
  obtain ⟨M, h1, h2⟩ := h
  exact ⟨M, h1.below hb, h2⟩

theorem V8.hexa {w : World} {b0 : Bool} {a0 : Option Addr} {n0 c0 : Nat} {E0 : Int} {L : Nat} {V : Int} {g : Nat} {p : Bool} {a : Option Addr} {n c : Nat} {e : Int} {p' : Bool} {a' : Option Addr} {n' c' : Nat} {e' : Int} {t : TypeId} (h : V8 w b0 a0 n0 c0 E0 L V) (hl : w.heap[g]? = some (.cells #[.bool p, .slice a n c, .int .i64 e, .bool p', .slice a' n' c', .int .i64 e'] t)) (b1 : Bool) (a1 : Option Addr) (n1 c1 : Nat) (e1 : Int) (b2 : Bool) (a2 : Option Addr) (n2 c2 : Nat) (e2 : Int) :
    V8 ((((((w.setCell ⟨g, 0, none⟩ (.bool b1)).setCell ⟨g, 1, none⟩ (.slice a1 n1 c1)).setCell ⟨g, 2, none⟩ (.int .i64 e1)).setCell ⟨g, 3, none⟩ (.bool b2)).setCell ⟨g, 4, none⟩ (.slice a2 n2 c2)).setCell ⟨g, 5, none⟩ (.int .i64 e2)) b0 a0 n0 c0 E0 L V := by
  obtain ⟨M, ⟨h1, ds, h2, h3⟩, h4⟩ := h
  exact ⟨M, ⟨h1, ds, h2.hexa hl b1 a1 n1 c1 e1 b2 a2 n2 c2 e2, h3⟩, h4⟩

theorem V8.zero (w : World) (L : Nat) : V8 w false none 0 0 0 L 0 :=
  ⟨0, ⟨by decide, Num.nil8 w⟩, ⟨by omega, by simp⟩, .inl ⟨rfl, rfl⟩, by simp [blen], by omega, by omega⟩

theorem V8.cmp {b1 : Bool} {a1 : Option Addr} {n1 c1 : Nat} {E1 : Int} {b2 : Bool} {a2 : Option Addr} {n2 c2 : Nat} {E2 : Int} {L : Nat} {V1 V2 : Int} {w : World} (h1 : V8 w b1 a1 n1 c1 E1 L V1) (h2 : V8 w b2 a2 n2 c2 E2 L V2) :
    Calls Tryz.prog 18 #[.agg #[.bool b1, .slice a1 n1 c1, .int .i64 E1], .agg #[.bool b2, .slice a2 n2 c2, .int .i64 E2]] w fun e w' => e = .returned (.int .i64 (cmpZ V1 V2)) ∧ Below w.heap.size w w' := by
  obtain ⟨M1, d1, r1, _, f1, x1, y1⟩ := h1
  obtain ⟨M2, d2, r2, _, f2, x2, y2⟩ := h2
  have p1 := r1.1
  have p2 := r2.1
  refine (rdCmp_any b1 a1 n1 c1 M1 E1 b2 a2 n2 c2 M2 E2 L (E1 + L).toNat (E2 + L).toNat w d1 d2 f1 f2 x1 y1 x2 y2 (by omega) (by omega)).mono fun e w' h => ?_
  rw [r1.2, r2.2] at h
  exact h

theorem dyadV (b : Bool) (a : Option Addr) (c : Nat) (X : List Nat) (ex : Int) (L : Nat) (w : World) (hA : Arg w (.slice a X.length c) X) (hf : X.length ≤ 17592186043904) (hE : fitE ex = true) (hL : 4611686018427387904 ≤ L) :
    Calls Tryz.prog 24 #[.agg #[.bool b, .slice a X.length c, .int .i64 ex]] w fun e w' => (∃ b' a' n' c' E', e = .returned (.agg #[.bool b', .slice a' n' c', .int .i64 E']) ∧ V8 w' b' a' n' c' E' L (vof b X ex L)) ∧ Below w.heap.size w w' := by
  refine (dyad10_any b a c X ex w hA hf hE).mono fun e w' h => ?_
  obtain ⟨⟨b', a', n', c', he, hd⟩, hb⟩ := h
  have F := read_facts (b := b) (ex := ex) hA hf hE
  have hr := (fitE_iff ex).1 hE
  exact ⟨⟨b', a', n', c', _, he, _, hd, (Rp.make L (zz b (val X)) ex (by omega)).norm, nr8_of _ _, by omega, F.2.1, F.2.2.1⟩, hb⟩

/-- A span of the document's in a box. -/
def OneS (U : World) (L : Nat) (V1 V2 : Int) (s : Value) (wx : World) : Prop :=
  ∃ (g : Nat) (b : Bool) (a : Option Addr) (n k : Nat) (e : Int) (b' : Bool) (a' : Option Addr) (n' k' : Nat) (e' : Int), s = .pointer (some ⟨g, 0, none⟩) ∧ wx.heap[g]? = some (.cells #[.bool b, .slice a n k, .int .i64 e, .bool b', .slice a' n' k', .int .i64 e'] 43) ∧ V8 wx b a n k e L V1 ∧ V8 wx b' a' n' k' e' L V2 ∧ Below U.heap.size U wx ∧ U.heap.size ≤ g

theorem one_s {U t : World} {L : Nat} {V1 V2 : Int} {b : Bool} {a : Option Addr} {n k : Nat} {e : Int} {b' : Bool} {a' : Option Addr} {n' k' : Nat} {e' : Int} (h1 : V8 t b a n k e L V1) (h2 : V8 t b' a' n' k' e' L V2) (g : Below U.heap.size U t) : OneS U L V1 V2 (.pointer (some ⟨t.heap.size, 0, none⟩)) (t.alloc (.cells #[.bool b, .slice a n k, .int .i64 e, .bool b', .slice a' n' k', .int .i64 e'] 43)) :=
  ⟨_, b, a, n, k, e, b', a', n', k', e', rfl, heap_alloc_new _ _, h1.below (below_one6 _ _), h2.below (below_one6 _ _), bl_alloc10 g _, g.size⟩

theorem one_ss {U t : World} {L : Nat} {V1 V2 : Int} {b : Bool} {a : Option Addr} {n k : Nat} {e : Int} {b' : Bool} {a' : Option Addr} {n' k' : Nat} {e' : Int} {gg : Nat} (hq : t.heap[gg]? = some (.cells #[.bool false, .slice none 0 0, .int .i64 0, .bool false, .slice none 0 0, .int .i64 0] 43)) (hge : U.heap.size ≤ gg) (h1 : V8 t b a n k e L V1) (h2 : V8 t b' a' n' k' e' L V2) (g : Below U.heap.size U t) :
    OneS U L V1 V2 (.pointer (some ⟨gg, 0, none⟩)) ((((((t.setCell ⟨gg, 0, none⟩ (.bool b)).setCell ⟨gg, 1, none⟩ (.slice a n k)).setCell ⟨gg, 2, none⟩ (.int .i64 e)).setCell ⟨gg, 3, none⟩ (.bool b')).setCell ⟨gg, 4, none⟩ (.slice a' n' k')).setCell ⟨gg, 5, none⟩ (.int .i64 e')) :=
  ⟨_, b, a, n, k, e, b', a', n', k', e', rfl, hexa_all hq _ _ _ _ _ _, h1.hexa hq b a n k e b' a' n' k' e', h2.hexa hq b a n k e b' a' n' k' e', below_hexa g hge _ _ _ _ _ _, hge⟩

/-- What Compare tells of a span's ends comes to what is wrong with it. -/
theorem cmpOf_any (b1 : Bool) (a1 : Option Addr) (k1 : Nat) (X : List Nat) (ex1 : Int) (b2 : Bool) (a2 : Option Addr) (k2 : Nat) (Y : List Nat) (ex2 : Int) (L : Nat) (w : World) (hA : Arg w (.slice a1 X.length k1) X) (hB : Arg w (.slice a2 Y.length k2) Y) (f1 : X.length ≤ 17592186043904) (f2 : Y.length ≤ 17592186043904) (hL : 4611686018427387904 ≤ L) :
    ∃ o c, CmpOf w b1 a1 X.length k1 ex1 b2 a2 Y.length k2 ex2 o c ∧ fltC o c = flt ex1 ex2 (vof b1 X ex1 L) (vof b2 Y ex2 L) := by
  unfold flt
  by_cases hE1 : fitE ex1 = true
  · rw [if_pos hE1]
    by_cases hE2 : fitE ex2 = true
    · rw [if_pos hE2]
      have r1 := (fitE_iff ex1).1 hE1
      have r2 := (fitE_iff ex2).1 hE2
      refine ⟨cmpZ (vof b1 X ex1 L) (vof b2 Y ex2 L), 0, fun W hg => yCompare_ok b1 a1 k1 X ex1 b2 a2 k2 Y ex2 L _ _ W (hA.below hg) (hB.below hg) (by omega) (by omega) hE1 hE2 hL (by omega) (by omega), ?_⟩
      unfold fltC
      rw [if_pos rfl]
      simp only [cmpZ_pos]
    · rw [if_neg hE2]
      exact ⟨0, 80, fun W hg => yCompare_no2 b1 a1 k1 X ex1 b2 a2 Y.length k2 ex2 W (hA.below hg) hE1 (by simpa using hE2), by decide⟩
  · rw [if_neg hE1]
    exact ⟨0, 80, fun W hg => yCompare_no1 b1 a1 X.length k1 ex1 b2 a2 Y.length k2 ex2 W (by simpa using hE1), by decide⟩

/-- A span as a call answers it, at one scale: refused with fl, or of two numbers. -/
def SRV (w : World) (base : Nat) (b1 : Bool) (v1 : Value) (e1 : Int) (b2 : Bool) (v2 : Value) (e2 c fl : Int) (L : Nat) (V1 V2 : Int) : Prop :=
  (fl ≠ 0 ∧ c = fl ∧ b1 = false ∧ v1 = .slice none 0 0 ∧ e1 = 0 ∧ b2 = false ∧ v2 = .slice none 0 0 ∧ e2 = 0) ∨
    (fl = 0 ∧ ∃ M1 E1 M2 E2, SR w base b1 v1 e1 b2 v2 e2 c M1 E1 M2 E2 ∧ Rp L M1 E1 V1 ∧ Nr8 M1 E1 ∧ Rp L M2 E2 V2 ∧ Nr8 M2 E2)

theorem SRV.below {w w' : World} {base : Nat} {b1 : Bool} {v1 : Value} {e1 : Int} {b2 : Bool} {v2 : Value} {e2 c fl : Int} {L : Nat} {V1 V2 : Int} (h : SRV w base b1 v1 e1 b2 v2 e2 c fl L V1 V2) (hb : Below w.heap.size w w') : SRV w' base b1 v1 e1 b2 v2 e2 c fl L V1 V2 := by
  rcases h with h | ⟨h0, M1, E1, M2, E2, h1, h2⟩
  · exact .inl h
  · exact .inr ⟨h0, M1, E1, M2, E2, h1.below hb, h2⟩

theorem SRV.base {w : World} {base base' : Nat} {b1 : Bool} {v1 : Value} {e1 : Int} {b2 : Bool} {v2 : Value} {e2 c fl : Int} {L : Nat} {V1 V2 : Int} (h : SRV w base b1 v1 e1 b2 v2 e2 c fl L V1 V2) (hb : base' ≤ base) : SRV w base' b1 v1 e1 b2 v2 e2 c fl L V1 V2 := by
  rcases h with h | ⟨h0, M1, E1, M2, E2, h1, h2⟩
  · exact .inl h
  · exact .inr ⟨h0, M1, E1, M2, E2, h1.base hb, h2⟩

theorem SRV.hexa {w : World} {base g : Nat} {b1 : Bool} {v1 : Value} {e1 : Int} {b2 : Bool} {v2 : Value} {e2 c fl : Int} {L : Nat} {V1 V2 : Int} {a0 a1 a2 a3 a4 a5 : Value} {t : TypeId} (h : SRV w base b1 v1 e1 b2 v2 e2 c fl L V1 V2) (hl : w.heap[g]? = some (.cells #[a0, a1, a2, a3, a4, a5] t)) (ht : t ≠ 101) (u0 u1 u2 u3 u4 u5 : Value) :
    SRV ((((((w.setCell ⟨g, 0, none⟩ u0).setCell ⟨g, 1, none⟩ u1).setCell ⟨g, 2, none⟩ u2).setCell ⟨g, 3, none⟩ u3).setCell ⟨g, 4, none⟩ u4).setCell ⟨g, 5, none⟩ u5) base b1 v1 e1 b2 v2 e2 c fl L V1 V2 := by
  rcases h with h | ⟨h0, M1, E1, M2, E2, h1, h2⟩
  · exact .inl h
  · exact .inr ⟨h0, M1, E1, M2, E2, h1.hexa hl ht u0 u1 u2 u3 u4 u5, h2⟩

/-- A span that was answered. -/
def SAns (w : World) (e : Ending) (w' : World) (fl : Int) (L : Nat) (V1 V2 : Int) : Prop :=
  (∃ b1 a1 n1 k1 e1 b2 a2 n2 k2 e2 c, e = .returned (.tuple #[.agg #[.bool b1, .slice a1 n1 k1, .int .i64 e1, .bool b2, .slice a2 n2 k2, .int .i64 e2], .int .i64 c]) ∧ SRV w' w.heap.size b1 (.slice a1 n1 k1) e1 b2 (.slice a2 n2 k2) e2 c fl L V1 V2) ∧ Below w.heap.size w w'

theorem Ans.nil10 (w : World) (base : Nat) : Ans w base (.slice none 0 0) [] := by
  obtain ⟨rs, h1, h2⟩ : ∃ rs, Ans w base (.slice none 0 0) rs ∧ rs = [] := ⟨[], ⟨⟨rfl, .inl ⟨rfl, rfl⟩⟩, by intro z hz; cases hz⟩, rfl⟩
  rw [← h2]; exact h1

/-- The lists of an answer. -/
theorem SRV.lists {w : World} {base : Nat} {b1 : Bool} {v1 : Value} {e1 : Int} {b2 : Bool} {v2 : Value} {e2 c fl : Int} {L : Nat} {V1 V2 : Int} (h : SRV w base b1 v1 e1 b2 v2 e2 c fl L V1 V2) : ∃ r1 r2, Ans w base v1 r1 ∧ Ans w base v2 r2 ∧ r1.length ≤ 1048576 ∧ r2.length ≤ 1048576 ∧ (v1.ownBlock = none ∨ v1.ownBlock ≠ v2.ownBlock) := by
  have hnil : ∃ r1 r2, Ans w base (.slice none 0 0) r1 ∧ Ans w base (.slice none 0 0) r2 ∧ r1.length ≤ 1048576 ∧ r2.length ≤ 1048576 ∧ ((Value.slice none 0 0).ownBlock = none ∨ (Value.slice none 0 0).ownBlock ≠ (Value.slice none 0 0).ownBlock) :=
    ⟨[], [], Ans.nil10 w base, Ans.nil10 w base, by simp, by simp, .inl rfl⟩
  have hl : ∀ {b : Bool} {v : Value} {ex M E : Int}, DR w base b v ex 0 M E → ∃ rs, Ans w base v rs ∧ rs.length ≤ 1048576 := by
    intro b v ex M E hd
    obtain ⟨rs, g1, g2 | g2 | g2⟩ := hd
    · exact ⟨rs, g1, few_ofW g2.2.2.2.1 g2.2.2.1 (by have := g2.2.2.2.2.2.1; omega)⟩
    · exact absurd g2.1 (by decide)
    · exact absurd g2.1 (by decide)
  rcases h with ⟨_, _, _, rfl, _, _, rfl, _⟩ | ⟨_, M1, E1, M2, E2, h1, _⟩
  · exact hnil
  · by_cases hc : c = 0
    · obtain ⟨d1, d2, d3⟩ := h1.2.1 hc
      obtain ⟨r1, g1, l1⟩ := hl d1
      obtain ⟨r2, g2, l2⟩ := hl d2
      exact ⟨r1, r2, g1, g2, l1, l2, d3⟩
    · obtain ⟨_, rfl, _, _, rfl, _⟩ := h1.2.2 hc
      exact hnil

/-- Make, whatever is handed in. -/
theorem smakeV (b1 : Bool) (a1 : Option Addr) (k1 : Nat) (X : List Nat) (ex1 : Int) (b2 : Bool) (a2 : Option Addr) (k2 : Nat) (Y : List Nat) (ex2 : Int) (L : Nat) (w : World) (hT : Tab w) (hA : Arg w (.slice a1 X.length k1) X) (hB : Arg w (.slice a2 Y.length k2) Y) (f1 : X.length ≤ 17592186043904) (f2 : Y.length ≤ 17592186043904) (hL : 4611686018427387904 ≤ L) :
    Calls Tryz.prog 30 #[.agg #[.bool b1, .slice a1 X.length k1, .int .i64 ex1], .agg #[.bool b2, .slice a2 Y.length k2, .int .i64 ex2]] w fun e w' => SAns w e w' (flt ex1 ex2 (vof b1 X ex1 L) (vof b2 Y ex2 L)) L (vof b1 X ex1 L) (vof b2 Y ex2 L) := by
  obtain ⟨o, c, hc, hfl⟩ := cmpOf_any b1 a1 k1 X ex1 b2 a2 k2 Y ex2 L w hA hB f1 f2 hL
  by_cases h0 : fltC o c = 0
  · have hz : flt ex1 ex2 (vof b1 X ex1 L) (vof b2 Y ex2 L) = 0 := by rw [← hfl]; exact h0
    have hE1 : fitE ex1 = true := by
      unfold flt at hz
      by_cases h : fitE ex1 = true
      · exact h
      · rw [if_neg h] at hz; omega
    have hE2 : fitE ex2 = true := by
      unfold flt at hz
      rw [if_pos hE1] at hz
      by_cases h : fitE ex2 = true
      · exact h
      · rw [if_neg h] at hz; omega
    have ho : o ≤ 0 ∧ c = 0 := by
      unfold fltC at h0
      split at h0
      · split at h0
        · omega
        · omega
      · omega
    obtain ⟨ho, rfl⟩ := ho
    have r1 := (fitE_iff ex1).1 hE1
    have r2 := (fitE_iff ex2).1 hE2
    refine (smake_ok b1 a1 k1 X ex1 b2 a2 k2 Y ex2 o w hc ho hT hA hB (by omega) (by omega) hE1 hE2).mono fun e w' h => ?_
    obtain ⟨⟨p1, x1, y1, z1, q1, p2, x2, y2, z2, q2, cc, he, hs⟩, hb⟩ := h
    exact ⟨⟨p1, x1, y1, z1, q1, p2, x2, y2, z2, q2, cc, he, .inr ⟨hz, _, _, _, _, hs, (Rp.make L (zz b1 (val X)) ex1 (by omega)).norm, nr8_of _ _, (Rp.make L (zz b2 (val Y)) ex2 (by omega)).norm, nr8_of _ _⟩⟩, hb⟩
  · refine (smake_no b1 a1 _ k1 ex1 b2 a2 _ k2 ex2 o c w hc h0).mono fun e w' h => ?_
    obtain ⟨he, hb⟩ := h
    rw [hfl] at he h0
    exact ⟨⟨_, _, _, _, _, _, _, _, _, _, _, he, .inl ⟨h0, rfl, rfl, rfl, rfl, rfl, rfl, rfl⟩⟩, hb⟩

/-- alike of an answer with what the document says. -/
theorem alikeV (b : Bool) (a : Option Addr) (n k : Nat) (ex : Int) (b' : Bool) (a' : Option Addr) (n' k' : Nat) (ex' r fl : Int) (b1 : Bool) (a1 : Option Addr) (n1 k1 : Nat) (E1 : Int) (b2 : Bool) (a2 : Option Addr) (n2 k2 : Nat) (E2 : Int) (L : Nat) (V1 V2 : Int) (base : Nat) (w : World) (hS : SRV w base b (.slice a n k) ex b' (.slice a' n' k') ex' r fl L V1 V2) (h1 : fl = 0 → V8 w b1 a1 n1 k1 E1 L V1) (h2 : fl = 0 → V8 w b2 a2 n2 k2 E2 L V2) :
    Calls Tryz.prog 11 #[.agg #[.bool b, .slice a n k, .int .i64 ex, .bool b', .slice a' n' k', .int .i64 ex'], .int .i64 r, .agg #[.bool b1, .slice a1 n1 k1, .int .i64 E1, .bool b2, .slice a2 n2 k2, .int .i64 E2], .int .i64 fl] w fun e w' => e = .returned (.bool true) ∧ Below w.heap.size w w' := by
  rcases hS with ⟨h0, rfl, rfl, g1, rfl, rfl, g2, rfl⟩ | ⟨rfl, M1, X1, M2, X2, hs, r1, m1, r2, m2⟩
  · cases g1
    cases g2
    exact alike10_bad r b1 a1 n1 k1 E1 b2 a2 n2 k2 E2 w h0
  · obtain ⟨N1, d1, q1, s1, _⟩ := h1 rfl
    obtain ⟨N2, d2, q2, s2, _⟩ := h2 rfl
    obtain ⟨rfl, rfl⟩ := Rp.one r1 q1 m1 s1
    obtain ⟨rfl, rfl⟩ := Rp.one r2 q2 m2 s2
    exact alike10_ok b a n k ex b' a' n' k' ex' r b1 a1 n1 k1 _ _ b2 a2 n2 k2 _ _ base w hs d1 d2

theorem Aparts.two10 {w w' : World} {base : Nat} {vs : List Value} {rss : List (List Nat)} {v1 v2 : Value} {r1 r2 : List Nat} (h : Aparts w base vs rss) (hb : Below w.heap.size w w') (hbase : base ≤ w.heap.size) (h1 : Ans w' w.heap.size v1 r1) (h2 : Ans w' w.heap.size v2 r2) (hap : v1.ownBlock = none ∨ v1.ownBlock ≠ v2.ownBlock) : Aparts w' base (vs ++ [v1, v2]) (rss ++ [r1, r2]) := by
  have e0 : ∀ i, i < vs.length → (vs ++ [v1, v2]).getD i nilV = vs.getD i nilV := fun i hi => by simp [List.getD, List.getElem?_append_left hi]
  have e1 : (vs ++ [v1, v2]).getD vs.length nilV = v1 := by simp [List.getD]
  have e2 : (vs ++ [v1, v2]).getD (vs.length + 1) nilV = v2 := by simp [List.getD]
  have f0 : ∀ i, i < rss.length → (rss ++ [r1, r2]).getD i [] = rss.getD i [] := fun i hi => by simp [List.getD, List.getElem?_append_left hi]
  have f1 : (rss ++ [r1, r2]).getD rss.length [] = r1 := by simp [List.getD]
  have f2 : (rss ++ [r1, r2]).getD (rss.length + 1) [] = r2 := by simp [List.getD]
  have hl := h.len
  have old : ∀ i, i < vs.length → ∀ u : Value, (∀ g, u.ownBlock = some g → w.heap.size ≤ g) → (vs.getD i nilV).ownBlock = none ∨ (vs.getD i nilV).ownBlock ≠ u.ownBlock := by
    intro i hi u hu
    rcases ho : (vs.getD i nilV).ownBlock with _ | g
    · exact .inl rfl
    · have k1 := (h.row i hi).top g ho
      refine .inr fun e => ?_
      have k2 := hu g e.symm
      omega
  have new : ∀ i, i < vs.length → ∀ u : Value, (∀ g, u.ownBlock = some g → w.heap.size ≤ g) → u.ownBlock = none ∨ u.ownBlock ≠ (vs.getD i nilV).ownBlock := by
    intro i hi u hu
    rcases ho : u.ownBlock with _ | g
    · exact .inl rfl
    · have k2 := hu g ho
      refine .inr fun e => ?_
      have k1 := (h.row i hi).top g e.symm
      omega
  have n1 : ∀ g, v1.ownBlock = some g → w.heap.size ≤ g := fun g hg => (h1.own.lt g hg).1
  have n2 : ∀ g, v2.ownBlock = some g → w.heap.size ≤ g := fun g hg => (h2.own.lt g hg).1
  refine ⟨by simp [hl], fun i hi => ?_, fun i j hi hj hij => ?_⟩
  · simp only [List.length_append, List.length_cons, List.length_nil] at hi
    rcases Nat.lt_trichotomy i vs.length with h3 | h3 | h3
    · rw [e0 i h3, f0 i (by omega)]
      exact (h.row i h3).below hb
    · subst h3
      rw [e1, hl, f1]
      exact h1.base hbase
    · obtain rfl : i = vs.length + 1 := by omega
      rw [e2, hl, f2]
      exact h2.base hbase
  · simp only [List.length_append, List.length_cons, List.length_nil] at hi hj
    rcases Nat.lt_trichotomy i vs.length with h3 | h3 | h3 <;> rcases Nat.lt_trichotomy j vs.length with h4 | h4 | h4
    · rw [e0 i h3, e0 j h4]; exact h.apart i j h3 h4 hij
    · rw [e0 i h3, h4, e1]; exact old i h3 _ n1
    · obtain rfl : j = vs.length + 1 := by omega
      rw [e0 i h3, e2]; exact old i h3 _ n2
    · rw [e0 j h4, h3, e1]; exact new j h4 _ n1
    · omega
    · obtain rfl : j = vs.length + 1 := by omega
      rw [h3, e1, e2]; exact hap
    · obtain rfl : i = vs.length + 1 := by omega
      rw [e0 j h4, e2]; exact new j h4 _ n2
    · obtain rfl : i = vs.length + 1 := by omega
      rw [h4, e2, e1]
      rcases ho : v2.ownBlock with _ | g
      · exact .inl rfl
      · refine .inr fun e => ?_
        rcases hap with k | k
        · rw [k] at e; cases e
        · exact k (by rw [ho, e])
    · omega

end Go.Proofs.YtolebfnkmjmfnaaGreatDoor
