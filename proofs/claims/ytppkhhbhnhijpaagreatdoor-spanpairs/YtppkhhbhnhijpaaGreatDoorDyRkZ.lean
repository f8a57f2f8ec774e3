/- The document's Cmp and Scale of dyadics. -/
import Derived.Test.YtppkhhbhnhijpaaGreatDoorDyZnZ
import Derived.Test.YtppkhhbhnhijpaaGreatDoorDyO2Z
import Derived.Test.YtppkhhbhnhijpaaGreatDoorRzSZ
import Derived.Deep.RegionHeld3
namespace Go.Proofs.YtppkhhbhnhijpaaGreatDoor
open Go.RowKit
open Lm
attribute [local go_sem ↓] Go.wp_at_zero Go.wp_at_succ

theorem shift_lt9 {x y p q : Nat} (h : blen x + p < blen y + q) (hy : y ≠ 0) : x * 2 ^ p < y * 2 ^ q := by
  have h1 : x < 2 ^ blen x := (blen_le_iff x _).1 (Nat.le_refl _)
  have hb : 0 < blen y := by
    rcases Nat.eq_zero_or_pos (blen y) with h0 | h0
    · exact absurd ((blen_zeroW y).1 h0) hy
    · exact h0
  have h2 : 2 ^ (blen y - 1) ≤ y := by
    rcases Nat.lt_or_ge y (2 ^ (blen y - 1)) with h3 | h3
    · have := (blen_le_iff y (blen y - 1)).2 h3
      omega
    · exact h3
  have h3 : x * 2 ^ p < 2 ^ blen x * 2 ^ p := Nat.mul_lt_mul_of_pos_right h1 (Nat.two_pow_pos p)
  have h4 : 2 ^ (blen y - 1) * 2 ^ q ≤ y * 2 ^ q := Nat.mul_le_mul_right _ h2
  have h5 : 2 ^ blen x * 2 ^ p ≤ 2 ^ (blen y - 1) * 2 ^ q := by
    rw [← Nat.pow_add, ← Nat.pow_add]
    exact Nat.pow_le_pow_right (by omega) (by omega)
  omega

theorem pos_pow9 (p : Nat) : (0 : Int) < 2 ^ p := Int.pow_pos (by decide)

theorem cmpZ_mul9 {a b T : Int} (hT : 0 < T) : cmpZ (a * T) (b * T) = cmpZ a b := by
  unfold cmpZ
  have h1 : a * T < b * T ↔ a < b := ⟨fun h => Int.lt_of_mul_lt_mul_right h (by omega), fun h => Int.mul_lt_mul_of_pos_right h hT⟩
  have h2 : b * T < a * T ↔ b < a := ⟨fun h => Int.lt_of_mul_lt_mul_right h (by omega), fun h => Int.mul_lt_mul_of_pos_right h hT⟩
  simp only [h1, h2]

theorem sign_mul9 (M : Int) (p : Nat) : (M * 2 ^ p).sign = M.sign := by
  rw [Int.sign_mul, Int.sign_eq_one_of_pos (pos_pow9 p), Int.mul_one]

theorem sign_vals9 (z : Int) : (z.sign = -1 ∧ z < 0) ∨ (z.sign = 0 ∧ z = 0) ∨ (z.sign = 1 ∧ 0 < z) := by
  rcases Int.lt_trichotomy z 0 with h | h | h
  · exact .inl ⟨Int.sign_eq_neg_one_of_neg h, h⟩
  · exact .inr (.inl ⟨by rw [h]; rfl, h⟩)
  · exact .inr (.inr ⟨Int.sign_eq_one_of_pos h, h⟩)

/-- The order of two numbers by their signs. -/
theorem cmp_signs9 {V1 V2 : Int} (h : V1.sign ≠ V2.sign) : cmpZ V1 V2 = if V1.sign < V2.sign then -1 else 1 := by
  have h1 := sign_vals9 V1
  have h2 := sign_vals9 V2
  unfold cmpZ
  by_cases h3 : V1 < V2
  · rw [if_pos h3, if_pos (by omega)]
  · rw [if_neg h3, if_pos (show V2 < V1 by omega), if_neg (by omega)]

theorem abs_mul9 (M : Int) (p : Nat) : (M * 2 ^ p).natAbs = M.natAbs * 2 ^ p := by
  rw [Int.natAbs_mul, Int.natAbs_pow]; rfl

/-- The order of two numbers with the same sign, by their tops. -/
theorem cmp_tops9 {M1 M2 : Int} {p q : Nat} (hs : M1.sign = M2.sign) (h0 : M1.sign ≠ 0) (ht : blen M1.natAbs + p ≠ blen M2.natAbs + q) : cmpZ (M1 * 2 ^ p) (M2 * 2 ^ q) = if blen M1.natAbs + p < blen M2.natAbs + q then -M1.sign else M1.sign := by
  have h1 := sign_vals9 (M1 * 2 ^ p)
  have h2 := sign_vals9 (M2 * 2 ^ q)
  rw [sign_mul9] at h1 h2
  have n1 : M1.natAbs ≠ 0 := by rintro h; exact h0 (by rw [Int.natAbs_eq_zero.1 h]; rfl)
  have n2 : M2.natAbs ≠ 0 := by rintro h; exact h0 (by rw [hs, Int.natAbs_eq_zero.1 h]; rfl)
  have a1 := abs_mul9 M1 p
  have a2 := abs_mul9 M2 q
  unfold cmpZ
  by_cases hlt : blen M1.natAbs + p < blen M2.natAbs + q
  · have h9 := shift_lt9 hlt n2
    rw [if_pos hlt]
    rcases h1 with h1 | h1 | h1
    · rw [if_neg (by omega), if_pos (by omega)]; omega
    · omega
    · rw [if_pos (by omega)]; omega
  · have h9 := shift_lt9 (show blen M2.natAbs + q < blen M1.natAbs + p by omega) n1
    rw [if_neg hlt]
    rcases h1 with h1 | h1 | h1
    · rw [if_pos (by omega)]; omega
    · omega
    · rw [if_neg (by omega), if_pos (by omega)]; omega

set_option maxRecDepth 20000 in
set_option maxHeartbeats 4000000 in
theorem rdCmp_signs (b1 : Bool) (a1 : Option Addr) (n1 c1 : Nat) (M1 E1 : Int) (b2 : Bool) (a2 : Option Addr) (n2 c2 : Nat) (M2 E2 : Int) (w : World) (hD1 : Dn w b1 (.slice a1 n1 c1) M1) (hD2 : Dn w b2 (.slice a2 n2 c2) M2) (f1 : blen M1.natAbs ≤ 1125899906840000) (f2 : blen M2.natAbs ≤ 1125899906840000) (he1 : -1152921504606846976 ≤ E1) (he2 : E1 ≤ 1152921504606846976) (he3 : -1152921504606846976 ≤ E2) (he4 : E2 ≤ 1152921504606846976) (hs : M1.sign ≠ M2.sign) :
    Calls Tryz.prog 35 #[.agg #[.bool b1, .slice a1 n1 c1, .int .i64 E1], .agg #[.bool b2, .slice a2 n2 c2, .int .i64 E2]] w fun e w' => e = .returned (.int .i64 (if M1.sign < M2.sign then -1 else 1)) ∧ Below w.heap.size w w' := by
  obtain ⟨w0, hw0, hb0, k0, k1⟩ := enter2 w (.cells #[.bool b1, .slice a1 n1 c1, .int .i64 E1] 45) (.cells #[.bool b2, .slice a2 n2 c2, .int .i64 E2] 45)
  have gd : Below w.heap.size w w0.drew := hb0.drew
  have SG1 := hide (fun (W : World) (hg : Below w0.drew.heap.size w0.drew W) => rzsign_any (.agg #[.bool b1, .slice a1 n1 c1]) M1 W ((hD1.below gd).below hg).zn)
  have SG2 := hide (fun (W : World) (hg : Below w0.drew.heap.size w0.drew W) => rzsign_any (.agg #[.bool b2, .slice a2 n2 c2]) M2 W ((hD2.below gd).below hg).zn)
  have TP1 := hide (fun (W : World) (hg : Below w0.drew.heap.size w0.drew W) => rdTop_any b1 a1 n1 c1 M1 E1 W ((hD1.below gd).below hg) (by omega) (by omega) (by omega))
  have TP2 := hide (fun (W : World) (hg : Below w0.drew.heap.size w0.drew W) => rdTop_any b2 a2 n2 c2 M2 E2 W ((hD2.below gd).below hg) (by omega) (by omega) (by omega))
  have HD1 := hide (hD1.below gd)
  have HD2 := hide (hD2.below gd)
  have KB := hide (fun (W : World) (hg : Below w0.drew.heap.size w0.drew W) => And.intro (block_upW hg (show w0.drew.heap[w.heap.size]? = some (.cells #[.bool b1, .slice a1 n1 c1, .int .i64 E1] 45) from k0)) (block_upW hg (show w0.drew.heap[w.heap.size + 1]? = some (.cells #[.bool b2, .slice a2 n2 c2, .int .i64 E2] 45) from k1)))
  have KS := hide (fun (W : World) (hg : Below w0.drew.heap.size w0.drew W) => show W.cell? ⟨w.heap.size, 0, none⟩ = some (.bool b1) ∧ W.cell? ⟨w.heap.size, 1, none⟩ = some (.slice a1 n1 c1) ∧ W.cell? ⟨w.heap.size, 2, none⟩ = some (.int .i64 E1) ∧ W.cell? ⟨w.heap.size + 1, 0, none⟩ = some (.bool b2) ∧ W.cell? ⟨w.heap.size + 1, 1, none⟩ = some (.slice a2 n2 c2) ∧ W.cell? ⟨w.heap.size + 1, 2, none⟩ = some (.int .i64 E2) from ⟨(tri8 (KB.out W hg).1).1, (tri8 (KB.out W hg).1).2.1, (tri8 (KB.out W hg).1).2.2, (tri8 (KB.out W hg).2).1, (tri8 (KB.out W hg).2).2.1, (tri8 (KB.out W hg).2).2.2⟩)
  have g0 : Below w0.drew.heap.size w0.drew w0.drew := Below.refl _ _
  have HGD := hide gd
  clear k0 k1 hb0 gd hD1 hD2
  have hne : (M1.sign != M2.sign) = true := bne_iff_ne.2 hs
  generalize M1.sign = x at *
  generalize M2.sign = y at *
  by_cases hlt : x < y
  · have hd : decide (x < y) = true := decide_eq_true hlt
    rw [if_pos hlt]
    go_enter Tryz.func35, Tryz.ntmps35
    go_wp2_with fail
    go_region_held3 (fun w' => w'.cell? ⟨w.heap.size, 0, none⟩ = some (.bool b1) ∧ w'.cell? ⟨w.heap.size, 1, none⟩ = some (.slice a1 n1 c1) ∧ w'.cell? ⟨w.heap.size, 2, none⟩ = some (.int .i64 E1) ∧ w'.cell? ⟨w.heap.size + 1, 0, none⟩ = some (.bool b2) ∧ w'.cell? ⟨w.heap.size + 1, 1, none⟩ = some (.slice a2 n2 c2) ∧ w'.cell? ⟨w.heap.size + 1, 2, none⟩ = some (.int .i64 E2)) (first | with_reducible exact KS.out _ g2 | with_reducible exact KS.out _ g1 | with_reducible exact KS.out _ g0) (first
      | (go_at_call_of 63 a1; refine (SG1.out _ g0).mono ?_; rintro e' t1 ⟨rfl, hb1⟩; have g1 := bl_trans8 g0 hb1)
      | (go_at_call_of 63 a2; refine (SG2.out _ g1).mono ?_; rintro e' t2 ⟨rfl, hb2⟩; have g2 := bl_trans8 g1 hb2))
    clear hb1 hb2
    have HE := hide (bl_trans8 HGD.out g2)
    clear g0 g1 g2
    go_wp2
    go_ret
    exact ⟨rfl, HE.out⟩
  · have hd : decide (x < y) = false := decide_eq_false hlt
    rw [if_neg hlt]
    go_enter Tryz.func35, Tryz.ntmps35
    go_wp2_with fail
    go_region_held3 (fun w' => w'.cell? ⟨w.heap.size, 0, none⟩ = some (.bool b1) ∧ w'.cell? ⟨w.heap.size, 1, none⟩ = some (.slice a1 n1 c1) ∧ w'.cell? ⟨w.heap.size, 2, none⟩ = some (.int .i64 E1) ∧ w'.cell? ⟨w.heap.size + 1, 0, none⟩ = some (.bool b2) ∧ w'.cell? ⟨w.heap.size + 1, 1, none⟩ = some (.slice a2 n2 c2) ∧ w'.cell? ⟨w.heap.size + 1, 2, none⟩ = some (.int .i64 E2)) (first | with_reducible exact KS.out _ g2 | with_reducible exact KS.out _ g1 | with_reducible exact KS.out _ g0) (first
      | (go_at_call_of 63 a1; refine (SG1.out _ g0).mono ?_; rintro e' t1 ⟨rfl, hb1⟩; have g1 := bl_trans8 g0 hb1)
      | (go_at_call_of 63 a2; refine (SG2.out _ g1).mono ?_; rintro e' t2 ⟨rfl, hb2⟩; have g2 := bl_trans8 g1 hb2))
    clear hb1 hb2
    have HE := hide (bl_trans8 HGD.out g2)
    clear g0 g1 g2
    go_wp2
    go_ret
    exact ⟨rfl, HE.out⟩

set_option maxRecDepth 20000 in
set_option maxHeartbeats 4000000 in
theorem rdCmp_zero (b1 : Bool) (a1 : Option Addr) (n1 c1 : Nat) (M1 E1 : Int) (b2 : Bool) (a2 : Option Addr) (n2 c2 : Nat) (M2 E2 : Int) (w : World) (hD1 : Dn w b1 (.slice a1 n1 c1) M1) (hD2 : Dn w b2 (.slice a2 n2 c2) M2) (f1 : blen M1.natAbs ≤ 1125899906840000) (f2 : blen M2.natAbs ≤ 1125899906840000) (he1 : -1152921504606846976 ≤ E1) (he2 : E1 ≤ 1152921504606846976) (he3 : -1152921504606846976 ≤ E2) (he4 : E2 ≤ 1152921504606846976) (hs : M1.sign = M2.sign) (h0 : M1.sign = 0) :
    Calls Tryz.prog 35 #[.agg #[.bool b1, .slice a1 n1 c1, .int .i64 E1], .agg #[.bool b2, .slice a2 n2 c2, .int .i64 E2]] w fun e w' => e = .returned (.int .i64 0) ∧ Below w.heap.size w w' := by
  obtain ⟨w0, hw0, hb0, k0, k1⟩ := enter2 w (.cells #[.bool b1, .slice a1 n1 c1, .int .i64 E1] 45) (.cells #[.bool b2, .slice a2 n2 c2, .int .i64 E2] 45)
  have gd : Below w.heap.size w w0.drew := hb0.drew
  have SG1 := hide (fun (W : World) (hg : Below w0.drew.heap.size w0.drew W) => rzsign_any (.agg #[.bool b1, .slice a1 n1 c1]) M1 W ((hD1.below gd).below hg).zn)
  have SG2 := hide (fun (W : World) (hg : Below w0.drew.heap.size w0.drew W) => rzsign_any (.agg #[.bool b2, .slice a2 n2 c2]) M2 W ((hD2.below gd).below hg).zn)
  have TP1 := hide (fun (W : World) (hg : Below w0.drew.heap.size w0.drew W) => rdTop_any b1 a1 n1 c1 M1 E1 W ((hD1.below gd).below hg) (by omega) (by omega) (by omega))
  have TP2 := hide (fun (W : World) (hg : Below w0.drew.heap.size w0.drew W) => rdTop_any b2 a2 n2 c2 M2 E2 W ((hD2.below gd).below hg) (by omega) (by omega) (by omega))
  have HD1 := hide (hD1.below gd)
  have HD2 := hide (hD2.below gd)
  have KB := hide (fun (W : World) (hg : Below w0.drew.heap.size w0.drew W) => And.intro (block_upW hg (show w0.drew.heap[w.heap.size]? = some (.cells #[.bool b1, .slice a1 n1 c1, .int .i64 E1] 45) from k0)) (block_upW hg (show w0.drew.heap[w.heap.size + 1]? = some (.cells #[.bool b2, .slice a2 n2 c2, .int .i64 E2] 45) from k1)))
  have KS := hide (fun (W : World) (hg : Below w0.drew.heap.size w0.drew W) => show W.cell? ⟨w.heap.size, 0, none⟩ = some (.bool b1) ∧ W.cell? ⟨w.heap.size, 1, none⟩ = some (.slice a1 n1 c1) ∧ W.cell? ⟨w.heap.size, 2, none⟩ = some (.int .i64 E1) ∧ W.cell? ⟨w.heap.size + 1, 0, none⟩ = some (.bool b2) ∧ W.cell? ⟨w.heap.size + 1, 1, none⟩ = some (.slice a2 n2 c2) ∧ W.cell? ⟨w.heap.size + 1, 2, none⟩ = some (.int .i64 E2) from ⟨(tri8 (KB.out W hg).1).1, (tri8 (KB.out W hg).1).2.1, (tri8 (KB.out W hg).1).2.2, (tri8 (KB.out W hg).2).1, (tri8 (KB.out W hg).2).2.1, (tri8 (KB.out W hg).2).2.2⟩)
  have g0 : Below w0.drew.heap.size w0.drew w0.drew := Below.refl _ _
  have HGD := hide gd
  clear k0 k1 hb0 gd hD1 hD2
  rw [← hs, h0] at SG2
  rw [h0] at SG1
  clear hs h0
  go_enter Tryz.func35, Tryz.ntmps35
  go_wp2_with fail
  go_region_held3 (fun w' => w'.cell? ⟨w.heap.size, 0, none⟩ = some (.bool b1) ∧ w'.cell? ⟨w.heap.size, 1, none⟩ = some (.slice a1 n1 c1) ∧ w'.cell? ⟨w.heap.size, 2, none⟩ = some (.int .i64 E1) ∧ w'.cell? ⟨w.heap.size + 1, 0, none⟩ = some (.bool b2) ∧ w'.cell? ⟨w.heap.size + 1, 1, none⟩ = some (.slice a2 n2 c2) ∧ w'.cell? ⟨w.heap.size + 1, 2, none⟩ = some (.int .i64 E2)) (first | with_reducible exact KS.out _ g2 | with_reducible exact KS.out _ g1 | with_reducible exact KS.out _ g0) (first
    | (go_at_call_of 63 a1; refine (SG1.out _ g0).mono ?_; rintro e' t1 ⟨rfl, hb1⟩; have g1 := bl_trans8 g0 hb1)
    | (go_at_call_of 63 a2; refine (SG2.out _ g1).mono ?_; rintro e' t2 ⟨rfl, hb2⟩; have g2 := bl_trans8 g1 hb2))
  clear hb1 hb2
  have HE := hide (bl_trans8 HGD.out g2)
  clear g0 g1 g2
  go_wp2
  go_ret
  exact ⟨rfl, HE.out⟩

set_option maxRecDepth 20000 in
set_option maxHeartbeats 4000000 in
theorem rdCmp_tops (b1 : Bool) (a1 : Option Addr) (n1 c1 : Nat) (M1 E1 : Int) (b2 : Bool) (a2 : Option Addr) (n2 c2 : Nat) (M2 E2 : Int) (w : World) (hD1 : Dn w b1 (.slice a1 n1 c1) M1) (hD2 : Dn w b2 (.slice a2 n2 c2) M2) (f1 : blen M1.natAbs ≤ 1125899906840000) (f2 : blen M2.natAbs ≤ 1125899906840000) (he1 : -1152921504606846976 ≤ E1) (he2 : E1 ≤ 1152921504606846976) (he3 : -1152921504606846976 ≤ E2) (he4 : E2 ≤ 1152921504606846976) (hs : M1.sign = M2.sign) (h0 : M1.sign ≠ 0) (ht : ((blen M1.natAbs : Nat) : Int) - 1 + E1 ≠ ((blen M2.natAbs : Nat) : Int) - 1 + E2) :
    Calls Tryz.prog 35 #[.agg #[.bool b1, .slice a1 n1 c1, .int .i64 E1], .agg #[.bool b2, .slice a2 n2 c2, .int .i64 E2]] w fun e w' => e = .returned (.int .i64 (if ((blen M1.natAbs : Nat) : Int) - 1 + E1 < ((blen M2.natAbs : Nat) : Int) - 1 + E2 then -M1.sign else M1.sign)) ∧ Below w.heap.size w w' := by
  obtain ⟨w0, hw0, hb0, k0, k1⟩ := enter2 w (.cells #[.bool b1, .slice a1 n1 c1, .int .i64 E1] 45) (.cells #[.bool b2, .slice a2 n2 c2, .int .i64 E2] 45)
  have gd : Below w.heap.size w w0.drew := hb0.drew
  have SG1 := hide (fun (W : World) (hg : Below w0.drew.heap.size w0.drew W) => rzsign_any (.agg #[.bool b1, .slice a1 n1 c1]) M1 W ((hD1.below gd).below hg).zn)
  have SG2 := hide (fun (W : World) (hg : Below w0.drew.heap.size w0.drew W) => rzsign_any (.agg #[.bool b2, .slice a2 n2 c2]) M2 W ((hD2.below gd).below hg).zn)
  have TP1 := hide (fun (W : World) (hg : Below w0.drew.heap.size w0.drew W) => rdTop_any b1 a1 n1 c1 M1 E1 W ((hD1.below gd).below hg) (by omega) (by omega) (by omega))
  have TP2 := hide (fun (W : World) (hg : Below w0.drew.heap.size w0.drew W) => rdTop_any b2 a2 n2 c2 M2 E2 W ((hD2.below gd).below hg) (by omega) (by omega) (by omega))
  have HD1 := hide (hD1.below gd)
  have HD2 := hide (hD2.below gd)
  have KB := hide (fun (W : World) (hg : Below w0.drew.heap.size w0.drew W) => And.intro (block_upW hg (show w0.drew.heap[w.heap.size]? = some (.cells #[.bool b1, .slice a1 n1 c1, .int .i64 E1] 45) from k0)) (block_upW hg (show w0.drew.heap[w.heap.size + 1]? = some (.cells #[.bool b2, .slice a2 n2 c2, .int .i64 E2] 45) from k1)))
  have KS := hide (fun (W : World) (hg : Below w0.drew.heap.size w0.drew W) => show W.cell? ⟨w.heap.size, 0, none⟩ = some (.bool b1) ∧ W.cell? ⟨w.heap.size, 1, none⟩ = some (.slice a1 n1 c1) ∧ W.cell? ⟨w.heap.size, 2, none⟩ = some (.int .i64 E1) ∧ W.cell? ⟨w.heap.size + 1, 0, none⟩ = some (.bool b2) ∧ W.cell? ⟨w.heap.size + 1, 1, none⟩ = some (.slice a2 n2 c2) ∧ W.cell? ⟨w.heap.size + 1, 2, none⟩ = some (.int .i64 E2) from ⟨(tri8 (KB.out W hg).1).1, (tri8 (KB.out W hg).1).2.1, (tri8 (KB.out W hg).1).2.2, (tri8 (KB.out W hg).2).1, (tri8 (KB.out W hg).2).2.1, (tri8 (KB.out W hg).2).2.2⟩)
  have g0 : Below w0.drew.heap.size w0.drew w0.drew := Below.refl _ _
  have HGD := hide gd
  clear k0 k1 hb0 gd hD1 hD2
  have hsv := sign_vals9 M1
  rw [← hs] at SG2
  generalize ((blen M1.natAbs : Nat) : Int) - 1 + E1 = T1 at *
  generalize ((blen M2.natAbs : Nat) : Int) - 1 + E2 = T2 at *
  have hx : M1.sign = -1 ∨ M1.sign = 1 := by omega
  generalize M1.sign = x at *
  clear hs hsv
  have htb : (T1 != T2) = true := bne_iff_ne.2 ht
  have h0b : (x == 0) = false := beq_eq_false_iff_ne.2 h0
  have hxx : (x != x) = false := by simp
  have hwr : IntKind.i64.wrap (-x) = -x := by rw [IntKind.wrap_i64]; omega
  clear hx
  by_cases hlt : T1 < T2
  · have hd : decide (T1 < T2) = true := decide_eq_true hlt
    rw [if_pos hlt]
    obtain ⟨mx, hmx⟩ : ∃ mx, -x = mx := ⟨_, rfl⟩
    rw [hmx] at hwr
    have hmx2 : -x = mx := hmx
    rw [hmx]
    clear hmx
    go_enter Tryz.func35, Tryz.ntmps35
    go_wp2_with fail
    go_region_held3 (fun w' => w'.cell? ⟨w.heap.size, 0, none⟩ = some (.bool b1) ∧ w'.cell? ⟨w.heap.size, 1, none⟩ = some (.slice a1 n1 c1) ∧ w'.cell? ⟨w.heap.size, 2, none⟩ = some (.int .i64 E1) ∧ w'.cell? ⟨w.heap.size + 1, 0, none⟩ = some (.bool b2) ∧ w'.cell? ⟨w.heap.size + 1, 1, none⟩ = some (.slice a2 n2 c2) ∧ w'.cell? ⟨w.heap.size + 1, 2, none⟩ = some (.int .i64 E2)) (first | with_reducible exact KS.out _ g2 | with_reducible exact KS.out _ g1 | with_reducible exact KS.out _ g0) (first
      | (go_at_call_of 63 a1; refine (SG1.out _ g0).mono ?_; rintro e' t1 ⟨rfl, hb1⟩; have g1 := bl_trans8 g0 hb1)
      | (go_at_call_of 63 a2; refine (SG2.out _ g1).mono ?_; rintro e' t2 ⟨rfl, hb2⟩; have g2 := bl_trans8 g1 hb2))
    clear hb1 hb2
    have h0a : Below t2.heap.size t2 t2.drew := (Below.refl _ _).drew
    have g3 := bl_trans8 g2 h0a
    obtain ⟨ca0, cb0, cc0⟩ := tri8 (KB.out _ g3).1
    obtain ⟨ca1, cb1, cc1⟩ := tri8 (KB.out _ g3).2
    clear h0a
    go_wp2_with fail
    go_region_held3 (fun w' => w'.cell? ⟨w.heap.size, 0, none⟩ = some (.bool b1) ∧ w'.cell? ⟨w.heap.size, 1, none⟩ = some (.slice a1 n1 c1) ∧ w'.cell? ⟨w.heap.size, 2, none⟩ = some (.int .i64 E1) ∧ w'.cell? ⟨w.heap.size + 1, 0, none⟩ = some (.bool b2) ∧ w'.cell? ⟨w.heap.size + 1, 1, none⟩ = some (.slice a2 n2 c2) ∧ w'.cell? ⟨w.heap.size + 1, 2, none⟩ = some (.int .i64 E2)) (first | with_reducible exact KS.out _ g5 | with_reducible exact KS.out _ g4 | with_reducible exact KS.out _ g3) (first
      | (go_at_call_of 64 a1; refine (TP1.out _ g3).mono ?_; rintro e' t4 ⟨rfl, hb4⟩; have g4 := bl_trans8 g3 hb4)
      | (go_at_call_of 64 a2; refine (TP2.out _ g4).mono ?_; rintro e' t5 ⟨rfl, hb5⟩; have g5 := bl_trans8 g4 hb5))
    clear hb4 hb5 ca0 cb0 cc0 ca1 cb1 cc1
    have g2x := g2
    have t2b := t2
    clear g0 g1 g2 t2b g2x
    have HG5 := hide g5
    clear g3 g4 g5
    have h0a : Below t5.heap.size t5 t5.drew := (Below.refl _ _).drew
    have g3 := bl_trans8 HG5.out h0a
    obtain ⟨ca0, cb0, cc0⟩ := tri8 (KB.out _ g3).1
    obtain ⟨ca1, cb1, cc1⟩ := tri8 (KB.out _ g3).2
    clear h0a
    go_wp2_with fail
    go_region_held3 (fun w' => w'.cell? ⟨w.heap.size, 0, none⟩ = some (.bool b1) ∧ w'.cell? ⟨w.heap.size, 1, none⟩ = some (.slice a1 n1 c1) ∧ w'.cell? ⟨w.heap.size, 2, none⟩ = some (.int .i64 E1) ∧ w'.cell? ⟨w.heap.size + 1, 0, none⟩ = some (.bool b2) ∧ w'.cell? ⟨w.heap.size + 1, 1, none⟩ = some (.slice a2 n2 c2) ∧ w'.cell? ⟨w.heap.size + 1, 2, none⟩ = some (.int .i64 E2)) (first | with_reducible exact KS.out _ g7 | with_reducible exact KS.out _ g6 | with_reducible exact KS.out _ g3) (first
      | (go_at_call_of 64 a1; refine (TP1.out _ g3).mono ?_; rintro e' t6 ⟨rfl, hb6⟩; have g6 := bl_trans8 g3 hb6)
      | (go_at_call_of 64 a2; refine (TP2.out _ g6).mono ?_; rintro e' t7 ⟨rfl, hb7⟩; have g7 := bl_trans8 g6 hb7))
    have HE := hide (bl_trans8 HGD.out g7)
    clear g3 g6 g7 hb6 hb7 ca0 cb0 cc0 ca1 cb1 cc1
    go_wp2
    go_ret
    exact ⟨rfl, HE.out⟩
  · have hd : decide (T1 < T2) = false := decide_eq_false hlt
    rw [if_neg hlt]
    go_enter Tryz.func35, Tryz.ntmps35
    go_wp2_with fail
    go_region_held3 (fun w' => w'.cell? ⟨w.heap.size, 0, none⟩ = some (.bool b1) ∧ w'.cell? ⟨w.heap.size, 1, none⟩ = some (.slice a1 n1 c1) ∧ w'.cell? ⟨w.heap.size, 2, none⟩ = some (.int .i64 E1) ∧ w'.cell? ⟨w.heap.size + 1, 0, none⟩ = some (.bool b2) ∧ w'.cell? ⟨w.heap.size + 1, 1, none⟩ = some (.slice a2 n2 c2) ∧ w'.cell? ⟨w.heap.size + 1, 2, none⟩ = some (.int .i64 E2)) (first | with_reducible exact KS.out _ g2 | with_reducible exact KS.out _ g1 | with_reducible exact KS.out _ g0) (first
      | (go_at_call_of 63 a1; refine (SG1.out _ g0).mono ?_; rintro e' t1 ⟨rfl, hb1⟩; have g1 := bl_trans8 g0 hb1)
      | (go_at_call_of 63 a2; refine (SG2.out _ g1).mono ?_; rintro e' t2 ⟨rfl, hb2⟩; have g2 := bl_trans8 g1 hb2))
    clear hb1 hb2
    have h0a : Below t2.heap.size t2 t2.drew := (Below.refl _ _).drew
    have g3 := bl_trans8 g2 h0a
    obtain ⟨ca0, cb0, cc0⟩ := tri8 (KB.out _ g3).1
    obtain ⟨ca1, cb1, cc1⟩ := tri8 (KB.out _ g3).2
    clear h0a
    go_wp2_with fail
    go_region_held3 (fun w' => w'.cell? ⟨w.heap.size, 0, none⟩ = some (.bool b1) ∧ w'.cell? ⟨w.heap.size, 1, none⟩ = some (.slice a1 n1 c1) ∧ w'.cell? ⟨w.heap.size, 2, none⟩ = some (.int .i64 E1) ∧ w'.cell? ⟨w.heap.size + 1, 0, none⟩ = some (.bool b2) ∧ w'.cell? ⟨w.heap.size + 1, 1, none⟩ = some (.slice a2 n2 c2) ∧ w'.cell? ⟨w.heap.size + 1, 2, none⟩ = some (.int .i64 E2)) (first | with_reducible exact KS.out _ g5 | with_reducible exact KS.out _ g4 | with_reducible exact KS.out _ g3) (first
      | (go_at_call_of 64 a1; refine (TP1.out _ g3).mono ?_; rintro e' t4 ⟨rfl, hb4⟩; have g4 := bl_trans8 g3 hb4)
      | (go_at_call_of 64 a2; refine (TP2.out _ g4).mono ?_; rintro e' t5 ⟨rfl, hb5⟩; have g5 := bl_trans8 g4 hb5))
    clear hb4 hb5 ca0 cb0 cc0 ca1 cb1 cc1
    clear g0 g1 g2
    have HG5 := hide g5
    clear g3 g4 g5
    have h0a : Below t5.heap.size t5 t5.drew := (Below.refl _ _).drew
    have g3 := bl_trans8 HG5.out h0a
    obtain ⟨ca0, cb0, cc0⟩ := tri8 (KB.out _ g3).1
    obtain ⟨ca1, cb1, cc1⟩ := tri8 (KB.out _ g3).2
    clear h0a
    go_wp2_with fail
    go_region_held3 (fun w' => w'.cell? ⟨w.heap.size, 0, none⟩ = some (.bool b1) ∧ w'.cell? ⟨w.heap.size, 1, none⟩ = some (.slice a1 n1 c1) ∧ w'.cell? ⟨w.heap.size, 2, none⟩ = some (.int .i64 E1) ∧ w'.cell? ⟨w.heap.size + 1, 0, none⟩ = some (.bool b2) ∧ w'.cell? ⟨w.heap.size + 1, 1, none⟩ = some (.slice a2 n2 c2) ∧ w'.cell? ⟨w.heap.size + 1, 2, none⟩ = some (.int .i64 E2)) (first | with_reducible exact KS.out _ g7 | with_reducible exact KS.out _ g6 | with_reducible exact KS.out _ g3) (first
      | (go_at_call_of 64 a1; refine (TP1.out _ g3).mono ?_; rintro e' t6 ⟨rfl, hb6⟩; have g6 := bl_trans8 g3 hb6)
      | (go_at_call_of 64 a2; refine (TP2.out _ g6).mono ?_; rintro e' t7 ⟨rfl, hb7⟩; have g7 := bl_trans8 g6 hb7))
    have HE := hide (bl_trans8 HGD.out g7)
    clear g3 g6 g7 hb6 hb7 ca0 cb0 cc0 ca1 cb1 cc1
    go_wp2
    go_ret
    exact ⟨rfl, HE.out⟩

end Go.Proofs.YtppkhhbhnhijpaaGreatDoor
