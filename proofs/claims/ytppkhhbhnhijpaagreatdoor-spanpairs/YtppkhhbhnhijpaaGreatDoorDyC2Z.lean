/- Package dyadic: compare, Compare, Sign. -/
import Derived.Test.YtppkhhbhnhijpaaGreatDoorDyC1Z
namespace Go.Proofs.YtppkhhbhnhijpaaGreatDoor
open Go.RowKit
open Lm
attribute [local go_sem ↓] Go.wp_at_zero Go.wp_at_succ

theorem zz_pow2 (b : Bool) (x g : Nat) : zz b x * 2 ^ g = zz b (x * 2 ^ g) := by cases b <;> simp [zz, Int.neg_mul]

theorem sg_cmp (b1 : Bool) (x : Nat) (b2 : Bool) (y : Nat) (p q : Nat) :
    (cmpZ (sg b1 x) (sg b2 y) ≠ 0 → cmpZ (sg b1 x) (sg b2 y) = cmpZ (zz b1 x * 2 ^ p) (zz b2 y * 2 ^ q)) ∧ (cmpZ (sg b1 x) (sg b2 y) = 0 → sg b1 x = sg b2 y) ∧ (cmpZ (sg b1 x) (sg b2 y) = 0 → sg b1 x = 0 → cmpZ (zz b1 x * 2 ^ p) (zz b2 y * 2 ^ q) = 0) ∧
    (sg b1 x = sg b2 y → sg b1 x * cmpN (x * 2 ^ p) (y * 2 ^ q) = cmpZ (zz b1 x * 2 ^ p) (zz b2 y * 2 ^ q)) := by
  rw [zz_pow2, zz_pow2]
  have hA : x * 2 ^ p = 0 ↔ x = 0 := by
    have := Nat.two_pow_pos p
    rw [Nat.mul_eq_zero]; omega
  have hB : y * 2 ^ q = 0 ↔ y = 0 := by
    have := Nat.two_pow_pos q
    rw [Nat.mul_eq_zero]; omega
  generalize x * 2 ^ p = A at *
  generalize y * 2 ^ q = B at *
  unfold cmpZ cmpN sg zz
  by_cases hx : x = 0
  · have hA0 : A = 0 := hA.2 hx
    subst hA0
    by_cases hy : y = 0
    · have hB0 : B = 0 := hB.2 hy
      subst hB0
      cases b1 <;> cases b2 <;> simp [hx, hy]
    · have hB0 : B ≠ 0 := fun h => hy (hB.1 h)
      cases b1 <;> cases b2 <;> simp [hx, hy] <;> omega
  · have hA0 : A ≠ 0 := fun h => hx (hA.1 h)
    by_cases hy : y = 0
    · have hB0 : B = 0 := hB.2 hy
      subst hB0
      cases b1 <;> cases b2 <;> simp [hx, hy] <;> omega
    · have hB0 : B ≠ 0 := fun h => hy (hB.1 h)
      cases b1 <;> cases b2 <;> simp [hx, hy] <;> omega

theorem ypsign_any (b : Bool) (a : Option Addr) (c : Nat) (X : List Nat) (w : World) (hA : Arg w (.slice a X.length c) X) :
    Calls Tryz.prog 133 #[.agg #[.bool b, .slice a X.length c]] w fun e w' => e = .returned (.int .i64 (sg b (val X))) ∧ Below w.heap.size w w' := by
  obtain ⟨w0, hw0, hb0, h0⟩ := enter1 w (.cells #[.bool b, .slice a X.length c] 150)
  obtain ⟨k0, k1⟩ := duo h0
  have HM := yman_any b a X.length c w0
  have HS := hide (fun (W : World) (hg : Below w.heap.size w W) => wsign_any b _ X W (hA.below hg))
  have HB := hide hb0
  generalize sg b (val X) = s at *
  clear h0 hb0 hA
  go_enter Tryz.func133, Tryz.ntmps133
  go_wp2_with fail
  refine HM.mono ?_
  rintro e t1 ⟨rfl, g1⟩
  have HG := hide (bl_trans8 HB.out g1)
  have HSS := HS.out t1 HG.out
  clear g1 HM
  go_wp2_with fail
  refine HSS.mono ?_
  rintro e t2 ⟨rfl, g2⟩
  have HG2 := hide (bl_trans8 HG.out g2)
  clear g2 HSS
  go_wp2
  go_ret
  exact ⟨rfl, HG2.out⟩

theorem ySign_any (b : Bool) (a : Option Addr) (c : Nat) (X : List Nat) (ex : Int) (w : World) (hA : Arg w (.slice a X.length c) X) :
    Calls Tryz.prog 95 #[.agg #[.bool b, .slice a X.length c, .int .i64 ex]] w fun e w' => e = .returned (.int .i64 (sg b (val X))) ∧ Below w.heap.size w w' := by
  obtain ⟨w0, hw0, hb0, h0⟩ := enter1 w (.cells #[.bool b, .slice a X.length c, .int .i64 ex] 31)
  obtain ⟨k0, k1, k2⟩ := tri8 h0
  have HS := wsign_any b _ X w0 (hA.below hb0)
  have HB := hide hb0
  generalize sg b (val X) = s at *
  clear h0 hb0 hA
  go_enter Tryz.func95, Tryz.ntmps95
  go_wp2_with fail
  refine HS.mono ?_
  rintro e t1 ⟨rfl, g1⟩
  have HG := hide (bl_trans8 HB.out g1)
  clear g1 HS
  go_wp2
  go_ret
  exact ⟨rfl, HG.out⟩

theorem sg_val (b : Bool) (x : Nat) : (sg b x = 0 ↔ x = 0) ∧ -1 ≤ sg b x ∧ sg b x ≤ 1 := by
  unfold sg
  by_cases h : x = 0
  · simp [h]
  · cases b <;> simp [h]

set_option maxRecDepth 20000 in
set_option maxHeartbeats 2000000 in
theorem ycompare_any (b1 : Bool) (a1 : Option Addr) (c1 : Nat) (X : List Nat) (E1 : Int) (b2 : Bool) (a2 : Option Addr) (c2 : Nat) (Y : List Nat) (E2 : Int) (L p q : Nat) (w : World) (h1 : Arg w (.slice a1 X.length c1) X) (h2 : Arg w (.slice a2 Y.length c2) Y) (f1 : X.length ≤ 17592186044416) (f2 : Y.length ≤ 17592186044416) (he1 : -1152921504606846976 ≤ E1) (he2 : E1 ≤ 1152921504606846976) (he3 : -1152921504606846976 ≤ E2) (he4 : E2 ≤ 1152921504606846976) (hL : 4611686018427387904 ≤ L) (hp : (p : Int) = E1 + L) (hq : (q : Int) = E2 + L) :
    Calls Tryz.prog 118 #[.agg #[.bool b1, .slice a1 X.length c1, .int .i64 E1], .agg #[.bool b2, .slice a2 Y.length c2, .int .i64 E2]] w fun e w' => e = .returned (.int .i64 (cmpZ (zz b1 (val X) * 2 ^ p) (zz b2 (val Y) * 2 ^ q))) ∧ Below w.heap.size w w' := by
  obtain ⟨w0, hw0, hb0, k0, k1⟩ := enter2 w (.cells #[.bool b1, .slice a1 X.length c1, .int .i64 E1] 153) (.cells #[.bool b2, .slice a2 Y.length c2, .int .i64 E2] 153)
  obtain ⟨x0, x1, x2⟩ := tri8 k0
  have S1 := ypsign_any b1 a1 c1 X w0 (h1.below hb0)
  have S2 := hide (fun (W : World) (hg : Below w.heap.size w W) => ypsign_any b2 a2 c2 Y W (h2.below hg))
  have hsc := sg_cmp b1 (val X) b2 (val Y) p q
  have v1 := sg_val b1 (val X)
  have v2 := sg_val b2 (val Y)
  have HCS := hide (fun (W : World) (hg : Below w.heap.size w W) (hx : val X ≠ 0) (hy : val Y ≠ 0) => ycmpSizes_any b1 a1 c1 X E1 b2 a2 c2 Y E2 L p q W (h1.below hg) (h2.below hg) hx hy f1 f2 he1 he2 he3 he4 hL hp hq)
  have hcr := cmpN_range (val X * 2 ^ p) (val Y * 2 ^ q)
  have HK0 := hide k0
  have HK1 := hide k1
  have HB := hide hb0
  clear k0 k1 hb0 h1 h2 hp hq
  generalize cmpN (val X * 2 ^ p) (val Y * 2 ^ q) = cc at *
  generalize cmpZ (zz b1 (val X) * 2 ^ p) (zz b2 (val Y) * 2 ^ q) = R at *
  generalize hs1 : sg b1 (val X) = s1 at *
  generalize hs2 : sg b2 (val Y) = s2 at *
  have HV1 := hide v1
  have HV2 := hide v2
  have HSC := hide hsc
  clear hsc v1 v2 hs1 hs2
  generalize hoo : cmpZ s1 s2 = oo at *
  have HOO := hide hoo
  clear hoo
  go_enter Tryz.func118, Tryz.ntmps118
  go_wp2_with fail
  refine S1.mono ?_
  rintro e t1 ⟨rfl, g1⟩
  have HG1 := hide (bl_trans8 HB.out g1)
  have HL0 := hide (block_upW g1 HK0.out)
  have HL1 := hide (block_upW g1 HK1.out)
  obtain ⟨x3, x4, x5⟩ := tri8 HL1.out
  have SS := S2.out t1 HG1.out
  clear g1 S1 S2 HK0 HK1 HB
  go_wp2_with fail
  refine SS.mono ?_
  rintro e t2 ⟨rfl, g2⟩
  have HG2 := hide (bl_trans8 HG1.out g2)
  have HM0 := hide (block_upW g2 HL0.out)
  have HM1 := hide (block_upW g2 HL1.out)
  obtain ⟨x0, x1, x2⟩ := tri8 HM0.out
  obtain ⟨x3, x4, x5⟩ := tri8 HM1.out
  have CI := cmpInt_any s1 s2 t2
  rw [HOO.out] at CI
  clear g2 SS HL0 HL1 HG1
  go_wp2_with fail
  refine CI.mono ?_
  rintro e wn ⟨rfl, hw⟩; rw [hw]; clear hw wn CI
  by_cases ho : oo = 0
  · subst ho
    by_cases hs : s1 = 0
    · have hs2 : ((s1 : Int) == 0) = true := by rw [beq_iff_eq]; exact hs
      have hR : R = 0 := HSC.out.2.2.1 rfl hs
      have HRR := hide hR
      clear hs hR
      go_wp2
      go_ret
      rw [HRR.out]
      exact ⟨rfl, HG2.out⟩
    · have hs2 : ((s1 : Int) == 0) = false := by rw [beq_eq_false_iff_ne]; exact hs
      have hse := HSC.out.2.1 rfl
      have hR := HSC.out.2.2.2 hse
      have HX0 : val X ≠ 0 := fun h => hs (HV1.out.1.2 h)
      have HY0 : val Y ≠ 0 := fun h => hs (by rw [hse]; exact HV2.out.1.2 h)
      have HCC := HCS.out t2 HG2.out HX0 HY0
      have hw : IntKind.i64.wrap (s1 * cc) = s1 * cc := by
        have h9 := HV1.out.2
        have h10 : s1 = -1 ∨ s1 = 1 := by omega
        rw [IntKind.wrap_i64]
        rcases h10 with rfl | rfl <;> omega
      have HRR := hide hR
      clear hse hR HX0 HY0 hs hcr
      generalize hpr : s1 * cc = pr at *
      have hpr2 : s1 * cc = pr := hpr
      clear hpr
      go_wp2_with fail
      refine HCC.mono ?_
      rintro e t3 ⟨rfl, g3⟩
      have HG3 := hide (bl_trans8 HG2.out g3)
      clear g3 HCC
      go_wp2
      go_ret
      rw [← HRR.out]
      exact ⟨rfl, HG3.out⟩
  · have hoe : ((oo : Int) == 0) = false := by rw [beq_eq_false_iff_ne]; exact ho
    have hoe2 : ((oo : Int) != 0) = true := by rw [bne, hoe]; rfl
    have hR := HSC.out.1 ho
    have HRR := hide hR
    clear ho hR
    go_wp2
    go_ret
    rw [← HRR.out]
    exact ⟨rfl, HG2.out⟩

end Go.Proofs.YtppkhhbhnhijpaaGreatDoor
