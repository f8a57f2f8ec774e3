/- Package dyadic: Neg, Abs. -/
import Derived.Test.YtemajaclpkgpbaaDoorDyUZ
import Derived.Test.YtemajaclpkgpbaaDoorQ9
namespace Go.Proofs.YtemajaclpkgpbaaDoor
open Go.RowKit
open Lm
attribute [local go_sem ↓] Go.wp_at_zero Go.wp_at_succ

theorem zz_not (b : Bool) (x : Nat) : zz (!b) x = -(zz b x) := by cases b <;> simp [zz]

theorem omz_neg (z e : Int) : omz (-z) = -(omz z) ∧ oe (-z) e = oe z e := by
  constructor
  · by_cases h : z = 0
    · subst h; rw [Int.neg_zero, omz_zero, Int.neg_zero]
    · have h1 := omz_zz (decide (z < 0)) z.natAbs
      rw [zz_self] at h1
      have h2 := omz_zz (!(decide (z < 0))) z.natAbs
      rw [zz_not, zz_self] at h2
      rw [h1, h2, zz_not]
  · unfold oe
    rw [Int.natAbs_neg]
    by_cases h : z = 0
    · subst h; rfl
    · rw [if_neg h, if_neg (by omega)]

theorem omz_natAbs (z e : Int) : omz (z.natAbs : Int) = ((omz z).natAbs : Int) ∧ oe (z.natAbs : Int) e = oe z e := by
  constructor
  · have h := omz_zz false z.natAbs
    simp only [zz, Bool.false_eq_true, if_false] at h
    rw [h, omz_abs]
  · unfold oe
    rw [Int.natAbs_natCast]
    by_cases h : z = 0
    · subst h; rfl
    · rw [if_neg h, if_neg (by omega)]

set_option maxRecDepth 20000 in
set_option maxHeartbeats 1000000 in
theorem yneg_no (b : Bool) (a : Option Addr) (n c : Nat) (ex : Int) (w : World) (hE : fitE ex = false) :
    Calls Tryd.prog 31 #[.agg #[.bool b, .slice a n c, .int .i64 ex]] w fun e w' => DErr 80 e ∧ Below w.heap.size w w' := by
  obtain ⟨w0, hw0, hb0, h0, h1'⟩ := enter2 w (.cells #[.bool b, .slice a n c, .int .i64 ex] 29) (.cells #[.bool false, .slice none 0 0, .int .i64 0] 29)
  obtain ⟨k0, k1, k2⟩ := tri8 h0
  have HP := yseen_no b a n c ex w0 hE
  have HC := hide h1'
  have HB := hide hb0
  clear h0 h1' hb0 hE
  go_enter Tryd.func31, Tryd.ntmps31
  go_wp2_with fail
  refine HP.mono ?_
  rintro e t1 ⟨he, g1⟩
  obtain ⟨fb, fa, fn, fc, fe, rfl⟩ : ∃ fb fa fn fc fe, e = .returned (.tuple #[.agg #[.bool fb, .slice fa fn fc, .int .i64 fe], .int .i64 80]) := ⟨_, _, _, _, _, he⟩
  clear he
  obtain ⟨w4, hw4, hb4, h4⟩ := enter1 t1 (.cells #[.bool fb, .slice fa fn fc, .int .i64 fe] 92)
  obtain ⟨nb, hnb⟩ : ∃ nb : Bool, (!fb) = nb := ⟨_, rfl⟩
  have hf4 := tri8f h4
  obtain ⟨l0, l1, l2⟩ := tri8 h4
  have hsz := (bl_trans8 HB.out g1).size
  have d4 : (w4.setCell ⟨t1.heap.size, 0, none⟩ (.bool nb)).heap[t1.heap.size]? = some (.cells #[.bool nb, .slice fa fn fc, .int .i64 fe] 92) := box_modify (k := 0) h4 (.bool nb)
  have hne : w.heap.size + 1 ≠ t1.heap.size := by
    have := lt_of_block (block_upW g1 HC.out); omega
  have d1 : (w4.setCell ⟨t1.heap.size, 0, none⟩ (.bool nb)).heap[w.heap.size + 1]? = some (.cells #[.bool false, .slice none 0 0, .int .i64 0] 29) := by
    rw [Below.heap_setCell _ _ _ _ hne]; exact block_upW hb4 (block_upW g1 HC.out)
  have G4 : Below w.heap.size w (w4.setCell ⟨t1.heap.size, 0, none⟩ (.bool nb)) := (bl_trans8 (bl_trans8 HB.out g1) hb4).setCell (p := ⟨t1.heap.size, 0, none⟩) hsz _
  have HA := yanswered_no nb fa fn fc fe 80 (w4.setCell ⟨t1.heap.size, 0, none⟩ (.bool nb)) (by decide)
  have HG1 := hide G4
  have HC0 := hide d1
  obtain ⟨q0, q1, q2⟩ := tri8 d4
  clear HP g1 G4 HC HB k0 k1 k2 d4 d1 hsz h4 hb4
  go_wp2_with fail
  generalize w4.setCell ⟨t1.heap.size, 0, none⟩ (.bool nb) = w6 at *
  refine HA.mono ?_
  rintro e t2 ⟨he, g2⟩
  obtain ⟨gb, ga, gn, gc, ge, rfl, heq⟩ : ∃ gb ga gn gc ge, e = .returned (.tuple #[.agg #[.bool gb, .slice ga gn gc, .int .i64 ge], .int .i64 80]) ∧ (gb = false ∧ ga = none ∧ gn = 0 ∧ gc = 0 ∧ ge = 0) := ⟨_, _, _, _, _, he, rfl, rfl, rfl, rfl, rfl⟩
  have HQ := hide heq
  clear he heq
  have HC1 := hide (block_upW g2 HC0.out)
  have HG := hide (bl_trans8 HG1.out g2)
  have hf1 := tri8f HC1.out
  obtain ⟨m0, m1, m2⟩ := tri8 HC1.out
  clear g2 HA HC0
  go_wp2
  have T3 := tri8_all HC1.out (.bool gb) (.slice ga gn gc) (.int .i64 ge)
  have T4 := below_tri8 HG.out (show w.heap.size ≤ w.heap.size + 1 by omega) (.bool gb) (.slice ga gn gc) (.int .i64 ge)
  obtain ⟨p0, p1, p2⟩ := tri8 T3
  have HE := hide T4
  clear T3 T4
  generalize ((t2.setCell ⟨w.heap.size + 1, 0, none⟩ (.bool gb)).setCell ⟨w.heap.size + 1, 1, none⟩ (.slice ga gn gc)).setCell ⟨w.heap.size + 1, 2, none⟩ (.int .i64 ge) = w5 at *
  refine bodyPost_ret (v := .tuple #[.agg #[.bool gb, .slice ga gn gc, .int .i64 ge], .int .i64 80]) (by simp [results, Tryd.results31, go_sem, p0, p1, p2]) rfl ?_
  obtain ⟨q1, q2, q3, q4, q5⟩ := HQ.out
  subst q1 q2 q3 q4 q5
  exact ⟨rfl, HE.out⟩

set_option maxRecDepth 20000 in
set_option maxHeartbeats 1000000 in
theorem yneg_ok (b : Bool) (a : Option Addr) (c : Nat) (X : List Nat) (ex : Int) (w : World) (hA : Arg w (.slice a X.length c) X) (hT : Tab w) (hf : X.length ≤ 17592186044416) (hE : fitE ex = true) :
    Calls Tryd.prog 31 #[.agg #[.bool b, .slice a X.length c, .int .i64 ex]] w fun e w' => DRes w' w.heap.size e (-(omz (zz b (val X)))) (oe (zz b (val X)) ex) ∧ Below w.heap.size w w' := by
  obtain ⟨w0, hw0, hb0, h0, h1'⟩ := enter2 w (.cells #[.bool b, .slice a X.length c, .int .i64 ex] 29) (.cells #[.bool false, .slice none 0 0, .int .i64 0] 29)
  obtain ⟨k0, k1, k2⟩ := tri8 h0
  have HP := yseen_ok b a c X ex w0 (hA.below hb0) hE
  have hAT : Arg w (.slice a (tr X).length c) (tr X) := hA.trim
  have hEr := (fitE_iff ex).1 hE
  have HN := hide (fun (W : World) (hg : Below w.heap.size w W) => yanswered_ok (!b) a c (tr X) (-(zz b (val X))) ex W ⟨hAT.below hg, tr_tr X, by rw [val_tr]; exact zz_not b (val X)⟩ (hT.below hg) (by omega) (by omega) (by have := tr_length_le X; omega))
  rw [(omz_neg (zz b (val X)) ex).1, (omz_neg (zz b (val X)) ex).2] at HN
  obtain ⟨nb, hnb⟩ : ∃ nb : Bool, (!b) = nb := ⟨_, rfl⟩
  rw [hnb] at HN
  have HC := hide h1'
  have HB := hide hb0
  clear h0 h1' hb0 hE hA hT hAT
  generalize oe (zz b (val X)) ex = E at *
  generalize omz (zz b (val X)) = M at *
  go_enter Tryd.func31, Tryd.ntmps31
  go_wp2_with fail
  refine HP.mono ?_
  rintro e t1 ⟨rfl, g1⟩
  obtain ⟨w4, hw4, hb4, h4⟩ := enter1 t1 (.cells #[.bool b, .slice a (tr X).length c, .int .i64 ex] 92)
  have hf4 := tri8f h4
  obtain ⟨l0, l1, l2⟩ := tri8 h4
  have hsz := (bl_trans8 HB.out g1).size
  have d4 : (w4.setCell ⟨t1.heap.size, 0, none⟩ (.bool nb)).heap[t1.heap.size]? = some (.cells #[.bool nb, .slice a (tr X).length c, .int .i64 ex] 92) := box_modify (k := 0) h4 (.bool nb)
  have hne : w.heap.size + 1 ≠ t1.heap.size := by
    have := lt_of_block (block_upW g1 HC.out); omega
  have d1 : (w4.setCell ⟨t1.heap.size, 0, none⟩ (.bool nb)).heap[w.heap.size + 1]? = some (.cells #[.bool false, .slice none 0 0, .int .i64 0] 29) := by
    rw [Below.heap_setCell _ _ _ _ hne]; exact block_upW hb4 (block_upW g1 HC.out)
  have G4 : Below w.heap.size w (w4.setCell ⟨t1.heap.size, 0, none⟩ (.bool nb)) := (bl_trans8 (bl_trans8 HB.out g1) hb4).setCell (p := ⟨t1.heap.size, 0, none⟩) hsz _
  have HA := HN.out _ G4
  have HG1 := hide G4
  have HC0 := hide d1
  obtain ⟨q0, q1, q2⟩ := tri8 d4
  clear HP g1 G4 HN HC HB k0 k1 k2 d4 d1 hsz h4 hb4
  go_wp2_with fail
  generalize w4.setCell ⟨t1.heap.size, 0, none⟩ (.bool nb) = w6 at *
  refine HA.mono ?_
  rintro e t2 ⟨⟨b1, a1, n1, c1, e1, r1, rfl, hdr⟩, g2⟩
  have HC1 := hide (block_upW g2 HC0.out)
  have HG := hide (bl_trans8 HG1.out g2)
  have HDR := hide (hdr.base HG1.out.size)
  have hf1 := tri8f HC1.out
  obtain ⟨m0, m1, m2⟩ := tri8 HC1.out
  clear hdr g2 HA HC0
  go_wp2
  have T3 := tri8_all HC1.out (.bool b1) (.slice a1 n1 c1) (.int .i64 e1)
  have T4 := below_tri8 HG.out (show w.heap.size ≤ w.heap.size + 1 by omega) (.bool b1) (.slice a1 n1 c1) (.int .i64 e1)
  have T5 := HDR.out.tri8 HC1.out (by decide) (.bool b1) (.slice a1 n1 c1) (.int .i64 e1)
  obtain ⟨p0, p1, p2⟩ := tri8 T3
  have HE := hide (And.intro T5 T4)
  clear T3 T4 T5
  generalize ((t2.setCell ⟨w.heap.size + 1, 0, none⟩ (.bool b1)).setCell ⟨w.heap.size + 1, 1, none⟩ (.slice a1 n1 c1)).setCell ⟨w.heap.size + 1, 2, none⟩ (.int .i64 e1) = w5 at *
  refine bodyPost_ret (v := .tuple #[.agg #[.bool b1, .slice a1 n1 c1, .int .i64 e1], .int .i64 r1]) (by simp [results, Tryd.results31, go_sem, p0, p1, p2]) rfl ?_
  exact ⟨⟨_, _, _, _, _, _, rfl, HE.out.1⟩, HE.out.2⟩


end Go.Proofs.YtemajaclpkgpbaaDoor
