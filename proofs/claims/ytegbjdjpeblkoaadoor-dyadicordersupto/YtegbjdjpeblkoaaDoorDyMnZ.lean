/- Package dyadic: lesser, greater, middle. -/
import Derived.Test.YtegbjdjpeblkoaaDoorDyV3Z
import Derived.Test.YtegbjdjpeblkoaaDoorDyC2Z
namespace Go.Proofs.YtegbjdjpeblkoaaDoor
open Go.RowKit
open Lm
attribute [local go_sem ↓] Go.wp_at_zero Go.wp_at_succ

set_option maxRecDepth 20000 in
set_option maxHeartbeats 2000000 in
theorem ylesser_any (b1 : Bool) (a1 : Option Addr) (c1 : Nat) (X : List Nat) (M1 E1 : Int) (b2 : Bool) (a2 : Option Addr) (c2 : Nat) (Y : List Nat) (M2 E2 : Int) (L p q : Nat) (w : World) (h1 : Nm w b1 (.slice a1 X.length c1) X M1) (h2 : Nm w b2 (.slice a2 Y.length c2) Y M2) (f1 : X.length ≤ 17592186043904) (f2 : Y.length ≤ 17592186043904) (he1 : -1152921504606846976 ≤ E1) (he2 : E1 ≤ 1152921504606846976) (he3 : -1152921504606846976 ≤ E2) (he4 : E2 ≤ 1152921504606846976) (hL : 4611686018427387904 ≤ L) (hp : (p : Int) = E1 + L) (hq : (q : Int) = E2 + L) :
    Calls Tryd.prog 47 #[.agg #[.bool b1, .slice a1 X.length c1, .int .i64 E1], .agg #[.bool b2, .slice a2 Y.length c2, .int .i64 E2]] w (YPlusV w (omz (if cmpZ (M2 * 2 ^ q) (M1 * 2 ^ p) < 0 then M2 else M1)) (oe (if cmpZ (M2 * 2 ^ q) (M1 * 2 ^ p) < 0 then M2 else M1) (if cmpZ (M2 * 2 ^ q) (M1 * 2 ^ p) < 0 then E2 else E1))) := by
  obtain ⟨w0, hw0, hb0, k0, k1, k2⟩ := enter3 w (.cells #[.bool b1, .slice a1 X.length c1, .int .i64 E1] 84) (.cells #[.bool b2, .slice a2 Y.length c2, .int .i64 E2] 84) (.cells #[.bool false, .slice none 0 0, .int .i64 0] 84)
  obtain ⟨x0, x1, x2⟩ := tri8 k0
  obtain ⟨x3, x4, x5⟩ := tri8 k1
  have HC := ycompare_any b2 a2 c2 Y E2 b1 a1 c1 X E1 L q p w0 (h2.arg.below hb0) (h1.arg.below hb0) (by omega) (by omega) he3 he4 he1 he2 hL hq hp
  rw [h2.val, h1.val] at HC
  have HK0 := hide k0
  have HK1 := hide k1
  have HK2 := hide k2
  have HB := hide hb0
  have HN1 := hide h1
  have HN2 := hide h2
  clear k0 k1 k2 hb0 h1 h2 hp hq
  generalize cmpZ (M2 * 2 ^ q) (M1 * 2 ^ p) = cc at *
  by_cases hc : cc < 0
  · have hd : decide (cc < 0) = true := decide_eq_true hc
    rw [if_pos hc, if_pos hc]
    go_enter Tryd.func47, Tryd.ntmps47
    go_wp2_with fail
    refine HC.mono ?_
    rintro e t1 ⟨rfl, g1⟩
    have HC1 := hide (block_upW g1 HK2.out)
    have HG := hide (bl_trans8 HB.out g1)
    have HNM := hide (HN2.out.below HG.out)
    have hf1 := tri8f HC1.out
    obtain ⟨m0, m1, m2⟩ := tri8 HC1.out
    obtain ⟨l0, l1, l2⟩ := tri8 (block_upW g1 HK1.out)
    clear g1 HC
    go_wp2
    have T3 := tri8_all HC1.out (.bool b2) (.slice a2 Y.length c2) (.int .i64 E2)
    have T4 := below_tri8 HG.out (show w.heap.size ≤ w.heap.size + 1 + 1 by omega) (.bool b2) (.slice a2 Y.length c2) (.int .i64 E2)
    have T5 := HNM.out.tri8 HC1.out b2 a2 Y.length c2 (.int .i64 E2)
    obtain ⟨p0, p1, p2⟩ := tri8 T3
    have HE := hide (And.intro T5 T4)
    clear T3 T4 T5
    generalize ((t1.setCell ⟨w.heap.size + 1 + 1, 0, none⟩ (.bool b2)).setCell ⟨w.heap.size + 1 + 1, 1, none⟩ (.slice a2 Y.length c2)).setCell ⟨w.heap.size + 1 + 1, 2, none⟩ (.int .i64 E2) = w5 at *
    refine bodyPost_ret (v := .tuple #[.agg #[.bool b2, .slice a2 Y.length c2, .int .i64 E2], .int .i64 0]) (by simp [results, Tryd.results47, go_sem, p0, p1, p2]) rfl ?_
    exact ⟨⟨_, _, _, _, _, _, rfl, .inl ⟨rfl, Y, M2, rfl, HE.out.1, rfl, rfl, by omega, by omega, by omega⟩⟩, HE.out.2⟩
  · have hd : decide (cc < 0) = false := decide_eq_false hc
    rw [if_neg hc, if_neg hc]
    go_enter Tryd.func47, Tryd.ntmps47
    go_wp2_with fail
    refine HC.mono ?_
    rintro e t1 ⟨rfl, g1⟩
    have HC1 := hide (block_upW g1 HK2.out)
    have HG := hide (bl_trans8 HB.out g1)
    have HNM := hide (HN1.out.below HG.out)
    have hf1 := tri8f HC1.out
    obtain ⟨m0, m1, m2⟩ := tri8 HC1.out
    obtain ⟨l0, l1, l2⟩ := tri8 (block_upW g1 HK0.out)
    clear g1 HC
    go_wp2
    have T3 := tri8_all HC1.out (.bool b1) (.slice a1 X.length c1) (.int .i64 E1)
    have T4 := below_tri8 HG.out (show w.heap.size ≤ w.heap.size + 1 + 1 by omega) (.bool b1) (.slice a1 X.length c1) (.int .i64 E1)
    have T5 := HNM.out.tri8 HC1.out b1 a1 X.length c1 (.int .i64 E1)
    obtain ⟨p0, p1, p2⟩ := tri8 T3
    have HE := hide (And.intro T5 T4)
    clear T3 T4 T5
    generalize ((t1.setCell ⟨w.heap.size + 1 + 1, 0, none⟩ (.bool b1)).setCell ⟨w.heap.size + 1 + 1, 1, none⟩ (.slice a1 X.length c1)).setCell ⟨w.heap.size + 1 + 1, 2, none⟩ (.int .i64 E1) = w5 at *
    refine bodyPost_ret (v := .tuple #[.agg #[.bool b1, .slice a1 X.length c1, .int .i64 E1], .int .i64 0]) (by simp [results, Tryd.results47, go_sem, p0, p1, p2]) rfl ?_
    exact ⟨⟨_, _, _, _, _, _, rfl, .inl ⟨rfl, X, M1, rfl, HE.out.1, rfl, rfl, by omega, by omega, by omega⟩⟩, HE.out.2⟩

set_option maxRecDepth 20000 in
set_option maxHeartbeats 2000000 in
theorem ygreater_any (b1 : Bool) (a1 : Option Addr) (c1 : Nat) (X : List Nat) (M1 E1 : Int) (b2 : Bool) (a2 : Option Addr) (c2 : Nat) (Y : List Nat) (M2 E2 : Int) (L p q : Nat) (w : World) (h1 : Nm w b1 (.slice a1 X.length c1) X M1) (h2 : Nm w b2 (.slice a2 Y.length c2) Y M2) (f1 : X.length ≤ 17592186043904) (f2 : Y.length ≤ 17592186043904) (he1 : -1152921504606846976 ≤ E1) (he2 : E1 ≤ 1152921504606846976) (he3 : -1152921504606846976 ≤ E2) (he4 : E2 ≤ 1152921504606846976) (hL : 4611686018427387904 ≤ L) (hp : (p : Int) = E1 + L) (hq : (q : Int) = E2 + L) :
    Calls Tryd.prog 48 #[.agg #[.bool b1, .slice a1 X.length c1, .int .i64 E1], .agg #[.bool b2, .slice a2 Y.length c2, .int .i64 E2]] w (YPlusV w (omz (if 0 < cmpZ (M2 * 2 ^ q) (M1 * 2 ^ p) then M2 else M1)) (oe (if 0 < cmpZ (M2 * 2 ^ q) (M1 * 2 ^ p) then M2 else M1) (if 0 < cmpZ (M2 * 2 ^ q) (M1 * 2 ^ p) then E2 else E1))) := by
  obtain ⟨w0, hw0, hb0, k0, k1, k2⟩ := enter3 w (.cells #[.bool b1, .slice a1 X.length c1, .int .i64 E1] 84) (.cells #[.bool b2, .slice a2 Y.length c2, .int .i64 E2] 84) (.cells #[.bool false, .slice none 0 0, .int .i64 0] 84)
  obtain ⟨x0, x1, x2⟩ := tri8 k0
  obtain ⟨x3, x4, x5⟩ := tri8 k1
  have HC := ycompare_any b2 a2 c2 Y E2 b1 a1 c1 X E1 L q p w0 (h2.arg.below hb0) (h1.arg.below hb0) (by omega) (by omega) he3 he4 he1 he2 hL hq hp
  rw [h2.val, h1.val] at HC
  have HK0 := hide k0
  have HK1 := hide k1
  have HK2 := hide k2
  have HB := hide hb0
  have HN1 := hide h1
  have HN2 := hide h2
  clear k0 k1 k2 hb0 h1 h2 hp hq
  generalize cmpZ (M2 * 2 ^ q) (M1 * 2 ^ p) = cc at *
  by_cases hc : 0 < cc
  · have hd : decide (0 < cc) = true := decide_eq_true hc
    rw [if_pos hc, if_pos hc]
    go_enter Tryd.func48, Tryd.ntmps48
    go_wp2_with fail
    refine HC.mono ?_
    rintro e t1 ⟨rfl, g1⟩
    have HC1 := hide (block_upW g1 HK2.out)
    have HG := hide (bl_trans8 HB.out g1)
    have HNM := hide (HN2.out.below HG.out)
    have hf1 := tri8f HC1.out
    obtain ⟨m0, m1, m2⟩ := tri8 HC1.out
    obtain ⟨l0, l1, l2⟩ := tri8 (block_upW g1 HK1.out)
    clear g1 HC
    go_wp2
    have T3 := tri8_all HC1.out (.bool b2) (.slice a2 Y.length c2) (.int .i64 E2)
    have T4 := below_tri8 HG.out (show w.heap.size ≤ w.heap.size + 1 + 1 by omega) (.bool b2) (.slice a2 Y.length c2) (.int .i64 E2)
    have T5 := HNM.out.tri8 HC1.out b2 a2 Y.length c2 (.int .i64 E2)
    obtain ⟨p0, p1, p2⟩ := tri8 T3
    have HE := hide (And.intro T5 T4)
    clear T3 T4 T5
    generalize ((t1.setCell ⟨w.heap.size + 1 + 1, 0, none⟩ (.bool b2)).setCell ⟨w.heap.size + 1 + 1, 1, none⟩ (.slice a2 Y.length c2)).setCell ⟨w.heap.size + 1 + 1, 2, none⟩ (.int .i64 E2) = w5 at *
    refine bodyPost_ret (v := .tuple #[.agg #[.bool b2, .slice a2 Y.length c2, .int .i64 E2], .int .i64 0]) (by simp [results, Tryd.results48, go_sem, p0, p1, p2]) rfl ?_
    exact ⟨⟨_, _, _, _, _, _, rfl, .inl ⟨rfl, Y, M2, rfl, HE.out.1, rfl, rfl, by omega, by omega, by omega⟩⟩, HE.out.2⟩
  · have hd : decide (0 < cc) = false := decide_eq_false hc
    rw [if_neg hc, if_neg hc]
    go_enter Tryd.func48, Tryd.ntmps48
    go_wp2_with fail
    refine HC.mono ?_
    rintro e t1 ⟨rfl, g1⟩
    have HC1 := hide (block_upW g1 HK2.out)
    have HG := hide (bl_trans8 HB.out g1)
    have HNM := hide (HN1.out.below HG.out)
    have hf1 := tri8f HC1.out
    obtain ⟨m0, m1, m2⟩ := tri8 HC1.out
    obtain ⟨l0, l1, l2⟩ := tri8 (block_upW g1 HK0.out)
    clear g1 HC
    go_wp2
    have T3 := tri8_all HC1.out (.bool b1) (.slice a1 X.length c1) (.int .i64 E1)
    have T4 := below_tri8 HG.out (show w.heap.size ≤ w.heap.size + 1 + 1 by omega) (.bool b1) (.slice a1 X.length c1) (.int .i64 E1)
    have T5 := HNM.out.tri8 HC1.out b1 a1 X.length c1 (.int .i64 E1)
    obtain ⟨p0, p1, p2⟩ := tri8 T3
    have HE := hide (And.intro T5 T4)
    clear T3 T4 T5
    generalize ((t1.setCell ⟨w.heap.size + 1 + 1, 0, none⟩ (.bool b1)).setCell ⟨w.heap.size + 1 + 1, 1, none⟩ (.slice a1 X.length c1)).setCell ⟨w.heap.size + 1 + 1, 2, none⟩ (.int .i64 E1) = w5 at *
    refine bodyPost_ret (v := .tuple #[.agg #[.bool b1, .slice a1 X.length c1, .int .i64 E1], .int .i64 0]) (by simp [results, Tryd.results48, go_sem, p0, p1, p2]) rfl ?_
    exact ⟨⟨_, _, _, _, _, _, rfl, .inl ⟨rfl, X, M1, rfl, HE.out.1, rfl, rfl, by omega, by omega, by omega⟩⟩, HE.out.2⟩

end Go.Proofs.YtegbjdjpeblkoaaDoor
