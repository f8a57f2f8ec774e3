/- The document's lesser and greater ends, Min, Max, Hull, Meet of spans at one scale. -/
import Derived.Test.YtppkhhbhnhijpaaGreatDoorQZ
import Derived.Deep.CutBlock
import Derived.Deep.DeepCutAuto
namespace Go.Proofs.YtppkhhbhnhijpaaGreatDoor
open Go.RowKit
open Lm
attribute [local go_sem ↓] Go.wp_at_zero Go.wp_at_succ

theorem cmpZ_ge {y z : Int} : 0 ≤ cmpZ y z ↔ z ≤ y := by
  unfold cmpZ
  split
  · omega
  · split <;> omega

theorem V8.tri10 {w : World} {b : Bool} {a : Option Addr} {n c : Nat} {E : Int} {L : Nat} {V : Int} (h : V8 w b a n c E L V) {g : Nat} {p : Bool} {a' : Option Addr} {n' c' : Nat} {e : Int} {t : TypeId} (hl : w.heap[g]? = some (.cells #[.bool p, .slice a' n' c', .int .i64 e] t)) (p1 : Bool) (a1 : Option Addr) (n1 c1 : Nat) (u2 : Value) : V8 (((w.setCell ⟨g, 0, none⟩ (.bool p1)).setCell ⟨g, 1, none⟩ (.slice a1 n1 c1)).setCell ⟨g, 2, none⟩ u2) b a n c E L V := by
  obtain ⟨M, h1, h2⟩ := h
  exact ⟨M, h1.tri8 hl p1 a1 n1 c1 u2, h2⟩

/-- A span of the document's that was answered. -/
def RSpan (w : World) (e : Ending) (w' : World) (L : Nat) (V1 V2 : Int) : Prop :=
  (∃ b a n k x b' a' n' k' x', e = .returned (.agg #[.bool b, .slice a n k, .int .i64 x, .bool b', .slice a' n' k', .int .i64 x']) ∧ V8 w' b a n k x L V1 ∧ V8 w' b' a' n' k' x' L V2) ∧ Below w.heap.size w w'

set_option maxRecDepth 20000 in
set_option maxHeartbeats 4000000 in
theorem rlessV (b1 : Bool) (a1 : Option Addr) (n1 k1 : Nat) (ex1 : Int) (b2 : Bool) (a2 : Option Addr) (n2 k2 : Nat) (ex2 : Int) (L : Nat) (V1 V2 : Int) (w : World) (h1 : V8 w b1 a1 n1 k1 ex1 L V1) (h2 : V8 w b2 a2 n2 k2 ex2 L V2) :
    Calls Tryz.prog 59 #[.agg #[.bool b1, .slice a1 n1 k1, .int .i64 ex1], .agg #[.bool b2, .slice a2 n2 k2, .int .i64 ex2]] w fun e w' => (∃ b a n k x, e = .returned (.agg #[.bool b, .slice a n k, .int .i64 x]) ∧ V8 w' b a n k x L (min V1 V2)) ∧ Below w.heap.size w w' := by
  obtain ⟨w0, hw0, hb0, q0, q1, q9⟩ := enter3 w (.cells #[.bool b1, .slice a1 n1 k1, .int .i64 ex1] 45) (.cells #[.bool b2, .slice a2 n2 k2, .int .i64 ex2] 45) (.cells #[.bool false, .slice none 0 0, .int .i64 0] 45)
  obtain ⟨y0, y1, y2⟩ := tri8 q0
  obtain ⟨y3, y4, y5⟩ := tri8 q1
  have C := (h1.below hb0).cmp (h2.below hb0)
  have HV := hide (And.intro (h1.below hb0) (h2.below hb0))
  have HCC : Hid (decide (cmpZ V1 V2 ≤ 0) = decide (V1 ≤ V2)) := hide (by simp only [cmpZ_le])
  generalize hcz : cmpZ V1 V2 = cz at *
  have HB := hide hb0
  have HQ0 := hide q0
  have HQ1 := hide q1
  have HQ9 : Hid (w0.heap[w.heap.size + 1 + 1]? = some (.cells #[.bool false, .slice none 0 0, .int .i64 0] 45)) := hide q9
  clear h1 h2 hb0 q0 q1 q9
  by_cases hp : V1 ≤ V2
  · skip
    have hm : min V1 V2 = V1 := by omega
    rw [hm]
    have i1 : decide (cz ≤ 0) = true := by rw [HCC.out]; exact decide_eq_true hp
    clear hm hp hcz
    go_enter Tryz.func59, Tryz.ntmps59
    go_wp2_with fail
    refine C.mono ?_
    rintro e t1 ⟨rfl, g1⟩
    have HG := hide (bl_trans8 HB.out g1)
    have HC1 := hide (block_upW g1 HQ9.out)
    have HV1 := hide (HV.out.1.below g1)
    have hf1 := tri8f HC1.out
    obtain ⟨m0, m1, m2⟩ := tri8 HC1.out
    clear y0 y1 y2 y3 y4 y5
    obtain ⟨y0, y1, y2⟩ := tri8 (block_upW g1 HQ0.out)
    obtain ⟨y3, y4, y5⟩ := tri8 (block_upW g1 HQ1.out)
    clear g1 C
    go_wp2
    have T3 := tri8_all HC1.out (.bool b1) (.slice a1 n1 k1) (.int .i64 ex1)
    have T4 := below_tri8 HG.out (show w.heap.size ≤ w.heap.size + 1 + 1 by omega) (.bool b1) (.slice a1 n1 k1) (.int .i64 ex1)
    have T5 := HV1.out.tri10 HC1.out b1 a1 n1 k1 (.int .i64 ex1)
    obtain ⟨p0, p1, p2⟩ := tri8 T3
    have HE := hide (And.intro T5 T4)
    clear T3 T4 T5
    generalize ((t1.setCell ⟨w.heap.size + 1 + 1, 0, none⟩ (.bool b1)).setCell ⟨w.heap.size + 1 + 1, 1, none⟩ (.slice a1 n1 k1)).setCell ⟨w.heap.size + 1 + 1, 2, none⟩ (.int .i64 ex1) = w5 at *
    refine bodyPost_ret (v := .agg #[.bool b1, .slice a1 n1 k1, .int .i64 ex1]) (by simp [results, Tryz.results59, go_sem, p0, p1, p2]) rfl ?_
    exact ⟨⟨_, _, _, _, _, rfl, HE.out.1⟩, HE.out.2⟩
  · skip
    have hm : min V1 V2 = V2 := by omega
    rw [hm]
    have i1 : decide (cz ≤ 0) = false := by rw [HCC.out]; exact decide_eq_false hp
    clear hm hp hcz
    go_enter Tryz.func59, Tryz.ntmps59
    go_wp2_with fail
    refine C.mono ?_
    rintro e t1 ⟨rfl, g1⟩
    have HG := hide (bl_trans8 HB.out g1)
    have HC1 := hide (block_upW g1 HQ9.out)
    have HV2 := hide (HV.out.2.below g1)
    have hf1 := tri8f HC1.out
    obtain ⟨m0, m1, m2⟩ := tri8 HC1.out
    clear y0 y1 y2 y3 y4 y5
    obtain ⟨y0, y1, y2⟩ := tri8 (block_upW g1 HQ0.out)
    obtain ⟨y3, y4, y5⟩ := tri8 (block_upW g1 HQ1.out)
    clear g1 C
    go_wp2
    have T3 := tri8_all HC1.out (.bool b2) (.slice a2 n2 k2) (.int .i64 ex2)
    have T4 := below_tri8 HG.out (show w.heap.size ≤ w.heap.size + 1 + 1 by omega) (.bool b2) (.slice a2 n2 k2) (.int .i64 ex2)
    have T5 := HV2.out.tri10 HC1.out b2 a2 n2 k2 (.int .i64 ex2)
    obtain ⟨p0, p1, p2⟩ := tri8 T3
    have HE := hide (And.intro T5 T4)
    clear T3 T4 T5
    generalize ((t1.setCell ⟨w.heap.size + 1 + 1, 0, none⟩ (.bool b2)).setCell ⟨w.heap.size + 1 + 1, 1, none⟩ (.slice a2 n2 k2)).setCell ⟨w.heap.size + 1 + 1, 2, none⟩ (.int .i64 ex2) = w5 at *
    refine bodyPost_ret (v := .agg #[.bool b2, .slice a2 n2 k2, .int .i64 ex2]) (by simp [results, Tryz.results59, go_sem, p0, p1, p2]) rfl ?_
    exact ⟨⟨_, _, _, _, _, rfl, HE.out.1⟩, HE.out.2⟩

set_option maxRecDepth 20000 in
set_option maxHeartbeats 4000000 in
theorem rmoreV (b1 : Bool) (a1 : Option Addr) (n1 k1 : Nat) (ex1 : Int) (b2 : Bool) (a2 : Option Addr) (n2 k2 : Nat) (ex2 : Int) (L : Nat) (V1 V2 : Int) (w : World) (h1 : V8 w b1 a1 n1 k1 ex1 L V1) (h2 : V8 w b2 a2 n2 k2 ex2 L V2) :
    Calls Tryz.prog 58 #[.agg #[.bool b1, .slice a1 n1 k1, .int .i64 ex1], .agg #[.bool b2, .slice a2 n2 k2, .int .i64 ex2]] w fun e w' => (∃ b a n k x, e = .returned (.agg #[.bool b, .slice a n k, .int .i64 x]) ∧ V8 w' b a n k x L (max V1 V2)) ∧ Below w.heap.size w w' := by
  obtain ⟨w0, hw0, hb0, q0, q1, q9⟩ := enter3 w (.cells #[.bool b1, .slice a1 n1 k1, .int .i64 ex1] 45) (.cells #[.bool b2, .slice a2 n2 k2, .int .i64 ex2] 45) (.cells #[.bool false, .slice none 0 0, .int .i64 0] 45)
  obtain ⟨y0, y1, y2⟩ := tri8 q0
  obtain ⟨y3, y4, y5⟩ := tri8 q1
  have C := (h1.below hb0).cmp (h2.below hb0)
  have HV := hide (And.intro (h1.below hb0) (h2.below hb0))
  have HCC : Hid (decide (0 ≤ cmpZ V1 V2) = decide (V2 ≤ V1)) := hide (by simp only [cmpZ_ge])
  generalize hcz : cmpZ V1 V2 = cz at *
  have HB := hide hb0
  have HQ0 := hide q0
  have HQ1 := hide q1
  have HQ9 : Hid (w0.heap[w.heap.size + 1 + 1]? = some (.cells #[.bool false, .slice none 0 0, .int .i64 0] 45)) := hide q9
  clear h1 h2 hb0 q0 q1 q9
  by_cases hp : V2 ≤ V1
  · skip
    have hm : max V1 V2 = V1 := by omega
    rw [hm]
    have i1 : decide (0 ≤ cz) = true := by rw [HCC.out]; exact decide_eq_true hp
    clear hm hp hcz
    go_enter Tryz.func58, Tryz.ntmps58
    go_wp2_with fail
    refine C.mono ?_
    rintro e t1 ⟨rfl, g1⟩
    have HG := hide (bl_trans8 HB.out g1)
    have HC1 := hide (block_upW g1 HQ9.out)
    have HV1 := hide (HV.out.1.below g1)
    have hf1 := tri8f HC1.out
    obtain ⟨m0, m1, m2⟩ := tri8 HC1.out
    clear y0 y1 y2 y3 y4 y5
    obtain ⟨y0, y1, y2⟩ := tri8 (block_upW g1 HQ0.out)
    obtain ⟨y3, y4, y5⟩ := tri8 (block_upW g1 HQ1.out)
    clear g1 C
    go_wp2
    have T3 := tri8_all HC1.out (.bool b1) (.slice a1 n1 k1) (.int .i64 ex1)
    have T4 := below_tri8 HG.out (show w.heap.size ≤ w.heap.size + 1 + 1 by omega) (.bool b1) (.slice a1 n1 k1) (.int .i64 ex1)
    have T5 := HV1.out.tri10 HC1.out b1 a1 n1 k1 (.int .i64 ex1)
    obtain ⟨p0, p1, p2⟩ := tri8 T3
    have HE := hide (And.intro T5 T4)
    clear T3 T4 T5
    generalize ((t1.setCell ⟨w.heap.size + 1 + 1, 0, none⟩ (.bool b1)).setCell ⟨w.heap.size + 1 + 1, 1, none⟩ (.slice a1 n1 k1)).setCell ⟨w.heap.size + 1 + 1, 2, none⟩ (.int .i64 ex1) = w5 at *
    refine bodyPost_ret (v := .agg #[.bool b1, .slice a1 n1 k1, .int .i64 ex1]) (by simp [results, Tryz.results58, go_sem, p0, p1, p2]) rfl ?_
    exact ⟨⟨_, _, _, _, _, rfl, HE.out.1⟩, HE.out.2⟩
  · skip
    have hm : max V1 V2 = V2 := by omega
    rw [hm]
    have i1 : decide (0 ≤ cz) = false := by rw [HCC.out]; exact decide_eq_false hp
    clear hm hp hcz
    go_enter Tryz.func58, Tryz.ntmps58
    go_wp2_with fail
    refine C.mono ?_
    rintro e t1 ⟨rfl, g1⟩
    have HG := hide (bl_trans8 HB.out g1)
    have HC1 := hide (block_upW g1 HQ9.out)
    have HV2 := hide (HV.out.2.below g1)
    have hf1 := tri8f HC1.out
    obtain ⟨m0, m1, m2⟩ := tri8 HC1.out
    clear y0 y1 y2 y3 y4 y5
    obtain ⟨y0, y1, y2⟩ := tri8 (block_upW g1 HQ0.out)
    obtain ⟨y3, y4, y5⟩ := tri8 (block_upW g1 HQ1.out)
    clear g1 C
    go_wp2
    have T3 := tri8_all HC1.out (.bool b2) (.slice a2 n2 k2) (.int .i64 ex2)
    have T4 := below_tri8 HG.out (show w.heap.size ≤ w.heap.size + 1 + 1 by omega) (.bool b2) (.slice a2 n2 k2) (.int .i64 ex2)
    have T5 := HV2.out.tri10 HC1.out b2 a2 n2 k2 (.int .i64 ex2)
    obtain ⟨p0, p1, p2⟩ := tri8 T3
    have HE := hide (And.intro T5 T4)
    clear T3 T4 T5
    generalize ((t1.setCell ⟨w.heap.size + 1 + 1, 0, none⟩ (.bool b2)).setCell ⟨w.heap.size + 1 + 1, 1, none⟩ (.slice a2 n2 k2)).setCell ⟨w.heap.size + 1 + 1, 2, none⟩ (.int .i64 ex2) = w5 at *
    refine bodyPost_ret (v := .agg #[.bool b2, .slice a2 n2 k2, .int .i64 ex2]) (by simp [results, Tryz.results58, go_sem, p0, p1, p2]) rfl ?_
    exact ⟨⟨_, _, _, _, _, rfl, HE.out.1⟩, HE.out.2⟩

set_option maxRecDepth 20000 in
set_option maxHeartbeats 4000000 in
theorem rminV (b1 : Bool) (a1 : Option Addr) (n1 k1 : Nat) (ex1 : Int) (b2 : Bool) (a2 : Option Addr) (n2 k2 : Nat) (ex2 : Int) (b3 : Bool) (a3 : Option Addr) (n3 k3 : Nat) (ex3 : Int) (b4 : Bool) (a4 : Option Addr) (n4 k4 : Nat) (ex4 : Int) (L : Nat) (V1 V2 V3 V4 : Int) (w : World) (h1 : V8 w b1 a1 n1 k1 ex1 L V1) (h2 : V8 w b2 a2 n2 k2 ex2 L V2) (h3 : V8 w b3 a3 n3 k3 ex3 L V3) (h4 : V8 w b4 a4 n4 k4 ex4 L V4) :
    Calls Tryz.prog 23 #[.agg #[.bool b1, .slice a1 n1 k1, .int .i64 ex1, .bool b2, .slice a2 n2 k2, .int .i64 ex2], .agg #[.bool b3, .slice a3 n3 k3, .int .i64 ex3, .bool b4, .slice a4 n4 k4, .int .i64 ex4]] w fun e w' => RSpan w e w' L (min V1 V3) (min V2 V4) := by
  obtain ⟨w0, hw0, hb0, q0, q1, q9⟩ := enter3 w (.cells #[.bool b1, .slice a1 n1 k1, .int .i64 ex1, .bool b2, .slice a2 n2 k2, .int .i64 ex2] 47) (.cells #[.bool b3, .slice a3 n3 k3, .int .i64 ex3, .bool b4, .slice a4 n4 k4, .int .i64 ex4] 47) (.cells #[.bool false, .slice none 0 0, .int .i64 0, .bool false, .slice none 0 0, .int .i64 0] 47)
  have K1 := hide (fun (W : World) (hg : Below w0.heap.size w0 W) => rlessV b1 a1 n1 k1 ex1 b3 a3 n3 k3 ex3 L V1 V3 W ((h1.below hb0).below hg) ((h3.below hb0).below hg))
  have K2 := hide (fun (W : World) (hg : Below w0.heap.size w0 W) => rlessV b2 a2 n2 k2 ex2 b4 a4 n4 k4 ex4 L V2 V4 W ((h2.below hb0).below hg) ((h4.below hb0).below hg))
  have KS := hide (fun (W : World) (hg : Below w0.heap.size w0 W) => show W.cell? ⟨w.heap.size, 0, none⟩ = some (.bool b1) ∧ W.cell? ⟨w.heap.size, 1, none⟩ = some (.slice a1 n1 k1) ∧ W.cell? ⟨w.heap.size, 2, none⟩ = some (.int .i64 ex1) ∧ W.cell? ⟨w.heap.size, 3, none⟩ = some (.bool b2) ∧ W.cell? ⟨w.heap.size, 4, none⟩ = some (.slice a2 n2 k2) ∧ W.cell? ⟨w.heap.size, 5, none⟩ = some (.int .i64 ex2) ∧ W.cell? ⟨w.heap.size + 1, 0, none⟩ = some (.bool b3) ∧ W.cell? ⟨w.heap.size + 1, 1, none⟩ = some (.slice a3 n3 k3) ∧ W.cell? ⟨w.heap.size + 1, 2, none⟩ = some (.int .i64 ex3) ∧ W.cell? ⟨w.heap.size + 1, 3, none⟩ = some (.bool b4) ∧ W.cell? ⟨w.heap.size + 1, 4, none⟩ = some (.slice a4 n4 k4) ∧ W.cell? ⟨w.heap.size + 1, 5, none⟩ = some (.int .i64 ex4) from (by
    obtain ⟨x0, x1, x2, x3, x4, x5⟩ := hexa (block_upW hg q0)
    obtain ⟨z0, z1, z2, z3, z4, z5⟩ := hexa (block_upW hg q1)
    exact ⟨x0, x1, x2, x3, x4, x5, z0, z1, z2, z3, z4, z5⟩))
  have KT := hide (fun (W : World) (hg : Below w0.heap.size w0 W) (u0 u1 u2 u3 u4 u5 : Value) => show (((((((W.setCell ⟨w.heap.size + 1 + 1, 0, none⟩ u0).setCell ⟨w.heap.size + 1 + 1, 1, none⟩ u1).setCell ⟨w.heap.size + 1 + 1, 2, none⟩ u2).setCell ⟨w.heap.size + 1 + 1, 3, none⟩ u3).setCell ⟨w.heap.size + 1 + 1, 4, none⟩ u4).setCell ⟨w.heap.size + 1 + 1, 5, none⟩ u5)).cell? ⟨w.heap.size, 0, none⟩ = some (.bool b1) ∧ (((((((W.setCell ⟨w.heap.size + 1 + 1, 0, none⟩ u0).setCell ⟨w.heap.size + 1 + 1, 1, none⟩ u1).setCell ⟨w.heap.size + 1 + 1, 2, none⟩ u2).setCell ⟨w.heap.size + 1 + 1, 3, none⟩ u3).setCell ⟨w.heap.size + 1 + 1, 4, none⟩ u4).setCell ⟨w.heap.size + 1 + 1, 5, none⟩ u5)).cell? ⟨w.heap.size, 1, none⟩ = some (.slice a1 n1 k1) ∧ (((((((W.setCell ⟨w.heap.size + 1 + 1, 0, none⟩ u0).setCell ⟨w.heap.size + 1 + 1, 1, none⟩ u1).setCell ⟨w.heap.size + 1 + 1, 2, none⟩ u2).setCell ⟨w.heap.size + 1 + 1, 3, none⟩ u3).setCell ⟨w.heap.size + 1 + 1, 4, none⟩ u4).setCell ⟨w.heap.size + 1 + 1, 5, none⟩ u5)).cell? ⟨w.heap.size, 2, none⟩ = some (.int .i64 ex1) ∧ (((((((W.setCell ⟨w.heap.size + 1 + 1, 0, none⟩ u0).setCell ⟨w.heap.size + 1 + 1, 1, none⟩ u1).setCell ⟨w.heap.size + 1 + 1, 2, none⟩ u2).setCell ⟨w.heap.size + 1 + 1, 3, none⟩ u3).setCell ⟨w.heap.size + 1 + 1, 4, none⟩ u4).setCell ⟨w.heap.size + 1 + 1, 5, none⟩ u5)).cell? ⟨w.heap.size, 3, none⟩ = some (.bool b2) ∧ (((((((W.setCell ⟨w.heap.size + 1 + 1, 0, none⟩ u0).setCell ⟨w.heap.size + 1 + 1, 1, none⟩ u1).setCell ⟨w.heap.size + 1 + 1, 2, none⟩ u2).setCell ⟨w.heap.size + 1 + 1, 3, none⟩ u3).setCell ⟨w.heap.size + 1 + 1, 4, none⟩ u4).setCell ⟨w.heap.size + 1 + 1, 5, none⟩ u5)).cell? ⟨w.heap.size, 4, none⟩ = some (.slice a2 n2 k2) ∧ (((((((W.setCell ⟨w.heap.size + 1 + 1, 0, none⟩ u0).setCell ⟨w.heap.size + 1 + 1, 1, none⟩ u1).setCell ⟨w.heap.size + 1 + 1, 2, none⟩ u2).setCell ⟨w.heap.size + 1 + 1, 3, none⟩ u3).setCell ⟨w.heap.size + 1 + 1, 4, none⟩ u4).setCell ⟨w.heap.size + 1 + 1, 5, none⟩ u5)).cell? ⟨w.heap.size, 5, none⟩ = some (.int .i64 ex2) ∧ (((((((W.setCell ⟨w.heap.size + 1 + 1, 0, none⟩ u0).setCell ⟨w.heap.size + 1 + 1, 1, none⟩ u1).setCell ⟨w.heap.size + 1 + 1, 2, none⟩ u2).setCell ⟨w.heap.size + 1 + 1, 3, none⟩ u3).setCell ⟨w.heap.size + 1 + 1, 4, none⟩ u4).setCell ⟨w.heap.size + 1 + 1, 5, none⟩ u5)).cell? ⟨w.heap.size + 1, 0, none⟩ = some (.bool b3) ∧ (((((((W.setCell ⟨w.heap.size + 1 + 1, 0, none⟩ u0).setCell ⟨w.heap.size + 1 + 1, 1, none⟩ u1).setCell ⟨w.heap.size + 1 + 1, 2, none⟩ u2).setCell ⟨w.heap.size + 1 + 1, 3, none⟩ u3).setCell ⟨w.heap.size + 1 + 1, 4, none⟩ u4).setCell ⟨w.heap.size + 1 + 1, 5, none⟩ u5)).cell? ⟨w.heap.size + 1, 1, none⟩ = some (.slice a3 n3 k3) ∧ (((((((W.setCell ⟨w.heap.size + 1 + 1, 0, none⟩ u0).setCell ⟨w.heap.size + 1 + 1, 1, none⟩ u1).setCell ⟨w.heap.size + 1 + 1, 2, none⟩ u2).setCell ⟨w.heap.size + 1 + 1, 3, none⟩ u3).setCell ⟨w.heap.size + 1 + 1, 4, none⟩ u4).setCell ⟨w.heap.size + 1 + 1, 5, none⟩ u5)).cell? ⟨w.heap.size + 1, 2, none⟩ = some (.int .i64 ex3) ∧ (((((((W.setCell ⟨w.heap.size + 1 + 1, 0, none⟩ u0).setCell ⟨w.heap.size + 1 + 1, 1, none⟩ u1).setCell ⟨w.heap.size + 1 + 1, 2, none⟩ u2).setCell ⟨w.heap.size + 1 + 1, 3, none⟩ u3).setCell ⟨w.heap.size + 1 + 1, 4, none⟩ u4).setCell ⟨w.heap.size + 1 + 1, 5, none⟩ u5)).cell? ⟨w.heap.size + 1, 3, none⟩ = some (.bool b4) ∧ (((((((W.setCell ⟨w.heap.size + 1 + 1, 0, none⟩ u0).setCell ⟨w.heap.size + 1 + 1, 1, none⟩ u1).setCell ⟨w.heap.size + 1 + 1, 2, none⟩ u2).setCell ⟨w.heap.size + 1 + 1, 3, none⟩ u3).setCell ⟨w.heap.size + 1 + 1, 4, none⟩ u4).setCell ⟨w.heap.size + 1 + 1, 5, none⟩ u5)).cell? ⟨w.heap.size + 1, 4, none⟩ = some (.slice a4 n4 k4) ∧ (((((((W.setCell ⟨w.heap.size + 1 + 1, 0, none⟩ u0).setCell ⟨w.heap.size + 1 + 1, 1, none⟩ u1).setCell ⟨w.heap.size + 1 + 1, 2, none⟩ u2).setCell ⟨w.heap.size + 1 + 1, 3, none⟩ u3).setCell ⟨w.heap.size + 1 + 1, 4, none⟩ u4).setCell ⟨w.heap.size + 1 + 1, 5, none⟩ u5)).cell? ⟨w.heap.size + 1, 5, none⟩ = some (.int .i64 ex4) from (by
    obtain ⟨x0, x1, x2, x3, x4, x5⟩ := hexa ((hexa_other (g := w.heap.size + 1 + 1) (h := w.heap.size) (by omega) u0 u1 u2 u3 u4 u5).trans (block_upW hg q0))
    obtain ⟨z0, z1, z2, z3, z4, z5⟩ := hexa ((hexa_other (g := w.heap.size + 1 + 1) (h := w.heap.size + 1) (by omega) u0 u1 u2 u3 u4 u5).trans (block_upW hg q1))
    exact ⟨x0, x1, x2, x3, x4, x5, z0, z1, z2, z3, z4, z5⟩))
  have HZ : Hid (w0.drew.heap[w.heap.size + 1 + 1]? = some (.cells #[.bool false, .slice none 0 0, .int .i64 0, .bool false, .slice none 0 0, .int .i64 0] 47)) := hide q9
  have HB := hide hb0
  have g0 : Below w0.heap.size w0 w0.drew := bl_drew10 (Below.refl _ _)
  generalize min V1 V3 = M1 at *
  generalize min V2 V4 = M2 at *
  clear h1 h2 h3 h4 q0 q1 q9 hb0
  go_enter Tryz.func23, Tryz.ntmps23
  go_upto_region 1 with fail
  go_region_held3 (fun w' => w'.cell? ⟨w.heap.size, 0, none⟩ = some (.bool b1) ∧ w'.cell? ⟨w.heap.size, 1, none⟩ = some (.slice a1 n1 k1) ∧ w'.cell? ⟨w.heap.size, 2, none⟩ = some (.int .i64 ex1) ∧ w'.cell? ⟨w.heap.size, 3, none⟩ = some (.bool b2) ∧ w'.cell? ⟨w.heap.size, 4, none⟩ = some (.slice a2 n2 k2) ∧ w'.cell? ⟨w.heap.size, 5, none⟩ = some (.int .i64 ex2) ∧ w'.cell? ⟨w.heap.size + 1, 0, none⟩ = some (.bool b3) ∧ w'.cell? ⟨w.heap.size + 1, 1, none⟩ = some (.slice a3 n3 k3) ∧ w'.cell? ⟨w.heap.size + 1, 2, none⟩ = some (.int .i64 ex3) ∧ w'.cell? ⟨w.heap.size + 1, 3, none⟩ = some (.bool b4) ∧ w'.cell? ⟨w.heap.size + 1, 4, none⟩ = some (.slice a4 n4 k4) ∧ w'.cell? ⟨w.heap.size + 1, 5, none⟩ = some (.int .i64 ex4)) (first | (with_reducible exact KT.out _ g2 _ _ _ _ _ _) | (refine KS.out _ ?_; first | with_reducible exact g2 | with_reducible exact g1 | with_reducible exact g0)) (first
    | (go_at_call_of 59 a2; refine (K2.out _ g1).mono ?_; rintro e' t2 ⟨⟨q, qa, qn, qk, qe, rfl, v6⟩, hb2⟩; have g2 := bl_trans8 g1 hb2; have v5' := v5.below hb2; have hz := block_upW hb2 (block_upW hb1 HZ.out); have hf := hexaf hz; obtain ⟨m0, m1, m2, m3, m4, m5⟩ := hexa hz)
    | (go_at_call_of 59 a1; refine (K1.out _ g0).mono ?_; rintro e' t1 ⟨⟨p, pa, pn, pk, pe, rfl, v5⟩, hb1⟩; have g1 := bl_trans8 g0 hb1))
  have T3 := hexa_all hz (.bool p) (.slice pa pn pk) (.int .i64 pe) (.bool q) (.slice qa qn qk) (.int .i64 qe)
  have T4 := below_hexa (bl_trans8 HB.out g2) (show w.heap.size ≤ w.heap.size + 1 + 1 by omega) (.bool p) (.slice pa pn pk) (.int .i64 pe) (.bool q) (.slice qa qn qk) (.int .i64 qe)
  have T5 := v5'.hexa hz p pa pn pk pe q qa qn qk qe
  have T6 := v6.hexa hz p pa pn pk pe q qa qn qk qe
  obtain ⟨p0, p1, p2, p3, p4, p5⟩ := hexa T3
  have HE := hide (And.intro T5 (And.intro T6 T4))
  clear T3 T4 T5 T6 hz hf m0 m1 m2 m3 m4 m5 KS KT K1 K2 g0 g1 g2 hb1 hb2 v5 v6 v5' HZ
  generalize (((((t2.setCell ⟨w.heap.size + 1 + 1, 0, none⟩ (.bool p)).setCell ⟨w.heap.size + 1 + 1, 1, none⟩ (.slice pa pn pk)).setCell ⟨w.heap.size + 1 + 1, 2, none⟩ (.int .i64 pe)).setCell ⟨w.heap.size + 1 + 1, 3, none⟩ (.bool q)).setCell ⟨w.heap.size + 1 + 1, 4, none⟩ (.slice qa qn qk)).setCell ⟨w.heap.size + 1 + 1, 5, none⟩ (.int .i64 qe) = w5 at *
  go_wp2
  refine bodyPost_ret (v := .agg #[.bool p, .slice pa pn pk, .int .i64 pe, .bool q, .slice qa qn qk, .int .i64 qe]) (by simp [results, Tryz.results23, go_sem, p0, p1, p2, p3, p4, p5]) rfl ?_
  exact ⟨⟨_, _, _, _, _, _, _, _, _, _, rfl, HE.out.1, HE.out.2.1⟩, HE.out.2.2⟩

set_option maxRecDepth 20000 in
set_option maxHeartbeats 4000000 in
theorem rmaxV (b1 : Bool) (a1 : Option Addr) (n1 k1 : Nat) (ex1 : Int) (b2 : Bool) (a2 : Option Addr) (n2 k2 : Nat) (ex2 : Int) (b3 : Bool) (a3 : Option Addr) (n3 k3 : Nat) (ex3 : Int) (b4 : Bool) (a4 : Option Addr) (n4 k4 : Nat) (ex4 : Int) (L : Nat) (V1 V2 V3 V4 : Int) (w : World) (h1 : V8 w b1 a1 n1 k1 ex1 L V1) (h2 : V8 w b2 a2 n2 k2 ex2 L V2) (h3 : V8 w b3 a3 n3 k3 ex3 L V3) (h4 : V8 w b4 a4 n4 k4 ex4 L V4) :
    Calls Tryz.prog 24 #[.agg #[.bool b1, .slice a1 n1 k1, .int .i64 ex1, .bool b2, .slice a2 n2 k2, .int .i64 ex2], .agg #[.bool b3, .slice a3 n3 k3, .int .i64 ex3, .bool b4, .slice a4 n4 k4, .int .i64 ex4]] w fun e w' => RSpan w e w' L (max V1 V3) (max V2 V4) := by
  obtain ⟨w0, hw0, hb0, q0, q1, q9⟩ := enter3 w (.cells #[.bool b1, .slice a1 n1 k1, .int .i64 ex1, .bool b2, .slice a2 n2 k2, .int .i64 ex2] 47) (.cells #[.bool b3, .slice a3 n3 k3, .int .i64 ex3, .bool b4, .slice a4 n4 k4, .int .i64 ex4] 47) (.cells #[.bool false, .slice none 0 0, .int .i64 0, .bool false, .slice none 0 0, .int .i64 0] 47)
  have K1 := hide (fun (W : World) (hg : Below w0.heap.size w0 W) => rmoreV b1 a1 n1 k1 ex1 b3 a3 n3 k3 ex3 L V1 V3 W ((h1.below hb0).below hg) ((h3.below hb0).below hg))
  have K2 := hide (fun (W : World) (hg : Below w0.heap.size w0 W) => rmoreV b2 a2 n2 k2 ex2 b4 a4 n4 k4 ex4 L V2 V4 W ((h2.below hb0).below hg) ((h4.below hb0).below hg))
  have KS := hide (fun (W : World) (hg : Below w0.heap.size w0 W) => show W.cell? ⟨w.heap.size, 0, none⟩ = some (.bool b1) ∧ W.cell? ⟨w.heap.size, 1, none⟩ = some (.slice a1 n1 k1) ∧ W.cell? ⟨w.heap.size, 2, none⟩ = some (.int .i64 ex1) ∧ W.cell? ⟨w.heap.size, 3, none⟩ = some (.bool b2) ∧ W.cell? ⟨w.heap.size, 4, none⟩ = some (.slice a2 n2 k2) ∧ W.cell? ⟨w.heap.size, 5, none⟩ = some (.int .i64 ex2) ∧ W.cell? ⟨w.heap.size + 1, 0, none⟩ = some (.bool b3) ∧ W.cell? ⟨w.heap.size + 1, 1, none⟩ = some (.slice a3 n3 k3) ∧ W.cell? ⟨w.heap.size + 1, 2, none⟩ = some (.int .i64 ex3) ∧ W.cell? ⟨w.heap.size + 1, 3, none⟩ = some (.bool b4) ∧ W.cell? ⟨w.heap.size + 1, 4, none⟩ = some (.slice a4 n4 k4) ∧ W.cell? ⟨w.heap.size + 1, 5, none⟩ = some (.int .i64 ex4) from (by
    obtain ⟨x0, x1, x2, x3, x4, x5⟩ := hexa (block_upW hg q0)
    obtain ⟨z0, z1, z2, z3, z4, z5⟩ := hexa (block_upW hg q1)
    exact ⟨x0, x1, x2, x3, x4, x5, z0, z1, z2, z3, z4, z5⟩))
  have KT := hide (fun (W : World) (hg : Below w0.heap.size w0 W) (u0 u1 u2 u3 u4 u5 : Value) => show (((((((W.setCell ⟨w.heap.size + 1 + 1, 0, none⟩ u0).setCell ⟨w.heap.size + 1 + 1, 1, none⟩ u1).setCell ⟨w.heap.size + 1 + 1, 2, none⟩ u2).setCell ⟨w.heap.size + 1 + 1, 3, none⟩ u3).setCell ⟨w.heap.size + 1 + 1, 4, none⟩ u4).setCell ⟨w.heap.size + 1 + 1, 5, none⟩ u5)).cell? ⟨w.heap.size, 0, none⟩ = some (.bool b1) ∧ (((((((W.setCell ⟨w.heap.size + 1 + 1, 0, none⟩ u0).setCell ⟨w.heap.size + 1 + 1, 1, none⟩ u1).setCell ⟨w.heap.size + 1 + 1, 2, none⟩ u2).setCell ⟨w.heap.size + 1 + 1, 3, none⟩ u3).setCell ⟨w.heap.size + 1 + 1, 4, none⟩ u4).setCell ⟨w.heap.size + 1 + 1, 5, none⟩ u5)).cell? ⟨w.heap.size, 1, none⟩ = some (.slice a1 n1 k1) ∧ (((((((W.setCell ⟨w.heap.size + 1 + 1, 0, none⟩ u0).setCell ⟨w.heap.size + 1 + 1, 1, none⟩ u1).setCell ⟨w.heap.size + 1 + 1, 2, none⟩ u2).setCell ⟨w.heap.size + 1 + 1, 3, none⟩ u3).setCell ⟨w.heap.size + 1 + 1, 4, none⟩ u4).setCell ⟨w.heap.size + 1 + 1, 5, none⟩ u5)).cell? ⟨w.heap.size, 2, none⟩ = some (.int .i64 ex1) ∧ (((((((W.setCell ⟨w.heap.size + 1 + 1, 0, none⟩ u0).setCell ⟨w.heap.size + 1 + 1, 1, none⟩ u1).setCell ⟨w.heap.size + 1 + 1, 2, none⟩ u2).setCell ⟨w.heap.size + 1 + 1, 3, none⟩ u3).setCell ⟨w.heap.size + 1 + 1, 4, none⟩ u4).setCell ⟨w.heap.size + 1 + 1, 5, none⟩ u5)).cell? ⟨w.heap.size, 3, none⟩ = some (.bool b2) ∧ (((((((W.setCell ⟨w.heap.size + 1 + 1, 0, none⟩ u0).setCell ⟨w.heap.size + 1 + 1, 1, none⟩ u1).setCell ⟨w.heap.size + 1 + 1, 2, none⟩ u2).setCell ⟨w.heap.size + 1 + 1, 3, none⟩ u3).setCell ⟨w.heap.size + 1 + 1, 4, none⟩ u4).setCell ⟨w.heap.size + 1 + 1, 5, none⟩ u5)).cell? ⟨w.heap.size, 4, none⟩ = some (.slice a2 n2 k2) ∧ (((((((W.setCell ⟨w.heap.size + 1 + 1, 0, none⟩ u0).setCell ⟨w.heap.size + 1 + 1, 1, none⟩ u1).setCell ⟨w.heap.size + 1 + 1, 2, none⟩ u2).setCell ⟨w.heap.size + 1 + 1, 3, none⟩ u3).setCell ⟨w.heap.size + 1 + 1, 4, none⟩ u4).setCell ⟨w.heap.size + 1 + 1, 5, none⟩ u5)).cell? ⟨w.heap.size, 5, none⟩ = some (.int .i64 ex2) ∧ (((((((W.setCell ⟨w.heap.size + 1 + 1, 0, none⟩ u0).setCell ⟨w.heap.size + 1 + 1, 1, none⟩ u1).setCell ⟨w.heap.size + 1 + 1, 2, none⟩ u2).setCell ⟨w.heap.size + 1 + 1, 3, none⟩ u3).setCell ⟨w.heap.size + 1 + 1, 4, none⟩ u4).setCell ⟨w.heap.size + 1 + 1, 5, none⟩ u5)).cell? ⟨w.heap.size + 1, 0, none⟩ = some (.bool b3) ∧ (((((((W.setCell ⟨w.heap.size + 1 + 1, 0, none⟩ u0).setCell ⟨w.heap.size + 1 + 1, 1, none⟩ u1).setCell ⟨w.heap.size + 1 + 1, 2, none⟩ u2).setCell ⟨w.heap.size + 1 + 1, 3, none⟩ u3).setCell ⟨w.heap.size + 1 + 1, 4, none⟩ u4).setCell ⟨w.heap.size + 1 + 1, 5, none⟩ u5)).cell? ⟨w.heap.size + 1, 1, none⟩ = some (.slice a3 n3 k3) ∧ (((((((W.setCell ⟨w.heap.size + 1 + 1, 0, none⟩ u0).setCell ⟨w.heap.size + 1 + 1, 1, none⟩ u1).setCell ⟨w.heap.size + 1 + 1, 2, none⟩ u2).setCell ⟨w.heap.size + 1 + 1, 3, none⟩ u3).setCell ⟨w.heap.size + 1 + 1, 4, none⟩ u4).setCell ⟨w.heap.size + 1 + 1, 5, none⟩ u5)).cell? ⟨w.heap.size + 1, 2, none⟩ = some (.int .i64 ex3) ∧ (((((((W.setCell ⟨w.heap.size + 1 + 1, 0, none⟩ u0).setCell ⟨w.heap.size + 1 + 1, 1, none⟩ u1).setCell ⟨w.heap.size + 1 + 1, 2, none⟩ u2).setCell ⟨w.heap.size + 1 + 1, 3, none⟩ u3).setCell ⟨w.heap.size + 1 + 1, 4, none⟩ u4).setCell ⟨w.heap.size + 1 + 1, 5, none⟩ u5)).cell? ⟨w.heap.size + 1, 3, none⟩ = some (.bool b4) ∧ (((((((W.setCell ⟨w.heap.size + 1 + 1, 0, none⟩ u0).setCell ⟨w.heap.size + 1 + 1, 1, none⟩ u1).setCell ⟨w.heap.size + 1 + 1, 2, none⟩ u2).setCell ⟨w.heap.size + 1 + 1, 3, none⟩ u3).setCell ⟨w.heap.size + 1 + 1, 4, none⟩ u4).setCell ⟨w.heap.size + 1 + 1, 5, none⟩ u5)).cell? ⟨w.heap.size + 1, 4, none⟩ = some (.slice a4 n4 k4) ∧ (((((((W.setCell ⟨w.heap.size + 1 + 1, 0, none⟩ u0).setCell ⟨w.heap.size + 1 + 1, 1, none⟩ u1).setCell ⟨w.heap.size + 1 + 1, 2, none⟩ u2).setCell ⟨w.heap.size + 1 + 1, 3, none⟩ u3).setCell ⟨w.heap.size + 1 + 1, 4, none⟩ u4).setCell ⟨w.heap.size + 1 + 1, 5, none⟩ u5)).cell? ⟨w.heap.size + 1, 5, none⟩ = some (.int .i64 ex4) from (by
    obtain ⟨x0, x1, x2, x3, x4, x5⟩ := hexa ((hexa_other (g := w.heap.size + 1 + 1) (h := w.heap.size) (by omega) u0 u1 u2 u3 u4 u5).trans (block_upW hg q0))
    obtain ⟨z0, z1, z2, z3, z4, z5⟩ := hexa ((hexa_other (g := w.heap.size + 1 + 1) (h := w.heap.size + 1) (by omega) u0 u1 u2 u3 u4 u5).trans (block_upW hg q1))
    exact ⟨x0, x1, x2, x3, x4, x5, z0, z1, z2, z3, z4, z5⟩))
  have HZ : Hid (w0.drew.heap[w.heap.size + 1 + 1]? = some (.cells #[.bool false, .slice none 0 0, .int .i64 0, .bool false, .slice none 0 0, .int .i64 0] 47)) := hide q9
  have HB := hide hb0
  have g0 : Below w0.heap.size w0 w0.drew := bl_drew10 (Below.refl _ _)
  generalize max V1 V3 = M1 at *
  generalize max V2 V4 = M2 at *
  clear h1 h2 h3 h4 q0 q1 q9 hb0
  go_enter Tryz.func24, Tryz.ntmps24
  go_upto_region 1 with fail
  go_region_held3 (fun w' => w'.cell? ⟨w.heap.size, 0, none⟩ = some (.bool b1) ∧ w'.cell? ⟨w.heap.size, 1, none⟩ = some (.slice a1 n1 k1) ∧ w'.cell? ⟨w.heap.size, 2, none⟩ = some (.int .i64 ex1) ∧ w'.cell? ⟨w.heap.size, 3, none⟩ = some (.bool b2) ∧ w'.cell? ⟨w.heap.size, 4, none⟩ = some (.slice a2 n2 k2) ∧ w'.cell? ⟨w.heap.size, 5, none⟩ = some (.int .i64 ex2) ∧ w'.cell? ⟨w.heap.size + 1, 0, none⟩ = some (.bool b3) ∧ w'.cell? ⟨w.heap.size + 1, 1, none⟩ = some (.slice a3 n3 k3) ∧ w'.cell? ⟨w.heap.size + 1, 2, none⟩ = some (.int .i64 ex3) ∧ w'.cell? ⟨w.heap.size + 1, 3, none⟩ = some (.bool b4) ∧ w'.cell? ⟨w.heap.size + 1, 4, none⟩ = some (.slice a4 n4 k4) ∧ w'.cell? ⟨w.heap.size + 1, 5, none⟩ = some (.int .i64 ex4)) (first | (with_reducible exact KT.out _ g2 _ _ _ _ _ _) | (refine KS.out _ ?_; first | with_reducible exact g2 | with_reducible exact g1 | with_reducible exact g0)) (first
    | (go_at_call_of 58 a2; refine (K2.out _ g1).mono ?_; rintro e' t2 ⟨⟨q, qa, qn, qk, qe, rfl, v6⟩, hb2⟩; have g2 := bl_trans8 g1 hb2; have v5' := v5.below hb2; have hz := block_upW hb2 (block_upW hb1 HZ.out); have hf := hexaf hz; obtain ⟨m0, m1, m2, m3, m4, m5⟩ := hexa hz)
    | (go_at_call_of 58 a1; refine (K1.out _ g0).mono ?_; rintro e' t1 ⟨⟨p, pa, pn, pk, pe, rfl, v5⟩, hb1⟩; have g1 := bl_trans8 g0 hb1))
  have T3 := hexa_all hz (.bool p) (.slice pa pn pk) (.int .i64 pe) (.bool q) (.slice qa qn qk) (.int .i64 qe)
  have T4 := below_hexa (bl_trans8 HB.out g2) (show w.heap.size ≤ w.heap.size + 1 + 1 by omega) (.bool p) (.slice pa pn pk) (.int .i64 pe) (.bool q) (.slice qa qn qk) (.int .i64 qe)
  have T5 := v5'.hexa hz p pa pn pk pe q qa qn qk qe
  have T6 := v6.hexa hz p pa pn pk pe q qa qn qk qe
  obtain ⟨p0, p1, p2, p3, p4, p5⟩ := hexa T3
  have HE := hide (And.intro T5 (And.intro T6 T4))
  clear T3 T4 T5 T6 hz hf m0 m1 m2 m3 m4 m5 KS KT K1 K2 g0 g1 g2 hb1 hb2 v5 v6 v5' HZ
  generalize (((((t2.setCell ⟨w.heap.size + 1 + 1, 0, none⟩ (.bool p)).setCell ⟨w.heap.size + 1 + 1, 1, none⟩ (.slice pa pn pk)).setCell ⟨w.heap.size + 1 + 1, 2, none⟩ (.int .i64 pe)).setCell ⟨w.heap.size + 1 + 1, 3, none⟩ (.bool q)).setCell ⟨w.heap.size + 1 + 1, 4, none⟩ (.slice qa qn qk)).setCell ⟨w.heap.size + 1 + 1, 5, none⟩ (.int .i64 qe) = w5 at *
  go_wp2
  refine bodyPost_ret (v := .agg #[.bool p, .slice pa pn pk, .int .i64 pe, .bool q, .slice qa qn qk, .int .i64 qe]) (by simp [results, Tryz.results24, go_sem, p0, p1, p2, p3, p4, p5]) rfl ?_
  exact ⟨⟨_, _, _, _, _, _, _, _, _, _, rfl, HE.out.1, HE.out.2.1⟩, HE.out.2.2⟩

set_option maxRecDepth 20000 in
set_option maxHeartbeats 4000000 in
theorem rhullV (b1 : Bool) (a1 : Option Addr) (n1 k1 : Nat) (ex1 : Int) (b2 : Bool) (a2 : Option Addr) (n2 k2 : Nat) (ex2 : Int) (b3 : Bool) (a3 : Option Addr) (n3 k3 : Nat) (ex3 : Int) (b4 : Bool) (a4 : Option Addr) (n4 k4 : Nat) (ex4 : Int) (L : Nat) (V1 V2 V3 V4 : Int) (w : World) (h1 : V8 w b1 a1 n1 k1 ex1 L V1) (h2 : V8 w b2 a2 n2 k2 ex2 L V2) (h3 : V8 w b3 a3 n3 k3 ex3 L V3) (h4 : V8 w b4 a4 n4 k4 ex4 L V4) :
    Calls Tryz.prog 25 #[.agg #[.bool b1, .slice a1 n1 k1, .int .i64 ex1, .bool b2, .slice a2 n2 k2, .int .i64 ex2], .agg #[.bool b3, .slice a3 n3 k3, .int .i64 ex3, .bool b4, .slice a4 n4 k4, .int .i64 ex4]] w fun e w' => RSpan w e w' L (min V1 V3) (max V2 V4) := by
  obtain ⟨w0, hw0, hb0, q0, q1, q9⟩ := enter3 w (.cells #[.bool b1, .slice a1 n1 k1, .int .i64 ex1, .bool b2, .slice a2 n2 k2, .int .i64 ex2] 47) (.cells #[.bool b3, .slice a3 n3 k3, .int .i64 ex3, .bool b4, .slice a4 n4 k4, .int .i64 ex4] 47) (.cells #[.bool false, .slice none 0 0, .int .i64 0, .bool false, .slice none 0 0, .int .i64 0] 47)
  have K1 := hide (fun (W : World) (hg : Below w0.heap.size w0 W) => rlessV b1 a1 n1 k1 ex1 b3 a3 n3 k3 ex3 L V1 V3 W ((h1.below hb0).below hg) ((h3.below hb0).below hg))
  have K2 := hide (fun (W : World) (hg : Below w0.heap.size w0 W) => rmoreV b2 a2 n2 k2 ex2 b4 a4 n4 k4 ex4 L V2 V4 W ((h2.below hb0).below hg) ((h4.below hb0).below hg))
  have KS := hide (fun (W : World) (hg : Below w0.heap.size w0 W) => show W.cell? ⟨w.heap.size, 0, none⟩ = some (.bool b1) ∧ W.cell? ⟨w.heap.size, 1, none⟩ = some (.slice a1 n1 k1) ∧ W.cell? ⟨w.heap.size, 2, none⟩ = some (.int .i64 ex1) ∧ W.cell? ⟨w.heap.size, 3, none⟩ = some (.bool b2) ∧ W.cell? ⟨w.heap.size, 4, none⟩ = some (.slice a2 n2 k2) ∧ W.cell? ⟨w.heap.size, 5, none⟩ = some (.int .i64 ex2) ∧ W.cell? ⟨w.heap.size + 1, 0, none⟩ = some (.bool b3) ∧ W.cell? ⟨w.heap.size + 1, 1, none⟩ = some (.slice a3 n3 k3) ∧ W.cell? ⟨w.heap.size + 1, 2, none⟩ = some (.int .i64 ex3) ∧ W.cell? ⟨w.heap.size + 1, 3, none⟩ = some (.bool b4) ∧ W.cell? ⟨w.heap.size + 1, 4, none⟩ = some (.slice a4 n4 k4) ∧ W.cell? ⟨w.heap.size + 1, 5, none⟩ = some (.int .i64 ex4) from (by
    obtain ⟨x0, x1, x2, x3, x4, x5⟩ := hexa (block_upW hg q0)
    obtain ⟨z0, z1, z2, z3, z4, z5⟩ := hexa (block_upW hg q1)
    exact ⟨x0, x1, x2, x3, x4, x5, z0, z1, z2, z3, z4, z5⟩))
  have KT := hide (fun (W : World) (hg : Below w0.heap.size w0 W) (u0 u1 u2 u3 u4 u5 : Value) => show (((((((W.setCell ⟨w.heap.size + 1 + 1, 0, none⟩ u0).setCell ⟨w.heap.size + 1 + 1, 1, none⟩ u1).setCell ⟨w.heap.size + 1 + 1, 2, none⟩ u2).setCell ⟨w.heap.size + 1 + 1, 3, none⟩ u3).setCell ⟨w.heap.size + 1 + 1, 4, none⟩ u4).setCell ⟨w.heap.size + 1 + 1, 5, none⟩ u5)).cell? ⟨w.heap.size, 0, none⟩ = some (.bool b1) ∧ (((((((W.setCell ⟨w.heap.size + 1 + 1, 0, none⟩ u0).setCell ⟨w.heap.size + 1 + 1, 1, none⟩ u1).setCell ⟨w.heap.size + 1 + 1, 2, none⟩ u2).setCell ⟨w.heap.size + 1 + 1, 3, none⟩ u3).setCell ⟨w.heap.size + 1 + 1, 4, none⟩ u4).setCell ⟨w.heap.size + 1 + 1, 5, none⟩ u5)).cell? ⟨w.heap.size, 1, none⟩ = some (.slice a1 n1 k1) ∧ (((((((W.setCell ⟨w.heap.size + 1 + 1, 0, none⟩ u0).setCell ⟨w.heap.size + 1 + 1, 1, none⟩ u1).setCell ⟨w.heap.size + 1 + 1, 2, none⟩ u2).setCell ⟨w.heap.size + 1 + 1, 3, none⟩ u3).setCell ⟨w.heap.size + 1 + 1, 4, none⟩ u4).setCell ⟨w.heap.size + 1 + 1, 5, none⟩ u5)).cell? ⟨w.heap.size, 2, none⟩ = some (.int .i64 ex1) ∧ (((((((W.setCell ⟨w.heap.size + 1 + 1, 0, none⟩ u0).setCell ⟨w.heap.size + 1 + 1, 1, none⟩ u1).setCell ⟨w.heap.size + 1 + 1, 2, none⟩ u2).setCell ⟨w.heap.size + 1 + 1, 3, none⟩ u3).setCell ⟨w.heap.size + 1 + 1, 4, none⟩ u4).setCell ⟨w.heap.size + 1 + 1, 5, none⟩ u5)).cell? ⟨w.heap.size, 3, none⟩ = some (.bool b2) ∧ (((((((W.setCell ⟨w.heap.size + 1 + 1, 0, none⟩ u0).setCell ⟨w.heap.size + 1 + 1, 1, none⟩ u1).setCell ⟨w.heap.size + 1 + 1, 2, none⟩ u2).setCell ⟨w.heap.size + 1 + 1, 3, none⟩ u3).setCell ⟨w.heap.size + 1 + 1, 4, none⟩ u4).setCell ⟨w.heap.size + 1 + 1, 5, none⟩ u5)).cell? ⟨w.heap.size, 4, none⟩ = some (.slice a2 n2 k2) ∧ (((((((W.setCell ⟨w.heap.size + 1 + 1, 0, none⟩ u0).setCell ⟨w.heap.size + 1 + 1, 1, none⟩ u1).setCell ⟨w.heap.size + 1 + 1, 2, none⟩ u2).setCell ⟨w.heap.size + 1 + 1, 3, none⟩ u3).setCell ⟨w.heap.size + 1 + 1, 4, none⟩ u4).setCell ⟨w.heap.size + 1 + 1, 5, none⟩ u5)).cell? ⟨w.heap.size, 5, none⟩ = some (.int .i64 ex2) ∧ (((((((W.setCell ⟨w.heap.size + 1 + 1, 0, none⟩ u0).setCell ⟨w.heap.size + 1 + 1, 1, none⟩ u1).setCell ⟨w.heap.size + 1 + 1, 2, none⟩ u2).setCell ⟨w.heap.size + 1 + 1, 3, none⟩ u3).setCell ⟨w.heap.size + 1 + 1, 4, none⟩ u4).setCell ⟨w.heap.size + 1 + 1, 5, none⟩ u5)).cell? ⟨w.heap.size + 1, 0, none⟩ = some (.bool b3) ∧ (((((((W.setCell ⟨w.heap.size + 1 + 1, 0, none⟩ u0).setCell ⟨w.heap.size + 1 + 1, 1, none⟩ u1).setCell ⟨w.heap.size + 1 + 1, 2, none⟩ u2).setCell ⟨w.heap.size + 1 + 1, 3, none⟩ u3).setCell ⟨w.heap.size + 1 + 1, 4, none⟩ u4).setCell ⟨w.heap.size + 1 + 1, 5, none⟩ u5)).cell? ⟨w.heap.size + 1, 1, none⟩ = some (.slice a3 n3 k3) ∧ (((((((W.setCell ⟨w.heap.size + 1 + 1, 0, none⟩ u0).setCell ⟨w.heap.size + 1 + 1, 1, none⟩ u1).setCell ⟨w.heap.size + 1 + 1, 2, none⟩ u2).setCell ⟨w.heap.size + 1 + 1, 3, none⟩ u3).setCell ⟨w.heap.size + 1 + 1, 4, none⟩ u4).setCell ⟨w.heap.size + 1 + 1, 5, none⟩ u5)).cell? ⟨w.heap.size + 1, 2, none⟩ = some (.int .i64 ex3) ∧ (((((((W.setCell ⟨w.heap.size + 1 + 1, 0, none⟩ u0).setCell ⟨w.heap.size + 1 + 1, 1, none⟩ u1).setCell ⟨w.heap.size + 1 + 1, 2, none⟩ u2).setCell ⟨w.heap.size + 1 + 1, 3, none⟩ u3).setCell ⟨w.heap.size + 1 + 1, 4, none⟩ u4).setCell ⟨w.heap.size + 1 + 1, 5, none⟩ u5)).cell? ⟨w.heap.size + 1, 3, none⟩ = some (.bool b4) ∧ (((((((W.setCell ⟨w.heap.size + 1 + 1, 0, none⟩ u0).setCell ⟨w.heap.size + 1 + 1, 1, none⟩ u1).setCell ⟨w.heap.size + 1 + 1, 2, none⟩ u2).setCell ⟨w.heap.size + 1 + 1, 3, none⟩ u3).setCell ⟨w.heap.size + 1 + 1, 4, none⟩ u4).setCell ⟨w.heap.size + 1 + 1, 5, none⟩ u5)).cell? ⟨w.heap.size + 1, 4, none⟩ = some (.slice a4 n4 k4) ∧ (((((((W.setCell ⟨w.heap.size + 1 + 1, 0, none⟩ u0).setCell ⟨w.heap.size + 1 + 1, 1, none⟩ u1).setCell ⟨w.heap.size + 1 + 1, 2, none⟩ u2).setCell ⟨w.heap.size + 1 + 1, 3, none⟩ u3).setCell ⟨w.heap.size + 1 + 1, 4, none⟩ u4).setCell ⟨w.heap.size + 1 + 1, 5, none⟩ u5)).cell? ⟨w.heap.size + 1, 5, none⟩ = some (.int .i64 ex4) from (by
    obtain ⟨x0, x1, x2, x3, x4, x5⟩ := hexa ((hexa_other (g := w.heap.size + 1 + 1) (h := w.heap.size) (by omega) u0 u1 u2 u3 u4 u5).trans (block_upW hg q0))
    obtain ⟨z0, z1, z2, z3, z4, z5⟩ := hexa ((hexa_other (g := w.heap.size + 1 + 1) (h := w.heap.size + 1) (by omega) u0 u1 u2 u3 u4 u5).trans (block_upW hg q1))
    exact ⟨x0, x1, x2, x3, x4, x5, z0, z1, z2, z3, z4, z5⟩))
  have HZ : Hid (w0.drew.heap[w.heap.size + 1 + 1]? = some (.cells #[.bool false, .slice none 0 0, .int .i64 0, .bool false, .slice none 0 0, .int .i64 0] 47)) := hide q9
  have HB := hide hb0
  have g0 : Below w0.heap.size w0 w0.drew := bl_drew10 (Below.refl _ _)
  generalize min V1 V3 = M1 at *
  generalize max V2 V4 = M2 at *
  clear h1 h2 h3 h4 q0 q1 q9 hb0
  go_enter Tryz.func25, Tryz.ntmps25
  go_upto_region 1 with fail
  go_region_held3 (fun w' => w'.cell? ⟨w.heap.size, 0, none⟩ = some (.bool b1) ∧ w'.cell? ⟨w.heap.size, 1, none⟩ = some (.slice a1 n1 k1) ∧ w'.cell? ⟨w.heap.size, 2, none⟩ = some (.int .i64 ex1) ∧ w'.cell? ⟨w.heap.size, 3, none⟩ = some (.bool b2) ∧ w'.cell? ⟨w.heap.size, 4, none⟩ = some (.slice a2 n2 k2) ∧ w'.cell? ⟨w.heap.size, 5, none⟩ = some (.int .i64 ex2) ∧ w'.cell? ⟨w.heap.size + 1, 0, none⟩ = some (.bool b3) ∧ w'.cell? ⟨w.heap.size + 1, 1, none⟩ = some (.slice a3 n3 k3) ∧ w'.cell? ⟨w.heap.size + 1, 2, none⟩ = some (.int .i64 ex3) ∧ w'.cell? ⟨w.heap.size + 1, 3, none⟩ = some (.bool b4) ∧ w'.cell? ⟨w.heap.size + 1, 4, none⟩ = some (.slice a4 n4 k4) ∧ w'.cell? ⟨w.heap.size + 1, 5, none⟩ = some (.int .i64 ex4)) (first | (with_reducible exact KT.out _ g2 _ _ _ _ _ _) | (refine KS.out _ ?_; first | with_reducible exact g2 | with_reducible exact g1 | with_reducible exact g0)) (first
    | (go_at_call_of 58 a2; refine (K2.out _ g1).mono ?_; rintro e' t2 ⟨⟨q, qa, qn, qk, qe, rfl, v6⟩, hb2⟩; have g2 := bl_trans8 g1 hb2; have v5' := v5.below hb2; have hz := block_upW hb2 (block_upW hb1 HZ.out); have hf := hexaf hz; obtain ⟨m0, m1, m2, m3, m4, m5⟩ := hexa hz)
    | (go_at_call_of 59 a1; refine (K1.out _ g0).mono ?_; rintro e' t1 ⟨⟨p, pa, pn, pk, pe, rfl, v5⟩, hb1⟩; have g1 := bl_trans8 g0 hb1))
  have T3 := hexa_all hz (.bool p) (.slice pa pn pk) (.int .i64 pe) (.bool q) (.slice qa qn qk) (.int .i64 qe)
  have T4 := below_hexa (bl_trans8 HB.out g2) (show w.heap.size ≤ w.heap.size + 1 + 1 by omega) (.bool p) (.slice pa pn pk) (.int .i64 pe) (.bool q) (.slice qa qn qk) (.int .i64 qe)
  have T5 := v5'.hexa hz p pa pn pk pe q qa qn qk qe
  have T6 := v6.hexa hz p pa pn pk pe q qa qn qk qe
  obtain ⟨p0, p1, p2, p3, p4, p5⟩ := hexa T3
  have HE := hide (And.intro T5 (And.intro T6 T4))
  clear T3 T4 T5 T6 hz hf m0 m1 m2 m3 m4 m5 KS KT K1 K2 g0 g1 g2 hb1 hb2 v5 v6 v5' HZ
  generalize (((((t2.setCell ⟨w.heap.size + 1 + 1, 0, none⟩ (.bool p)).setCell ⟨w.heap.size + 1 + 1, 1, none⟩ (.slice pa pn pk)).setCell ⟨w.heap.size + 1 + 1, 2, none⟩ (.int .i64 pe)).setCell ⟨w.heap.size + 1 + 1, 3, none⟩ (.bool q)).setCell ⟨w.heap.size + 1 + 1, 4, none⟩ (.slice qa qn qk)).setCell ⟨w.heap.size + 1 + 1, 5, none⟩ (.int .i64 qe) = w5 at *
  go_wp2
  refine bodyPost_ret (v := .agg #[.bool p, .slice pa pn pk, .int .i64 pe, .bool q, .slice qa qn qk, .int .i64 qe]) (by simp [results, Tryz.results25, go_sem, p0, p1, p2, p3, p4, p5]) rfl ?_
  exact ⟨⟨_, _, _, _, _, _, _, _, _, _, rfl, HE.out.1, HE.out.2.1⟩, HE.out.2.2⟩

set_option maxRecDepth 20000 in
set_option maxHeartbeats 4000000 in
theorem rmeetV (b1 : Bool) (a1 : Option Addr) (n1 k1 : Nat) (ex1 : Int) (b2 : Bool) (a2 : Option Addr) (n2 k2 : Nat) (ex2 : Int) (b3 : Bool) (a3 : Option Addr) (n3 k3 : Nat) (ex3 : Int) (b4 : Bool) (a4 : Option Addr) (n4 k4 : Nat) (ex4 : Int) (L : Nat) (V1 V2 V3 V4 : Int) (w : World) (h1 : V8 w b1 a1 n1 k1 ex1 L V1) (h2 : V8 w b2 a2 n2 k2 ex2 L V2) (h3 : V8 w b3 a3 n3 k3 ex3 L V3) (h4 : V8 w b4 a4 n4 k4 ex4 L V4) :
    Calls Tryz.prog 22 #[.agg #[.bool b1, .slice a1 n1 k1, .int .i64 ex1, .bool b2, .slice a2 n2 k2, .int .i64 ex2], .agg #[.bool b3, .slice a3 n3 k3, .int .i64 ex3, .bool b4, .slice a4 n4 k4, .int .i64 ex4]] w fun e w' => (∃ b a n k x b' a' n' k' x', e = .returned (.tuple #[.agg #[.bool b, .slice a n k, .int .i64 x, .bool b', .slice a' n' k', .int .i64 x'], .bool (decide (max V1 V3 ≤ min V2 V4))]) ∧ V8 w' b a n k x L (max V1 V3) ∧ V8 w' b' a' n' k' x' L (min V2 V4)) ∧ Below w.heap.size w w' := by
  obtain ⟨w0, hw0, hb0, q0, q1, q9⟩ := enter3 w (.cells #[.bool b1, .slice a1 n1 k1, .int .i64 ex1, .bool b2, .slice a2 n2 k2, .int .i64 ex2] 47) (.cells #[.bool b3, .slice a3 n3 k3, .int .i64 ex3, .bool b4, .slice a4 n4 k4, .int .i64 ex4] 47) (.cells #[.bool false, .slice none 0 0, .int .i64 0, .bool false, .slice none 0 0, .int .i64 0] 47)
  have K1 := hide (fun (W : World) (hg : Below w0.heap.size w0 W) => rmoreV b1 a1 n1 k1 ex1 b3 a3 n3 k3 ex3 L V1 V3 W ((h1.below hb0).below hg) ((h3.below hb0).below hg))
  have K2 := hide (fun (W : World) (hg : Below w0.heap.size w0 W) => rlessV b2 a2 n2 k2 ex2 b4 a4 n4 k4 ex4 L V2 V4 W ((h2.below hb0).below hg) ((h4.below hb0).below hg))
  have KS := hide (fun (W : World) (hg : Below w0.heap.size w0 W) => show W.cell? ⟨w.heap.size, 0, none⟩ = some (.bool b1) ∧ W.cell? ⟨w.heap.size, 1, none⟩ = some (.slice a1 n1 k1) ∧ W.cell? ⟨w.heap.size, 2, none⟩ = some (.int .i64 ex1) ∧ W.cell? ⟨w.heap.size, 3, none⟩ = some (.bool b2) ∧ W.cell? ⟨w.heap.size, 4, none⟩ = some (.slice a2 n2 k2) ∧ W.cell? ⟨w.heap.size, 5, none⟩ = some (.int .i64 ex2) ∧ W.cell? ⟨w.heap.size + 1, 0, none⟩ = some (.bool b3) ∧ W.cell? ⟨w.heap.size + 1, 1, none⟩ = some (.slice a3 n3 k3) ∧ W.cell? ⟨w.heap.size + 1, 2, none⟩ = some (.int .i64 ex3) ∧ W.cell? ⟨w.heap.size + 1, 3, none⟩ = some (.bool b4) ∧ W.cell? ⟨w.heap.size + 1, 4, none⟩ = some (.slice a4 n4 k4) ∧ W.cell? ⟨w.heap.size + 1, 5, none⟩ = some (.int .i64 ex4) from (by
    obtain ⟨x0, x1, x2, x3, x4, x5⟩ := hexa (block_upW hg q0)
    obtain ⟨z0, z1, z2, z3, z4, z5⟩ := hexa (block_upW hg q1)
    exact ⟨x0, x1, x2, x3, x4, x5, z0, z1, z2, z3, z4, z5⟩))
  have HZ : Hid (w0.heap[w.heap.size + 1 + 1]? = some (.cells #[.bool false, .slice none 0 0, .int .i64 0, .bool false, .slice none 0 0, .int .i64 0] 47)) := hide q9
  have HSZ : Hid (w.heap.size + 1 + 1 < w0.heap.size) := hide (lt_of_block HZ.out)
  have HB := hide hb0
  have g0 : Below w0.heap.size w0 w0 := Below.refl _ _
  generalize max V1 V3 = M1 at *
  generalize min V2 V4 = M2 at *
  clear h1 h2 h3 h4 q0 q1 q9 hb0
  go_enter Tryz.func22, Tryz.ntmps22
  go_upto_region 1 with fail
  go_cut [6] from 7 to 17 (fun s wx => OneS w0 L M1 M2 s wx)
  case first =>
    go_region_held3 (fun w' => w'.cell? ⟨w.heap.size, 0, none⟩ = some (.bool b1) ∧ w'.cell? ⟨w.heap.size, 1, none⟩ = some (.slice a1 n1 k1) ∧ w'.cell? ⟨w.heap.size, 2, none⟩ = some (.int .i64 ex1) ∧ w'.cell? ⟨w.heap.size, 3, none⟩ = some (.bool b2) ∧ w'.cell? ⟨w.heap.size, 4, none⟩ = some (.slice a2 n2 k2) ∧ w'.cell? ⟨w.heap.size, 5, none⟩ = some (.int .i64 ex2) ∧ w'.cell? ⟨w.heap.size + 1, 0, none⟩ = some (.bool b3) ∧ w'.cell? ⟨w.heap.size + 1, 1, none⟩ = some (.slice a3 n3 k3) ∧ w'.cell? ⟨w.heap.size + 1, 2, none⟩ = some (.int .i64 ex3) ∧ w'.cell? ⟨w.heap.size + 1, 3, none⟩ = some (.bool b4) ∧ w'.cell? ⟨w.heap.size + 1, 4, none⟩ = some (.slice a4 n4 k4) ∧ w'.cell? ⟨w.heap.size + 1, 5, none⟩ = some (.int .i64 ex4)) (first | (refine KS.out _ ?_; repeat (first | with_reducible assumption | with_reducible exact Below.refl _ _ | with_reducible apply bl_alloc10 | with_reducible apply bl_drew10 | (with_reducible refine below_hexa ?_ (by omega) _ _ _ _ _ _)))) (first
      | (go_at_call 59; refine (K2.out _ (by repeat (first | with_reducible exact g1 | with_reducible apply bl_alloc10))).mono ?_; rintro e' t2 ⟨⟨b6, a6, n6, c6, e6, rfl, v6⟩, hb2⟩; have g2 : Below w0.heap.size w0 t2 := bl_trans8 (by repeat (first | with_reducible exact g1 | with_reducible apply bl_alloc10)) hb2; have v5' := v5.below (show Below t1.heap.size t1 t2 from bl_trans8 (by repeat (first | with_reducible exact Below.refl _ _ | with_reducible apply bl_alloc10)) hb2); have hle1 := g1.size; (first | (with_reducible have hq := made10 hb2; obtain ⟨z0c, z1c, z2c, z3c, z4c, z5c⟩ := hexa hq; have zf := hexaf hq) | (with_reducible have hq := block_upW hb2 hpA; obtain ⟨z0c, z1c, z2c, z3c, z4c, z5c⟩ := hexa hq; have zf := hexaf hq) | skip))
      | (go_at_call 58; refine (K1.out _ (by repeat (first | with_reducible exact Below.refl _ _ | with_reducible apply bl_alloc10 | with_reducible apply bl_drew10))).mono ?_; rintro e' t1 ⟨⟨b5, a5, n5, c5, e5, rfl, v5⟩, hb1⟩; have g1 : Below w0.heap.size w0 t1 := bl_trans8 (by repeat (first | with_reducible exact Below.refl _ _ | with_reducible apply bl_alloc10 | with_reducible apply bl_drew10)) hb1; (first | (with_reducible have hpA := made10d hb1) | (with_reducible have hpA := made10 hb1) | skip)))
    all_goals (go_wp2_with fail; go_meet; first
      | with_reducible exact one_s v5' v6 g2
      | with_reducible exact one_ss hq hle1 v5' v6 g2
      | with_reducible exact one_ss hq (Nat.le_refl _) v5' v6 g2)
  case rest =>
    obtain ⟨gd, b5, a5, n5, c5, e5, b6, a6, n6, c6, e6, rfl, hX, v5, v6, hbx, hgd⟩ := hcut
    have CM := hide (fun (W : World) (hg : Below wc.heap.size wc W) => V8.cmp (v5.below hg) (v6.below hg))
    have HBX := hide hbx
    have HX := hide hX
    have HV := hide (And.intro v5 v6)
    have HZ2 : Hid (wc.drew.heap[w.heap.size + 1 + 1]? = some (.cells #[.bool false, .slice none 0 0, .int .i64 0, .bool false, .slice none 0 0, .int .i64 0] 47)) := hide (block_upW (bl_drew10 hbx) HZ.out)
    have KU := hide (fun (W : World) (hg : Below wc.heap.size wc W) => show W.cell? ⟨gd, 0, none⟩ = some (.bool b5) ∧ W.cell? ⟨gd, 1, none⟩ = some (.slice a5 n5 c5) ∧ W.cell? ⟨gd, 2, none⟩ = some (.int .i64 e5) ∧ W.cell? ⟨gd, 3, none⟩ = some (.bool b6) ∧ W.cell? ⟨gd, 4, none⟩ = some (.slice a6 n6 c6) ∧ W.cell? ⟨gd, 5, none⟩ = some (.int .i64 e6) from hexa (block_upW hg HX.out))
    have KV := hide (fun (W : World) (hg : Below wc.heap.size wc W) (u0 u1 u2 u3 u4 u5 : Value) => show (((((((W.setCell ⟨w.heap.size + 1 + 1, 0, none⟩ u0).setCell ⟨w.heap.size + 1 + 1, 1, none⟩ u1).setCell ⟨w.heap.size + 1 + 1, 2, none⟩ u2).setCell ⟨w.heap.size + 1 + 1, 3, none⟩ u3).setCell ⟨w.heap.size + 1 + 1, 4, none⟩ u4).setCell ⟨w.heap.size + 1 + 1, 5, none⟩ u5)).cell? ⟨gd, 0, none⟩ = some (.bool b5) ∧ (((((((W.setCell ⟨w.heap.size + 1 + 1, 0, none⟩ u0).setCell ⟨w.heap.size + 1 + 1, 1, none⟩ u1).setCell ⟨w.heap.size + 1 + 1, 2, none⟩ u2).setCell ⟨w.heap.size + 1 + 1, 3, none⟩ u3).setCell ⟨w.heap.size + 1 + 1, 4, none⟩ u4).setCell ⟨w.heap.size + 1 + 1, 5, none⟩ u5)).cell? ⟨gd, 1, none⟩ = some (.slice a5 n5 c5) ∧ (((((((W.setCell ⟨w.heap.size + 1 + 1, 0, none⟩ u0).setCell ⟨w.heap.size + 1 + 1, 1, none⟩ u1).setCell ⟨w.heap.size + 1 + 1, 2, none⟩ u2).setCell ⟨w.heap.size + 1 + 1, 3, none⟩ u3).setCell ⟨w.heap.size + 1 + 1, 4, none⟩ u4).setCell ⟨w.heap.size + 1 + 1, 5, none⟩ u5)).cell? ⟨gd, 2, none⟩ = some (.int .i64 e5) ∧ (((((((W.setCell ⟨w.heap.size + 1 + 1, 0, none⟩ u0).setCell ⟨w.heap.size + 1 + 1, 1, none⟩ u1).setCell ⟨w.heap.size + 1 + 1, 2, none⟩ u2).setCell ⟨w.heap.size + 1 + 1, 3, none⟩ u3).setCell ⟨w.heap.size + 1 + 1, 4, none⟩ u4).setCell ⟨w.heap.size + 1 + 1, 5, none⟩ u5)).cell? ⟨gd, 3, none⟩ = some (.bool b6) ∧ (((((((W.setCell ⟨w.heap.size + 1 + 1, 0, none⟩ u0).setCell ⟨w.heap.size + 1 + 1, 1, none⟩ u1).setCell ⟨w.heap.size + 1 + 1, 2, none⟩ u2).setCell ⟨w.heap.size + 1 + 1, 3, none⟩ u3).setCell ⟨w.heap.size + 1 + 1, 4, none⟩ u4).setCell ⟨w.heap.size + 1 + 1, 5, none⟩ u5)).cell? ⟨gd, 4, none⟩ = some (.slice a6 n6 c6) ∧ (((((((W.setCell ⟨w.heap.size + 1 + 1, 0, none⟩ u0).setCell ⟨w.heap.size + 1 + 1, 1, none⟩ u1).setCell ⟨w.heap.size + 1 + 1, 2, none⟩ u2).setCell ⟨w.heap.size + 1 + 1, 3, none⟩ u3).setCell ⟨w.heap.size + 1 + 1, 4, none⟩ u4).setCell ⟨w.heap.size + 1 + 1, 5, none⟩ u5)).cell? ⟨gd, 5, none⟩ = some (.int .i64 e6) from hexa ((hexa_other (g := w.heap.size + 1 + 1) (h := gd) (by have := HSZ.out; omega) u0 u1 u2 u3 u4 u5).trans (block_upW hg HX.out)))
    have g0c : Below wc.heap.size wc wc.drew := bl_drew10 (Below.refl _ _)
    have HCC : Hid (decide (cmpZ M1 M2 ≤ 0) = decide (M1 ≤ M2)) := hide (by simp only [cmpZ_le])
    obtain ⟨D, hD⟩ : ∃ D, decide (M1 ≤ M2) = D := ⟨_, rfl⟩
    have i1 : decide (cmpZ M1 M2 ≤ 0) = D := by rw [HCC.out, hD]
    have HD := hide hD
    clear KS K1 K2 g0 hbx hX v5 v6 HCC hD
    generalize cmpZ M1 M2 = cz at *
    go_upto_region 2 with fail
    go_region_held3 (fun w' => w'.cell? ⟨gd, 0, none⟩ = some (.bool b5) ∧ w'.cell? ⟨gd, 1, none⟩ = some (.slice a5 n5 c5) ∧ w'.cell? ⟨gd, 2, none⟩ = some (.int .i64 e5) ∧ w'.cell? ⟨gd, 3, none⟩ = some (.bool b6) ∧ w'.cell? ⟨gd, 4, none⟩ = some (.slice a6 n6 c6) ∧ w'.cell? ⟨gd, 5, none⟩ = some (.int .i64 e6)) (first | (with_reducible exact KV.out _ g4 _ _ _ _ _ _) | (refine KU.out _ ?_; first | with_reducible exact g4 | with_reducible exact g0c)) (first
      | (go_at_call 35; refine (CM.out _ g0c).mono ?_; rintro e' t4 ⟨rfl, hb4⟩; have g4 := bl_trans8 g0c hb4; have hz := block_upW hb4 HZ2.out; have hf := hexaf hz; obtain ⟨m0, m1, m2, m3, m4, m5⟩ := hexa hz))
    have T3 := hexa_all hz (.bool b5) (.slice a5 n5 c5) (.int .i64 e5) (.bool b6) (.slice a6 n6 c6) (.int .i64 e6)
    have T4 := below_hexa (bl_trans8 (bl_trans8 HB.out HBX.out) g4) (show w.heap.size ≤ w.heap.size + 1 + 1 by omega) (.bool b5) (.slice a5 n5 c5) (.int .i64 e5) (.bool b6) (.slice a6 n6 c6) (.int .i64 e6)
    have T5 := (HV.out.1.below g4).hexa hz b5 a5 n5 c5 e5 b6 a6 n6 c6 e6
    have T6 := (HV.out.2.below g4).hexa hz b5 a5 n5 c5 e5 b6 a6 n6 c6 e6
    obtain ⟨p0, p1, p2, p3, p4, p5⟩ := hexa T3
    have HE := hide (And.intro T5 (And.intro T6 T4))
    clear T3 T4 T5 T6 hz hf m0 m1 m2 m3 m4 m5 KU KV CM g0c g4 hb4 HZ2
    generalize (((((t4.setCell ⟨w.heap.size + 1 + 1, 0, none⟩ (.bool b5)).setCell ⟨w.heap.size + 1 + 1, 1, none⟩ (.slice a5 n5 c5)).setCell ⟨w.heap.size + 1 + 1, 2, none⟩ (.int .i64 e5)).setCell ⟨w.heap.size + 1 + 1, 3, none⟩ (.bool b6)).setCell ⟨w.heap.size + 1 + 1, 4, none⟩ (.slice a6 n6 c6)).setCell ⟨w.heap.size + 1 + 1, 5, none⟩ (.int .i64 e6) = w5 at *
    go_wp2
    refine bodyPost_ret (v := .tuple #[.agg #[.bool b5, .slice a5 n5 c5, .int .i64 e5, .bool b6, .slice a6 n6 c6, .int .i64 e6], .bool D]) (by simp [results, Tryz.results22, go_sem, p0, p1, p2, p3, p4, p5]) rfl ?_
    exact ⟨⟨_, _, _, _, _, _, _, _, _, _, by rw [HD.out], HE.out.1, HE.out.2.1⟩, HE.out.2.2⟩

end Go.Proofs.YtppkhhbhnhijpaaGreatDoor
