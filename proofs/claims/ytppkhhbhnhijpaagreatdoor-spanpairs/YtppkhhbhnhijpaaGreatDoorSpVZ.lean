/- Package span: Min, Max, Hull, Meet at one scale. -/
import Derived.Test.YtppkhhbhnhijpaaGreatDoorSpUZ
import Derived.Deep.CutBlock
import Derived.Deep.DeepCutAuto
namespace Go.Proofs.YtppkhhbhnhijpaaGreatDoor
open Go.RowKit
open Lm
attribute [local go_sem ↓] Go.wp_at_zero Go.wp_at_succ

theorem fldS0 (b : Bool) (a : Option Addr) (n k : Nat) (e : Int) (b' : Bool) (a' : Option Addr) (n' k' : Nat) (e' : Int) (w : World) : (Instr.field 33 (.agg #[.bool b, .slice a n k, .int .i64 e, .bool b', .slice a' n' k', .int .i64 e']) 0).run Tryz.prog w = .ok (.agg #[.bool b, .slice a n k, .int .i64 e]) w := by kernel_rfl

theorem fldS1 (b : Bool) (a : Option Addr) (n k : Nat) (e : Int) (b' : Bool) (a' : Option Addr) (n' k' : Nat) (e' : Int) (w : World) : (Instr.field 33 (.agg #[.bool b, .slice a n k, .int .i64 e, .bool b', .slice a' n' k', .int .i64 e']) 1).run Tryz.prog w = .ok (.agg #[.bool b', .slice a' n' k', .int .i64 e']) w := by kernel_rfl

attribute [local go_sem] fldS0 fldS1

theorem N8.fltN {w : World} {b1 : Bool} {a1 : Option Addr} {n1 k1 : Nat} {ex1 : Int} {b2 : Bool} {a2 : Option Addr} {n2 k2 : Nat} {ex2 : Int} {L : Nat} {V1 V2 : Int} (h1 : N8 w b1 a1 n1 k1 ex1 L V1) (h2 : N8 w b2 a2 n2 k2 ex2 L V2) : flt ex1 ex2 V1 V2 = if V2 < V1 then 100 else 0 := by
  obtain ⟨_, _, _, _, e1, _⟩ := h1
  obtain ⟨_, _, _, _, e2, _⟩ := h2
  unfold flt
  rw [if_pos e1, if_pos e2]

theorem smakeN (b1 : Bool) (a1 : Option Addr) (n1 k1 : Nat) (ex1 : Int) (b2 : Bool) (a2 : Option Addr) (n2 k2 : Nat) (ex2 : Int) (L : Nat) (V1 V2 : Int) (w : World) (hT : Tab w) (h1 : N8 w b1 a1 n1 k1 ex1 L V1) (h2 : N8 w b2 a2 n2 k2 ex2 L V2) (hL : 4611686018427387904 ≤ L) :
    Calls Tryz.prog 8 #[.agg #[.bool b1, .slice a1 n1 k1, .int .i64 ex1], .agg #[.bool b2, .slice a2 n2 k2, .int .i64 ex2]] w fun e w' => SAns w e w' (if V2 < V1 then 100 else 0) L V1 V2 := by
  rw [← h1.fltN h2]
  obtain ⟨X, rfl, hA, f1, hE1, rfl⟩ := h1
  obtain ⟨Y, rfl, hB, f2, hE2, rfl⟩ := h2
  exact smakeV b1 a1 k1 X ex1 b2 a2 k2 Y ex2 L w hT hA hB f1 f2 hL

theorem answeredN (b1 : Bool) (a1 : Option Addr) (n1 k1 : Nat) (ex1 : Int) (b2 : Bool) (a2 : Option Addr) (n2 k2 : Nat) (ex2 : Int) (L : Nat) (V1 V2 : Int) (w : World) (hT : Tab w) (h1 : N8 w b1 a1 n1 k1 ex1 L V1) (h2 : N8 w b2 a2 n2 k2 ex2 L V2) (hL : 4611686018427387904 ≤ L) (ho : V1 ≤ V2) :
    Calls Tryz.prog 47 #[.agg #[.bool b1, .slice a1 n1 k1, .int .i64 ex1, .bool b2, .slice a2 n2 k2, .int .i64 ex2]] w fun e w' => SAns w e w' 0 L V1 V2 := by
  have hfl := h1.fltN h2
  rw [if_neg (by omega)] at hfl
  obtain ⟨X, rfl, hA, f1, hE1, rfl⟩ := h1
  obtain ⟨Y, rfl, hB, f2, hE2, rfl⟩ := h2
  obtain ⟨o, c, hc, hx⟩ := cmpOf_any b1 a1 k1 X ex1 b2 a2 k2 Y ex2 L w hA hB f1 f2 hL
  rw [hfl] at hx
  have hoc : o ≤ 0 ∧ c = 0 := by
    unfold fltC at hx
    split at hx
    · split at hx
      · omega
      · omega
    · omega
  obtain ⟨ho', rfl⟩ := hoc
  have r1 := (fitE_iff ex1).1 hE1
  have r2 := (fitE_iff ex2).1 hE2
  refine (answered_ok b1 a1 k1 X ex1 b2 a2 k2 Y ex2 o w hc ho' hT hA hB (by omega) (by omega) hE1 hE2).mono fun e w' h => ?_
  obtain ⟨⟨p1, x1, y1, z1, q1, p2, x2, y2, z2, q2, cc, he, hs⟩, hb⟩ := h
  exact ⟨⟨p1, x1, y1, z1, q1, p2, x2, y2, z2, q2, cc, he, .inr ⟨rfl, _, _, _, _, hs, (Rp.make L (zz b1 (val X)) ex1 (by omega)).norm, nr8_of _ _, (Rp.make L (zz b2 (val Y)) ex2 (by omega)).norm, nr8_of _ _⟩⟩, hb⟩

set_option maxRecDepth 20000 in
set_option maxHeartbeats 8000000 in
theorem smin_bad (b1 : Bool) (a1 : Option Addr) (n1 k1 : Nat) (ex1 : Int) (b2 : Bool) (a2 : Option Addr) (n2 k2 : Nat) (ex2 : Int) (b3 : Bool) (a3 : Option Addr) (n3 k3 : Nat) (ex3 : Int) (b4 : Bool) (a4 : Option Addr) (n4 k4 : Nat) (ex4 : Int) (F : Int) (L : Nat) (V1 V2 : Int) (w : World) (hF : FltOf2 w b1 a1 n1 k1 ex1 b2 a2 n2 k2 ex2 b3 a3 n3 k3 ex3 b4 a4 n4 k4 ex4 F) (h0 : F ≠ 0) :
    Calls Tryz.prog 18 #[.agg #[.bool b1, .slice a1 n1 k1, .int .i64 ex1, .bool b2, .slice a2 n2 k2, .int .i64 ex2], .agg #[.bool b3, .slice a3 n3 k3, .int .i64 ex3, .bool b4, .slice a4 n4 k4, .int .i64 ex4]] w fun e w' => SAns w e w' F L V1 V2 := by
  obtain ⟨w0, hw0, hb0, q0, q1, q9⟩ := enter3 w (.cells #[.bool b1, .slice a1 n1 k1, .int .i64 ex1, .bool b2, .slice a2 n2 k2, .int .i64 ex2] 33) (.cells #[.bool b3, .slice a3 n3 k3, .int .i64 ex3, .bool b4, .slice a4 n4 k4, .int .i64 ex4] 33) (.cells #[.bool false, .slice none 0 0, .int .i64 0, .bool false, .slice none 0 0, .int .i64 0] 33)
  obtain ⟨w1, hw1, hb1, qf⟩ := enter1 w0 (.cells #[.bool b1, .slice a1 n1 k1, .int .i64 ex1, .bool b2, .slice a2 n2 k2, .int .i64 ex2, .bool b3, .slice a3 n3 k3, .int .i64 ex3, .bool b4, .slice a4 n4 k4, .int .i64 ex4] 33)
  have CF := hF w1 w0.heap.size (bl_trans8 hb0 hb1) qf
  have HU := hide (bl_trans8 hb0 hb1)
  obtain ⟨y0, y1, y2, y3, y4, y5⟩ := hexa q0
  obtain ⟨y6, y7, y8, y9, y10, y11⟩ := hexa q1
  have HQ0 := hide (block_upW hb1 q0)
  have HQ1 := hide (block_upW hb1 q1)
  have HQ9 : Hid (w1.heap[w.heap.size + 1 + 1]? = some (.cells #[.bool false, .slice none 0 0, .int .i64 0, .bool false, .slice none 0 0, .int .i64 0] 33)) := hide (block_upW hb1 q9)
  clear qf hb0 hb1 hF q0 q1 q9
  have i9 : (F != 0) = true := by simpa using h0
  have H0 := hide h0
  clear h0
  go_enter Tryz.func18, Tryz.ntmps18
  go_wp2_with fail
  refine CF.mono ?_
  rintro e t2 ⟨rfl, g2⟩
  have HG := hide (bl_trans8 HU.out g2)
  have HP0 := hide (block_upW g2 HQ0.out)
  have HP1 := hide (block_upW g2 HQ1.out)
  have HC1 := hide (block_upW g2 HQ9.out)
  have HZS : Hid (w.heap.size + 1 + 1 < t2.heap.size) := hide (lt_of_block HC1.out)
  clear g2 CF y0 y1 y2 y3 y4 y5 y6 y7 y8 y9 y10 y11 hw0 hw1 HQ0 HQ1 HQ9
  have hf1 := hexaf HC1.out
  obtain ⟨m0, m1, m2, m3, m4, m5⟩ := hexa HC1.out
  go_wp2
  have T3 := hexa_all HC1.out (.bool false) (.slice none 0 0) (.int .i64 0) (.bool false) (.slice none 0 0) (.int .i64 0)
  have T4 := below_hexa HG.out (show w.heap.size ≤ w.heap.size + 1 + 1 by omega) (.bool false) (.slice none 0 0) (.int .i64 0) (.bool false) (.slice none 0 0) (.int .i64 0)
  obtain ⟨p0, p1, p2, p3, p4, p5⟩ := hexa T3
  have HE := hide T4
  clear T3 T4
  generalize (((((t2.setCell ⟨w.heap.size + 1 + 1, 0, none⟩ (.bool false)).setCell ⟨w.heap.size + 1 + 1, 1, none⟩ (.slice none 0 0)).setCell ⟨w.heap.size + 1 + 1, 2, none⟩ (.int .i64 0)).setCell ⟨w.heap.size + 1 + 1, 3, none⟩ (.bool false)).setCell ⟨w.heap.size + 1 + 1, 4, none⟩ (.slice none 0 0)).setCell ⟨w.heap.size + 1 + 1, 5, none⟩ (.int .i64 0) = w5 at *
  refine bodyPost_ret (v := .tuple #[.agg #[.bool false, .slice none 0 0, .int .i64 0, .bool false, .slice none 0 0, .int .i64 0], .int .i64 F]) (by simp [results, Tryz.results18, go_sem, p0, p1, p2, p3, p4, p5]) rfl ?_
  exact ⟨⟨_, _, _, _, _, _, _, _, _, _, _, rfl, .inl ⟨H0.out, rfl, rfl, rfl, rfl, rfl, rfl, rfl⟩⟩, HE.out⟩

set_option maxRecDepth 20000 in
set_option maxHeartbeats 8000000 in
theorem smax_bad (b1 : Bool) (a1 : Option Addr) (n1 k1 : Nat) (ex1 : Int) (b2 : Bool) (a2 : Option Addr) (n2 k2 : Nat) (ex2 : Int) (b3 : Bool) (a3 : Option Addr) (n3 k3 : Nat) (ex3 : Int) (b4 : Bool) (a4 : Option Addr) (n4 k4 : Nat) (ex4 : Int) (F : Int) (L : Nat) (V1 V2 : Int) (w : World) (hF : FltOf2 w b1 a1 n1 k1 ex1 b2 a2 n2 k2 ex2 b3 a3 n3 k3 ex3 b4 a4 n4 k4 ex4 F) (h0 : F ≠ 0) :
    Calls Tryz.prog 19 #[.agg #[.bool b1, .slice a1 n1 k1, .int .i64 ex1, .bool b2, .slice a2 n2 k2, .int .i64 ex2], .agg #[.bool b3, .slice a3 n3 k3, .int .i64 ex3, .bool b4, .slice a4 n4 k4, .int .i64 ex4]] w fun e w' => SAns w e w' F L V1 V2 := by
  obtain ⟨w0, hw0, hb0, q0, q1, q9⟩ := enter3 w (.cells #[.bool b1, .slice a1 n1 k1, .int .i64 ex1, .bool b2, .slice a2 n2 k2, .int .i64 ex2] 33) (.cells #[.bool b3, .slice a3 n3 k3, .int .i64 ex3, .bool b4, .slice a4 n4 k4, .int .i64 ex4] 33) (.cells #[.bool false, .slice none 0 0, .int .i64 0, .bool false, .slice none 0 0, .int .i64 0] 33)
  obtain ⟨w1, hw1, hb1, qf⟩ := enter1 w0 (.cells #[.bool b1, .slice a1 n1 k1, .int .i64 ex1, .bool b2, .slice a2 n2 k2, .int .i64 ex2, .bool b3, .slice a3 n3 k3, .int .i64 ex3, .bool b4, .slice a4 n4 k4, .int .i64 ex4] 33)
  have CF := hF w1 w0.heap.size (bl_trans8 hb0 hb1) qf
  have HU := hide (bl_trans8 hb0 hb1)
  obtain ⟨y0, y1, y2, y3, y4, y5⟩ := hexa q0
  obtain ⟨y6, y7, y8, y9, y10, y11⟩ := hexa q1
  have HQ0 := hide (block_upW hb1 q0)
  have HQ1 := hide (block_upW hb1 q1)
  have HQ9 : Hid (w1.heap[w.heap.size + 1 + 1]? = some (.cells #[.bool false, .slice none 0 0, .int .i64 0, .bool false, .slice none 0 0, .int .i64 0] 33)) := hide (block_upW hb1 q9)
  clear qf hb0 hb1 hF q0 q1 q9
  have i9 : (F != 0) = true := by simpa using h0
  have H0 := hide h0
  clear h0
  go_enter Tryz.func19, Tryz.ntmps19
  go_wp2_with fail
  refine CF.mono ?_
  rintro e t2 ⟨rfl, g2⟩
  have HG := hide (bl_trans8 HU.out g2)
  have HP0 := hide (block_upW g2 HQ0.out)
  have HP1 := hide (block_upW g2 HQ1.out)
  have HC1 := hide (block_upW g2 HQ9.out)
  have HZS : Hid (w.heap.size + 1 + 1 < t2.heap.size) := hide (lt_of_block HC1.out)
  clear g2 CF y0 y1 y2 y3 y4 y5 y6 y7 y8 y9 y10 y11 hw0 hw1 HQ0 HQ1 HQ9
  have hf1 := hexaf HC1.out
  obtain ⟨m0, m1, m2, m3, m4, m5⟩ := hexa HC1.out
  go_wp2
  have T3 := hexa_all HC1.out (.bool false) (.slice none 0 0) (.int .i64 0) (.bool false) (.slice none 0 0) (.int .i64 0)
  have T4 := below_hexa HG.out (show w.heap.size ≤ w.heap.size + 1 + 1 by omega) (.bool false) (.slice none 0 0) (.int .i64 0) (.bool false) (.slice none 0 0) (.int .i64 0)
  obtain ⟨p0, p1, p2, p3, p4, p5⟩ := hexa T3
  have HE := hide T4
  clear T3 T4
  generalize (((((t2.setCell ⟨w.heap.size + 1 + 1, 0, none⟩ (.bool false)).setCell ⟨w.heap.size + 1 + 1, 1, none⟩ (.slice none 0 0)).setCell ⟨w.heap.size + 1 + 1, 2, none⟩ (.int .i64 0)).setCell ⟨w.heap.size + 1 + 1, 3, none⟩ (.bool false)).setCell ⟨w.heap.size + 1 + 1, 4, none⟩ (.slice none 0 0)).setCell ⟨w.heap.size + 1 + 1, 5, none⟩ (.int .i64 0) = w5 at *
  refine bodyPost_ret (v := .tuple #[.agg #[.bool false, .slice none 0 0, .int .i64 0, .bool false, .slice none 0 0, .int .i64 0], .int .i64 F]) (by simp [results, Tryz.results19, go_sem, p0, p1, p2, p3, p4, p5]) rfl ?_
  exact ⟨⟨_, _, _, _, _, _, _, _, _, _, _, rfl, .inl ⟨H0.out, rfl, rfl, rfl, rfl, rfl, rfl, rfl⟩⟩, HE.out⟩

set_option maxRecDepth 20000 in
set_option maxHeartbeats 8000000 in
theorem shull_bad (b1 : Bool) (a1 : Option Addr) (n1 k1 : Nat) (ex1 : Int) (b2 : Bool) (a2 : Option Addr) (n2 k2 : Nat) (ex2 : Int) (b3 : Bool) (a3 : Option Addr) (n3 k3 : Nat) (ex3 : Int) (b4 : Bool) (a4 : Option Addr) (n4 k4 : Nat) (ex4 : Int) (F : Int) (L : Nat) (V1 V2 : Int) (w : World) (hF : FltOf2 w b1 a1 n1 k1 ex1 b2 a2 n2 k2 ex2 b3 a3 n3 k3 ex3 b4 a4 n4 k4 ex4 F) (h0 : F ≠ 0) :
    Calls Tryz.prog 20 #[.agg #[.bool b1, .slice a1 n1 k1, .int .i64 ex1, .bool b2, .slice a2 n2 k2, .int .i64 ex2], .agg #[.bool b3, .slice a3 n3 k3, .int .i64 ex3, .bool b4, .slice a4 n4 k4, .int .i64 ex4]] w fun e w' => SAns w e w' F L V1 V2 := by
  obtain ⟨w0, hw0, hb0, q0, q1, q9⟩ := enter3 w (.cells #[.bool b1, .slice a1 n1 k1, .int .i64 ex1, .bool b2, .slice a2 n2 k2, .int .i64 ex2] 33) (.cells #[.bool b3, .slice a3 n3 k3, .int .i64 ex3, .bool b4, .slice a4 n4 k4, .int .i64 ex4] 33) (.cells #[.bool false, .slice none 0 0, .int .i64 0, .bool false, .slice none 0 0, .int .i64 0] 33)
  obtain ⟨w1, hw1, hb1, qf⟩ := enter1 w0 (.cells #[.bool b1, .slice a1 n1 k1, .int .i64 ex1, .bool b2, .slice a2 n2 k2, .int .i64 ex2, .bool b3, .slice a3 n3 k3, .int .i64 ex3, .bool b4, .slice a4 n4 k4, .int .i64 ex4] 33)
  have CF := hF w1 w0.heap.size (bl_trans8 hb0 hb1) qf
  have HU := hide (bl_trans8 hb0 hb1)
  obtain ⟨y0, y1, y2, y3, y4, y5⟩ := hexa q0
  obtain ⟨y6, y7, y8, y9, y10, y11⟩ := hexa q1
  have HQ0 := hide (block_upW hb1 q0)
  have HQ1 := hide (block_upW hb1 q1)
  have HQ9 : Hid (w1.heap[w.heap.size + 1 + 1]? = some (.cells #[.bool false, .slice none 0 0, .int .i64 0, .bool false, .slice none 0 0, .int .i64 0] 33)) := hide (block_upW hb1 q9)
  clear qf hb0 hb1 hF q0 q1 q9
  have i9 : (F != 0) = true := by simpa using h0
  have H0 := hide h0
  clear h0
  go_enter Tryz.func20, Tryz.ntmps20
  go_wp2_with fail
  refine CF.mono ?_
  rintro e t2 ⟨rfl, g2⟩
  have HG := hide (bl_trans8 HU.out g2)
  have HP0 := hide (block_upW g2 HQ0.out)
  have HP1 := hide (block_upW g2 HQ1.out)
  have HC1 := hide (block_upW g2 HQ9.out)
  have HZS : Hid (w.heap.size + 1 + 1 < t2.heap.size) := hide (lt_of_block HC1.out)
  clear g2 CF y0 y1 y2 y3 y4 y5 y6 y7 y8 y9 y10 y11 hw0 hw1 HQ0 HQ1 HQ9
  have hf1 := hexaf HC1.out
  obtain ⟨m0, m1, m2, m3, m4, m5⟩ := hexa HC1.out
  go_wp2
  have T3 := hexa_all HC1.out (.bool false) (.slice none 0 0) (.int .i64 0) (.bool false) (.slice none 0 0) (.int .i64 0)
  have T4 := below_hexa HG.out (show w.heap.size ≤ w.heap.size + 1 + 1 by omega) (.bool false) (.slice none 0 0) (.int .i64 0) (.bool false) (.slice none 0 0) (.int .i64 0)
  obtain ⟨p0, p1, p2, p3, p4, p5⟩ := hexa T3
  have HE := hide T4
  clear T3 T4
  generalize (((((t2.setCell ⟨w.heap.size + 1 + 1, 0, none⟩ (.bool false)).setCell ⟨w.heap.size + 1 + 1, 1, none⟩ (.slice none 0 0)).setCell ⟨w.heap.size + 1 + 1, 2, none⟩ (.int .i64 0)).setCell ⟨w.heap.size + 1 + 1, 3, none⟩ (.bool false)).setCell ⟨w.heap.size + 1 + 1, 4, none⟩ (.slice none 0 0)).setCell ⟨w.heap.size + 1 + 1, 5, none⟩ (.int .i64 0) = w5 at *
  refine bodyPost_ret (v := .tuple #[.agg #[.bool false, .slice none 0 0, .int .i64 0, .bool false, .slice none 0 0, .int .i64 0], .int .i64 F]) (by simp [results, Tryz.results20, go_sem, p0, p1, p2, p3, p4, p5]) rfl ?_
  exact ⟨⟨_, _, _, _, _, _, _, _, _, _, _, rfl, .inl ⟨H0.out, rfl, rfl, rfl, rfl, rfl, rfl, rfl⟩⟩, HE.out⟩

set_option maxRecDepth 20000 in
set_option maxHeartbeats 8000000 in
theorem smeet_bad (b1 : Bool) (a1 : Option Addr) (n1 k1 : Nat) (ex1 : Int) (b2 : Bool) (a2 : Option Addr) (n2 k2 : Nat) (ex2 : Int) (b3 : Bool) (a3 : Option Addr) (n3 k3 : Nat) (ex3 : Int) (b4 : Bool) (a4 : Option Addr) (n4 k4 : Nat) (ex4 : Int) (F : Int) (L : Nat) (V1 V2 : Int) (w : World) (hF : FltOf2 w b1 a1 n1 k1 ex1 b2 a2 n2 k2 ex2 b3 a3 n3 k3 ex3 b4 a4 n4 k4 ex4 F) (h0 : F ≠ 0) :
    Calls Tryz.prog 21 #[.agg #[.bool b1, .slice a1 n1 k1, .int .i64 ex1, .bool b2, .slice a2 n2 k2, .int .i64 ex2], .agg #[.bool b3, .slice a3 n3 k3, .int .i64 ex3, .bool b4, .slice a4 n4 k4, .int .i64 ex4]] w fun e w' => SAns w e w' F L V1 V2 := by
  obtain ⟨w0, hw0, hb0, q0, q1, q9⟩ := enter3 w (.cells #[.bool b1, .slice a1 n1 k1, .int .i64 ex1, .bool b2, .slice a2 n2 k2, .int .i64 ex2] 33) (.cells #[.bool b3, .slice a3 n3 k3, .int .i64 ex3, .bool b4, .slice a4 n4 k4, .int .i64 ex4] 33) (.cells #[.bool false, .slice none 0 0, .int .i64 0, .bool false, .slice none 0 0, .int .i64 0] 33)
  obtain ⟨w1, hw1, hb1, qf⟩ := enter1 w0 (.cells #[.bool b1, .slice a1 n1 k1, .int .i64 ex1, .bool b2, .slice a2 n2 k2, .int .i64 ex2, .bool b3, .slice a3 n3 k3, .int .i64 ex3, .bool b4, .slice a4 n4 k4, .int .i64 ex4] 33)
  have CF := hF w1 w0.heap.size (bl_trans8 hb0 hb1) qf
  have HU := hide (bl_trans8 hb0 hb1)
  obtain ⟨y0, y1, y2, y3, y4, y5⟩ := hexa q0
  obtain ⟨y6, y7, y8, y9, y10, y11⟩ := hexa q1
  have HQ0 := hide (block_upW hb1 q0)
  have HQ1 := hide (block_upW hb1 q1)
  have HQ9 : Hid (w1.heap[w.heap.size + 1 + 1]? = some (.cells #[.bool false, .slice none 0 0, .int .i64 0, .bool false, .slice none 0 0, .int .i64 0] 33)) := hide (block_upW hb1 q9)
  clear qf hb0 hb1 hF q0 q1 q9
  have i9 : (F != 0) = true := by simpa using h0
  have H0 := hide h0
  clear h0
  go_enter Tryz.func21, Tryz.ntmps21
  go_wp2_with fail
  refine CF.mono ?_
  rintro e t2 ⟨rfl, g2⟩
  have HG := hide (bl_trans8 HU.out g2)
  have HP0 := hide (block_upW g2 HQ0.out)
  have HP1 := hide (block_upW g2 HQ1.out)
  have HC1 := hide (block_upW g2 HQ9.out)
  have HZS : Hid (w.heap.size + 1 + 1 < t2.heap.size) := hide (lt_of_block HC1.out)
  clear g2 CF y0 y1 y2 y3 y4 y5 y6 y7 y8 y9 y10 y11 hw0 hw1 HQ0 HQ1 HQ9
  have hf1 := hexaf HC1.out
  obtain ⟨m0, m1, m2, m3, m4, m5⟩ := hexa HC1.out
  go_wp2
  have T3 := hexa_all HC1.out (.bool false) (.slice none 0 0) (.int .i64 0) (.bool false) (.slice none 0 0) (.int .i64 0)
  have T4 := below_hexa HG.out (show w.heap.size ≤ w.heap.size + 1 + 1 by omega) (.bool false) (.slice none 0 0) (.int .i64 0) (.bool false) (.slice none 0 0) (.int .i64 0)
  obtain ⟨p0, p1, p2, p3, p4, p5⟩ := hexa T3
  have HE := hide T4
  clear T3 T4
  generalize (((((t2.setCell ⟨w.heap.size + 1 + 1, 0, none⟩ (.bool false)).setCell ⟨w.heap.size + 1 + 1, 1, none⟩ (.slice none 0 0)).setCell ⟨w.heap.size + 1 + 1, 2, none⟩ (.int .i64 0)).setCell ⟨w.heap.size + 1 + 1, 3, none⟩ (.bool false)).setCell ⟨w.heap.size + 1 + 1, 4, none⟩ (.slice none 0 0)).setCell ⟨w.heap.size + 1 + 1, 5, none⟩ (.int .i64 0) = w5 at *
  refine bodyPost_ret (v := .tuple #[.agg #[.bool false, .slice none 0 0, .int .i64 0, .bool false, .slice none 0 0, .int .i64 0], .int .i64 F]) (by simp [results, Tryz.results21, go_sem, p0, p1, p2, p3, p4, p5]) rfl ?_
  exact ⟨⟨_, _, _, _, _, _, _, _, _, _, _, rfl, .inl ⟨H0.out, rfl, rfl, rfl, rfl, rfl, rfl, rfl⟩⟩, HE.out⟩

set_option maxRecDepth 20000 in
set_option maxHeartbeats 8000000 in
theorem smin_ok (b1 : Bool) (a1 : Option Addr) (n1 k1 : Nat) (ex1 : Int) (b2 : Bool) (a2 : Option Addr) (n2 k2 : Nat) (ex2 : Int) (b3 : Bool) (a3 : Option Addr) (n3 k3 : Nat) (ex3 : Int) (b4 : Bool) (a4 : Option Addr) (n4 k4 : Nat) (ex4 : Int) (L : Nat) (V1 V2 V3 V4 : Int) (w : World) (hF : FltOf2 w b1 a1 n1 k1 ex1 b2 a2 n2 k2 ex2 b3 a3 n3 k3 ex3 b4 a4 n4 k4 ex4 0) (h1 : N8 w b1 a1 n1 k1 ex1 L V1) (h2 : N8 w b2 a2 n2 k2 ex2 L V2) (h3 : N8 w b3 a3 n3 k3 ex3 L V3) (h4 : N8 w b4 a4 n4 k4 ex4 L V4) (hT : Tab w) (hL : 4611686018427387904 ≤ L) (o1 : V1 ≤ V2) (o2 : V3 ≤ V4) :
    Calls Tryz.prog 18 #[.agg #[.bool b1, .slice a1 n1 k1, .int .i64 ex1, .bool b2, .slice a2 n2 k2, .int .i64 ex2], .agg #[.bool b3, .slice a3 n3 k3, .int .i64 ex3, .bool b4, .slice a4 n4 k4, .int .i64 ex4]] w fun e w' => SAns w e w' 0 L (min V1 V3) (min V2 V4) := by
  obtain ⟨w0, hw0, hb0, q0, q1, q9⟩ := enter3 w (.cells #[.bool b1, .slice a1 n1 k1, .int .i64 ex1, .bool b2, .slice a2 n2 k2, .int .i64 ex2] 33) (.cells #[.bool b3, .slice a3 n3 k3, .int .i64 ex3, .bool b4, .slice a4 n4 k4, .int .i64 ex4] 33) (.cells #[.bool false, .slice none 0 0, .int .i64 0, .bool false, .slice none 0 0, .int .i64 0] 33)
  obtain ⟨w1, hw1, hb1, qf⟩ := enter1 w0 (.cells #[.bool b1, .slice a1 n1 k1, .int .i64 ex1, .bool b2, .slice a2 n2 k2, .int .i64 ex2, .bool b3, .slice a3 n3 k3, .int .i64 ex3, .bool b4, .slice a4 n4 k4, .int .i64 ex4] 33)
  have CF := hF w1 w0.heap.size (bl_trans8 hb0 hb1) qf
  have HU := hide (bl_trans8 hb0 hb1)
  obtain ⟨y0, y1, y2, y3, y4, y5⟩ := hexa q0
  obtain ⟨y6, y7, y8, y9, y10, y11⟩ := hexa q1
  have HQ0 := hide (block_upW hb1 q0)
  have HQ1 := hide (block_upW hb1 q1)
  have HQ9 : Hid (w1.heap[w.heap.size + 1 + 1]? = some (.cells #[.bool false, .slice none 0 0, .int .i64 0, .bool false, .slice none 0 0, .int .i64 0] 33)) := hide (block_upW hb1 q9)
  clear qf hb0 hb1 hF q0 q1 q9
  have HNN := hide (And.intro h1 (And.intro h2 (And.intro h3 h4)))
  have HT := hide hT
  have LL : Hid (4611686018427387904 ≤ L) := hide hL
  have OO := hide (And.intro o1 o2)
  clear h1 h2 h3 h4 hT hL o1 o2
  go_enter Tryz.func18, Tryz.ntmps18
  go_wp2_with fail
  refine CF.mono ?_
  rintro e t2 ⟨rfl, g2⟩
  have HG := hide (bl_trans8 HU.out g2)
  have HP0 := hide (block_upW g2 HQ0.out)
  have HP1 := hide (block_upW g2 HQ1.out)
  have HC1 := hide (block_upW g2 HQ9.out)
  have HZS : Hid (w.heap.size + 1 + 1 < t2.heap.size) := hide (lt_of_block HC1.out)
  clear g2 CF y0 y1 y2 y3 y4 y5 y6 y7 y8 y9 y10 y11 hw0 hw1 HQ0 HQ1 HQ9
  have KS := hide (fun (W : World) (hg : Below t2.heap.size t2 W) => show W.cell? ⟨w.heap.size, 0, none⟩ = some (.bool b1) ∧ W.cell? ⟨w.heap.size, 1, none⟩ = some (.slice a1 n1 k1) ∧ W.cell? ⟨w.heap.size, 2, none⟩ = some (.int .i64 ex1) ∧ W.cell? ⟨w.heap.size, 3, none⟩ = some (.bool b2) ∧ W.cell? ⟨w.heap.size, 4, none⟩ = some (.slice a2 n2 k2) ∧ W.cell? ⟨w.heap.size, 5, none⟩ = some (.int .i64 ex2) ∧ W.cell? ⟨w.heap.size + 1, 0, none⟩ = some (.bool b3) ∧ W.cell? ⟨w.heap.size + 1, 1, none⟩ = some (.slice a3 n3 k3) ∧ W.cell? ⟨w.heap.size + 1, 2, none⟩ = some (.int .i64 ex3) ∧ W.cell? ⟨w.heap.size + 1, 3, none⟩ = some (.bool b4) ∧ W.cell? ⟨w.heap.size + 1, 4, none⟩ = some (.slice a4 n4 k4) ∧ W.cell? ⟨w.heap.size + 1, 5, none⟩ = some (.int .i64 ex4) from (by
    obtain ⟨x0, x1, x2, x3, x4, x5⟩ := hexa (block_upW hg HP0.out)
    obtain ⟨z0, z1, z2, z3, z4, z5⟩ := hexa (block_upW hg HP1.out)
    exact ⟨x0, x1, x2, x3, x4, x5, z0, z1, z2, z3, z4, z5⟩))
  have KT := hide (fun (W : World) (hg : Below t2.heap.size t2 W) (u0 u1 u2 u3 u4 u5 : Value) => show (((((((W.setCell ⟨w.heap.size + 1 + 1, 0, none⟩ u0).setCell ⟨w.heap.size + 1 + 1, 1, none⟩ u1).setCell ⟨w.heap.size + 1 + 1, 2, none⟩ u2).setCell ⟨w.heap.size + 1 + 1, 3, none⟩ u3).setCell ⟨w.heap.size + 1 + 1, 4, none⟩ u4).setCell ⟨w.heap.size + 1 + 1, 5, none⟩ u5)).cell? ⟨w.heap.size, 0, none⟩ = some (.bool b1) ∧ (((((((W.setCell ⟨w.heap.size + 1 + 1, 0, none⟩ u0).setCell ⟨w.heap.size + 1 + 1, 1, none⟩ u1).setCell ⟨w.heap.size + 1 + 1, 2, none⟩ u2).setCell ⟨w.heap.size + 1 + 1, 3, none⟩ u3).setCell ⟨w.heap.size + 1 + 1, 4, none⟩ u4).setCell ⟨w.heap.size + 1 + 1, 5, none⟩ u5)).cell? ⟨w.heap.size, 1, none⟩ = some (.slice a1 n1 k1) ∧ (((((((W.setCell ⟨w.heap.size + 1 + 1, 0, none⟩ u0).setCell ⟨w.heap.size + 1 + 1, 1, none⟩ u1).setCell ⟨w.heap.size + 1 + 1, 2, none⟩ u2).setCell ⟨w.heap.size + 1 + 1, 3, none⟩ u3).setCell ⟨w.heap.size + 1 + 1, 4, none⟩ u4).setCell ⟨w.heap.size + 1 + 1, 5, none⟩ u5)).cell? ⟨w.heap.size, 2, none⟩ = some (.int .i64 ex1) ∧ (((((((W.setCell ⟨w.heap.size + 1 + 1, 0, none⟩ u0).setCell ⟨w.heap.size + 1 + 1, 1, none⟩ u1).setCell ⟨w.heap.size + 1 + 1, 2, none⟩ u2).setCell ⟨w.heap.size + 1 + 1, 3, none⟩ u3).setCell ⟨w.heap.size + 1 + 1, 4, none⟩ u4).setCell ⟨w.heap.size + 1 + 1, 5, none⟩ u5)).cell? ⟨w.heap.size, 3, none⟩ = some (.bool b2) ∧ (((((((W.setCell ⟨w.heap.size + 1 + 1, 0, none⟩ u0).setCell ⟨w.heap.size + 1 + 1, 1, none⟩ u1).setCell ⟨w.heap.size + 1 + 1, 2, none⟩ u2).setCell ⟨w.heap.size + 1 + 1, 3, none⟩ u3).setCell ⟨w.heap.size + 1 + 1, 4, none⟩ u4).setCell ⟨w.heap.size + 1 + 1, 5, none⟩ u5)).cell? ⟨w.heap.size, 4, none⟩ = some (.slice a2 n2 k2) ∧ (((((((W.setCell ⟨w.heap.size + 1 + 1, 0, none⟩ u0).setCell ⟨w.heap.size + 1 + 1, 1, none⟩ u1).setCell ⟨w.heap.size + 1 + 1, 2, none⟩ u2).setCell ⟨w.heap.size + 1 + 1, 3, none⟩ u3).setCell ⟨w.heap.size + 1 + 1, 4, none⟩ u4).setCell ⟨w.heap.size + 1 + 1, 5, none⟩ u5)).cell? ⟨w.heap.size, 5, none⟩ = some (.int .i64 ex2) ∧ (((((((W.setCell ⟨w.heap.size + 1 + 1, 0, none⟩ u0).setCell ⟨w.heap.size + 1 + 1, 1, none⟩ u1).setCell ⟨w.heap.size + 1 + 1, 2, none⟩ u2).setCell ⟨w.heap.size + 1 + 1, 3, none⟩ u3).setCell ⟨w.heap.size + 1 + 1, 4, none⟩ u4).setCell ⟨w.heap.size + 1 + 1, 5, none⟩ u5)).cell? ⟨w.heap.size + 1, 0, none⟩ = some (.bool b3) ∧ (((((((W.setCell ⟨w.heap.size + 1 + 1, 0, none⟩ u0).setCell ⟨w.heap.size + 1 + 1, 1, none⟩ u1).setCell ⟨w.heap.size + 1 + 1, 2, none⟩ u2).setCell ⟨w.heap.size + 1 + 1, 3, none⟩ u3).setCell ⟨w.heap.size + 1 + 1, 4, none⟩ u4).setCell ⟨w.heap.size + 1 + 1, 5, none⟩ u5)).cell? ⟨w.heap.size + 1, 1, none⟩ = some (.slice a3 n3 k3) ∧ (((((((W.setCell ⟨w.heap.size + 1 + 1, 0, none⟩ u0).setCell ⟨w.heap.size + 1 + 1, 1, none⟩ u1).setCell ⟨w.heap.size + 1 + 1, 2, none⟩ u2).setCell ⟨w.heap.size + 1 + 1, 3, none⟩ u3).setCell ⟨w.heap.size + 1 + 1, 4, none⟩ u4).setCell ⟨w.heap.size + 1 + 1, 5, none⟩ u5)).cell? ⟨w.heap.size + 1, 2, none⟩ = some (.int .i64 ex3) ∧ (((((((W.setCell ⟨w.heap.size + 1 + 1, 0, none⟩ u0).setCell ⟨w.heap.size + 1 + 1, 1, none⟩ u1).setCell ⟨w.heap.size + 1 + 1, 2, none⟩ u2).setCell ⟨w.heap.size + 1 + 1, 3, none⟩ u3).setCell ⟨w.heap.size + 1 + 1, 4, none⟩ u4).setCell ⟨w.heap.size + 1 + 1, 5, none⟩ u5)).cell? ⟨w.heap.size + 1, 3, none⟩ = some (.bool b4) ∧ (((((((W.setCell ⟨w.heap.size + 1 + 1, 0, none⟩ u0).setCell ⟨w.heap.size + 1 + 1, 1, none⟩ u1).setCell ⟨w.heap.size + 1 + 1, 2, none⟩ u2).setCell ⟨w.heap.size + 1 + 1, 3, none⟩ u3).setCell ⟨w.heap.size + 1 + 1, 4, none⟩ u4).setCell ⟨w.heap.size + 1 + 1, 5, none⟩ u5)).cell? ⟨w.heap.size + 1, 4, none⟩ = some (.slice a4 n4 k4) ∧ (((((((W.setCell ⟨w.heap.size + 1 + 1, 0, none⟩ u0).setCell ⟨w.heap.size + 1 + 1, 1, none⟩ u1).setCell ⟨w.heap.size + 1 + 1, 2, none⟩ u2).setCell ⟨w.heap.size + 1 + 1, 3, none⟩ u3).setCell ⟨w.heap.size + 1 + 1, 4, none⟩ u4).setCell ⟨w.heap.size + 1 + 1, 5, none⟩ u5)).cell? ⟨w.heap.size + 1, 5, none⟩ = some (.int .i64 ex4) from (by
    obtain ⟨x0, x1, x2, x3, x4, x5⟩ := hexa ((hexa_other (g := w.heap.size + 1 + 1) (h := w.heap.size) (by omega) u0 u1 u2 u3 u4 u5).trans (block_upW hg HP0.out))
    obtain ⟨z0, z1, z2, z3, z4, z5⟩ := hexa ((hexa_other (g := w.heap.size + 1 + 1) (h := w.heap.size + 1) (by omega) u0 u1 u2 u3 u4 u5).trans (block_upW hg HP1.out))
    exact ⟨x0, x1, x2, x3, x4, x5, z0, z1, z2, z3, z4, z5⟩))
  have HNT := hide (And.intro (HNN.out.1.below HG.out) (And.intro (HNN.out.2.1.below HG.out) (And.intro (HNN.out.2.2.1.below HG.out) (HNN.out.2.2.2.below HG.out))))
  have HTT := hide (HT.out.below HG.out)
  have g0 : Below t2.heap.size t2 t2.drew := bl_drew10 (Below.refl _ _)
  go_upto_region 4 with fail
  refine wp_region_held_drew (S := fun w' => w'.cell? ⟨w.heap.size, 0, none⟩ = some (.bool b1) ∧ w'.cell? ⟨w.heap.size, 1, none⟩ = some (.slice a1 n1 k1) ∧ w'.cell? ⟨w.heap.size, 2, none⟩ = some (.int .i64 ex1) ∧ w'.cell? ⟨w.heap.size, 3, none⟩ = some (.bool b2) ∧ w'.cell? ⟨w.heap.size, 4, none⟩ = some (.slice a2 n2 k2) ∧ w'.cell? ⟨w.heap.size, 5, none⟩ = some (.int .i64 ex2) ∧ w'.cell? ⟨w.heap.size + 1, 0, none⟩ = some (.bool b3) ∧ w'.cell? ⟨w.heap.size + 1, 1, none⟩ = some (.slice a3 n3 k3) ∧ w'.cell? ⟨w.heap.size + 1, 2, none⟩ = some (.int .i64 ex3) ∧ w'.cell? ⟨w.heap.size + 1, 3, none⟩ = some (.bool b4) ∧ w'.cell? ⟨w.heap.size + 1, 4, none⟩ = some (.slice a4 n4 k4) ∧ w'.cell? ⟨w.heap.size + 1, 5, none⟩ = some (.int .i64 ex4)) (by kernel_rfl) (KS.out _ (g0)) (fun hHeld0 => ?_)
  obtain ⟨UD, hUD⟩ : ∃ x, t2.drew = x := ⟨_, rfl⟩
  have gUD : Below t2.heap.size t2 UD := by rw [← hUD]; exact (g0)
  rw [hUD] at hHeld0 ⊢
  clear hUD
  refine wpAnyH_take (i := 0) (oi := { dst := some 15, op := Op.fieldAddr 33 (Operand.tmp 2) 0, type := 0, pos := "span.go:65", after := #[], guard := none }) (v := .pointer (some ⟨w.heap.size, 0, none⟩)) rfl (by kernel_rfl) (by kernel_rfl) (by kernel_rfl) (fun _ _ _ h => h) (Or.inl ⟨by rfl, fun w9 hSw => ?_⟩) hHeld0 ?_
  · (try dsimp only at hSw); go_simp
  try simp only [Act.put, List.setIfInBounds_toArray, List.set_cons_zero, List.set_cons_succ]
  refine wpAnyH_take (i := 1) (oi := { dst := some 16, op := Op.load 31 (Operand.tmp 15), type := 31, pos := "span.go:65", after := #[{ on := 0, ground := Ground.data }], guard := none }) (v := .agg #[.bool b1, .slice a1 n1 k1, .int .i64 ex1]) rfl (by kernel_rfl) (by kernel_rfl) (by kernel_rfl) (fun _ _ _ h => h) (Or.inl ⟨by rfl, fun w9 hSw => ?_⟩) hHeld0 ?_
  · (try dsimp only at hSw); go_simp
  try simp only [Act.put, List.setIfInBounds_toArray, List.set_cons_zero, List.set_cons_succ]
  refine wpAnyH_take (i := 2) (oi := { dst := some 17, op := Op.fieldAddr 33 (Operand.tmp 3) 0, type := 0, pos := "span.go:65", after := #[], guard := none }) (v := .pointer (some ⟨w.heap.size + 1, 0, none⟩)) rfl (by kernel_rfl) (by kernel_rfl) (by kernel_rfl) (fun _ _ _ h => h) (Or.inl ⟨by rfl, fun w9 hSw => ?_⟩) hHeld0 ?_
  · (try dsimp only at hSw); go_simp
  try simp only [Act.put, List.setIfInBounds_toArray, List.set_cons_zero, List.set_cons_succ]
  refine wpAnyH_take (i := 3) (oi := { dst := some 18, op := Op.load 31 (Operand.tmp 17), type := 31, pos := "span.go:65", after := #[{ on := 2, ground := Ground.data }], guard := none }) (v := .agg #[.bool b3, .slice a3 n3 k3, .int .i64 ex3]) rfl (by kernel_rfl) (by kernel_rfl) (by kernel_rfl) (fun _ _ _ h => h) (Or.inl ⟨by rfl, fun w9 hSw => ?_⟩) hHeld0 ?_
  · (try dsimp only at hSw); go_simp
  try simp only [Act.put, List.setIfInBounds_toArray, List.set_cons_zero, List.set_cons_succ]
  refine wpAnyH_take (i := 7) (oi := { dst := some 22, op := Op.fieldAddr 33 (Operand.tmp 2) 1, type := 0, pos := "span.go:65", after := #[], guard := none }) (v := .pointer (some ⟨w.heap.size, 3, none⟩)) rfl (by kernel_rfl) (by kernel_rfl) (by kernel_rfl) (fun _ _ _ h => h) (Or.inl ⟨by rfl, fun w9 hSw => ?_⟩) hHeld0 ?_
  · (try dsimp only at hSw); go_simp
  try simp only [Act.put, List.setIfInBounds_toArray, List.set_cons_zero, List.set_cons_succ]
  refine wpAnyH_take (i := 8) (oi := { dst := some 23, op := Op.load 31 (Operand.tmp 22), type := 31, pos := "span.go:65", after := #[{ on := 7, ground := Ground.data }], guard := none }) (v := .agg #[.bool b2, .slice a2 n2 k2, .int .i64 ex2]) rfl (by kernel_rfl) (by kernel_rfl) (by kernel_rfl) (fun _ _ _ h => h) (Or.inl ⟨by rfl, fun w9 hSw => ?_⟩) hHeld0 ?_
  · (try dsimp only at hSw); go_simp
  try simp only [Act.put, List.setIfInBounds_toArray, List.set_cons_zero, List.set_cons_succ]
  refine wpAnyH_take (i := 9) (oi := { dst := some 24, op := Op.fieldAddr 33 (Operand.tmp 3) 1, type := 0, pos := "span.go:65", after := #[], guard := none }) (v := .pointer (some ⟨w.heap.size + 1, 3, none⟩)) rfl (by kernel_rfl) (by kernel_rfl) (by kernel_rfl) (fun _ _ _ h => h) (Or.inl ⟨by rfl, fun w9 hSw => ?_⟩) hHeld0 ?_
  · (try dsimp only at hSw); go_simp
  try simp only [Act.put, List.setIfInBounds_toArray, List.set_cons_zero, List.set_cons_succ]
  refine wpAnyH_take (i := 10) (oi := { dst := some 25, op := Op.load 31 (Operand.tmp 24), type := 31, pos := "span.go:65", after := #[{ on := 9, ground := Ground.data }], guard := none }) (v := .agg #[.bool b4, .slice a4 n4 k4, .int .i64 ex4]) rfl (by kernel_rfl) (by kernel_rfl) (by kernel_rfl) (fun _ _ _ h => h) (Or.inl ⟨by rfl, fun w9 hSw => ?_⟩) hHeld0 ?_
  · (try dsimp only at hSw); go_simp
  try simp only [Act.put, List.setIfInBounds_toArray, List.set_cons_zero, List.set_cons_succ]
  refine wpAnyH_ready (rs := [4, 11]) (by kernel_rfl) (by simp) ?_
  refine AllReadyH.cons rfl (fun K hK => ?_) ?_
  · skip
    go_simp
    refine hK.out _ _ (KS.out _ (bl_alloc10 gUD _)) (fun hHeld1 => ?_)
    clear hK K
    try simp only [Act.put, List.setIfInBounds_toArray, List.set_cons_zero, List.set_cons_succ]
    obtain ⟨PB1, hPB1, hbPB1, hxPB1⟩ := enter1 UD (.cells #[.bool b3, .slice a3 n3 k3, .int .i64 ex3] 31)
    rw [hPB1] at hHeld1 ⊢
    have gPB1 := bl_trans8 gUD hbPB1
    clear hPB1
    refine wpAnyH_ready (rs := [5, 11]) (by kernel_rfl) (by simp) ?_
    refine AllReadyH.cons rfl (fun K hK => ?_) ?_
    · skip
      go_simp
      refine (hull1N UD.heap.size b1 a1 n1 k1 ex1 b3 a3 n3 k3 ex3 L V1 V3 PB1 (hxPB1) (HNT.out.1.below gPB1) (HNT.out.2.2.1.below gPB1) LL.out).mono ?_
      rintro e' T2 ⟨⟨lx, lxa, lxn, lxk, lxe, ly, lya, lyn, lyk, lye, rfl, nlx, nly⟩, hbT2⟩
      have gT2 := bl_trans8 gPB1 hbT2
      refine hK.out _ _ (KS.out _ gT2) (fun hHeld2 => ?_)
      clear hK K
      try simp only [Act.put, List.setIfInBounds_toArray, List.set_cons_zero, List.set_cons_succ]
      refine wpAnyH_take (i := 6) (oi := { dst := some 21, op := Op.field 33 (Operand.tmp 20) 0, type := 31, pos := "span.go:65", after := #[{ on := 5, ground := Ground.data }], guard := none }) (v := .agg #[.bool lx, .slice lxa lxn lxk, .int .i64 lxe]) rfl (by kernel_rfl) (by kernel_rfl) (by kernel_rfl) (fun _ _ _ h => h) (Or.inl ⟨by rfl, fun w9 hSw => ?_⟩) hHeld2 ?_
      · (try dsimp only at hSw); go_simp
      try simp only [Act.put, List.setIfInBounds_toArray, List.set_cons_zero, List.set_cons_succ]
      refine wpAnyH_ready (rs := [11]) (by kernel_rfl) (by simp) ?_
      refine AllReadyH.cons rfl (fun K hK => ?_) AllReadyH.nil
      go_simp
      refine hK.out _ _ (KS.out _ (bl_alloc10 gT2 _)) (fun hHeld3 => ?_)
      clear hK K
      try simp only [Act.put, List.setIfInBounds_toArray, List.set_cons_zero, List.set_cons_succ]
      obtain ⟨PB3, hPB3, hbPB3, hxPB3⟩ := enter1 T2 (.cells #[.bool b4, .slice a4 n4 k4, .int .i64 ex4] 31)
      rw [hPB3] at hHeld3 ⊢
      have gPB3 := bl_trans8 gT2 hbPB3
      clear hPB3
      refine wpAnyH_ready (rs := [12]) (by kernel_rfl) (by simp) ?_
      refine AllReadyH.cons rfl (fun K hK => ?_) AllReadyH.nil
      go_simp
      refine (hull1N T2.heap.size b2 a2 n2 k2 ex2 b4 a4 n4 k4 ex4 L V2 V4 PB3 (hxPB3) (HNT.out.2.1.below gPB3) (HNT.out.2.2.2.below gPB3) LL.out).mono ?_
      rintro e' T4 ⟨⟨hx, hxa, hxn, hxk, hxe, hy, hya, hyn, hyk, hye, rfl, nhx, nhy⟩, hbT4⟩
      have gT4 := bl_trans8 gPB3 hbT4
      refine hK.out _ _ (KS.out _ gT4) (fun hHeld4 => ?_)
      clear hK K
      try simp only [Act.put, List.setIfInBounds_toArray, List.set_cons_zero, List.set_cons_succ]
      refine wpAnyH_take (i := 13) (oi := { dst := some 28, op := Op.field 33 (Operand.tmp 27) 0, type := 31, pos := "span.go:65", after := #[{ on := 12, ground := Ground.data }], guard := none }) (v := .agg #[.bool hx, .slice hxa hxn hxk, .int .i64 hxe]) rfl (by kernel_rfl) (by kernel_rfl) (by kernel_rfl) (fun _ _ _ h => h) (Or.inl ⟨by rfl, fun w9 hSw => ?_⟩) hHeld4 ?_
      · (try dsimp only at hSw); go_simp
      try simp only [Act.put, List.setIfInBounds_toArray, List.set_cons_zero, List.set_cons_succ]
      refine wpAnyH_ready (rs := [14]) (by kernel_rfl) (by simp) ?_
      refine AllReadyH.cons rfl (fun K hK => ?_) AllReadyH.nil
      go_simp
      refine (smakeN lx lxa lxn lxk lxe hx hxa hxn hxk hxe L (min V1 V3) (min V2 V4) T4 (HTT.out.below gT4) (nlx.below (bl_trans8 hbPB3 hbT4)) (nhx.below (Below.refl _ _)) LL.out).mono ?_
      rintro e' T5 ⟨⟨p, pa, pn, pk, pe, q, qa, qn, qk, qe, rc, rfl, hs⟩, hbT5⟩
      have gT5 := bl_trans8 gT4 hbT5
      rw [show (if (min V2 V4) < (min V1 V3) then (100 : Int) else 0) = 0 by have x1 := OO.out.1; have x2 := OO.out.2; rw [if_neg (by omega)]] at hs
      have HSR := hide (hs.base (gT4.size))
      have hz := block_upW gT5 HC1.out
      have hf := hexaf hz
      obtain ⟨m0, m1, m2, m3, m4, m5⟩ := hexa hz
      refine hK.out _ _ (KS.out _ gT5) (fun hHeld5 => ?_)
      clear hK K
      try simp only [Act.put, List.setIfInBounds_toArray, List.set_cons_zero, List.set_cons_succ]
      refine wpAnyH_take (i := 15) (oi := { dst := some 30, op := Op.extract (Operand.tmp 29) 0, type := 33, pos := "span.go:65", after := #[{ on := 14, ground := Ground.data }], guard := none }) (v := .agg #[.bool p, .slice pa pn pk, .int .i64 pe, .bool q, .slice qa qn qk, .int .i64 qe]) rfl (by kernel_rfl) (by kernel_rfl) (by kernel_rfl) (fun _ _ _ h => h) (Or.inl ⟨by rfl, fun w9 hSw => ?_⟩) hHeld5 ?_
      · (try dsimp only at hSw); go_simp
      try simp only [Act.put, List.setIfInBounds_toArray, List.set_cons_zero, List.set_cons_succ]
      refine wpAnyH_take (i := 16) (oi := { dst := some 31, op := Op.extract (Operand.tmp 29) 1, type := 37, pos := "span.go:65", after := #[{ on := 14, ground := Ground.data }], guard := none }) (v := .int .i64 rc) rfl (by kernel_rfl) (by kernel_rfl) (by kernel_rfl) (fun _ _ _ h => h) (Or.inl ⟨by rfl, fun w9 hSw => ?_⟩) hHeld5 ?_
      · (try dsimp only at hSw); go_simp
      try simp only [Act.put, List.setIfInBounds_toArray, List.set_cons_zero, List.set_cons_succ]
      refine wpAnyH_ready (rs := [17]) (by kernel_rfl) (by simp) ?_
      refine AllReadyH.cons rfl (fun K hK => ?_) AllReadyH.nil
      skip
      go_simp
      refine hK.out _ _ (KT.out _ gT5 _ _ _ _ _ _) (fun hHeld6 => ?_)
      clear hK K
      try simp only [Act.put, List.setIfInBounds_toArray, List.set_cons_zero, List.set_cons_succ]
      refine wpAnyH_take (i := 18) (oi := { dst := some 5, op := Op.assign (Operand.tmp 31), type := 37, pos := "span.go:65", after := #[{ on := 16, ground := Ground.data }, { on := 17, ground := Ground.chain }, { on := 0, ground := Ground.phase }, { on := 1, ground := Ground.phase }, { on := 2, ground := Ground.phase }, { on := 3, ground := Ground.phase }, { on := 4, ground := Ground.phase }, { on := 5, ground := Ground.phase }, { on := 6, ground := Ground.phase }, { on := 7, ground := Ground.phase }, { on := 8, ground := Ground.phase }, { on := 9, ground := Ground.phase }, { on := 10, ground := Ground.phase }, { on := 11, ground := Ground.phase }, { on := 12, ground := Ground.phase }, { on := 13, ground := Ground.phase }, { on := 14, ground := Ground.phase }, { on := 15, ground := Ground.phase }, { on := 16, ground := Ground.phase }, { on := 17, ground := Ground.phase }], guard := none }) (v := .int .i64 rc) rfl (by kernel_rfl) (by kernel_rfl) (by kernel_rfl) (fun _ _ _ h => h) (Or.inl ⟨by rfl, fun w9 hSw => ?_⟩) hHeld6 ?_
      · (try dsimp only at hSw); go_simp
      try simp only [Act.put, List.setIfInBounds_toArray, List.set_cons_zero, List.set_cons_succ]
      refine wpAnyH_done (by kernel_rfl) ?_ _
      clear hHeld0 hHeld1 hHeld2 hHeld3 hHeld4 hHeld5 hHeld6
      have HG2 := hide (bl_trans8 HG.out gT5)
      have HC2 := hide (block_upW gT5 HC1.out)
      have HSR2 := hide (HSR.out.base HG.out.size)
      clear HG HC1 HSR KS KT
      have HG := HG2
      have HC1 := HC2
      have HSR := HSR2
      clear HG2 HC2 HSR2
      have T3 := hexa_all HC1.out (.bool p) (.slice pa pn pk) (.int .i64 pe) (.bool q) (.slice qa qn qk) (.int .i64 qe)
      have T4 := below_hexa HG.out (show w.heap.size ≤ w.heap.size + 1 + 1 by omega) (.bool p) (.slice pa pn pk) (.int .i64 pe) (.bool q) (.slice qa qn qk) (.int .i64 qe)
      have T5 := HSR.out.hexa HC1.out (by decide) (.bool p) (.slice pa pn pk) (.int .i64 pe) (.bool q) (.slice qa qn qk) (.int .i64 qe)
      obtain ⟨p0, p1, p2, p3, p4, p5⟩ := hexa T3
      have HE := hide (And.intro T5 T4)
      clear T3 T4 T5 hz hf m0 m1 m2 m3 m4 m5
      generalize (((((T5.setCell ⟨w.heap.size + 1 + 1, 0, none⟩ (.bool p)).setCell ⟨w.heap.size + 1 + 1, 1, none⟩ (.slice pa pn pk)).setCell ⟨w.heap.size + 1 + 1, 2, none⟩ (.int .i64 pe)).setCell ⟨w.heap.size + 1 + 1, 3, none⟩ (.bool q)).setCell ⟨w.heap.size + 1 + 1, 4, none⟩ (.slice qa qn qk)).setCell ⟨w.heap.size + 1 + 1, 5, none⟩ (.int .i64 qe) = w5 at *
      go_wp2
      refine bodyPost_ret (v := .tuple #[.agg #[.bool p, .slice pa pn pk, .int .i64 pe, .bool q, .slice qa qn qk, .int .i64 qe], .int .i64 rc]) (by simp [results, Tryz.results18, go_sem, p0, p1, p2, p3, p4, p5]) rfl ?_
      exact ⟨⟨_, _, _, _, _, _, _, _, _, _, _, rfl, HE.out.1⟩, HE.out.2⟩
    refine AllReadyH.cons rfl (fun K hK => ?_) ?_
    · skip
      go_simp
      refine hK.out _ _ (KS.out _ (bl_alloc10 gPB1 _)) (fun hHeld7 => ?_)
      clear hK K
      try simp only [Act.put, List.setIfInBounds_toArray, List.set_cons_zero, List.set_cons_succ]
      obtain ⟨PB7, hPB7, hbPB7, hxPB7⟩ := enter1 PB1 (.cells #[.bool b4, .slice a4 n4 k4, .int .i64 ex4] 31)
      rw [hPB7] at hHeld7 ⊢
      have gPB7 := bl_trans8 gPB1 hbPB7
      clear hPB7
      refine wpAnyH_ready (rs := [5]) (by kernel_rfl) (by simp) ?_
      refine AllReadyH.cons rfl (fun K hK => ?_) AllReadyH.nil
      go_simp
      refine (hull1N UD.heap.size b1 a1 n1 k1 ex1 b3 a3 n3 k3 ex3 L V1 V3 PB7 (block_upW hbPB7 hxPB1) (HNT.out.1.below gPB7) (HNT.out.2.2.1.below gPB7) LL.out).mono ?_
      rintro e' T8 ⟨⟨lx, lxa, lxn, lxk, lxe, ly, lya, lyn, lyk, lye, rfl, nlx, nly⟩, hbT8⟩
      have gT8 := bl_trans8 gPB7 hbT8
      refine hK.out _ _ (KS.out _ gT8) (fun hHeld8 => ?_)
      clear hK K
      try simp only [Act.put, List.setIfInBounds_toArray, List.set_cons_zero, List.set_cons_succ]
      refine wpAnyH_take (i := 6) (oi := { dst := some 21, op := Op.field 33 (Operand.tmp 20) 0, type := 31, pos := "span.go:65", after := #[{ on := 5, ground := Ground.data }], guard := none }) (v := .agg #[.bool lx, .slice lxa lxn lxk, .int .i64 lxe]) rfl (by kernel_rfl) (by kernel_rfl) (by kernel_rfl) (fun _ _ _ h => h) (Or.inl ⟨by rfl, fun w9 hSw => ?_⟩) hHeld8 ?_
      · (try dsimp only at hSw); go_simp
      try simp only [Act.put, List.setIfInBounds_toArray, List.set_cons_zero, List.set_cons_succ]
      refine wpAnyH_ready (rs := [12]) (by kernel_rfl) (by simp) ?_
      refine AllReadyH.cons rfl (fun K hK => ?_) AllReadyH.nil
      go_simp
      refine (hull1N PB1.heap.size b2 a2 n2 k2 ex2 b4 a4 n4 k4 ex4 L V2 V4 T8 (block_upW hbT8 hxPB7) (HNT.out.2.1.below gT8) (HNT.out.2.2.2.below gT8) LL.out).mono ?_
      rintro e' T9 ⟨⟨hx, hxa, hxn, hxk, hxe, hy, hya, hyn, hyk, hye, rfl, nhx, nhy⟩, hbT9⟩
      have gT9 := bl_trans8 gT8 hbT9
      refine hK.out _ _ (KS.out _ gT9) (fun hHeld9 => ?_)
      clear hK K
      try simp only [Act.put, List.setIfInBounds_toArray, List.set_cons_zero, List.set_cons_succ]
      refine wpAnyH_take (i := 13) (oi := { dst := some 28, op := Op.field 33 (Operand.tmp 27) 0, type := 31, pos := "span.go:65", after := #[{ on := 12, ground := Ground.data }], guard := none }) (v := .agg #[.bool hx, .slice hxa hxn hxk, .int .i64 hxe]) rfl (by kernel_rfl) (by kernel_rfl) (by kernel_rfl) (fun _ _ _ h => h) (Or.inl ⟨by rfl, fun w9 hSw => ?_⟩) hHeld9 ?_
      · (try dsimp only at hSw); go_simp
      try simp only [Act.put, List.setIfInBounds_toArray, List.set_cons_zero, List.set_cons_succ]
      refine wpAnyH_ready (rs := [14]) (by kernel_rfl) (by simp) ?_
      refine AllReadyH.cons rfl (fun K hK => ?_) AllReadyH.nil
      go_simp
      refine (smakeN lx lxa lxn lxk lxe hx hxa hxn hxk hxe L (min V1 V3) (min V2 V4) T9 (HTT.out.below gT9) (nlx.below hbT9) (nhx.below (Below.refl _ _)) LL.out).mono ?_
      rintro e' T10 ⟨⟨p, pa, pn, pk, pe, q, qa, qn, qk, qe, rc, rfl, hs⟩, hbT10⟩
      have gT10 := bl_trans8 gT9 hbT10
      rw [show (if (min V2 V4) < (min V1 V3) then (100 : Int) else 0) = 0 by have x1 := OO.out.1; have x2 := OO.out.2; rw [if_neg (by omega)]] at hs
      have HSR := hide (hs.base (gT9.size))
      have hz := block_upW gT10 HC1.out
      have hf := hexaf hz
      obtain ⟨m0, m1, m2, m3, m4, m5⟩ := hexa hz
      refine hK.out _ _ (KS.out _ gT10) (fun hHeld10 => ?_)
      clear hK K
      try simp only [Act.put, List.setIfInBounds_toArray, List.set_cons_zero, List.set_cons_succ]
      refine wpAnyH_take (i := 15) (oi := { dst := some 30, op := Op.extract (Operand.tmp 29) 0, type := 33, pos := "span.go:65", after := #[{ on := 14, ground := Ground.data }], guard := none }) (v := .agg #[.bool p, .slice pa pn pk, .int .i64 pe, .bool q, .slice qa qn qk, .int .i64 qe]) rfl (by kernel_rfl) (by kernel_rfl) (by kernel_rfl) (fun _ _ _ h => h) (Or.inl ⟨by rfl, fun w9 hSw => ?_⟩) hHeld10 ?_
      · (try dsimp only at hSw); go_simp
      try simp only [Act.put, List.setIfInBounds_toArray, List.set_cons_zero, List.set_cons_succ]
      refine wpAnyH_take (i := 16) (oi := { dst := some 31, op := Op.extract (Operand.tmp 29) 1, type := 37, pos := "span.go:65", after := #[{ on := 14, ground := Ground.data }], guard := none }) (v := .int .i64 rc) rfl (by kernel_rfl) (by kernel_rfl) (by kernel_rfl) (fun _ _ _ h => h) (Or.inl ⟨by rfl, fun w9 hSw => ?_⟩) hHeld10 ?_
      · (try dsimp only at hSw); go_simp
      try simp only [Act.put, List.setIfInBounds_toArray, List.set_cons_zero, List.set_cons_succ]
      refine wpAnyH_ready (rs := [17]) (by kernel_rfl) (by simp) ?_
      refine AllReadyH.cons rfl (fun K hK => ?_) AllReadyH.nil
      skip
      go_simp
      refine hK.out _ _ (KT.out _ gT10 _ _ _ _ _ _) (fun hHeld11 => ?_)
      clear hK K
      try simp only [Act.put, List.setIfInBounds_toArray, List.set_cons_zero, List.set_cons_succ]
      refine wpAnyH_take (i := 18) (oi := { dst := some 5, op := Op.assign (Operand.tmp 31), type := 37, pos := "span.go:65", after := #[{ on := 16, ground := Ground.data }, { on := 17, ground := Ground.chain }, { on := 0, ground := Ground.phase }, { on := 1, ground := Ground.phase }, { on := 2, ground := Ground.phase }, { on := 3, ground := Ground.phase }, { on := 4, ground := Ground.phase }, { on := 5, ground := Ground.phase }, { on := 6, ground := Ground.phase }, { on := 7, ground := Ground.phase }, { on := 8, ground := Ground.phase }, { on := 9, ground := Ground.phase }, { on := 10, ground := Ground.phase }, { on := 11, ground := Ground.phase }, { on := 12, ground := Ground.phase }, { on := 13, ground := Ground.phase }, { on := 14, ground := Ground.phase }, { on := 15, ground := Ground.phase }, { on := 16, ground := Ground.phase }, { on := 17, ground := Ground.phase }], guard := none }) (v := .int .i64 rc) rfl (by kernel_rfl) (by kernel_rfl) (by kernel_rfl) (fun _ _ _ h => h) (Or.inl ⟨by rfl, fun w9 hSw => ?_⟩) hHeld11 ?_
      · (try dsimp only at hSw); go_simp
      try simp only [Act.put, List.setIfInBounds_toArray, List.set_cons_zero, List.set_cons_succ]
      refine wpAnyH_done (by kernel_rfl) ?_ _
      clear hHeld0 hHeld1 hHeld7 hHeld8 hHeld9 hHeld10 hHeld11
      have HG2 := hide (bl_trans8 HG.out gT10)
      have HC2 := hide (block_upW gT10 HC1.out)
      have HSR2 := hide (HSR.out.base HG.out.size)
      clear HG HC1 HSR KS KT
      have HG := HG2
      have HC1 := HC2
      have HSR := HSR2
      clear HG2 HC2 HSR2
      have T3 := hexa_all HC1.out (.bool p) (.slice pa pn pk) (.int .i64 pe) (.bool q) (.slice qa qn qk) (.int .i64 qe)
      have T4 := below_hexa HG.out (show w.heap.size ≤ w.heap.size + 1 + 1 by omega) (.bool p) (.slice pa pn pk) (.int .i64 pe) (.bool q) (.slice qa qn qk) (.int .i64 qe)
      have T5 := HSR.out.hexa HC1.out (by decide) (.bool p) (.slice pa pn pk) (.int .i64 pe) (.bool q) (.slice qa qn qk) (.int .i64 qe)
      obtain ⟨p0, p1, p2, p3, p4, p5⟩ := hexa T3
      have HE := hide (And.intro T5 T4)
      clear T3 T4 T5 hz hf m0 m1 m2 m3 m4 m5
      generalize (((((T10.setCell ⟨w.heap.size + 1 + 1, 0, none⟩ (.bool p)).setCell ⟨w.heap.size + 1 + 1, 1, none⟩ (.slice pa pn pk)).setCell ⟨w.heap.size + 1 + 1, 2, none⟩ (.int .i64 pe)).setCell ⟨w.heap.size + 1 + 1, 3, none⟩ (.bool q)).setCell ⟨w.heap.size + 1 + 1, 4, none⟩ (.slice qa qn qk)).setCell ⟨w.heap.size + 1 + 1, 5, none⟩ (.int .i64 qe) = w5 at *
      go_wp2
      refine bodyPost_ret (v := .tuple #[.agg #[.bool p, .slice pa pn pk, .int .i64 pe, .bool q, .slice qa qn qk, .int .i64 qe], .int .i64 rc]) (by simp [results, Tryz.results18, go_sem, p0, p1, p2, p3, p4, p5]) rfl ?_
      exact ⟨⟨_, _, _, _, _, _, _, _, _, _, _, rfl, HE.out.1⟩, HE.out.2⟩
    exact AllReadyH.nil
  refine AllReadyH.cons rfl (fun K hK => ?_) ?_
  · skip
    go_simp
    refine hK.out _ _ (KS.out _ (bl_alloc10 gUD _)) (fun hHeld12 => ?_)
    clear hK K
    try simp only [Act.put, List.setIfInBounds_toArray, List.set_cons_zero, List.set_cons_succ]
    obtain ⟨PB12, hPB12, hbPB12, hxPB12⟩ := enter1 UD (.cells #[.bool b4, .slice a4 n4 k4, .int .i64 ex4] 31)
    rw [hPB12] at hHeld12 ⊢
    have gPB12 := bl_trans8 gUD hbPB12
    clear hPB12
    refine wpAnyH_ready (rs := [4]) (by kernel_rfl) (by simp) ?_
    refine AllReadyH.cons rfl (fun K hK => ?_) AllReadyH.nil
    go_simp
    refine hK.out _ _ (KS.out _ (bl_alloc10 gPB12 _)) (fun hHeld13 => ?_)
    clear hK K
    try simp only [Act.put, List.setIfInBounds_toArray, List.set_cons_zero, List.set_cons_succ]
    obtain ⟨PB13, hPB13, hbPB13, hxPB13⟩ := enter1 PB12 (.cells #[.bool b3, .slice a3 n3 k3, .int .i64 ex3] 31)
    rw [hPB13] at hHeld13 ⊢
    have gPB13 := bl_trans8 gPB12 hbPB13
    clear hPB13
    refine wpAnyH_ready (rs := [5]) (by kernel_rfl) (by simp) ?_
    refine AllReadyH.cons rfl (fun K hK => ?_) AllReadyH.nil
    go_simp
    refine (hull1N PB12.heap.size b1 a1 n1 k1 ex1 b3 a3 n3 k3 ex3 L V1 V3 PB13 (hxPB13) (HNT.out.1.below gPB13) (HNT.out.2.2.1.below gPB13) LL.out).mono ?_
    rintro e' T14 ⟨⟨lx, lxa, lxn, lxk, lxe, ly, lya, lyn, lyk, lye, rfl, nlx, nly⟩, hbT14⟩
    have gT14 := bl_trans8 gPB13 hbT14
    refine hK.out _ _ (KS.out _ gT14) (fun hHeld14 => ?_)
    clear hK K
    try simp only [Act.put, List.setIfInBounds_toArray, List.set_cons_zero, List.set_cons_succ]
    refine wpAnyH_take (i := 6) (oi := { dst := some 21, op := Op.field 33 (Operand.tmp 20) 0, type := 31, pos := "span.go:65", after := #[{ on := 5, ground := Ground.data }], guard := none }) (v := .agg #[.bool lx, .slice lxa lxn lxk, .int .i64 lxe]) rfl (by kernel_rfl) (by kernel_rfl) (by kernel_rfl) (fun _ _ _ h => h) (Or.inl ⟨by rfl, fun w9 hSw => ?_⟩) hHeld14 ?_
    · (try dsimp only at hSw); go_simp
    try simp only [Act.put, List.setIfInBounds_toArray, List.set_cons_zero, List.set_cons_succ]
    refine wpAnyH_ready (rs := [12]) (by kernel_rfl) (by simp) ?_
    refine AllReadyH.cons rfl (fun K hK => ?_) AllReadyH.nil
    go_simp
    refine (hull1N UD.heap.size b2 a2 n2 k2 ex2 b4 a4 n4 k4 ex4 L V2 V4 T14 (block_upW (bl_trans8 hbPB13 hbT14) hxPB12) (HNT.out.2.1.below gT14) (HNT.out.2.2.2.below gT14) LL.out).mono ?_
    rintro e' T15 ⟨⟨hx, hxa, hxn, hxk, hxe, hy, hya, hyn, hyk, hye, rfl, nhx, nhy⟩, hbT15⟩
    have gT15 := bl_trans8 gT14 hbT15
    refine hK.out _ _ (KS.out _ gT15) (fun hHeld15 => ?_)
    clear hK K
    try simp only [Act.put, List.setIfInBounds_toArray, List.set_cons_zero, List.set_cons_succ]
    refine wpAnyH_take (i := 13) (oi := { dst := some 28, op := Op.field 33 (Operand.tmp 27) 0, type := 31, pos := "span.go:65", after := #[{ on := 12, ground := Ground.data }], guard := none }) (v := .agg #[.bool hx, .slice hxa hxn hxk, .int .i64 hxe]) rfl (by kernel_rfl) (by kernel_rfl) (by kernel_rfl) (fun _ _ _ h => h) (Or.inl ⟨by rfl, fun w9 hSw => ?_⟩) hHeld15 ?_
    · (try dsimp only at hSw); go_simp
    try simp only [Act.put, List.setIfInBounds_toArray, List.set_cons_zero, List.set_cons_succ]
    refine wpAnyH_ready (rs := [14]) (by kernel_rfl) (by simp) ?_
    refine AllReadyH.cons rfl (fun K hK => ?_) AllReadyH.nil
    go_simp
    refine (smakeN lx lxa lxn lxk lxe hx hxa hxn hxk hxe L (min V1 V3) (min V2 V4) T15 (HTT.out.below gT15) (nlx.below hbT15) (nhx.below (Below.refl _ _)) LL.out).mono ?_
    rintro e' T16 ⟨⟨p, pa, pn, pk, pe, q, qa, qn, qk, qe, rc, rfl, hs⟩, hbT16⟩
    have gT16 := bl_trans8 gT15 hbT16
    rw [show (if (min V2 V4) < (min V1 V3) then (100 : Int) else 0) = 0 by have x1 := OO.out.1; have x2 := OO.out.2; rw [if_neg (by omega)]] at hs
    have HSR := hide (hs.base (gT15.size))
    have hz := block_upW gT16 HC1.out
    have hf := hexaf hz
    obtain ⟨m0, m1, m2, m3, m4, m5⟩ := hexa hz
    refine hK.out _ _ (KS.out _ gT16) (fun hHeld16 => ?_)
    clear hK K
    try simp only [Act.put, List.setIfInBounds_toArray, List.set_cons_zero, List.set_cons_succ]
    refine wpAnyH_take (i := 15) (oi := { dst := some 30, op := Op.extract (Operand.tmp 29) 0, type := 33, pos := "span.go:65", after := #[{ on := 14, ground := Ground.data }], guard := none }) (v := .agg #[.bool p, .slice pa pn pk, .int .i64 pe, .bool q, .slice qa qn qk, .int .i64 qe]) rfl (by kernel_rfl) (by kernel_rfl) (by kernel_rfl) (fun _ _ _ h => h) (Or.inl ⟨by rfl, fun w9 hSw => ?_⟩) hHeld16 ?_
    · (try dsimp only at hSw); go_simp
    try simp only [Act.put, List.setIfInBounds_toArray, List.set_cons_zero, List.set_cons_succ]
    refine wpAnyH_take (i := 16) (oi := { dst := some 31, op := Op.extract (Operand.tmp 29) 1, type := 37, pos := "span.go:65", after := #[{ on := 14, ground := Ground.data }], guard := none }) (v := .int .i64 rc) rfl (by kernel_rfl) (by kernel_rfl) (by kernel_rfl) (fun _ _ _ h => h) (Or.inl ⟨by rfl, fun w9 hSw => ?_⟩) hHeld16 ?_
    · (try dsimp only at hSw); go_simp
    try simp only [Act.put, List.setIfInBounds_toArray, List.set_cons_zero, List.set_cons_succ]
    refine wpAnyH_ready (rs := [17]) (by kernel_rfl) (by simp) ?_
    refine AllReadyH.cons rfl (fun K hK => ?_) AllReadyH.nil
    skip
    go_simp
    refine hK.out _ _ (KT.out _ gT16 _ _ _ _ _ _) (fun hHeld17 => ?_)
    clear hK K
    try simp only [Act.put, List.setIfInBounds_toArray, List.set_cons_zero, List.set_cons_succ]
    refine wpAnyH_take (i := 18) (oi := { dst := some 5, op := Op.assign (Operand.tmp 31), type := 37, pos := "span.go:65", after := #[{ on := 16, ground := Ground.data }, { on := 17, ground := Ground.chain }, { on := 0, ground := Ground.phase }, { on := 1, ground := Ground.phase }, { on := 2, ground := Ground.phase }, { on := 3, ground := Ground.phase }, { on := 4, ground := Ground.phase }, { on := 5, ground := Ground.phase }, { on := 6, ground := Ground.phase }, { on := 7, ground := Ground.phase }, { on := 8, ground := Ground.phase }, { on := 9, ground := Ground.phase }, { on := 10, ground := Ground.phase }, { on := 11, ground := Ground.phase }, { on := 12, ground := Ground.phase }, { on := 13, ground := Ground.phase }, { on := 14, ground := Ground.phase }, { on := 15, ground := Ground.phase }, { on := 16, ground := Ground.phase }, { on := 17, ground := Ground.phase }], guard := none }) (v := .int .i64 rc) rfl (by kernel_rfl) (by kernel_rfl) (by kernel_rfl) (fun _ _ _ h => h) (Or.inl ⟨by rfl, fun w9 hSw => ?_⟩) hHeld17 ?_
    · (try dsimp only at hSw); go_simp
    try simp only [Act.put, List.setIfInBounds_toArray, List.set_cons_zero, List.set_cons_succ]
    refine wpAnyH_done (by kernel_rfl) ?_ _
    clear hHeld0 hHeld12 hHeld13 hHeld14 hHeld15 hHeld16 hHeld17
    have HG2 := hide (bl_trans8 HG.out gT16)
    have HC2 := hide (block_upW gT16 HC1.out)
    have HSR2 := hide (HSR.out.base HG.out.size)
    clear HG HC1 HSR KS KT
    have HG := HG2
    have HC1 := HC2
    have HSR := HSR2
    clear HG2 HC2 HSR2
    have T3 := hexa_all HC1.out (.bool p) (.slice pa pn pk) (.int .i64 pe) (.bool q) (.slice qa qn qk) (.int .i64 qe)
    have T4 := below_hexa HG.out (show w.heap.size ≤ w.heap.size + 1 + 1 by omega) (.bool p) (.slice pa pn pk) (.int .i64 pe) (.bool q) (.slice qa qn qk) (.int .i64 qe)
    have T5 := HSR.out.hexa HC1.out (by decide) (.bool p) (.slice pa pn pk) (.int .i64 pe) (.bool q) (.slice qa qn qk) (.int .i64 qe)
    obtain ⟨p0, p1, p2, p3, p4, p5⟩ := hexa T3
    have HE := hide (And.intro T5 T4)
    clear T3 T4 T5 hz hf m0 m1 m2 m3 m4 m5
    generalize (((((T16.setCell ⟨w.heap.size + 1 + 1, 0, none⟩ (.bool p)).setCell ⟨w.heap.size + 1 + 1, 1, none⟩ (.slice pa pn pk)).setCell ⟨w.heap.size + 1 + 1, 2, none⟩ (.int .i64 pe)).setCell ⟨w.heap.size + 1 + 1, 3, none⟩ (.bool q)).setCell ⟨w.heap.size + 1 + 1, 4, none⟩ (.slice qa qn qk)).setCell ⟨w.heap.size + 1 + 1, 5, none⟩ (.int .i64 qe) = w5 at *
    go_wp2
    refine bodyPost_ret (v := .tuple #[.agg #[.bool p, .slice pa pn pk, .int .i64 pe, .bool q, .slice qa qn qk, .int .i64 qe], .int .i64 rc]) (by simp [results, Tryz.results18, go_sem, p0, p1, p2, p3, p4, p5]) rfl ?_
    exact ⟨⟨_, _, _, _, _, _, _, _, _, _, _, rfl, HE.out.1⟩, HE.out.2⟩
  exact AllReadyH.nil

set_option maxRecDepth 20000 in
set_option maxHeartbeats 8000000 in
theorem smax_ok (b1 : Bool) (a1 : Option Addr) (n1 k1 : Nat) (ex1 : Int) (b2 : Bool) (a2 : Option Addr) (n2 k2 : Nat) (ex2 : Int) (b3 : Bool) (a3 : Option Addr) (n3 k3 : Nat) (ex3 : Int) (b4 : Bool) (a4 : Option Addr) (n4 k4 : Nat) (ex4 : Int) (L : Nat) (V1 V2 V3 V4 : Int) (w : World) (hF : FltOf2 w b1 a1 n1 k1 ex1 b2 a2 n2 k2 ex2 b3 a3 n3 k3 ex3 b4 a4 n4 k4 ex4 0) (h1 : N8 w b1 a1 n1 k1 ex1 L V1) (h2 : N8 w b2 a2 n2 k2 ex2 L V2) (h3 : N8 w b3 a3 n3 k3 ex3 L V3) (h4 : N8 w b4 a4 n4 k4 ex4 L V4) (hT : Tab w) (hL : 4611686018427387904 ≤ L) (o1 : V1 ≤ V2) (o2 : V3 ≤ V4) :
    Calls Tryz.prog 19 #[.agg #[.bool b1, .slice a1 n1 k1, .int .i64 ex1, .bool b2, .slice a2 n2 k2, .int .i64 ex2], .agg #[.bool b3, .slice a3 n3 k3, .int .i64 ex3, .bool b4, .slice a4 n4 k4, .int .i64 ex4]] w fun e w' => SAns w e w' 0 L (max V1 V3) (max V2 V4) := by
  obtain ⟨w0, hw0, hb0, q0, q1, q9⟩ := enter3 w (.cells #[.bool b1, .slice a1 n1 k1, .int .i64 ex1, .bool b2, .slice a2 n2 k2, .int .i64 ex2] 33) (.cells #[.bool b3, .slice a3 n3 k3, .int .i64 ex3, .bool b4, .slice a4 n4 k4, .int .i64 ex4] 33) (.cells #[.bool false, .slice none 0 0, .int .i64 0, .bool false, .slice none 0 0, .int .i64 0] 33)
  obtain ⟨w1, hw1, hb1, qf⟩ := enter1 w0 (.cells #[.bool b1, .slice a1 n1 k1, .int .i64 ex1, .bool b2, .slice a2 n2 k2, .int .i64 ex2, .bool b3, .slice a3 n3 k3, .int .i64 ex3, .bool b4, .slice a4 n4 k4, .int .i64 ex4] 33)
  have CF := hF w1 w0.heap.size (bl_trans8 hb0 hb1) qf
  have HU := hide (bl_trans8 hb0 hb1)
  obtain ⟨y0, y1, y2, y3, y4, y5⟩ := hexa q0
  obtain ⟨y6, y7, y8, y9, y10, y11⟩ := hexa q1
  have HQ0 := hide (block_upW hb1 q0)
  have HQ1 := hide (block_upW hb1 q1)
  have HQ9 : Hid (w1.heap[w.heap.size + 1 + 1]? = some (.cells #[.bool false, .slice none 0 0, .int .i64 0, .bool false, .slice none 0 0, .int .i64 0] 33)) := hide (block_upW hb1 q9)
  clear qf hb0 hb1 hF q0 q1 q9
  have HNN := hide (And.intro h1 (And.intro h2 (And.intro h3 h4)))
  have HT := hide hT
  have LL : Hid (4611686018427387904 ≤ L) := hide hL
  have OO := hide (And.intro o1 o2)
  clear h1 h2 h3 h4 hT hL o1 o2
  go_enter Tryz.func19, Tryz.ntmps19
  go_wp2_with fail
  refine CF.mono ?_
  rintro e t2 ⟨rfl, g2⟩
  have HG := hide (bl_trans8 HU.out g2)
  have HP0 := hide (block_upW g2 HQ0.out)
  have HP1 := hide (block_upW g2 HQ1.out)
  have HC1 := hide (block_upW g2 HQ9.out)
  have HZS : Hid (w.heap.size + 1 + 1 < t2.heap.size) := hide (lt_of_block HC1.out)
  clear g2 CF y0 y1 y2 y3 y4 y5 y6 y7 y8 y9 y10 y11 hw0 hw1 HQ0 HQ1 HQ9
  have KS := hide (fun (W : World) (hg : Below t2.heap.size t2 W) => show W.cell? ⟨w.heap.size, 0, none⟩ = some (.bool b1) ∧ W.cell? ⟨w.heap.size, 1, none⟩ = some (.slice a1 n1 k1) ∧ W.cell? ⟨w.heap.size, 2, none⟩ = some (.int .i64 ex1) ∧ W.cell? ⟨w.heap.size, 3, none⟩ = some (.bool b2) ∧ W.cell? ⟨w.heap.size, 4, none⟩ = some (.slice a2 n2 k2) ∧ W.cell? ⟨w.heap.size, 5, none⟩ = some (.int .i64 ex2) ∧ W.cell? ⟨w.heap.size + 1, 0, none⟩ = some (.bool b3) ∧ W.cell? ⟨w.heap.size + 1, 1, none⟩ = some (.slice a3 n3 k3) ∧ W.cell? ⟨w.heap.size + 1, 2, none⟩ = some (.int .i64 ex3) ∧ W.cell? ⟨w.heap.size + 1, 3, none⟩ = some (.bool b4) ∧ W.cell? ⟨w.heap.size + 1, 4, none⟩ = some (.slice a4 n4 k4) ∧ W.cell? ⟨w.heap.size + 1, 5, none⟩ = some (.int .i64 ex4) from (by
    obtain ⟨x0, x1, x2, x3, x4, x5⟩ := hexa (block_upW hg HP0.out)
    obtain ⟨z0, z1, z2, z3, z4, z5⟩ := hexa (block_upW hg HP1.out)
    exact ⟨x0, x1, x2, x3, x4, x5, z0, z1, z2, z3, z4, z5⟩))
  have KT := hide (fun (W : World) (hg : Below t2.heap.size t2 W) (u0 u1 u2 u3 u4 u5 : Value) => show (((((((W.setCell ⟨w.heap.size + 1 + 1, 0, none⟩ u0).setCell ⟨w.heap.size + 1 + 1, 1, none⟩ u1).setCell ⟨w.heap.size + 1 + 1, 2, none⟩ u2).setCell ⟨w.heap.size + 1 + 1, 3, none⟩ u3).setCell ⟨w.heap.size + 1 + 1, 4, none⟩ u4).setCell ⟨w.heap.size + 1 + 1, 5, none⟩ u5)).cell? ⟨w.heap.size, 0, none⟩ = some (.bool b1) ∧ (((((((W.setCell ⟨w.heap.size + 1 + 1, 0, none⟩ u0).setCell ⟨w.heap.size + 1 + 1, 1, none⟩ u1).setCell ⟨w.heap.size + 1 + 1, 2, none⟩ u2).setCell ⟨w.heap.size + 1 + 1, 3, none⟩ u3).setCell ⟨w.heap.size + 1 + 1, 4, none⟩ u4).setCell ⟨w.heap.size + 1 + 1, 5, none⟩ u5)).cell? ⟨w.heap.size, 1, none⟩ = some (.slice a1 n1 k1) ∧ (((((((W.setCell ⟨w.heap.size + 1 + 1, 0, none⟩ u0).setCell ⟨w.heap.size + 1 + 1, 1, none⟩ u1).setCell ⟨w.heap.size + 1 + 1, 2, none⟩ u2).setCell ⟨w.heap.size + 1 + 1, 3, none⟩ u3).setCell ⟨w.heap.size + 1 + 1, 4, none⟩ u4).setCell ⟨w.heap.size + 1 + 1, 5, none⟩ u5)).cell? ⟨w.heap.size, 2, none⟩ = some (.int .i64 ex1) ∧ (((((((W.setCell ⟨w.heap.size + 1 + 1, 0, none⟩ u0).setCell ⟨w.heap.size + 1 + 1, 1, none⟩ u1).setCell ⟨w.heap.size + 1 + 1, 2, none⟩ u2).setCell ⟨w.heap.size + 1 + 1, 3, none⟩ u3).setCell ⟨w.heap.size + 1 + 1, 4, none⟩ u4).setCell ⟨w.heap.size + 1 + 1, 5, none⟩ u5)).cell? ⟨w.heap.size, 3, none⟩ = some (.bool b2) ∧ (((((((W.setCell ⟨w.heap.size + 1 + 1, 0, none⟩ u0).setCell ⟨w.heap.size + 1 + 1, 1, none⟩ u1).setCell ⟨w.heap.size + 1 + 1, 2, none⟩ u2).setCell ⟨w.heap.size + 1 + 1, 3, none⟩ u3).setCell ⟨w.heap.size + 1 + 1, 4, none⟩ u4).setCell ⟨w.heap.size + 1 + 1, 5, none⟩ u5)).cell? ⟨w.heap.size, 4, none⟩ = some (.slice a2 n2 k2) ∧ (((((((W.setCell ⟨w.heap.size + 1 + 1, 0, none⟩ u0).setCell ⟨w.heap.size + 1 + 1, 1, none⟩ u1).setCell ⟨w.heap.size + 1 + 1, 2, none⟩ u2).setCell ⟨w.heap.size + 1 + 1, 3, none⟩ u3).setCell ⟨w.heap.size + 1 + 1, 4, none⟩ u4).setCell ⟨w.heap.size + 1 + 1, 5, none⟩ u5)).cell? ⟨w.heap.size, 5, none⟩ = some (.int .i64 ex2) ∧ (((((((W.setCell ⟨w.heap.size + 1 + 1, 0, none⟩ u0).setCell ⟨w.heap.size + 1 + 1, 1, none⟩ u1).setCell ⟨w.heap.size + 1 + 1, 2, none⟩ u2).setCell ⟨w.heap.size + 1 + 1, 3, none⟩ u3).setCell ⟨w.heap.size + 1 + 1, 4, none⟩ u4).setCell ⟨w.heap.size + 1 + 1, 5, none⟩ u5)).cell? ⟨w.heap.size + 1, 0, none⟩ = some (.bool b3) ∧ (((((((W.setCell ⟨w.heap.size + 1 + 1, 0, none⟩ u0).setCell ⟨w.heap.size + 1 + 1, 1, none⟩ u1).setCell ⟨w.heap.size + 1 + 1, 2, none⟩ u2).setCell ⟨w.heap.size + 1 + 1, 3, none⟩ u3).setCell ⟨w.heap.size + 1 + 1, 4, none⟩ u4).setCell ⟨w.heap.size + 1 + 1, 5, none⟩ u5)).cell? ⟨w.heap.size + 1, 1, none⟩ = some (.slice a3 n3 k3) ∧ (((((((W.setCell ⟨w.heap.size + 1 + 1, 0, none⟩ u0).setCell ⟨w.heap.size + 1 + 1, 1, none⟩ u1).setCell ⟨w.heap.size + 1 + 1, 2, none⟩ u2).setCell ⟨w.heap.size + 1 + 1, 3, none⟩ u3).setCell ⟨w.heap.size + 1 + 1, 4, none⟩ u4).setCell ⟨w.heap.size + 1 + 1, 5, none⟩ u5)).cell? ⟨w.heap.size + 1, 2, none⟩ = some (.int .i64 ex3) ∧ (((((((W.setCell ⟨w.heap.size + 1 + 1, 0, none⟩ u0).setCell ⟨w.heap.size + 1 + 1, 1, none⟩ u1).setCell ⟨w.heap.size + 1 + 1, 2, none⟩ u2).setCell ⟨w.heap.size + 1 + 1, 3, none⟩ u3).setCell ⟨w.heap.size + 1 + 1, 4, none⟩ u4).setCell ⟨w.heap.size + 1 + 1, 5, none⟩ u5)).cell? ⟨w.heap.size + 1, 3, none⟩ = some (.bool b4) ∧ (((((((W.setCell ⟨w.heap.size + 1 + 1, 0, none⟩ u0).setCell ⟨w.heap.size + 1 + 1, 1, none⟩ u1).setCell ⟨w.heap.size + 1 + 1, 2, none⟩ u2).setCell ⟨w.heap.size + 1 + 1, 3, none⟩ u3).setCell ⟨w.heap.size + 1 + 1, 4, none⟩ u4).setCell ⟨w.heap.size + 1 + 1, 5, none⟩ u5)).cell? ⟨w.heap.size + 1, 4, none⟩ = some (.slice a4 n4 k4) ∧ (((((((W.setCell ⟨w.heap.size + 1 + 1, 0, none⟩ u0).setCell ⟨w.heap.size + 1 + 1, 1, none⟩ u1).setCell ⟨w.heap.size + 1 + 1, 2, none⟩ u2).setCell ⟨w.heap.size + 1 + 1, 3, none⟩ u3).setCell ⟨w.heap.size + 1 + 1, 4, none⟩ u4).setCell ⟨w.heap.size + 1 + 1, 5, none⟩ u5)).cell? ⟨w.heap.size + 1, 5, none⟩ = some (.int .i64 ex4) from (by
    obtain ⟨x0, x1, x2, x3, x4, x5⟩ := hexa ((hexa_other (g := w.heap.size + 1 + 1) (h := w.heap.size) (by omega) u0 u1 u2 u3 u4 u5).trans (block_upW hg HP0.out))
    obtain ⟨z0, z1, z2, z3, z4, z5⟩ := hexa ((hexa_other (g := w.heap.size + 1 + 1) (h := w.heap.size + 1) (by omega) u0 u1 u2 u3 u4 u5).trans (block_upW hg HP1.out))
    exact ⟨x0, x1, x2, x3, x4, x5, z0, z1, z2, z3, z4, z5⟩))
  have HNT := hide (And.intro (HNN.out.1.below HG.out) (And.intro (HNN.out.2.1.below HG.out) (And.intro (HNN.out.2.2.1.below HG.out) (HNN.out.2.2.2.below HG.out))))
  have HTT := hide (HT.out.below HG.out)
  have g0 : Below t2.heap.size t2 t2.drew := bl_drew10 (Below.refl _ _)
  go_upto_region 4 with fail
  refine wp_region_held_drew (S := fun w' => w'.cell? ⟨w.heap.size, 0, none⟩ = some (.bool b1) ∧ w'.cell? ⟨w.heap.size, 1, none⟩ = some (.slice a1 n1 k1) ∧ w'.cell? ⟨w.heap.size, 2, none⟩ = some (.int .i64 ex1) ∧ w'.cell? ⟨w.heap.size, 3, none⟩ = some (.bool b2) ∧ w'.cell? ⟨w.heap.size, 4, none⟩ = some (.slice a2 n2 k2) ∧ w'.cell? ⟨w.heap.size, 5, none⟩ = some (.int .i64 ex2) ∧ w'.cell? ⟨w.heap.size + 1, 0, none⟩ = some (.bool b3) ∧ w'.cell? ⟨w.heap.size + 1, 1, none⟩ = some (.slice a3 n3 k3) ∧ w'.cell? ⟨w.heap.size + 1, 2, none⟩ = some (.int .i64 ex3) ∧ w'.cell? ⟨w.heap.size + 1, 3, none⟩ = some (.bool b4) ∧ w'.cell? ⟨w.heap.size + 1, 4, none⟩ = some (.slice a4 n4 k4) ∧ w'.cell? ⟨w.heap.size + 1, 5, none⟩ = some (.int .i64 ex4)) (by kernel_rfl) (KS.out _ (g0)) (fun hHeld0 => ?_)
  obtain ⟨UD, hUD⟩ : ∃ x, t2.drew = x := ⟨_, rfl⟩
  have gUD : Below t2.heap.size t2 UD := by rw [← hUD]; exact (g0)
  rw [hUD] at hHeld0 ⊢
  clear hUD
  refine wpAnyH_take (i := 0) (oi := { dst := some 15, op := Op.fieldAddr 33 (Operand.tmp 2) 0, type := 0, pos := "span.go:73", after := #[], guard := none }) (v := .pointer (some ⟨w.heap.size, 0, none⟩)) rfl (by kernel_rfl) (by kernel_rfl) (by kernel_rfl) (fun _ _ _ h => h) (Or.inl ⟨by rfl, fun w9 hSw => ?_⟩) hHeld0 ?_
  · (try dsimp only at hSw); go_simp
  try simp only [Act.put, List.setIfInBounds_toArray, List.set_cons_zero, List.set_cons_succ]
  refine wpAnyH_take (i := 1) (oi := { dst := some 16, op := Op.load 31 (Operand.tmp 15), type := 31, pos := "span.go:73", after := #[{ on := 0, ground := Ground.data }], guard := none }) (v := .agg #[.bool b1, .slice a1 n1 k1, .int .i64 ex1]) rfl (by kernel_rfl) (by kernel_rfl) (by kernel_rfl) (fun _ _ _ h => h) (Or.inl ⟨by rfl, fun w9 hSw => ?_⟩) hHeld0 ?_
  · (try dsimp only at hSw); go_simp
  try simp only [Act.put, List.setIfInBounds_toArray, List.set_cons_zero, List.set_cons_succ]
  refine wpAnyH_take (i := 2) (oi := { dst := some 17, op := Op.fieldAddr 33 (Operand.tmp 3) 0, type := 0, pos := "span.go:73", after := #[], guard := none }) (v := .pointer (some ⟨w.heap.size + 1, 0, none⟩)) rfl (by kernel_rfl) (by kernel_rfl) (by kernel_rfl) (fun _ _ _ h => h) (Or.inl ⟨by rfl, fun w9 hSw => ?_⟩) hHeld0 ?_
  · (try dsimp only at hSw); go_simp
  try simp only [Act.put, List.setIfInBounds_toArray, List.set_cons_zero, List.set_cons_succ]
  refine wpAnyH_take (i := 3) (oi := { dst := some 18, op := Op.load 31 (Operand.tmp 17), type := 31, pos := "span.go:73", after := #[{ on := 2, ground := Ground.data }], guard := none }) (v := .agg #[.bool b3, .slice a3 n3 k3, .int .i64 ex3]) rfl (by kernel_rfl) (by kernel_rfl) (by kernel_rfl) (fun _ _ _ h => h) (Or.inl ⟨by rfl, fun w9 hSw => ?_⟩) hHeld0 ?_
  · (try dsimp only at hSw); go_simp
  try simp only [Act.put, List.setIfInBounds_toArray, List.set_cons_zero, List.set_cons_succ]
  refine wpAnyH_take (i := 7) (oi := { dst := some 22, op := Op.fieldAddr 33 (Operand.tmp 2) 1, type := 0, pos := "span.go:73", after := #[], guard := none }) (v := .pointer (some ⟨w.heap.size, 3, none⟩)) rfl (by kernel_rfl) (by kernel_rfl) (by kernel_rfl) (fun _ _ _ h => h) (Or.inl ⟨by rfl, fun w9 hSw => ?_⟩) hHeld0 ?_
  · (try dsimp only at hSw); go_simp
  try simp only [Act.put, List.setIfInBounds_toArray, List.set_cons_zero, List.set_cons_succ]
  refine wpAnyH_take (i := 8) (oi := { dst := some 23, op := Op.load 31 (Operand.tmp 22), type := 31, pos := "span.go:73", after := #[{ on := 7, ground := Ground.data }], guard := none }) (v := .agg #[.bool b2, .slice a2 n2 k2, .int .i64 ex2]) rfl (by kernel_rfl) (by kernel_rfl) (by kernel_rfl) (fun _ _ _ h => h) (Or.inl ⟨by rfl, fun w9 hSw => ?_⟩) hHeld0 ?_
  · (try dsimp only at hSw); go_simp
  try simp only [Act.put, List.setIfInBounds_toArray, List.set_cons_zero, List.set_cons_succ]
  refine wpAnyH_take (i := 9) (oi := { dst := some 24, op := Op.fieldAddr 33 (Operand.tmp 3) 1, type := 0, pos := "span.go:73", after := #[], guard := none }) (v := .pointer (some ⟨w.heap.size + 1, 3, none⟩)) rfl (by kernel_rfl) (by kernel_rfl) (by kernel_rfl) (fun _ _ _ h => h) (Or.inl ⟨by rfl, fun w9 hSw => ?_⟩) hHeld0 ?_
  · (try dsimp only at hSw); go_simp
  try simp only [Act.put, List.setIfInBounds_toArray, List.set_cons_zero, List.set_cons_succ]
  refine wpAnyH_take (i := 10) (oi := { dst := some 25, op := Op.load 31 (Operand.tmp 24), type := 31, pos := "span.go:73", after := #[{ on := 9, ground := Ground.data }], guard := none }) (v := .agg #[.bool b4, .slice a4 n4 k4, .int .i64 ex4]) rfl (by kernel_rfl) (by kernel_rfl) (by kernel_rfl) (fun _ _ _ h => h) (Or.inl ⟨by rfl, fun w9 hSw => ?_⟩) hHeld0 ?_
  · (try dsimp only at hSw); go_simp
  try simp only [Act.put, List.setIfInBounds_toArray, List.set_cons_zero, List.set_cons_succ]
  refine wpAnyH_ready (rs := [4, 11]) (by kernel_rfl) (by simp) ?_
  refine AllReadyH.cons rfl (fun K hK => ?_) ?_
  · skip
    go_simp
    refine hK.out _ _ (KS.out _ (bl_alloc10 gUD _)) (fun hHeld1 => ?_)
    clear hK K
    try simp only [Act.put, List.setIfInBounds_toArray, List.set_cons_zero, List.set_cons_succ]
    obtain ⟨PB1, hPB1, hbPB1, hxPB1⟩ := enter1 UD (.cells #[.bool b3, .slice a3 n3 k3, .int .i64 ex3] 31)
    rw [hPB1] at hHeld1 ⊢
    have gPB1 := bl_trans8 gUD hbPB1
    clear hPB1
    refine wpAnyH_ready (rs := [5, 11]) (by kernel_rfl) (by simp) ?_
    refine AllReadyH.cons rfl (fun K hK => ?_) ?_
    · skip
      go_simp
      refine (hull1N UD.heap.size b1 a1 n1 k1 ex1 b3 a3 n3 k3 ex3 L V1 V3 PB1 (hxPB1) (HNT.out.1.below gPB1) (HNT.out.2.2.1.below gPB1) LL.out).mono ?_
      rintro e' T2 ⟨⟨lx, lxa, lxn, lxk, lxe, ly, lya, lyn, lyk, lye, rfl, nlx, nly⟩, hbT2⟩
      have gT2 := bl_trans8 gPB1 hbT2
      refine hK.out _ _ (KS.out _ gT2) (fun hHeld2 => ?_)
      clear hK K
      try simp only [Act.put, List.setIfInBounds_toArray, List.set_cons_zero, List.set_cons_succ]
      refine wpAnyH_take (i := 6) (oi := { dst := some 21, op := Op.field 33 (Operand.tmp 20) 1, type := 31, pos := "span.go:73", after := #[{ on := 5, ground := Ground.data }], guard := none }) (v := .agg #[.bool ly, .slice lya lyn lyk, .int .i64 lye]) rfl (by kernel_rfl) (by kernel_rfl) (by kernel_rfl) (fun _ _ _ h => h) (Or.inl ⟨by rfl, fun w9 hSw => ?_⟩) hHeld2 ?_
      · (try dsimp only at hSw); go_simp
      try simp only [Act.put, List.setIfInBounds_toArray, List.set_cons_zero, List.set_cons_succ]
      refine wpAnyH_ready (rs := [11]) (by kernel_rfl) (by simp) ?_
      refine AllReadyH.cons rfl (fun K hK => ?_) AllReadyH.nil
      go_simp
      refine hK.out _ _ (KS.out _ (bl_alloc10 gT2 _)) (fun hHeld3 => ?_)
      clear hK K
      try simp only [Act.put, List.setIfInBounds_toArray, List.set_cons_zero, List.set_cons_succ]
      obtain ⟨PB3, hPB3, hbPB3, hxPB3⟩ := enter1 T2 (.cells #[.bool b4, .slice a4 n4 k4, .int .i64 ex4] 31)
      rw [hPB3] at hHeld3 ⊢
      have gPB3 := bl_trans8 gT2 hbPB3
      clear hPB3
      refine wpAnyH_ready (rs := [12]) (by kernel_rfl) (by simp) ?_
      refine AllReadyH.cons rfl (fun K hK => ?_) AllReadyH.nil
      go_simp
      refine (hull1N T2.heap.size b2 a2 n2 k2 ex2 b4 a4 n4 k4 ex4 L V2 V4 PB3 (hxPB3) (HNT.out.2.1.below gPB3) (HNT.out.2.2.2.below gPB3) LL.out).mono ?_
      rintro e' T4 ⟨⟨hx, hxa, hxn, hxk, hxe, hy, hya, hyn, hyk, hye, rfl, nhx, nhy⟩, hbT4⟩
      have gT4 := bl_trans8 gPB3 hbT4
      refine hK.out _ _ (KS.out _ gT4) (fun hHeld4 => ?_)
      clear hK K
      try simp only [Act.put, List.setIfInBounds_toArray, List.set_cons_zero, List.set_cons_succ]
      refine wpAnyH_take (i := 13) (oi := { dst := some 28, op := Op.field 33 (Operand.tmp 27) 1, type := 31, pos := "span.go:73", after := #[{ on := 12, ground := Ground.data }], guard := none }) (v := .agg #[.bool hy, .slice hya hyn hyk, .int .i64 hye]) rfl (by kernel_rfl) (by kernel_rfl) (by kernel_rfl) (fun _ _ _ h => h) (Or.inl ⟨by rfl, fun w9 hSw => ?_⟩) hHeld4 ?_
      · (try dsimp only at hSw); go_simp
      try simp only [Act.put, List.setIfInBounds_toArray, List.set_cons_zero, List.set_cons_succ]
      refine wpAnyH_ready (rs := [14]) (by kernel_rfl) (by simp) ?_
      refine AllReadyH.cons rfl (fun K hK => ?_) AllReadyH.nil
      go_simp
      refine (smakeN ly lya lyn lyk lye hy hya hyn hyk hye L (max V1 V3) (max V2 V4) T4 (HTT.out.below gT4) (nly.below (bl_trans8 hbPB3 hbT4)) (nhy.below (Below.refl _ _)) LL.out).mono ?_
      rintro e' T5 ⟨⟨p, pa, pn, pk, pe, q, qa, qn, qk, qe, rc, rfl, hs⟩, hbT5⟩
      have gT5 := bl_trans8 gT4 hbT5
      rw [show (if (max V2 V4) < (max V1 V3) then (100 : Int) else 0) = 0 by have x1 := OO.out.1; have x2 := OO.out.2; rw [if_neg (by omega)]] at hs
      have HSR := hide (hs.base (gT4.size))
      have hz := block_upW gT5 HC1.out
      have hf := hexaf hz
      obtain ⟨m0, m1, m2, m3, m4, m5⟩ := hexa hz
      refine hK.out _ _ (KS.out _ gT5) (fun hHeld5 => ?_)
      clear hK K
      try simp only [Act.put, List.setIfInBounds_toArray, List.set_cons_zero, List.set_cons_succ]
      refine wpAnyH_take (i := 15) (oi := { dst := some 30, op := Op.extract (Operand.tmp 29) 0, type := 33, pos := "span.go:73", after := #[{ on := 14, ground := Ground.data }], guard := none }) (v := .agg #[.bool p, .slice pa pn pk, .int .i64 pe, .bool q, .slice qa qn qk, .int .i64 qe]) rfl (by kernel_rfl) (by kernel_rfl) (by kernel_rfl) (fun _ _ _ h => h) (Or.inl ⟨by rfl, fun w9 hSw => ?_⟩) hHeld5 ?_
      · (try dsimp only at hSw); go_simp
      try simp only [Act.put, List.setIfInBounds_toArray, List.set_cons_zero, List.set_cons_succ]
      refine wpAnyH_take (i := 16) (oi := { dst := some 31, op := Op.extract (Operand.tmp 29) 1, type := 37, pos := "span.go:73", after := #[{ on := 14, ground := Ground.data }], guard := none }) (v := .int .i64 rc) rfl (by kernel_rfl) (by kernel_rfl) (by kernel_rfl) (fun _ _ _ h => h) (Or.inl ⟨by rfl, fun w9 hSw => ?_⟩) hHeld5 ?_
      · (try dsimp only at hSw); go_simp
      try simp only [Act.put, List.setIfInBounds_toArray, List.set_cons_zero, List.set_cons_succ]
      refine wpAnyH_ready (rs := [17]) (by kernel_rfl) (by simp) ?_
      refine AllReadyH.cons rfl (fun K hK => ?_) AllReadyH.nil
      skip
      go_simp
      refine hK.out _ _ (KT.out _ gT5 _ _ _ _ _ _) (fun hHeld6 => ?_)
      clear hK K
      try simp only [Act.put, List.setIfInBounds_toArray, List.set_cons_zero, List.set_cons_succ]
      refine wpAnyH_take (i := 18) (oi := { dst := some 5, op := Op.assign (Operand.tmp 31), type := 37, pos := "span.go:73", after := #[{ on := 16, ground := Ground.data }, { on := 17, ground := Ground.chain }, { on := 0, ground := Ground.phase }, { on := 1, ground := Ground.phase }, { on := 2, ground := Ground.phase }, { on := 3, ground := Ground.phase }, { on := 4, ground := Ground.phase }, { on := 5, ground := Ground.phase }, { on := 6, ground := Ground.phase }, { on := 7, ground := Ground.phase }, { on := 8, ground := Ground.phase }, { on := 9, ground := Ground.phase }, { on := 10, ground := Ground.phase }, { on := 11, ground := Ground.phase }, { on := 12, ground := Ground.phase }, { on := 13, ground := Ground.phase }, { on := 14, ground := Ground.phase }, { on := 15, ground := Ground.phase }, { on := 16, ground := Ground.phase }, { on := 17, ground := Ground.phase }], guard := none }) (v := .int .i64 rc) rfl (by kernel_rfl) (by kernel_rfl) (by kernel_rfl) (fun _ _ _ h => h) (Or.inl ⟨by rfl, fun w9 hSw => ?_⟩) hHeld6 ?_
      · (try dsimp only at hSw); go_simp
      try simp only [Act.put, List.setIfInBounds_toArray, List.set_cons_zero, List.set_cons_succ]
      refine wpAnyH_done (by kernel_rfl) ?_ _
      clear hHeld0 hHeld1 hHeld2 hHeld3 hHeld4 hHeld5 hHeld6
      have HG2 := hide (bl_trans8 HG.out gT5)
      have HC2 := hide (block_upW gT5 HC1.out)
      have HSR2 := hide (HSR.out.base HG.out.size)
      clear HG HC1 HSR KS KT
      have HG := HG2
      have HC1 := HC2
      have HSR := HSR2
      clear HG2 HC2 HSR2
      have T3 := hexa_all HC1.out (.bool p) (.slice pa pn pk) (.int .i64 pe) (.bool q) (.slice qa qn qk) (.int .i64 qe)
      have T4 := below_hexa HG.out (show w.heap.size ≤ w.heap.size + 1 + 1 by omega) (.bool p) (.slice pa pn pk) (.int .i64 pe) (.bool q) (.slice qa qn qk) (.int .i64 qe)
      have T5 := HSR.out.hexa HC1.out (by decide) (.bool p) (.slice pa pn pk) (.int .i64 pe) (.bool q) (.slice qa qn qk) (.int .i64 qe)
      obtain ⟨p0, p1, p2, p3, p4, p5⟩ := hexa T3
      have HE := hide (And.intro T5 T4)
      clear T3 T4 T5 hz hf m0 m1 m2 m3 m4 m5
      generalize (((((T5.setCell ⟨w.heap.size + 1 + 1, 0, none⟩ (.bool p)).setCell ⟨w.heap.size + 1 + 1, 1, none⟩ (.slice pa pn pk)).setCell ⟨w.heap.size + 1 + 1, 2, none⟩ (.int .i64 pe)).setCell ⟨w.heap.size + 1 + 1, 3, none⟩ (.bool q)).setCell ⟨w.heap.size + 1 + 1, 4, none⟩ (.slice qa qn qk)).setCell ⟨w.heap.size + 1 + 1, 5, none⟩ (.int .i64 qe) = w5 at *
      go_wp2
      refine bodyPost_ret (v := .tuple #[.agg #[.bool p, .slice pa pn pk, .int .i64 pe, .bool q, .slice qa qn qk, .int .i64 qe], .int .i64 rc]) (by simp [results, Tryz.results19, go_sem, p0, p1, p2, p3, p4, p5]) rfl ?_
      exact ⟨⟨_, _, _, _, _, _, _, _, _, _, _, rfl, HE.out.1⟩, HE.out.2⟩
    refine AllReadyH.cons rfl (fun K hK => ?_) ?_
    · skip
      go_simp
      refine hK.out _ _ (KS.out _ (bl_alloc10 gPB1 _)) (fun hHeld7 => ?_)
      clear hK K
      try simp only [Act.put, List.setIfInBounds_toArray, List.set_cons_zero, List.set_cons_succ]
      obtain ⟨PB7, hPB7, hbPB7, hxPB7⟩ := enter1 PB1 (.cells #[.bool b4, .slice a4 n4 k4, .int .i64 ex4] 31)
      rw [hPB7] at hHeld7 ⊢
      have gPB7 := bl_trans8 gPB1 hbPB7
      clear hPB7
      refine wpAnyH_ready (rs := [5]) (by kernel_rfl) (by simp) ?_
      refine AllReadyH.cons rfl (fun K hK => ?_) AllReadyH.nil
      go_simp
      refine (hull1N UD.heap.size b1 a1 n1 k1 ex1 b3 a3 n3 k3 ex3 L V1 V3 PB7 (block_upW hbPB7 hxPB1) (HNT.out.1.below gPB7) (HNT.out.2.2.1.below gPB7) LL.out).mono ?_
      rintro e' T8 ⟨⟨lx, lxa, lxn, lxk, lxe, ly, lya, lyn, lyk, lye, rfl, nlx, nly⟩, hbT8⟩
      have gT8 := bl_trans8 gPB7 hbT8
      refine hK.out _ _ (KS.out _ gT8) (fun hHeld8 => ?_)
      clear hK K
      try simp only [Act.put, List.setIfInBounds_toArray, List.set_cons_zero, List.set_cons_succ]
      refine wpAnyH_take (i := 6) (oi := { dst := some 21, op := Op.field 33 (Operand.tmp 20) 1, type := 31, pos := "span.go:73", after := #[{ on := 5, ground := Ground.data }], guard := none }) (v := .agg #[.bool ly, .slice lya lyn lyk, .int .i64 lye]) rfl (by kernel_rfl) (by kernel_rfl) (by kernel_rfl) (fun _ _ _ h => h) (Or.inl ⟨by rfl, fun w9 hSw => ?_⟩) hHeld8 ?_
      · (try dsimp only at hSw); go_simp
      try simp only [Act.put, List.setIfInBounds_toArray, List.set_cons_zero, List.set_cons_succ]
      refine wpAnyH_ready (rs := [12]) (by kernel_rfl) (by simp) ?_
      refine AllReadyH.cons rfl (fun K hK => ?_) AllReadyH.nil
      go_simp
      refine (hull1N PB1.heap.size b2 a2 n2 k2 ex2 b4 a4 n4 k4 ex4 L V2 V4 T8 (block_upW hbT8 hxPB7) (HNT.out.2.1.below gT8) (HNT.out.2.2.2.below gT8) LL.out).mono ?_
      rintro e' T9 ⟨⟨hx, hxa, hxn, hxk, hxe, hy, hya, hyn, hyk, hye, rfl, nhx, nhy⟩, hbT9⟩
      have gT9 := bl_trans8 gT8 hbT9
      refine hK.out _ _ (KS.out _ gT9) (fun hHeld9 => ?_)
      clear hK K
      try simp only [Act.put, List.setIfInBounds_toArray, List.set_cons_zero, List.set_cons_succ]
      refine wpAnyH_take (i := 13) (oi := { dst := some 28, op := Op.field 33 (Operand.tmp 27) 1, type := 31, pos := "span.go:73", after := #[{ on := 12, ground := Ground.data }], guard := none }) (v := .agg #[.bool hy, .slice hya hyn hyk, .int .i64 hye]) rfl (by kernel_rfl) (by kernel_rfl) (by kernel_rfl) (fun _ _ _ h => h) (Or.inl ⟨by rfl, fun w9 hSw => ?_⟩) hHeld9 ?_
      · (try dsimp only at hSw); go_simp
      try simp only [Act.put, List.setIfInBounds_toArray, List.set_cons_zero, List.set_cons_succ]
      refine wpAnyH_ready (rs := [14]) (by kernel_rfl) (by simp) ?_
      refine AllReadyH.cons rfl (fun K hK => ?_) AllReadyH.nil
      go_simp
      refine (smakeN ly lya lyn lyk lye hy hya hyn hyk hye L (max V1 V3) (max V2 V4) T9 (HTT.out.below gT9) (nly.below hbT9) (nhy.below (Below.refl _ _)) LL.out).mono ?_
      rintro e' T10 ⟨⟨p, pa, pn, pk, pe, q, qa, qn, qk, qe, rc, rfl, hs⟩, hbT10⟩
      have gT10 := bl_trans8 gT9 hbT10
      rw [show (if (max V2 V4) < (max V1 V3) then (100 : Int) else 0) = 0 by have x1 := OO.out.1; have x2 := OO.out.2; rw [if_neg (by omega)]] at hs
      have HSR := hide (hs.base (gT9.size))
      have hz := block_upW gT10 HC1.out
      have hf := hexaf hz
      obtain ⟨m0, m1, m2, m3, m4, m5⟩ := hexa hz
      refine hK.out _ _ (KS.out _ gT10) (fun hHeld10 => ?_)
      clear hK K
      try simp only [Act.put, List.setIfInBounds_toArray, List.set_cons_zero, List.set_cons_succ]
      refine wpAnyH_take (i := 15) (oi := { dst := some 30, op := Op.extract (Operand.tmp 29) 0, type := 33, pos := "span.go:73", after := #[{ on := 14, ground := Ground.data }], guard := none }) (v := .agg #[.bool p, .slice pa pn pk, .int .i64 pe, .bool q, .slice qa qn qk, .int .i64 qe]) rfl (by kernel_rfl) (by kernel_rfl) (by kernel_rfl) (fun _ _ _ h => h) (Or.inl ⟨by rfl, fun w9 hSw => ?_⟩) hHeld10 ?_
      · (try dsimp only at hSw); go_simp
      try simp only [Act.put, List.setIfInBounds_toArray, List.set_cons_zero, List.set_cons_succ]
      refine wpAnyH_take (i := 16) (oi := { dst := some 31, op := Op.extract (Operand.tmp 29) 1, type := 37, pos := "span.go:73", after := #[{ on := 14, ground := Ground.data }], guard := none }) (v := .int .i64 rc) rfl (by kernel_rfl) (by kernel_rfl) (by kernel_rfl) (fun _ _ _ h => h) (Or.inl ⟨by rfl, fun w9 hSw => ?_⟩) hHeld10 ?_
      · (try dsimp only at hSw); go_simp
      try simp only [Act.put, List.setIfInBounds_toArray, List.set_cons_zero, List.set_cons_succ]
      refine wpAnyH_ready (rs := [17]) (by kernel_rfl) (by simp) ?_
      refine AllReadyH.cons rfl (fun K hK => ?_) AllReadyH.nil
      skip
      go_simp
      refine hK.out _ _ (KT.out _ gT10 _ _ _ _ _ _) (fun hHeld11 => ?_)
      clear hK K
      try simp only [Act.put, List.setIfInBounds_toArray, List.set_cons_zero, List.set_cons_succ]
      refine wpAnyH_take (i := 18) (oi := { dst := some 5, op := Op.assign (Operand.tmp 31), type := 37, pos := "span.go:73", after := #[{ on := 16, ground := Ground.data }, { on := 17, ground := Ground.chain }, { on := 0, ground := Ground.phase }, { on := 1, ground := Ground.phase }, { on := 2, ground := Ground.phase }, { on := 3, ground := Ground.phase }, { on := 4, ground := Ground.phase }, { on := 5, ground := Ground.phase }, { on := 6, ground := Ground.phase }, { on := 7, ground := Ground.phase }, { on := 8, ground := Ground.phase }, { on := 9, ground := Ground.phase }, { on := 10, ground := Ground.phase }, { on := 11, ground := Ground.phase }, { on := 12, ground := Ground.phase }, { on := 13, ground := Ground.phase }, { on := 14, ground := Ground.phase }, { on := 15, ground := Ground.phase }, { on := 16, ground := Ground.phase }, { on := 17, ground := Ground.phase }], guard := none }) (v := .int .i64 rc) rfl (by kernel_rfl) (by kernel_rfl) (by kernel_rfl) (fun _ _ _ h => h) (Or.inl ⟨by rfl, fun w9 hSw => ?_⟩) hHeld11 ?_
      · (try dsimp only at hSw); go_simp
      try simp only [Act.put, List.setIfInBounds_toArray, List.set_cons_zero, List.set_cons_succ]
      refine wpAnyH_done (by kernel_rfl) ?_ _
      clear hHeld0 hHeld1 hHeld7 hHeld8 hHeld9 hHeld10 hHeld11
      have HG2 := hide (bl_trans8 HG.out gT10)
      have HC2 := hide (block_upW gT10 HC1.out)
      have HSR2 := hide (HSR.out.base HG.out.size)
      clear HG HC1 HSR KS KT
      have HG := HG2
      have HC1 := HC2
      have HSR := HSR2
      clear HG2 HC2 HSR2
      have T3 := hexa_all HC1.out (.bool p) (.slice pa pn pk) (.int .i64 pe) (.bool q) (.slice qa qn qk) (.int .i64 qe)
      have T4 := below_hexa HG.out (show w.heap.size ≤ w.heap.size + 1 + 1 by omega) (.bool p) (.slice pa pn pk) (.int .i64 pe) (.bool q) (.slice qa qn qk) (.int .i64 qe)
      have T5 := HSR.out.hexa HC1.out (by decide) (.bool p) (.slice pa pn pk) (.int .i64 pe) (.bool q) (.slice qa qn qk) (.int .i64 qe)
      obtain ⟨p0, p1, p2, p3, p4, p5⟩ := hexa T3
      have HE := hide (And.intro T5 T4)
      clear T3 T4 T5 hz hf m0 m1 m2 m3 m4 m5
      generalize (((((T10.setCell ⟨w.heap.size + 1 + 1, 0, none⟩ (.bool p)).setCell ⟨w.heap.size + 1 + 1, 1, none⟩ (.slice pa pn pk)).setCell ⟨w.heap.size + 1 + 1, 2, none⟩ (.int .i64 pe)).setCell ⟨w.heap.size + 1 + 1, 3, none⟩ (.bool q)).setCell ⟨w.heap.size + 1 + 1, 4, none⟩ (.slice qa qn qk)).setCell ⟨w.heap.size + 1 + 1, 5, none⟩ (.int .i64 qe) = w5 at *
      go_wp2
      refine bodyPost_ret (v := .tuple #[.agg #[.bool p, .slice pa pn pk, .int .i64 pe, .bool q, .slice qa qn qk, .int .i64 qe], .int .i64 rc]) (by simp [results, Tryz.results19, go_sem, p0, p1, p2, p3, p4, p5]) rfl ?_
      exact ⟨⟨_, _, _, _, _, _, _, _, _, _, _, rfl, HE.out.1⟩, HE.out.2⟩
    exact AllReadyH.nil
  refine AllReadyH.cons rfl (fun K hK => ?_) ?_
  · skip
    go_simp
    refine hK.out _ _ (KS.out _ (bl_alloc10 gUD _)) (fun hHeld12 => ?_)
    clear hK K
    try simp only [Act.put, List.setIfInBounds_toArray, List.set_cons_zero, List.set_cons_succ]
    obtain ⟨PB12, hPB12, hbPB12, hxPB12⟩ := enter1 UD (.cells #[.bool b4, .slice a4 n4 k4, .int .i64 ex4] 31)
    rw [hPB12] at hHeld12 ⊢
    have gPB12 := bl_trans8 gUD hbPB12
    clear hPB12
    refine wpAnyH_ready (rs := [4]) (by kernel_rfl) (by simp) ?_
    refine AllReadyH.cons rfl (fun K hK => ?_) AllReadyH.nil
    go_simp
    refine hK.out _ _ (KS.out _ (bl_alloc10 gPB12 _)) (fun hHeld13 => ?_)
    clear hK K
    try simp only [Act.put, List.setIfInBounds_toArray, List.set_cons_zero, List.set_cons_succ]
    obtain ⟨PB13, hPB13, hbPB13, hxPB13⟩ := enter1 PB12 (.cells #[.bool b3, .slice a3 n3 k3, .int .i64 ex3] 31)
    rw [hPB13] at hHeld13 ⊢
    have gPB13 := bl_trans8 gPB12 hbPB13
    clear hPB13
    refine wpAnyH_ready (rs := [5]) (by kernel_rfl) (by simp) ?_
    refine AllReadyH.cons rfl (fun K hK => ?_) AllReadyH.nil
    go_simp
    refine (hull1N PB12.heap.size b1 a1 n1 k1 ex1 b3 a3 n3 k3 ex3 L V1 V3 PB13 (hxPB13) (HNT.out.1.below gPB13) (HNT.out.2.2.1.below gPB13) LL.out).mono ?_
    rintro e' T14 ⟨⟨lx, lxa, lxn, lxk, lxe, ly, lya, lyn, lyk, lye, rfl, nlx, nly⟩, hbT14⟩
    have gT14 := bl_trans8 gPB13 hbT14
    refine hK.out _ _ (KS.out _ gT14) (fun hHeld14 => ?_)
    clear hK K
    try simp only [Act.put, List.setIfInBounds_toArray, List.set_cons_zero, List.set_cons_succ]
    refine wpAnyH_take (i := 6) (oi := { dst := some 21, op := Op.field 33 (Operand.tmp 20) 1, type := 31, pos := "span.go:73", after := #[{ on := 5, ground := Ground.data }], guard := none }) (v := .agg #[.bool ly, .slice lya lyn lyk, .int .i64 lye]) rfl (by kernel_rfl) (by kernel_rfl) (by kernel_rfl) (fun _ _ _ h => h) (Or.inl ⟨by rfl, fun w9 hSw => ?_⟩) hHeld14 ?_
    · (try dsimp only at hSw); go_simp
    try simp only [Act.put, List.setIfInBounds_toArray, List.set_cons_zero, List.set_cons_succ]
    refine wpAnyH_ready (rs := [12]) (by kernel_rfl) (by simp) ?_
    refine AllReadyH.cons rfl (fun K hK => ?_) AllReadyH.nil
    go_simp
    refine (hull1N UD.heap.size b2 a2 n2 k2 ex2 b4 a4 n4 k4 ex4 L V2 V4 T14 (block_upW (bl_trans8 hbPB13 hbT14) hxPB12) (HNT.out.2.1.below gT14) (HNT.out.2.2.2.below gT14) LL.out).mono ?_
    rintro e' T15 ⟨⟨hx, hxa, hxn, hxk, hxe, hy, hya, hyn, hyk, hye, rfl, nhx, nhy⟩, hbT15⟩
    have gT15 := bl_trans8 gT14 hbT15
    refine hK.out _ _ (KS.out _ gT15) (fun hHeld15 => ?_)
    clear hK K
    try simp only [Act.put, List.setIfInBounds_toArray, List.set_cons_zero, List.set_cons_succ]
    refine wpAnyH_take (i := 13) (oi := { dst := some 28, op := Op.field 33 (Operand.tmp 27) 1, type := 31, pos := "span.go:73", after := #[{ on := 12, ground := Ground.data }], guard := none }) (v := .agg #[.bool hy, .slice hya hyn hyk, .int .i64 hye]) rfl (by kernel_rfl) (by kernel_rfl) (by kernel_rfl) (fun _ _ _ h => h) (Or.inl ⟨by rfl, fun w9 hSw => ?_⟩) hHeld15 ?_
    · (try dsimp only at hSw); go_simp
    try simp only [Act.put, List.setIfInBounds_toArray, List.set_cons_zero, List.set_cons_succ]
    refine wpAnyH_ready (rs := [14]) (by kernel_rfl) (by simp) ?_
    refine AllReadyH.cons rfl (fun K hK => ?_) AllReadyH.nil
    go_simp
    refine (smakeN ly lya lyn lyk lye hy hya hyn hyk hye L (max V1 V3) (max V2 V4) T15 (HTT.out.below gT15) (nly.below hbT15) (nhy.below (Below.refl _ _)) LL.out).mono ?_
    rintro e' T16 ⟨⟨p, pa, pn, pk, pe, q, qa, qn, qk, qe, rc, rfl, hs⟩, hbT16⟩
    have gT16 := bl_trans8 gT15 hbT16
    rw [show (if (max V2 V4) < (max V1 V3) then (100 : Int) else 0) = 0 by have x1 := OO.out.1; have x2 := OO.out.2; rw [if_neg (by omega)]] at hs
    have HSR := hide (hs.base (gT15.size))
    have hz := block_upW gT16 HC1.out
    have hf := hexaf hz
    obtain ⟨m0, m1, m2, m3, m4, m5⟩ := hexa hz
    refine hK.out _ _ (KS.out _ gT16) (fun hHeld16 => ?_)
    clear hK K
    try simp only [Act.put, List.setIfInBounds_toArray, List.set_cons_zero, List.set_cons_succ]
    refine wpAnyH_take (i := 15) (oi := { dst := some 30, op := Op.extract (Operand.tmp 29) 0, type := 33, pos := "span.go:73", after := #[{ on := 14, ground := Ground.data }], guard := none }) (v := .agg #[.bool p, .slice pa pn pk, .int .i64 pe, .bool q, .slice qa qn qk, .int .i64 qe]) rfl (by kernel_rfl) (by kernel_rfl) (by kernel_rfl) (fun _ _ _ h => h) (Or.inl ⟨by rfl, fun w9 hSw => ?_⟩) hHeld16 ?_
    · (try dsimp only at hSw); go_simp
    try simp only [Act.put, List.setIfInBounds_toArray, List.set_cons_zero, List.set_cons_succ]
    refine wpAnyH_take (i := 16) (oi := { dst := some 31, op := Op.extract (Operand.tmp 29) 1, type := 37, pos := "span.go:73", after := #[{ on := 14, ground := Ground.data }], guard := none }) (v := .int .i64 rc) rfl (by kernel_rfl) (by kernel_rfl) (by kernel_rfl) (fun _ _ _ h => h) (Or.inl ⟨by rfl, fun w9 hSw => ?_⟩) hHeld16 ?_
    · (try dsimp only at hSw); go_simp
    try simp only [Act.put, List.setIfInBounds_toArray, List.set_cons_zero, List.set_cons_succ]
    refine wpAnyH_ready (rs := [17]) (by kernel_rfl) (by simp) ?_
    refine AllReadyH.cons rfl (fun K hK => ?_) AllReadyH.nil
    skip
    go_simp
    refine hK.out _ _ (KT.out _ gT16 _ _ _ _ _ _) (fun hHeld17 => ?_)
    clear hK K
    try simp only [Act.put, List.setIfInBounds_toArray, List.set_cons_zero, List.set_cons_succ]
    refine wpAnyH_take (i := 18) (oi := { dst := some 5, op := Op.assign (Operand.tmp 31), type := 37, pos := "span.go:73", after := #[{ on := 16, ground := Ground.data }, { on := 17, ground := Ground.chain }, { on := 0, ground := Ground.phase }, { on := 1, ground := Ground.phase }, { on := 2, ground := Ground.phase }, { on := 3, ground := Ground.phase }, { on := 4, ground := Ground.phase }, { on := 5, ground := Ground.phase }, { on := 6, ground := Ground.phase }, { on := 7, ground := Ground.phase }, { on := 8, ground := Ground.phase }, { on := 9, ground := Ground.phase }, { on := 10, ground := Ground.phase }, { on := 11, ground := Ground.phase }, { on := 12, ground := Ground.phase }, { on := 13, ground := Ground.phase }, { on := 14, ground := Ground.phase }, { on := 15, ground := Ground.phase }, { on := 16, ground := Ground.phase }, { on := 17, ground := Ground.phase }], guard := none }) (v := .int .i64 rc) rfl (by kernel_rfl) (by kernel_rfl) (by kernel_rfl) (fun _ _ _ h => h) (Or.inl ⟨by rfl, fun w9 hSw => ?_⟩) hHeld17 ?_
    · (try dsimp only at hSw); go_simp
    try simp only [Act.put, List.setIfInBounds_toArray, List.set_cons_zero, List.set_cons_succ]
    refine wpAnyH_done (by kernel_rfl) ?_ _
    clear hHeld0 hHeld12 hHeld13 hHeld14 hHeld15 hHeld16 hHeld17
    have HG2 := hide (bl_trans8 HG.out gT16)
    have HC2 := hide (block_upW gT16 HC1.out)
    have HSR2 := hide (HSR.out.base HG.out.size)
    clear HG HC1 HSR KS KT
    have HG := HG2
    have HC1 := HC2
    have HSR := HSR2
    clear HG2 HC2 HSR2
    have T3 := hexa_all HC1.out (.bool p) (.slice pa pn pk) (.int .i64 pe) (.bool q) (.slice qa qn qk) (.int .i64 qe)
    have T4 := below_hexa HG.out (show w.heap.size ≤ w.heap.size + 1 + 1 by omega) (.bool p) (.slice pa pn pk) (.int .i64 pe) (.bool q) (.slice qa qn qk) (.int .i64 qe)
    have T5 := HSR.out.hexa HC1.out (by decide) (.bool p) (.slice pa pn pk) (.int .i64 pe) (.bool q) (.slice qa qn qk) (.int .i64 qe)
    obtain ⟨p0, p1, p2, p3, p4, p5⟩ := hexa T3
    have HE := hide (And.intro T5 T4)
    clear T3 T4 T5 hz hf m0 m1 m2 m3 m4 m5
    generalize (((((T16.setCell ⟨w.heap.size + 1 + 1, 0, none⟩ (.bool p)).setCell ⟨w.heap.size + 1 + 1, 1, none⟩ (.slice pa pn pk)).setCell ⟨w.heap.size + 1 + 1, 2, none⟩ (.int .i64 pe)).setCell ⟨w.heap.size + 1 + 1, 3, none⟩ (.bool q)).setCell ⟨w.heap.size + 1 + 1, 4, none⟩ (.slice qa qn qk)).setCell ⟨w.heap.size + 1 + 1, 5, none⟩ (.int .i64 qe) = w5 at *
    go_wp2
    refine bodyPost_ret (v := .tuple #[.agg #[.bool p, .slice pa pn pk, .int .i64 pe, .bool q, .slice qa qn qk, .int .i64 qe], .int .i64 rc]) (by simp [results, Tryz.results19, go_sem, p0, p1, p2, p3, p4, p5]) rfl ?_
    exact ⟨⟨_, _, _, _, _, _, _, _, _, _, _, rfl, HE.out.1⟩, HE.out.2⟩
  exact AllReadyH.nil

end Go.Proofs.YtppkhhbhnhijpaaGreatDoor
