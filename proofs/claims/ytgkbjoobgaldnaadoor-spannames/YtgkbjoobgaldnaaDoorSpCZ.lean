/- Package span: byEnds where nothing is refused. -/
import Derived.Test.YtgkbjoobgaldnaaDoorSpBZ
namespace Go.Proofs.YtgkbjoobgaldnaaDoor
open Go.RowKit
open Lm
attribute [local go_sem ↓] Go.wp_at_zero Go.wp_at_succ

set_option maxRecDepth 20000 in
set_option maxHeartbeats 2000000 in
theorem byP (b1 : Bool) (a1 : Option Addr) (n1 k1 : Nat) (ex1 : Int) (b2 : Bool) (a2 : Option Addr) (n2 k2 : Nat) (ex2 : Int) (b3 : Bool) (a3 : Option Addr) (n3 k3 : Nat) (ex3 : Int) (b4 : Bool) (a4 : Option Addr) (n4 k4 : Nat) (ex4 : Int) (L : Nat) (V1 V2 V3 V4 : Int) (w : World) (hT : Tab w) (h1 : I8 w b1 a1 n1 k1 ex1 L V1) (h2 : I8 w b2 a2 n2 k2 ex2 L V2) (h3 : I8 w b3 a3 n3 k3 ex3 L V3) (h4 : I8 w b4 a4 n4 k4 ex4 L V4) (hE1 : fitE ex1 = true) (hE2 : fitE ex2 = true) (hE3 : fitE ex3 = true) (hE4 : fitE ex4 = true) (ho : Ok8 L (V1 + V2)) (ho2 : Ok8 L (V3 + V4)) :
    Calls Tryd.prog 17 #[.agg #[.bool b1, .slice a1 n1 k1, .int .i64 ex1, .bool b2, .slice a2 n2 k2, .int .i64 ex2], .agg #[.bool b3, .slice a3 n3 k3, .int .i64 ex3, .bool b4, .slice a4 n4 k4, .int .i64 ex4], .func (.func 18) #[] #[]] w fun e w' => SS8 w e w' L (V1 + V2) (V3 + V4) := by
  obtain ⟨w0, hw0, hb0, q0, q1, q9⟩ := enter3 w (.cells #[.bool b1, .slice a1 n1 k1, .int .i64 ex1, .bool b2, .slice a2 n2 k2, .int .i64 ex2] 53) (.cells #[.bool b3, .slice a3 n3 k3, .int .i64 ex3, .bool b4, .slice a4 n4 k4, .int .i64 ex4] 53) (.cells #[.bool false, .slice none 0 0, .int .i64 0, .bool false, .slice none 0 0, .int .i64 0] 32)
  obtain ⟨y0, y1, y2, y3, y4, y5⟩ := hexa q0
  have HU0 := hide hb0
  have HQ0 := hide q1
  have HR0 : Hid (w0.heap[w.heap.size + 1 + 1]? = some (.cells #[.bool false, .slice none 0 0, .int .i64 0, .bool false, .slice none 0 0, .int .i64 0] 32)) := hide q9
  have C1 := hide (fun (W : World) (hg : Below w.heap.size w W) => sumsF b1 a1 n1 k1 ex1 b2 a2 n2 k2 ex2 0 L V1 V2 W (hT.below hg) (h1.below hg) (h2.below hg) hE1 hE2 ho)
  have C2 := hide (fun (W : World) (hg : Below w.heap.size w W) => sumsF b3 a3 n3 k3 ex3 b4 a4 n4 k4 ex4 1 L V3 V4 W (hT.below hg) (h3.below hg) (h4.below hg) hE3 hE4 ho2)
  generalize V1 + V2 = VA at *
  generalize V3 + V4 = VB at *
  clear q0 q1 q9 hb0 hT h1 h2 h3 h4 ho ho2
  go_enter Tryd.func17, Tryd.ntmps17
  go_wp2_with fail
  refine (C1.out w0 HU0.out).mono ?_
  rintro e t1 ⟨⟨b6, a6, n6, c6, e6, rfl, hg⟩, g1⟩
  obtain ⟨w2, hw2, hb2, q2⟩ := enter1 t1 (.cells #[.bool b6, .slice a6 n6 c6, .int .i64 e6] 30)
  have s2 := bl_trans8 g1 hb2
  have HU2 := hide (bl_trans8 HU0.out s2)
  have HX2 := hide q2
  have HD1 := hide (hg.below hb2)
  have HQ1 := hide (block_upW s2 HQ0.out)
  have HR1 := hide (block_upW s2 HR0.out)
  clear g1 hg hb2 q2 s2 y0 y1 y2 y3 y4 y5 hw0
  obtain ⟨z0, z1, z2, z3, z4, z5⟩ := hexa HQ1.out
  go_wp2_with fail
  refine (C2.out w2 HU2.out).mono ?_
  rintro e t3 ⟨⟨b7, a7, n7, c7, e7, rfl, hg⟩, g1⟩
  obtain ⟨w4, hw4, hb4, q4⟩ := enter1 t3 (.cells #[.bool b7, .slice a7 n7 c7, .int .i64 e7] 30)
  obtain ⟨w6, hw6, hb6, q6⟩ := enter1 w4 (.cells #[.int .i64 0, .int .i64 0] 23)
  have s4 := bl_trans8 (bl_trans8 g1 hb4) hb6
  have HG := hide (bl_trans8 HU2.out s4)
  have HX4 := hide (block_upW s4 HX2.out)
  have HX5 := hide (block_upW hb6 q4)
  have HD3 := hide (HD1.out.below s4)
  have HD2 := hide ((hg.below hb4).below hb6)
  have HC1 := hide (block_upW s4 HR1.out)
  have RF := refusal_ok w4.heap.size w6 q6
  clear g1 hg hb4 q4 s4 z0 z1 z2 z3 z4 z5 hw2 HD1 hb6 q6
  have HD1 := HD3
  go_wp2_with fail
  refine RF.mono ?_
  rintro e wn ⟨rfl, hw⟩; rw [hw]; clear hw wn RF
  obtain ⟨x0, x1, x2⟩ := tri8 HX4.out
  obtain ⟨x3, x4, x5⟩ := tri8 HX5.out
  have hf1 := hexaf HC1.out
  obtain ⟨m0, m1, m2, m3, m4, m5⟩ := hexa HC1.out
  go_wp2
  have T3 := hexa_all HC1.out (.bool b6) (.slice a6 n6 c6) (.int .i64 e6) (.bool b7) (.slice a7 n7 c7) (.int .i64 e7)
  have T4 := below_hexa HG.out (show w.heap.size ≤ w.heap.size + 1 + 1 by omega) (.bool b6) (.slice a6 n6 c6) (.int .i64 e6) (.bool b7) (.slice a7 n7 c7) (.int .i64 e7)
  have T5 := HD1.out.hexa HC1.out b6 a6 n6 c6 e6 b7 a7 n7 c7 e7
  have T6 := HD2.out.hexa HC1.out b6 a6 n6 c6 e6 b7 a7 n7 c7 e7
  obtain ⟨p0, p1, p2, p3, p4, p5⟩ := hexa T3
  have HE := hide (And.intro T5 (And.intro T6 T4))
  clear T3 T4 T5 T6
  generalize (((((w6.setCell ⟨w.heap.size + 1 + 1, 0, none⟩ (.bool b6)).setCell ⟨w.heap.size + 1 + 1, 1, none⟩ (.slice a6 n6 c6)).setCell ⟨w.heap.size + 1 + 1, 2, none⟩ (.int .i64 e6)).setCell ⟨w.heap.size + 1 + 1, 3, none⟩ (.bool b7)).setCell ⟨w.heap.size + 1 + 1, 4, none⟩ (.slice a7 n7 c7)).setCell ⟨w.heap.size + 1 + 1, 5, none⟩ (.int .i64 e7) = w5 at *
  refine bodyPost_ret (v := .tuple #[.agg #[.bool b6, .slice a6 n6 c6, .int .i64 e6, .bool b7, .slice a7 n7 c7, .int .i64 e7], .int .i64 0]) (by simp [results, Tryd.results17, go_sem, p0, p1, p2, p3, p4, p5]) rfl ?_
  exact ⟨⟨_, _, _, _, _, _, _, _, _, _, rfl, HE.out.1, HE.out.2.1⟩, HE.out.2.2⟩

set_option maxRecDepth 20000 in
set_option maxHeartbeats 2000000 in
theorem byD (gp : Nat) (pos : Int) (b1 : Bool) (a1 : Option Addr) (n1 k1 : Nat) (ex1 : Int) (b3 : Bool) (a3 : Option Addr) (n3 k3 : Nat) (ex3 : Int) (L : Nat) (V1 V3 : Int) (w : World) (hp : w.heap[gp]? = some (.cells #[.int .i64 pos] 3)) (hT : Tab w) (h1 : G8 w b1 a1 n1 k1 ex1 L V1) (h3 : G8 w b3 a3 n3 k3 ex3 L V3) (hL : 4611686018427387904 ≤ L) (hK : fitE pos = true) (ho : Ok8 L (rv 0 V1 (2 ^ (pos + L).toNat))) (ho2 : Ok8 L (rv 1 V3 (2 ^ (pos + L).toNat))) :
    Calls Tryd.prog 39 #[.agg #[.bool b1, .slice a1 n1 k1, .int .i64 ex1], .agg #[.bool b3, .slice a3 n3 k3, .int .i64 ex3], .func (.func 40) #[] #[.pointer (some ⟨gp, 0, none⟩)]] w fun e w' => SS8 w e w' L (rv 0 V1 (2 ^ (pos + L).toNat)) (rv 1 V3 (2 ^ (pos + L).toNat)) := by
  obtain ⟨w0, hw0, hb0, q0, q1, q9⟩ := enter3 w (.cells #[.bool b1, .slice a1 n1 k1, .int .i64 ex1] 30) (.cells #[.bool b3, .slice a3 n3 k3, .int .i64 ex3] 30) (.cells #[.bool false, .slice none 0 0, .int .i64 0, .bool false, .slice none 0 0, .int .i64 0] 32)
  obtain ⟨y0, y1, y2⟩ := tri8 q0
  have HU0 := hide hb0
  have HQ0 := hide q1
  have HR0 : Hid (w0.heap[w.heap.size + 1 + 1]? = some (.cells #[.bool false, .slice none 0 0, .int .i64 0, .bool false, .slice none 0 0, .int .i64 0] 32)) := hide q9
  have C1 := hide (fun (W : World) (hg : Below w.heap.size w W) => outF gp pos b1 a1 n1 k1 ex1 0 L V1 W (block_upW hg hp) (hT.below hg) (h1.below hg) hL hK (by decide) ho)
  have C2 := hide (fun (W : World) (hg : Below w.heap.size w W) => outF gp pos b3 a3 n3 k3 ex3 1 L V3 W (block_upW hg hp) (hT.below hg) (h3.below hg) hL hK (by decide) ho2)
  generalize rv 0 V1 (2 ^ (pos + L).toNat) = VA at *
  generalize rv 1 V3 (2 ^ (pos + L).toNat) = VB at *
  clear q0 q1 q9 hb0 hT h1 h3 ho ho2 hp
  go_enter Tryd.func39, Tryd.ntmps39
  go_wp2_with fail
  refine (C1.out w0 HU0.out).mono ?_
  rintro e t1 ⟨⟨b6, a6, n6, c6, e6, rfl, hg⟩, g1⟩
  obtain ⟨w2, hw2, hb2, q2⟩ := enter1 t1 (.cells #[.bool b6, .slice a6 n6 c6, .int .i64 e6] 30)
  have s2 := bl_trans8 g1 hb2
  have HU2 := hide (bl_trans8 HU0.out s2)
  have HX2 := hide q2
  have HD1 := hide (hg.below hb2)
  have HQ1 := hide (block_upW s2 HQ0.out)
  have HR1 := hide (block_upW s2 HR0.out)
  clear g1 hg hb2 q2 s2 y0 y1 y2 hw0
  obtain ⟨z0, z1, z2⟩ := tri8 HQ1.out
  go_wp2_with fail
  refine (C2.out w2 HU2.out).mono ?_
  rintro e t3 ⟨⟨b7, a7, n7, c7, e7, rfl, hg⟩, g1⟩
  obtain ⟨w4, hw4, hb4, q4⟩ := enter1 t3 (.cells #[.bool b7, .slice a7 n7 c7, .int .i64 e7] 30)
  obtain ⟨w6, hw6, hb6, q6⟩ := enter1 w4 (.cells #[.int .i64 0, .int .i64 0] 23)
  have s4 := bl_trans8 (bl_trans8 g1 hb4) hb6
  have HG := hide (bl_trans8 HU2.out s4)
  have HX4 := hide (block_upW s4 HX2.out)
  have HX5 := hide (block_upW hb6 q4)
  have HD3 := hide (HD1.out.below s4)
  have HD2 := hide ((hg.below hb4).below hb6)
  have HC1 := hide (block_upW s4 HR1.out)
  have RF := refusal_ok w4.heap.size w6 q6
  clear g1 hg hb4 q4 s4 z0 z1 z2 hw2 HD1 hb6 q6
  have HD1 := HD3
  go_wp2_with fail
  refine RF.mono ?_
  rintro e wn ⟨rfl, hw⟩; rw [hw]; clear hw wn RF
  obtain ⟨x0, x1, x2⟩ := tri8 HX4.out
  obtain ⟨x3, x4, x5⟩ := tri8 HX5.out
  have hf1 := hexaf HC1.out
  obtain ⟨m0, m1, m2, m3, m4, m5⟩ := hexa HC1.out
  go_wp2
  have T3 := hexa_all HC1.out (.bool b6) (.slice a6 n6 c6) (.int .i64 e6) (.bool b7) (.slice a7 n7 c7) (.int .i64 e7)
  have T4 := below_hexa HG.out (show w.heap.size ≤ w.heap.size + 1 + 1 by omega) (.bool b6) (.slice a6 n6 c6) (.int .i64 e6) (.bool b7) (.slice a7 n7 c7) (.int .i64 e7)
  have T5 := HD1.out.hexa HC1.out b6 a6 n6 c6 e6 b7 a7 n7 c7 e7
  have T6 := HD2.out.hexa HC1.out b6 a6 n6 c6 e6 b7 a7 n7 c7 e7
  obtain ⟨p0, p1, p2, p3, p4, p5⟩ := hexa T3
  have HE := hide (And.intro T5 (And.intro T6 T4))
  clear T3 T4 T5 T6
  generalize (((((w6.setCell ⟨w.heap.size + 1 + 1, 0, none⟩ (.bool b6)).setCell ⟨w.heap.size + 1 + 1, 1, none⟩ (.slice a6 n6 c6)).setCell ⟨w.heap.size + 1 + 1, 2, none⟩ (.int .i64 e6)).setCell ⟨w.heap.size + 1 + 1, 3, none⟩ (.bool b7)).setCell ⟨w.heap.size + 1 + 1, 4, none⟩ (.slice a7 n7 c7)).setCell ⟨w.heap.size + 1 + 1, 5, none⟩ (.int .i64 e7) = w5 at *
  refine bodyPost_ret (v := .tuple #[.agg #[.bool b6, .slice a6 n6 c6, .int .i64 e6, .bool b7, .slice a7 n7 c7, .int .i64 e7], .int .i64 0]) (by simp [results, Tryd.results39, go_sem, p0, p1, p2, p3, p4, p5]) rfl ?_
  exact ⟨⟨_, _, _, _, _, _, _, _, _, _, rfl, HE.out.1, HE.out.2.1⟩, HE.out.2.2⟩

end Go.Proofs.YtgkbjoobgaldnaaDoor
