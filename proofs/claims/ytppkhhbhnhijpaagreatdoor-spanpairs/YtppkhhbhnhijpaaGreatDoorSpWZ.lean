/- Package span: Hull, Meet at one scale. -/
import Derived.Test.YtppkhhbhnhijpaaGreatDoorSpVZ
import Derived.Deep.CutBlock
import Derived.Deep.DeepCutAuto
namespace Go.Proofs.YtppkhhbhnhijpaaGreatDoor
open Go.RowKit
open Lm
attribute [local go_sem ↓] Go.wp_at_zero Go.wp_at_succ

attribute [local go_sem] fldS0 fldS1

/-- A span in a box, of two numbers that mean something. -/
def OneN (U : World) (L : Nat) (V1 V2 : Int) (s : Value) (wx : World) : Prop :=
  ∃ (g : Nat) (b : Bool) (a : Option Addr) (n k : Nat) (e : Int) (b' : Bool) (a' : Option Addr) (n' k' : Nat) (e' : Int), s = .pointer (some ⟨g, 0, none⟩) ∧ wx.heap[g]? = some (.cells #[.bool b, .slice a n k, .int .i64 e, .bool b', .slice a' n' k', .int .i64 e'] 33) ∧ N8 wx b a n k e L V1 ∧ N8 wx b' a' n' k' e' L V2 ∧ Below U.heap.size U wx

theorem one_nn {U t : World} {L : Nat} {V1 V2 : Int} {b : Bool} {a : Option Addr} {n k : Nat} {e : Int} {b' : Bool} {a' : Option Addr} {n' k' : Nat} {e' : Int} {gg : Nat} (hq : t.heap[gg]? = some (.cells #[.bool false, .slice none 0 0, .int .i64 0, .bool false, .slice none 0 0, .int .i64 0] 33)) (hge : U.heap.size ≤ gg) (h1 : N8 t b a n k e L V1) (h2 : N8 t b' a' n' k' e' L V2) (g : Below U.heap.size U t) :
    OneN U L V1 V2 (.pointer (some ⟨gg, 0, none⟩)) ((((((t.setCell ⟨gg, 0, none⟩ (.bool b)).setCell ⟨gg, 1, none⟩ (.slice a n k)).setCell ⟨gg, 2, none⟩ (.int .i64 e)).setCell ⟨gg, 3, none⟩ (.bool b')).setCell ⟨gg, 4, none⟩ (.slice a' n' k')).setCell ⟨gg, 5, none⟩ (.int .i64 e')) :=
  ⟨_, b, a, n, k, e, b', a', n', k', e', rfl, hexa_all hq _ _ _ _ _ _, h1.hexa hq b a n k e b' a' n' k' e', h2.hexa hq b a n k e b' a' n' k' e', below_hexa g hge _ _ _ _ _ _⟩

set_option maxRecDepth 20000 in
set_option maxHeartbeats 8000000 in
theorem shull_ok (b1 : Bool) (a1 : Option Addr) (n1 k1 : Nat) (ex1 : Int) (b2 : Bool) (a2 : Option Addr) (n2 k2 : Nat) (ex2 : Int) (b3 : Bool) (a3 : Option Addr) (n3 k3 : Nat) (ex3 : Int) (b4 : Bool) (a4 : Option Addr) (n4 k4 : Nat) (ex4 : Int) (L : Nat) (V1 V2 V3 V4 : Int) (w : World) (hF : FltOf2 w b1 a1 n1 k1 ex1 b2 a2 n2 k2 ex2 b3 a3 n3 k3 ex3 b4 a4 n4 k4 ex4 0) (h1 : N8 w b1 a1 n1 k1 ex1 L V1) (h2 : N8 w b2 a2 n2 k2 ex2 L V2) (h3 : N8 w b3 a3 n3 k3 ex3 L V3) (h4 : N8 w b4 a4 n4 k4 ex4 L V4) (hT : Tab w) (hL : 4611686018427387904 ≤ L) (o1 : V1 ≤ V2) (o2 : V3 ≤ V4) :
    Calls Tryz.prog 20 #[.agg #[.bool b1, .slice a1 n1 k1, .int .i64 ex1, .bool b2, .slice a2 n2 k2, .int .i64 ex2], .agg #[.bool b3, .slice a3 n3 k3, .int .i64 ex3, .bool b4, .slice a4 n4 k4, .int .i64 ex4]] w fun e w' => SAns w e w' 0 L (min V1 V3) (max V2 V4) := by
  obtain ⟨w0, hw0, hb0, q0, q1, q9⟩ := enter3 w (.cells #[.bool b1, .slice a1 n1 k1, .int .i64 ex1, .bool b2, .slice a2 n2 k2, .int .i64 ex2] 33) (.cells #[.bool b3, .slice a3 n3 k3, .int .i64 ex3, .bool b4, .slice a4 n4 k4, .int .i64 ex4] 33) (.cells #[.bool false, .slice none 0 0, .int .i64 0, .bool false, .slice none 0 0, .int .i64 0] 33)
  obtain ⟨w1, hw1, hb1, qf⟩ := enter1 w0 (.cells #[.bool b1, .slice a1 n1 k1, .int .i64 ex1, .bool b2, .slice a2 n2 k2, .int .i64 ex2, .bool b3, .slice a3 n3 k3, .int .i64 ex3, .bool b4, .slice a4 n4 k4, .int .i64 ex4] 33)
  have CF := hF w1 w0.heap.size (bl_trans8 hb0 hb1) qf
  have HU := hide (bl_trans8 hb0 hb1)
  obtain ⟨y0, y1, y2, y3, y4, y5⟩ := hexa q0
  obtain ⟨y6, y7, y8, y9, y10, y11⟩ := hexa q1
  have HQ0 := hide (block_upW hb1 q0)
  have HQ1 := hide (block_upW hb1 q1)
  have HQ9 : Hid (w1.heap[w.heap.size + 1 + 1]? = some (.cells #[.bool false, .slice none 0 0, .int .i64 0, .bool false, .slice none 0 0, .int .i64 0] 33)) := hide (block_upW hb1 q9)
  clear qf hb0 hb1 hF q0 q1 q9
  have HNN := hide (And.intro h1 (And.intro h2 (And.intro h3 h4)))
  have HT := hide hT
  have LL : Hid (4611686018427387904 ≤ L) := hide hL
  have OO := hide (And.intro o1 o2)
  clear h1 h2 h3 h4 hT hL o1 o2
  go_enter Tryz.func20, Tryz.ntmps20
  go_wp2_with fail
  refine CF.mono ?_
  rintro e t2 ⟨rfl, g2⟩
  have HG := hide (bl_trans8 HU.out g2)
  have HP0 := hide (block_upW g2 HQ0.out)
  have HP1 := hide (block_upW g2 HQ1.out)
  have HC1 := hide (block_upW g2 HQ9.out)
  have HZS : Hid (w.heap.size + 1 + 1 < t2.heap.size) := hide (lt_of_block HC1.out)
  clear g2 CF y0 y1 y2 y3 y4 y5 y6 y7 y8 y9 y10 y11 hw0 hw1 HQ0 HQ1 HQ9
  have HNT := hide (And.intro (HNN.out.1.below HG.out) (And.intro (HNN.out.2.1.below HG.out) (And.intro (HNN.out.2.2.1.below HG.out) (HNN.out.2.2.2.below HG.out))))
  obtain ⟨y0, y1, y2, y3, y4, y5⟩ := hexa HP0.out
  obtain ⟨y6, y7, y8, y9, y10, y11⟩ := hexa HP1.out
  obtain ⟨u1, hu1, hbu, qu⟩ := enter1 t2 (.cells #[.bool b2, .slice a2 n2 k2, .int .i64 ex2, .bool b3, .slice a3 n3 k3, .int .i64 ex3, .bool b4, .slice a4 n4 k4, .int .i64 ex4] 31)
  have C := hull3N t2.heap.size b1 a1 n1 k1 ex1 b2 a2 n2 k2 ex2 b3 a3 n3 k3 ex3 b4 a4 n4 k4 ex4 L V1 V2 V3 V4 u1 qu (HNT.out.1.below hbu) (HNT.out.2.1.below hbu) (HNT.out.2.2.1.below hbu) (HNT.out.2.2.2.below hbu) LL.out
  rw [show min (min (min V1 V2) V3) V4 = min V1 V3 by have := OO.out; omega, show max (max (max V1 V2) V3) V4 = max V2 V4 by have := OO.out; omega] at C
  have HBU := hide hbu
  clear hbu qu
  go_wp2_with fail
  refine C.mono ?_
  rintro e t3 ⟨⟨l, la, ln, lk, le, h, ha, hn, hk, he, rfl, n1, n2⟩, hb3⟩
  have g3 := bl_trans8 HBU.out hb3
  clear C y0 y1 y2 y3 y4 y5 y6 y7 y8 y9 y10 y11 hu1 HBU hb3
  have C := answeredN l la ln lk le h ha hn hk he L (min V1 V3) (max V2 V4) t3 ((HT.out.below HG.out).below g3) n1 n2 LL.out (by have := OO.out; omega)
  go_wp2_with fail
  refine C.mono ?_
  rintro e t4 ⟨⟨p, pa, pn, pk, pe, q, qa, qn, qk, qe, rc, rfl, hs⟩, hb4⟩
  have g4 := bl_trans8 g3 hb4
  have HSR := hide (hs.base (Nat.le_trans HG.out.size g3.size))
  have HG2 := hide (bl_trans8 HG.out g4)
  have HC2 := hide (block_upW g4 HC1.out)
  clear C hs hb4 g3 g4 n1 n2 HG HC1
  have HG := HG2
  have HC1 := HC2
  clear HG2 HC2
  have hf1 := hexaf HC1.out
  obtain ⟨m0, m1, m2, m3, m4, m5⟩ := hexa HC1.out
  go_wp2
  have T3 := hexa_all HC1.out (.bool p) (.slice pa pn pk) (.int .i64 pe) (.bool q) (.slice qa qn qk) (.int .i64 qe)
  have T4 := below_hexa HG.out (show w.heap.size ≤ w.heap.size + 1 + 1 by omega) (.bool p) (.slice pa pn pk) (.int .i64 pe) (.bool q) (.slice qa qn qk) (.int .i64 qe)
  have T5 := HSR.out.hexa HC1.out (by decide) (.bool p) (.slice pa pn pk) (.int .i64 pe) (.bool q) (.slice qa qn qk) (.int .i64 qe)
  obtain ⟨p0, p1, p2, p3, p4, p5⟩ := hexa T3
  have HE := hide (And.intro T5 T4)
  clear T3 T4 T5
  generalize (((((t4.setCell ⟨w.heap.size + 1 + 1, 0, none⟩ (.bool p)).setCell ⟨w.heap.size + 1 + 1, 1, none⟩ (.slice pa pn pk)).setCell ⟨w.heap.size + 1 + 1, 2, none⟩ (.int .i64 pe)).setCell ⟨w.heap.size + 1 + 1, 3, none⟩ (.bool q)).setCell ⟨w.heap.size + 1 + 1, 4, none⟩ (.slice qa qn qk)).setCell ⟨w.heap.size + 1 + 1, 5, none⟩ (.int .i64 qe) = w5 at *
  refine bodyPost_ret (v := .tuple #[.agg #[.bool p, .slice pa pn pk, .int .i64 pe, .bool q, .slice qa qn qk, .int .i64 qe], .int .i64 rc]) (by simp [results, Tryz.results20, go_sem, p0, p1, p2, p3, p4, p5]) rfl ?_
  exact ⟨⟨_, _, _, _, _, _, _, _, _, _, _, rfl, HE.out.1⟩, HE.out.2⟩

set_option maxRecDepth 20000 in
set_option maxHeartbeats 8000000 in
theorem smeet_ok (b1 : Bool) (a1 : Option Addr) (n1 k1 : Nat) (ex1 : Int) (b2 : Bool) (a2 : Option Addr) (n2 k2 : Nat) (ex2 : Int) (b3 : Bool) (a3 : Option Addr) (n3 k3 : Nat) (ex3 : Int) (b4 : Bool) (a4 : Option Addr) (n4 k4 : Nat) (ex4 : Int) (L : Nat) (V1 V2 V3 V4 : Int) (w : World) (hF : FltOf2 w b1 a1 n1 k1 ex1 b2 a2 n2 k2 ex2 b3 a3 n3 k3 ex3 b4 a4 n4 k4 ex4 0) (h1 : N8 w b1 a1 n1 k1 ex1 L V1) (h2 : N8 w b2 a2 n2 k2 ex2 L V2) (h3 : N8 w b3 a3 n3 k3 ex3 L V3) (h4 : N8 w b4 a4 n4 k4 ex4 L V4) (hT : Tab w) (hL : 4611686018427387904 ≤ L) (o1 : V1 ≤ V2) (o2 : V3 ≤ V4) :
    Calls Tryz.prog 21 #[.agg #[.bool b1, .slice a1 n1 k1, .int .i64 ex1, .bool b2, .slice a2 n2 k2, .int .i64 ex2], .agg #[.bool b3, .slice a3 n3 k3, .int .i64 ex3, .bool b4, .slice a4 n4 k4, .int .i64 ex4]] w fun e w' => SAns w e w' (if (min V2 V4) < (max V1 V3) then 103 else 0) L (max V1 V3) (min V2 V4) := by
  obtain ⟨w0, hw0, hb0, q0, q1, q9⟩ := enter3 w (.cells #[.bool b1, .slice a1 n1 k1, .int .i64 ex1, .bool b2, .slice a2 n2 k2, .int .i64 ex2] 33) (.cells #[.bool b3, .slice a3 n3 k3, .int .i64 ex3, .bool b4, .slice a4 n4 k4, .int .i64 ex4] 33) (.cells #[.bool false, .slice none 0 0, .int .i64 0, .bool false, .slice none 0 0, .int .i64 0] 33)
  obtain ⟨w1, hw1, hb1, qf⟩ := enter1 w0 (.cells #[.bool b1, .slice a1 n1 k1, .int .i64 ex1, .bool b2, .slice a2 n2 k2, .int .i64 ex2, .bool b3, .slice a3 n3 k3, .int .i64 ex3, .bool b4, .slice a4 n4 k4, .int .i64 ex4] 33)
  have CF := hF w1 w0.heap.size (bl_trans8 hb0 hb1) qf
  have HU := hide (bl_trans8 hb0 hb1)
  obtain ⟨y0, y1, y2, y3, y4, y5⟩ := hexa q0
  obtain ⟨y6, y7, y8, y9, y10, y11⟩ := hexa q1
  have HQ0 := hide (block_upW hb1 q0)
  have HQ1 := hide (block_upW hb1 q1)
  have HQ9 : Hid (w1.heap[w.heap.size + 1 + 1]? = some (.cells #[.bool false, .slice none 0 0, .int .i64 0, .bool false, .slice none 0 0, .int .i64 0] 33)) := hide (block_upW hb1 q9)
  clear qf hb0 hb1 hF q0 q1 q9
  have HNN := hide (And.intro h1 (And.intro h2 (And.intro h3 h4)))
  have HT := hide hT
  have LL : Hid (4611686018427387904 ≤ L) := hide hL
  have OO := hide (And.intro o1 o2)
  clear h1 h2 h3 h4 hT hL o1 o2
  obtain ⟨FL, hFL⟩ : ∃ x, (if (min V2 V4) < (max V1 V3) then (103 : Int) else 0) = x := ⟨_, rfl⟩
  rw [hFL]
  have EFL := hide hFL
  clear hFL
  go_enter Tryz.func21, Tryz.ntmps21
  go_wp2_with fail
  refine CF.mono ?_
  rintro e t2 ⟨rfl, g2⟩
  have HG := hide (bl_trans8 HU.out g2)
  have HP0 := hide (block_upW g2 HQ0.out)
  have HP1 := hide (block_upW g2 HQ1.out)
  have HC1 := hide (block_upW g2 HQ9.out)
  have HZS : Hid (w.heap.size + 1 + 1 < t2.heap.size) := hide (lt_of_block HC1.out)
  clear g2 CF y0 y1 y2 y3 y4 y5 y6 y7 y8 y9 y10 y11 hw0 hw1 HQ0 HQ1 HQ9
  have KS := hide (fun (W : World) (hg : Below t2.heap.size t2 W) => show W.cell? ⟨w.heap.size, 0, none⟩ = some (.bool b1) ∧ W.cell? ⟨w.heap.size, 1, none⟩ = some (.slice a1 n1 k1) ∧ W.cell? ⟨w.heap.size, 2, none⟩ = some (.int .i64 ex1) ∧ W.cell? ⟨w.heap.size, 3, none⟩ = some (.bool b2) ∧ W.cell? ⟨w.heap.size, 4, none⟩ = some (.slice a2 n2 k2) ∧ W.cell? ⟨w.heap.size, 5, none⟩ = some (.int .i64 ex2) ∧ W.cell? ⟨w.heap.size + 1, 0, none⟩ = some (.bool b3) ∧ W.cell? ⟨w.heap.size + 1, 1, none⟩ = some (.slice a3 n3 k3) ∧ W.cell? ⟨w.heap.size + 1, 2, none⟩ = some (.int .i64 ex3) ∧ W.cell? ⟨w.heap.size + 1, 3, none⟩ = some (.bool b4) ∧ W.cell? ⟨w.heap.size + 1, 4, none⟩ = some (.slice a4 n4 k4) ∧ W.cell? ⟨w.heap.size + 1, 5, none⟩ = some (.int .i64 ex4) from (by
    obtain ⟨x0, x1, x2, x3, x4, x5⟩ := hexa (block_upW hg HP0.out)
    obtain ⟨z0, z1, z2, z3, z4, z5⟩ := hexa (block_upW hg HP1.out)
    exact ⟨x0, x1, x2, x3, x4, x5, z0, z1, z2, z3, z4, z5⟩))
  have KT := hide (fun (W : World) (hg : Below t2.heap.size t2 W) (u0 u1 u2 u3 u4 u5 : Value) => show (((((((W.setCell ⟨w.heap.size + 1 + 1, 0, none⟩ u0).setCell ⟨w.heap.size + 1 + 1, 1, none⟩ u1).setCell ⟨w.heap.size + 1 + 1, 2, none⟩ u2).setCell ⟨w.heap.size + 1 + 1, 3, none⟩ u3).setCell ⟨w.heap.size + 1 + 1, 4, none⟩ u4).setCell ⟨w.heap.size + 1 + 1, 5, none⟩ u5)).cell? ⟨w.heap.size, 0, none⟩ = some (.bool b1) ∧ (((((((W.setCell ⟨w.heap.size + 1 + 1, 0, none⟩ u0).setCell ⟨w.heap.size + 1 + 1, 1, none⟩ u1).setCell ⟨w.heap.size + 1 + 1, 2, none⟩ u2).setCell ⟨w.heap.size + 1 + 1, 3, none⟩ u3).setCell ⟨w.heap.size + 1 + 1, 4, none⟩ u4).setCell ⟨w.heap.size + 1 + 1, 5, none⟩ u5)).cell? ⟨w.heap.size, 1, none⟩ = some (.slice a1 n1 k1) ∧ (((((((W.setCell ⟨w.heap.size + 1 + 1, 0, none⟩ u0).setCell ⟨w.heap.size + 1 + 1, 1, none⟩ u1).setCell ⟨w.heap.size + 1 + 1, 2, none⟩ u2).setCell ⟨w.heap.size + 1 + 1, 3, none⟩ u3).setCell ⟨w.heap.size + 1 + 1, 4, none⟩ u4).setCell ⟨w.heap.size + 1 + 1, 5, none⟩ u5)).cell? ⟨w.heap.size, 2, none⟩ = some (.int .i64 ex1) ∧ (((((((W.setCell ⟨w.heap.size + 1 + 1, 0, none⟩ u0).setCell ⟨w.heap.size + 1 + 1, 1, none⟩ u1).setCell ⟨w.heap.size + 1 + 1, 2, none⟩ u2).setCell ⟨w.heap.size + 1 + 1, 3, none⟩ u3).setCell ⟨w.heap.size + 1 + 1, 4, none⟩ u4).setCell ⟨w.heap.size + 1 + 1, 5, none⟩ u5)).cell? ⟨w.heap.size, 3, none⟩ = some (.bool b2) ∧ (((((((W.setCell ⟨w.heap.size + 1 + 1, 0, none⟩ u0).setCell ⟨w.heap.size + 1 + 1, 1, none⟩ u1).setCell ⟨w.heap.size + 1 + 1, 2, none⟩ u2).setCell ⟨w.heap.size + 1 + 1, 3, none⟩ u3).setCell ⟨w.heap.size + 1 + 1, 4, none⟩ u4).setCell ⟨w.heap.size + 1 + 1, 5, none⟩ u5)).cell? ⟨w.heap.size, 4, none⟩ = some (.slice a2 n2 k2) ∧ (((((((W.setCell ⟨w.heap.size + 1 + 1, 0, none⟩ u0).setCell ⟨w.heap.size + 1 + 1, 1, none⟩ u1).setCell ⟨w.heap.size + 1 + 1, 2, none⟩ u2).setCell ⟨w.heap.size + 1 + 1, 3, none⟩ u3).setCell ⟨w.heap.size + 1 + 1, 4, none⟩ u4).setCell ⟨w.heap.size + 1 + 1, 5, none⟩ u5)).cell? ⟨w.heap.size, 5, none⟩ = some (.int .i64 ex2) ∧ (((((((W.setCell ⟨w.heap.size + 1 + 1, 0, none⟩ u0).setCell ⟨w.heap.size + 1 + 1, 1, none⟩ u1).setCell ⟨w.heap.size + 1 + 1, 2, none⟩ u2).setCell ⟨w.heap.size + 1 + 1, 3, none⟩ u3).setCell ⟨w.heap.size + 1 + 1, 4, none⟩ u4).setCell ⟨w.heap.size + 1 + 1, 5, none⟩ u5)).cell? ⟨w.heap.size + 1, 0, none⟩ = some (.bool b3) ∧ (((((((W.setCell ⟨w.heap.size + 1 + 1, 0, none⟩ u0).setCell ⟨w.heap.size + 1 + 1, 1, none⟩ u1).setCell ⟨w.heap.size + 1 + 1, 2, none⟩ u2).setCell ⟨w.heap.size + 1 + 1, 3, none⟩ u3).setCell ⟨w.heap.size + 1 + 1, 4, none⟩ u4).setCell ⟨w.heap.size + 1 + 1, 5, none⟩ u5)).cell? ⟨w.heap.size + 1, 1, none⟩ = some (.slice a3 n3 k3) ∧ (((((((W.setCell ⟨w.heap.size + 1 + 1, 0, none⟩ u0).setCell ⟨w.heap.size + 1 + 1, 1, none⟩ u1).setCell ⟨w.heap.size + 1 + 1, 2, none⟩ u2).setCell ⟨w.heap.size + 1 + 1, 3, none⟩ u3).setCell ⟨w.heap.size + 1 + 1, 4, none⟩ u4).setCell ⟨w.heap.size + 1 + 1, 5, none⟩ u5)).cell? ⟨w.heap.size + 1, 2, none⟩ = some (.int .i64 ex3) ∧ (((((((W.setCell ⟨w.heap.size + 1 + 1, 0, none⟩ u0).setCell ⟨w.heap.size + 1 + 1, 1, none⟩ u1).setCell ⟨w.heap.size + 1 + 1, 2, none⟩ u2).setCell ⟨w.heap.size + 1 + 1, 3, none⟩ u3).setCell ⟨w.heap.size + 1 + 1, 4, none⟩ u4).setCell ⟨w.heap.size + 1 + 1, 5, none⟩ u5)).cell? ⟨w.heap.size + 1, 3, none⟩ = some (.bool b4) ∧ (((((((W.setCell ⟨w.heap.size + 1 + 1, 0, none⟩ u0).setCell ⟨w.heap.size + 1 + 1, 1, none⟩ u1).setCell ⟨w.heap.size + 1 + 1, 2, none⟩ u2).setCell ⟨w.heap.size + 1 + 1, 3, none⟩ u3).setCell ⟨w.heap.size + 1 + 1, 4, none⟩ u4).setCell ⟨w.heap.size + 1 + 1, 5, none⟩ u5)).cell? ⟨w.heap.size + 1, 4, none⟩ = some (.slice a4 n4 k4) ∧ (((((((W.setCell ⟨w.heap.size + 1 + 1, 0, none⟩ u0).setCell ⟨w.heap.size + 1 + 1, 1, none⟩ u1).setCell ⟨w.heap.size + 1 + 1, 2, none⟩ u2).setCell ⟨w.heap.size + 1 + 1, 3, none⟩ u3).setCell ⟨w.heap.size + 1 + 1, 4, none⟩ u4).setCell ⟨w.heap.size + 1 + 1, 5, none⟩ u5)).cell? ⟨w.heap.size + 1, 5, none⟩ = some (.int .i64 ex4) from (by
    obtain ⟨x0, x1, x2, x3, x4, x5⟩ := hexa ((hexa_other (g := w.heap.size + 1 + 1) (h := w.heap.size) (by omega) u0 u1 u2 u3 u4 u5).trans (block_upW hg HP0.out))
    obtain ⟨z0, z1, z2, z3, z4, z5⟩ := hexa ((hexa_other (g := w.heap.size + 1 + 1) (h := w.heap.size + 1) (by omega) u0 u1 u2 u3 u4 u5).trans (block_upW hg HP1.out))
    exact ⟨x0, x1, x2, x3, x4, x5, z0, z1, z2, z3, z4, z5⟩))
  have HNT := hide (And.intro (HNN.out.1.below HG.out) (And.intro (HNN.out.2.1.below HG.out) (And.intro (HNN.out.2.2.1.below HG.out) (HNN.out.2.2.2.below HG.out))))
  have HTT := hide (HT.out.below HG.out)
  have g0 : Below t2.heap.size t2 t2.drew := bl_drew10 (Below.refl _ _)
  go_upto_region 4 with fail
  go_cut [7] from 16 to 30 (fun s wx => OneN t2 L (max V1 V3) (min V2 V4) s wx)
  case first =>
    refine wp_region_held_drew (S := fun w' => w'.cell? ⟨w.heap.size, 0, none⟩ = some (.bool b1) ∧ w'.cell? ⟨w.heap.size, 1, none⟩ = some (.slice a1 n1 k1) ∧ w'.cell? ⟨w.heap.size, 2, none⟩ = some (.int .i64 ex1) ∧ w'.cell? ⟨w.heap.size, 3, none⟩ = some (.bool b2) ∧ w'.cell? ⟨w.heap.size, 4, none⟩ = some (.slice a2 n2 k2) ∧ w'.cell? ⟨w.heap.size, 5, none⟩ = some (.int .i64 ex2) ∧ w'.cell? ⟨w.heap.size + 1, 0, none⟩ = some (.bool b3) ∧ w'.cell? ⟨w.heap.size + 1, 1, none⟩ = some (.slice a3 n3 k3) ∧ w'.cell? ⟨w.heap.size + 1, 2, none⟩ = some (.int .i64 ex3) ∧ w'.cell? ⟨w.heap.size + 1, 3, none⟩ = some (.bool b4) ∧ w'.cell? ⟨w.heap.size + 1, 4, none⟩ = some (.slice a4 n4 k4) ∧ w'.cell? ⟨w.heap.size + 1, 5, none⟩ = some (.int .i64 ex4)) (by kernel_rfl) (KS.out _ (g0)) (fun hHeld0 => ?_)
    obtain ⟨UD, hUD⟩ : ∃ x, t2.drew = x := ⟨_, rfl⟩
    have gUD : Below t2.heap.size t2 UD := by rw [← hUD]; exact (g0)
    rw [hUD] at hHeld0 ⊢
    clear hUD
    refine wpAnyH_take (i := 0) (oi := { dst := some 16, op := Op.fieldAddr 33 (Operand.tmp 2) 0, type := 0, pos := "span.go:89", after := #[], guard := none }) (v := .pointer (some ⟨w.heap.size, 0, none⟩)) rfl (by kernel_rfl) (by kernel_rfl) (by kernel_rfl) (fun _ _ _ h => h) (Or.inl ⟨by rfl, fun w9 hSw => ?_⟩) hHeld0 ?_
    · (try dsimp only at hSw); go_simp
    try simp only [Act.put, List.setIfInBounds_toArray, List.set_cons_zero, List.set_cons_succ]
    refine wpAnyH_take (i := 1) (oi := { dst := some 17, op := Op.load 31 (Operand.tmp 16), type := 31, pos := "span.go:89", after := #[{ on := 0, ground := Ground.data }], guard := none }) (v := .agg #[.bool b1, .slice a1 n1 k1, .int .i64 ex1]) rfl (by kernel_rfl) (by kernel_rfl) (by kernel_rfl) (fun _ _ _ h => h) (Or.inl ⟨by rfl, fun w9 hSw => ?_⟩) hHeld0 ?_
    · (try dsimp only at hSw); go_simp
    try simp only [Act.put, List.setIfInBounds_toArray, List.set_cons_zero, List.set_cons_succ]
    refine wpAnyH_take (i := 2) (oi := { dst := some 18, op := Op.fieldAddr 33 (Operand.tmp 3) 0, type := 0, pos := "span.go:89", after := #[], guard := none }) (v := .pointer (some ⟨w.heap.size + 1, 0, none⟩)) rfl (by kernel_rfl) (by kernel_rfl) (by kernel_rfl) (fun _ _ _ h => h) (Or.inl ⟨by rfl, fun w9 hSw => ?_⟩) hHeld0 ?_
    · (try dsimp only at hSw); go_simp
    try simp only [Act.put, List.setIfInBounds_toArray, List.set_cons_zero, List.set_cons_succ]
    refine wpAnyH_take (i := 3) (oi := { dst := some 19, op := Op.load 31 (Operand.tmp 18), type := 31, pos := "span.go:89", after := #[{ on := 2, ground := Ground.data }], guard := none }) (v := .agg #[.bool b3, .slice a3 n3 k3, .int .i64 ex3]) rfl (by kernel_rfl) (by kernel_rfl) (by kernel_rfl) (fun _ _ _ h => h) (Or.inl ⟨by rfl, fun w9 hSw => ?_⟩) hHeld0 ?_
    · (try dsimp only at hSw); go_simp
    try simp only [Act.put, List.setIfInBounds_toArray, List.set_cons_zero, List.set_cons_succ]
    refine wpAnyH_take (i := 7) (oi := { dst := some 23, op := Op.fieldAddr 33 (Operand.tmp 2) 1, type := 0, pos := "span.go:89", after := #[], guard := none }) (v := .pointer (some ⟨w.heap.size, 3, none⟩)) rfl (by kernel_rfl) (by kernel_rfl) (by kernel_rfl) (fun _ _ _ h => h) (Or.inl ⟨by rfl, fun w9 hSw => ?_⟩) hHeld0 ?_
    · (try dsimp only at hSw); go_simp
    try simp only [Act.put, List.setIfInBounds_toArray, List.set_cons_zero, List.set_cons_succ]
    refine wpAnyH_take (i := 8) (oi := { dst := some 24, op := Op.load 31 (Operand.tmp 23), type := 31, pos := "span.go:89", after := #[{ on := 7, ground := Ground.data }], guard := none }) (v := .agg #[.bool b2, .slice a2 n2 k2, .int .i64 ex2]) rfl (by kernel_rfl) (by kernel_rfl) (by kernel_rfl) (fun _ _ _ h => h) (Or.inl ⟨by rfl, fun w9 hSw => ?_⟩) hHeld0 ?_
    · (try dsimp only at hSw); go_simp
    try simp only [Act.put, List.setIfInBounds_toArray, List.set_cons_zero, List.set_cons_succ]
    refine wpAnyH_take (i := 9) (oi := { dst := some 25, op := Op.fieldAddr 33 (Operand.tmp 3) 1, type := 0, pos := "span.go:89", after := #[], guard := none }) (v := .pointer (some ⟨w.heap.size + 1, 3, none⟩)) rfl (by kernel_rfl) (by kernel_rfl) (by kernel_rfl) (fun _ _ _ h => h) (Or.inl ⟨by rfl, fun w9 hSw => ?_⟩) hHeld0 ?_
    · (try dsimp only at hSw); go_simp
    try simp only [Act.put, List.setIfInBounds_toArray, List.set_cons_zero, List.set_cons_succ]
    refine wpAnyH_take (i := 10) (oi := { dst := some 26, op := Op.load 31 (Operand.tmp 25), type := 31, pos := "span.go:89", after := #[{ on := 9, ground := Ground.data }], guard := none }) (v := .agg #[.bool b4, .slice a4 n4 k4, .int .i64 ex4]) rfl (by kernel_rfl) (by kernel_rfl) (by kernel_rfl) (fun _ _ _ h => h) (Or.inl ⟨by rfl, fun w9 hSw => ?_⟩) hHeld0 ?_
    · (try dsimp only at hSw); go_simp
    try simp only [Act.put, List.setIfInBounds_toArray, List.set_cons_zero, List.set_cons_succ]
    refine wpAnyH_ready (rs := [4, 11, 15]) (by kernel_rfl) (by simp) ?_
    refine AllReadyH.cons rfl (fun K hK => ?_) ?_
    · skip
      go_simp
      refine hK.out _ _ (KS.out _ (bl_alloc10 gUD _)) (fun hHeld1 => ?_)
      clear hK K
      try simp only [Act.put, List.setIfInBounds_toArray, List.set_cons_zero, List.set_cons_succ]
      obtain ⟨PB1, hPB1, hbPB1, hxPB1⟩ := enter1 UD (.cells #[.bool b3, .slice a3 n3 k3, .int .i64 ex3] 31)
      rw [hPB1] at hHeld1 ⊢
      have gPB1 := bl_trans8 gUD hbPB1
      clear hPB1
      refine wpAnyH_ready (rs := [5, 11, 15]) (by kernel_rfl) (by simp) ?_
      refine AllReadyH.cons rfl (fun K hK => ?_) ?_
      · skip
        go_simp
        refine (hull1N UD.heap.size b1 a1 n1 k1 ex1 b3 a3 n3 k3 ex3 L V1 V3 PB1 (hxPB1) (HNT.out.1.below gPB1) (HNT.out.2.2.1.below gPB1) LL.out).mono ?_
        rintro e' T2 ⟨⟨lx, lxa, lxn, lxk, lxe, ly, lya, lyn, lyk, lye, rfl, nlx, nly⟩, hbT2⟩
        have gT2 := bl_trans8 gPB1 hbT2
        refine hK.out _ _ (KS.out _ gT2) (fun hHeld2 => ?_)
        clear hK K
        try simp only [Act.put, List.setIfInBounds_toArray, List.set_cons_zero, List.set_cons_succ]
        refine wpAnyH_take (i := 6) (oi := { dst := some 22, op := Op.field 33 (Operand.tmp 21) 1, type := 31, pos := "span.go:89", after := #[{ on := 5, ground := Ground.data }], guard := none }) (v := .agg #[.bool ly, .slice lya lyn lyk, .int .i64 lye]) rfl (by kernel_rfl) (by kernel_rfl) (by kernel_rfl) (fun _ _ _ h => h) (Or.inl ⟨by rfl, fun w9 hSw => ?_⟩) hHeld2 ?_
        · (try dsimp only at hSw); go_simp
        try simp only [Act.put, List.setIfInBounds_toArray, List.set_cons_zero, List.set_cons_succ]
        refine wpAnyH_ready (rs := [11, 15]) (by kernel_rfl) (by simp) ?_
        refine AllReadyH.cons rfl (fun K hK => ?_) ?_
        · skip
          go_simp
          refine hK.out _ _ (KS.out _ (bl_alloc10 gT2 _)) (fun hHeld3 => ?_)
          clear hK K
          try simp only [Act.put, List.setIfInBounds_toArray, List.set_cons_zero, List.set_cons_succ]
          obtain ⟨PB3, hPB3, hbPB3, hxPB3⟩ := enter1 T2 (.cells #[.bool b4, .slice a4 n4 k4, .int .i64 ex4] 31)
          rw [hPB3] at hHeld3 ⊢
          have gPB3 := bl_trans8 gT2 hbPB3
          clear hPB3
          refine wpAnyH_ready (rs := [12, 15]) (by kernel_rfl) (by simp) ?_
          refine AllReadyH.cons rfl (fun K hK => ?_) ?_
          · skip
            go_simp
            refine (hull1N T2.heap.size b2 a2 n2 k2 ex2 b4 a4 n4 k4 ex4 L V2 V4 PB3 (hxPB3) (HNT.out.2.1.below gPB3) (HNT.out.2.2.2.below gPB3) LL.out).mono ?_
            rintro e' T4 ⟨⟨hx, hxa, hxn, hxk, hxe, hy, hya, hyn, hyk, hye, rfl, nhx, nhy⟩, hbT4⟩
            have gT4 := bl_trans8 gPB3 hbT4
            refine hK.out _ _ (KS.out _ gT4) (fun hHeld4 => ?_)
            clear hK K
            try simp only [Act.put, List.setIfInBounds_toArray, List.set_cons_zero, List.set_cons_succ]
            refine wpAnyH_take (i := 13) (oi := { dst := some 29, op := Op.field 33 (Operand.tmp 28) 0, type := 31, pos := "span.go:89", after := #[{ on := 12, ground := Ground.data }], guard := none }) (v := .agg #[.bool hx, .slice hxa hxn hxk, .int .i64 hxe]) rfl (by kernel_rfl) (by kernel_rfl) (by kernel_rfl) (fun _ _ _ h => h) (Or.inl ⟨by rfl, fun w9 hSw => ?_⟩) hHeld4 ?_
            · (try dsimp only at hSw); go_simp
            try simp only [Act.put, List.setIfInBounds_toArray, List.set_cons_zero, List.set_cons_succ]
            refine wpAnyH_take (i := 14) (oi := { dst := some 30, op := Op.build 33 #[(0, Operand.tmp 22), (1, Operand.tmp 29)], type := 33, pos := "span.go:89", after := #[{ on := 6, ground := Ground.data }, { on := 13, ground := Ground.data }], guard := none }) (v := .agg #[.bool ly, .slice lya lyn lyk, .int .i64 lye, .bool hx, .slice hxa hxn hxk, .int .i64 hxe]) rfl (by kernel_rfl) (by kernel_rfl) (by kernel_rfl) (fun _ _ _ h => h) (Or.inl ⟨by rfl, fun w9 hSw => ?_⟩) hHeld4 ?_
            · (try dsimp only at hSw); go_simp
            try simp only [Act.put, List.setIfInBounds_toArray, List.set_cons_zero, List.set_cons_succ]
            refine wpAnyH_ready (rs := [15]) (by kernel_rfl) (by simp) ?_
            refine AllReadyH.cons rfl (fun K hK => ?_) AllReadyH.nil
            go_simp
            refine hK.out _ _ (KS.out _ (bl_alloc10 gT4 _)) (fun hHeld5 => ?_)
            clear hK K
            try simp only [Act.put, List.setIfInBounds_toArray, List.set_cons_zero, List.set_cons_succ]
            obtain ⟨PB5, hPB5, hbPB5, hxPB5⟩ := enter1 T4 (.cells #[.bool false, .slice none 0 0, .int .i64 0, .bool false, .slice none 0 0, .int .i64 0] 33)
            rw [hPB5] at hHeld5 ⊢
            have gPB5 := bl_trans8 gT4 hbPB5
            clear hPB5
            refine wpAnyH_ready (rs := [16]) (by kernel_rfl) (by simp) ?_
            refine AllReadyH.cons rfl (fun K hK => ?_) AllReadyH.nil
            have hzb := (hxPB5)
            have zfb := hexaf hzb
            obtain ⟨zb0, zb1, zb2, zb3, zb4, zb5⟩ := hexa hzb
            have geb : t2.heap.size ≤ T4.heap.size := gT4.size
            have gst := below_hexa gPB5 geb (.bool ly) (.slice lya lyn lyk) (.int .i64 lye) (.bool hx) (.slice hxa hxn hxk) (.int .i64 hxe)
            go_simp
            refine hK.out _ _ (KS.out _ gst) (fun hHeld6 => ?_)
            clear hK K
            try simp only [Act.put, List.setIfInBounds_toArray, List.set_cons_zero, List.set_cons_succ]
            refine wpAnyH_done (by kernel_rfl) ?_ _
            clear hHeld0 hHeld1 hHeld2 hHeld3 hHeld4 hHeld5 hHeld6
            go_wp2_with fail
            go_meet
            exact one_nn hzb geb (nly.below (bl_trans8 (bl_trans8 hbPB3 hbT4) hbPB5)) (nhx.below hbPB5) gPB5
          refine AllReadyH.cons rfl (fun K hK => ?_) ?_
          · skip
            go_simp
            refine hK.out _ _ (KS.out _ (bl_alloc10 gPB3 _)) (fun hHeld7 => ?_)
            clear hK K
            try simp only [Act.put, List.setIfInBounds_toArray, List.set_cons_zero, List.set_cons_succ]
            obtain ⟨PB7, hPB7, hbPB7, hxPB7⟩ := enter1 PB3 (.cells #[.bool false, .slice none 0 0, .int .i64 0, .bool false, .slice none 0 0, .int .i64 0] 33)
            rw [hPB7] at hHeld7 ⊢
            have gPB7 := bl_trans8 gPB3 hbPB7
            clear hPB7
            refine wpAnyH_ready (rs := [12]) (by kernel_rfl) (by simp) ?_
            refine AllReadyH.cons rfl (fun K hK => ?_) AllReadyH.nil
            go_simp
            refine (hull1N T2.heap.size b2 a2 n2 k2 ex2 b4 a4 n4 k4 ex4 L V2 V4 PB7 (block_upW hbPB7 hxPB3) (HNT.out.2.1.below gPB7) (HNT.out.2.2.2.below gPB7) LL.out).mono ?_
            rintro e' T8 ⟨⟨hx, hxa, hxn, hxk, hxe, hy, hya, hyn, hyk, hye, rfl, nhx, nhy⟩, hbT8⟩
            have gT8 := bl_trans8 gPB7 hbT8
            refine hK.out _ _ (KS.out _ gT8) (fun hHeld8 => ?_)
            clear hK K
            try simp only [Act.put, List.setIfInBounds_toArray, List.set_cons_zero, List.set_cons_succ]
            refine wpAnyH_take (i := 13) (oi := { dst := some 29, op := Op.field 33 (Operand.tmp 28) 0, type := 31, pos := "span.go:89", after := #[{ on := 12, ground := Ground.data }], guard := none }) (v := .agg #[.bool hx, .slice hxa hxn hxk, .int .i64 hxe]) rfl (by kernel_rfl) (by kernel_rfl) (by kernel_rfl) (fun _ _ _ h => h) (Or.inl ⟨by rfl, fun w9 hSw => ?_⟩) hHeld8 ?_
            · (try dsimp only at hSw); go_simp
            try simp only [Act.put, List.setIfInBounds_toArray, List.set_cons_zero, List.set_cons_succ]
            refine wpAnyH_take (i := 14) (oi := { dst := some 30, op := Op.build 33 #[(0, Operand.tmp 22), (1, Operand.tmp 29)], type := 33, pos := "span.go:89", after := #[{ on := 6, ground := Ground.data }, { on := 13, ground := Ground.data }], guard := none }) (v := .agg #[.bool ly, .slice lya lyn lyk, .int .i64 lye, .bool hx, .slice hxa hxn hxk, .int .i64 hxe]) rfl (by kernel_rfl) (by kernel_rfl) (by kernel_rfl) (fun _ _ _ h => h) (Or.inl ⟨by rfl, fun w9 hSw => ?_⟩) hHeld8 ?_
            · (try dsimp only at hSw); go_simp
            try simp only [Act.put, List.setIfInBounds_toArray, List.set_cons_zero, List.set_cons_succ]
            refine wpAnyH_ready (rs := [16]) (by kernel_rfl) (by simp) ?_
            refine AllReadyH.cons rfl (fun K hK => ?_) AllReadyH.nil
            have hzb := (block_upW hbT8 hxPB7)
            have zfb := hexaf hzb
            obtain ⟨zb0, zb1, zb2, zb3, zb4, zb5⟩ := hexa hzb
            have geb : t2.heap.size ≤ PB3.heap.size := gPB3.size
            have gst := below_hexa gT8 geb (.bool ly) (.slice lya lyn lyk) (.int .i64 lye) (.bool hx) (.slice hxa hxn hxk) (.int .i64 hxe)
            go_simp
            refine hK.out _ _ (KS.out _ gst) (fun hHeld9 => ?_)
            clear hK K
            try simp only [Act.put, List.setIfInBounds_toArray, List.set_cons_zero, List.set_cons_succ]
            refine wpAnyH_done (by kernel_rfl) ?_ _
            clear hHeld0 hHeld1 hHeld2 hHeld3 hHeld7 hHeld8 hHeld9
            go_wp2_with fail
            go_meet
            exact one_nn hzb geb (nly.below (bl_trans8 (bl_trans8 hbPB3 hbPB7) hbT8)) (nhx.below (Below.refl _ _)) gT8
          exact AllReadyH.nil
        refine AllReadyH.cons rfl (fun K hK => ?_) ?_
        · skip
          go_simp
          refine hK.out _ _ (KS.out _ (bl_alloc10 gT2 _)) (fun hHeld10 => ?_)
          clear hK K
          try simp only [Act.put, List.setIfInBounds_toArray, List.set_cons_zero, List.set_cons_succ]
          obtain ⟨PB10, hPB10, hbPB10, hxPB10⟩ := enter1 T2 (.cells #[.bool false, .slice none 0 0, .int .i64 0, .bool false, .slice none 0 0, .int .i64 0] 33)
          rw [hPB10] at hHeld10 ⊢
          have gPB10 := bl_trans8 gT2 hbPB10
          clear hPB10
          refine wpAnyH_ready (rs := [11]) (by kernel_rfl) (by simp) ?_
          refine AllReadyH.cons rfl (fun K hK => ?_) AllReadyH.nil
          go_simp
          refine hK.out _ _ (KS.out _ (bl_alloc10 gPB10 _)) (fun hHeld11 => ?_)
          clear hK K
          try simp only [Act.put, List.setIfInBounds_toArray, List.set_cons_zero, List.set_cons_succ]
          obtain ⟨PB11, hPB11, hbPB11, hxPB11⟩ := enter1 PB10 (.cells #[.bool b4, .slice a4 n4 k4, .int .i64 ex4] 31)
          rw [hPB11] at hHeld11 ⊢
          have gPB11 := bl_trans8 gPB10 hbPB11
          clear hPB11
          refine wpAnyH_ready (rs := [12]) (by kernel_rfl) (by simp) ?_
          refine AllReadyH.cons rfl (fun K hK => ?_) AllReadyH.nil
          go_simp
          refine (hull1N PB10.heap.size b2 a2 n2 k2 ex2 b4 a4 n4 k4 ex4 L V2 V4 PB11 (hxPB11) (HNT.out.2.1.below gPB11) (HNT.out.2.2.2.below gPB11) LL.out).mono ?_
          rintro e' T12 ⟨⟨hx, hxa, hxn, hxk, hxe, hy, hya, hyn, hyk, hye, rfl, nhx, nhy⟩, hbT12⟩
          have gT12 := bl_trans8 gPB11 hbT12
          refine hK.out _ _ (KS.out _ gT12) (fun hHeld12 => ?_)
          clear hK K
          try simp only [Act.put, List.setIfInBounds_toArray, List.set_cons_zero, List.set_cons_succ]
          refine wpAnyH_take (i := 13) (oi := { dst := some 29, op := Op.field 33 (Operand.tmp 28) 0, type := 31, pos := "span.go:89", after := #[{ on := 12, ground := Ground.data }], guard := none }) (v := .agg #[.bool hx, .slice hxa hxn hxk, .int .i64 hxe]) rfl (by kernel_rfl) (by kernel_rfl) (by kernel_rfl) (fun _ _ _ h => h) (Or.inl ⟨by rfl, fun w9 hSw => ?_⟩) hHeld12 ?_
          · (try dsimp only at hSw); go_simp
          try simp only [Act.put, List.setIfInBounds_toArray, List.set_cons_zero, List.set_cons_succ]
          refine wpAnyH_take (i := 14) (oi := { dst := some 30, op := Op.build 33 #[(0, Operand.tmp 22), (1, Operand.tmp 29)], type := 33, pos := "span.go:89", after := #[{ on := 6, ground := Ground.data }, { on := 13, ground := Ground.data }], guard := none }) (v := .agg #[.bool ly, .slice lya lyn lyk, .int .i64 lye, .bool hx, .slice hxa hxn hxk, .int .i64 hxe]) rfl (by kernel_rfl) (by kernel_rfl) (by kernel_rfl) (fun _ _ _ h => h) (Or.inl ⟨by rfl, fun w9 hSw => ?_⟩) hHeld12 ?_
          · (try dsimp only at hSw); go_simp
          try simp only [Act.put, List.setIfInBounds_toArray, List.set_cons_zero, List.set_cons_succ]
          refine wpAnyH_ready (rs := [16]) (by kernel_rfl) (by simp) ?_
          refine AllReadyH.cons rfl (fun K hK => ?_) AllReadyH.nil
          have hzb := (block_upW (bl_trans8 hbPB11 hbT12) hxPB10)
          have zfb := hexaf hzb
          obtain ⟨zb0, zb1, zb2, zb3, zb4, zb5⟩ := hexa hzb
          have geb : t2.heap.size ≤ T2.heap.size := gT2.size
          have gst := below_hexa gT12 geb (.bool ly) (.slice lya lyn lyk) (.int .i64 lye) (.bool hx) (.slice hxa hxn hxk) (.int .i64 hxe)
          go_simp
          refine hK.out _ _ (KS.out _ gst) (fun hHeld13 => ?_)
          clear hK K
          try simp only [Act.put, List.setIfInBounds_toArray, List.set_cons_zero, List.set_cons_succ]
          refine wpAnyH_done (by kernel_rfl) ?_ _
          clear hHeld0 hHeld1 hHeld2 hHeld10 hHeld11 hHeld12 hHeld13
          go_wp2_with fail
          go_meet
          exact one_nn hzb geb (nly.below (bl_trans8 (bl_trans8 hbPB10 hbPB11) hbT12)) (nhx.below (Below.refl _ _)) gT12
        exact AllReadyH.nil
      refine AllReadyH.cons rfl (fun K hK => ?_) ?_
      · skip
        go_simp
        refine hK.out _ _ (KS.out _ (bl_alloc10 gPB1 _)) (fun hHeld14 => ?_)
        clear hK K
        try simp only [Act.put, List.setIfInBounds_toArray, List.set_cons_zero, List.set_cons_succ]
        obtain ⟨PB14, hPB14, hbPB14, hxPB14⟩ := enter1 PB1 (.cells #[.bool b4, .slice a4 n4 k4, .int .i64 ex4] 31)
        rw [hPB14] at hHeld14 ⊢
        have gPB14 := bl_trans8 gPB1 hbPB14
        clear hPB14
        refine wpAnyH_ready (rs := [5, 15]) (by kernel_rfl) (by simp) ?_
        refine AllReadyH.cons rfl (fun K hK => ?_) ?_
        · skip
          go_simp
          refine (hull1N UD.heap.size b1 a1 n1 k1 ex1 b3 a3 n3 k3 ex3 L V1 V3 PB14 (block_upW hbPB14 hxPB1) (HNT.out.1.below gPB14) (HNT.out.2.2.1.below gPB14) LL.out).mono ?_
          rintro e' T15 ⟨⟨lx, lxa, lxn, lxk, lxe, ly, lya, lyn, lyk, lye, rfl, nlx, nly⟩, hbT15⟩
          have gT15 := bl_trans8 gPB14 hbT15
          refine hK.out _ _ (KS.out _ gT15) (fun hHeld15 => ?_)
          clear hK K
          try simp only [Act.put, List.setIfInBounds_toArray, List.set_cons_zero, List.set_cons_succ]
          refine wpAnyH_take (i := 6) (oi := { dst := some 22, op := Op.field 33 (Operand.tmp 21) 1, type := 31, pos := "span.go:89", after := #[{ on := 5, ground := Ground.data }], guard := none }) (v := .agg #[.bool ly, .slice lya lyn lyk, .int .i64 lye]) rfl (by kernel_rfl) (by kernel_rfl) (by kernel_rfl) (fun _ _ _ h => h) (Or.inl ⟨by rfl, fun w9 hSw => ?_⟩) hHeld15 ?_
          · (try dsimp only at hSw); go_simp
          try simp only [Act.put, List.setIfInBounds_toArray, List.set_cons_zero, List.set_cons_succ]
          refine wpAnyH_ready (rs := [12, 15]) (by kernel_rfl) (by simp) ?_
          refine AllReadyH.cons rfl (fun K hK => ?_) ?_
          · skip
            go_simp
            refine (hull1N PB1.heap.size b2 a2 n2 k2 ex2 b4 a4 n4 k4 ex4 L V2 V4 T15 (block_upW hbT15 hxPB14) (HNT.out.2.1.below gT15) (HNT.out.2.2.2.below gT15) LL.out).mono ?_
            rintro e' T16 ⟨⟨hx, hxa, hxn, hxk, hxe, hy, hya, hyn, hyk, hye, rfl, nhx, nhy⟩, hbT16⟩
            have gT16 := bl_trans8 gT15 hbT16
            refine hK.out _ _ (KS.out _ gT16) (fun hHeld16 => ?_)
            clear hK K
            try simp only [Act.put, List.setIfInBounds_toArray, List.set_cons_zero, List.set_cons_succ]
            refine wpAnyH_take (i := 13) (oi := { dst := some 29, op := Op.field 33 (Operand.tmp 28) 0, type := 31, pos := "span.go:89", after := #[{ on := 12, ground := Ground.data }], guard := none }) (v := .agg #[.bool hx, .slice hxa hxn hxk, .int .i64 hxe]) rfl (by kernel_rfl) (by kernel_rfl) (by kernel_rfl) (fun _ _ _ h => h) (Or.inl ⟨by rfl, fun w9 hSw => ?_⟩) hHeld16 ?_
            · (try dsimp only at hSw); go_simp
            try simp only [Act.put, List.setIfInBounds_toArray, List.set_cons_zero, List.set_cons_succ]
            refine wpAnyH_take (i := 14) (oi := { dst := some 30, op := Op.build 33 #[(0, Operand.tmp 22), (1, Operand.tmp 29)], type := 33, pos := "span.go:89", after := #[{ on := 6, ground := Ground.data }, { on := 13, ground := Ground.data }], guard := none }) (v := .agg #[.bool ly, .slice lya lyn lyk, .int .i64 lye, .bool hx, .slice hxa hxn hxk, .int .i64 hxe]) rfl (by kernel_rfl) (by kernel_rfl) (by kernel_rfl) (fun _ _ _ h => h) (Or.inl ⟨by rfl, fun w9 hSw => ?_⟩) hHeld16 ?_
            · (try dsimp only at hSw); go_simp
            try simp only [Act.put, List.setIfInBounds_toArray, List.set_cons_zero, List.set_cons_succ]
            refine wpAnyH_ready (rs := [15]) (by kernel_rfl) (by simp) ?_
            refine AllReadyH.cons rfl (fun K hK => ?_) AllReadyH.nil
            go_simp
            refine hK.out _ _ (KS.out _ (bl_alloc10 gT16 _)) (fun hHeld17 => ?_)
            clear hK K
            try simp only [Act.put, List.setIfInBounds_toArray, List.set_cons_zero, List.set_cons_succ]
            obtain ⟨PB17, hPB17, hbPB17, hxPB17⟩ := enter1 T16 (.cells #[.bool false, .slice none 0 0, .int .i64 0, .bool false, .slice none 0 0, .int .i64 0] 33)
            rw [hPB17] at hHeld17 ⊢
            have gPB17 := bl_trans8 gT16 hbPB17
            clear hPB17
            refine wpAnyH_ready (rs := [16]) (by kernel_rfl) (by simp) ?_
            refine AllReadyH.cons rfl (fun K hK => ?_) AllReadyH.nil
            have hzb := (hxPB17)
            have zfb := hexaf hzb
            obtain ⟨zb0, zb1, zb2, zb3, zb4, zb5⟩ := hexa hzb
            have geb : t2.heap.size ≤ T16.heap.size := gT16.size
            have gst := below_hexa gPB17 geb (.bool ly) (.slice lya lyn lyk) (.int .i64 lye) (.bool hx) (.slice hxa hxn hxk) (.int .i64 hxe)
            go_simp
            refine hK.out _ _ (KS.out _ gst) (fun hHeld18 => ?_)
            clear hK K
            try simp only [Act.put, List.setIfInBounds_toArray, List.set_cons_zero, List.set_cons_succ]
            refine wpAnyH_done (by kernel_rfl) ?_ _
            clear hHeld0 hHeld1 hHeld14 hHeld15 hHeld16 hHeld17 hHeld18
            go_wp2_with fail
            go_meet
            exact one_nn hzb geb (nly.below (bl_trans8 hbT16 hbPB17)) (nhx.below hbPB17) gPB17
          refine AllReadyH.cons rfl (fun K hK => ?_) ?_
          · skip
            go_simp
            refine hK.out _ _ (KS.out _ (bl_alloc10 gT15 _)) (fun hHeld19 => ?_)
            clear hK K
            try simp only [Act.put, List.setIfInBounds_toArray, List.set_cons_zero, List.set_cons_succ]
            obtain ⟨PB19, hPB19, hbPB19, hxPB19⟩ := enter1 T15 (.cells #[.bool false, .slice none 0 0, .int .i64 0, .bool false, .slice none 0 0, .int .i64 0] 33)
            rw [hPB19] at hHeld19 ⊢
            have gPB19 := bl_trans8 gT15 hbPB19
            clear hPB19
            refine wpAnyH_ready (rs := [12]) (by kernel_rfl) (by simp) ?_
            refine AllReadyH.cons rfl (fun K hK => ?_) AllReadyH.nil
            go_simp
            refine (hull1N PB1.heap.size b2 a2 n2 k2 ex2 b4 a4 n4 k4 ex4 L V2 V4 PB19 (block_upW (bl_trans8 hbT15 hbPB19) hxPB14) (HNT.out.2.1.below gPB19) (HNT.out.2.2.2.below gPB19) LL.out).mono ?_
            rintro e' T20 ⟨⟨hx, hxa, hxn, hxk, hxe, hy, hya, hyn, hyk, hye, rfl, nhx, nhy⟩, hbT20⟩
            have gT20 := bl_trans8 gPB19 hbT20
            refine hK.out _ _ (KS.out _ gT20) (fun hHeld20 => ?_)
            clear hK K
            try simp only [Act.put, List.setIfInBounds_toArray, List.set_cons_zero, List.set_cons_succ]
            refine wpAnyH_take (i := 13) (oi := { dst := some 29, op := Op.field 33 (Operand.tmp 28) 0, type := 31, pos := "span.go:89", after := #[{ on := 12, ground := Ground.data }], guard := none }) (v := .agg #[.bool hx, .slice hxa hxn hxk, .int .i64 hxe]) rfl (by kernel_rfl) (by kernel_rfl) (by kernel_rfl) (fun _ _ _ h => h) (Or.inl ⟨by rfl, fun w9 hSw => ?_⟩) hHeld20 ?_
            · (try dsimp only at hSw); go_simp
            try simp only [Act.put, List.setIfInBounds_toArray, List.set_cons_zero, List.set_cons_succ]
            refine wpAnyH_take (i := 14) (oi := { dst := some 30, op := Op.build 33 #[(0, Operand.tmp 22), (1, Operand.tmp 29)], type := 33, pos := "span.go:89", after := #[{ on := 6, ground := Ground.data }, { on := 13, ground := Ground.data }], guard := none }) (v := .agg #[.bool ly, .slice lya lyn lyk, .int .i64 lye, .bool hx, .slice hxa hxn hxk, .int .i64 hxe]) rfl (by kernel_rfl) (by kernel_rfl) (by kernel_rfl) (fun _ _ _ h => h) (Or.inl ⟨by rfl, fun w9 hSw => ?_⟩) hHeld20 ?_
            · (try dsimp only at hSw); go_simp
            try simp only [Act.put, List.setIfInBounds_toArray, List.set_cons_zero, List.set_cons_succ]
            refine wpAnyH_ready (rs := [16]) (by kernel_rfl) (by simp) ?_
            refine AllReadyH.cons rfl (fun K hK => ?_) AllReadyH.nil
            have hzb := (block_upW hbT20 hxPB19)
            have zfb := hexaf hzb
            obtain ⟨zb0, zb1, zb2, zb3, zb4, zb5⟩ := hexa hzb
            have geb : t2.heap.size ≤ T15.heap.size := gT15.size
            have gst := below_hexa gT20 geb (.bool ly) (.slice lya lyn lyk) (.int .i64 lye) (.bool hx) (.slice hxa hxn hxk) (.int .i64 hxe)
            go_simp
            refine hK.out _ _ (KS.out _ gst) (fun hHeld21 => ?_)
            clear hK K
            try simp only [Act.put, List.setIfInBounds_toArray, List.set_cons_zero, List.set_cons_succ]
            refine wpAnyH_done (by kernel_rfl) ?_ _
            clear hHeld0 hHeld1 hHeld14 hHeld15 hHeld19 hHeld20 hHeld21
            go_wp2_with fail
            go_meet
            exact one_nn hzb geb (nly.below (bl_trans8 hbPB19 hbT20)) (nhx.below (Below.refl _ _)) gT20
          exact AllReadyH.nil
        refine AllReadyH.cons rfl (fun K hK => ?_) ?_
        · skip
          go_simp
          refine hK.out _ _ (KS.out _ (bl_alloc10 gPB14 _)) (fun hHeld22 => ?_)
          clear hK K
          try simp only [Act.put, List.setIfInBounds_toArray, List.set_cons_zero, List.set_cons_succ]
          obtain ⟨PB22, hPB22, hbPB22, hxPB22⟩ := enter1 PB14 (.cells #[.bool false, .slice none 0 0, .int .i64 0, .bool false, .slice none 0 0, .int .i64 0] 33)
          rw [hPB22] at hHeld22 ⊢
          have gPB22 := bl_trans8 gPB14 hbPB22
          clear hPB22
          refine wpAnyH_ready (rs := [5]) (by kernel_rfl) (by simp) ?_
          refine AllReadyH.cons rfl (fun K hK => ?_) AllReadyH.nil
          go_simp
          refine (hull1N UD.heap.size b1 a1 n1 k1 ex1 b3 a3 n3 k3 ex3 L V1 V3 PB22 (block_upW (bl_trans8 hbPB14 hbPB22) hxPB1) (HNT.out.1.below gPB22) (HNT.out.2.2.1.below gPB22) LL.out).mono ?_
          rintro e' T23 ⟨⟨lx, lxa, lxn, lxk, lxe, ly, lya, lyn, lyk, lye, rfl, nlx, nly⟩, hbT23⟩
          have gT23 := bl_trans8 gPB22 hbT23
          refine hK.out _ _ (KS.out _ gT23) (fun hHeld23 => ?_)
          clear hK K
          try simp only [Act.put, List.setIfInBounds_toArray, List.set_cons_zero, List.set_cons_succ]
          refine wpAnyH_take (i := 6) (oi := { dst := some 22, op := Op.field 33 (Operand.tmp 21) 1, type := 31, pos := "span.go:89", after := #[{ on := 5, ground := Ground.data }], guard := none }) (v := .agg #[.bool ly, .slice lya lyn lyk, .int .i64 lye]) rfl (by kernel_rfl) (by kernel_rfl) (by kernel_rfl) (fun _ _ _ h => h) (Or.inl ⟨by rfl, fun w9 hSw => ?_⟩) hHeld23 ?_
          · (try dsimp only at hSw); go_simp
          try simp only [Act.put, List.setIfInBounds_toArray, List.set_cons_zero, List.set_cons_succ]
          refine wpAnyH_ready (rs := [12]) (by kernel_rfl) (by simp) ?_
          refine AllReadyH.cons rfl (fun K hK => ?_) AllReadyH.nil
          go_simp
          refine (hull1N PB1.heap.size b2 a2 n2 k2 ex2 b4 a4 n4 k4 ex4 L V2 V4 T23 (block_upW (bl_trans8 hbPB22 hbT23) hxPB14) (HNT.out.2.1.below gT23) (HNT.out.2.2.2.below gT23) LL.out).mono ?_
          rintro e' T24 ⟨⟨hx, hxa, hxn, hxk, hxe, hy, hya, hyn, hyk, hye, rfl, nhx, nhy⟩, hbT24⟩
          have gT24 := bl_trans8 gT23 hbT24
          refine hK.out _ _ (KS.out _ gT24) (fun hHeld24 => ?_)
          clear hK K
          try simp only [Act.put, List.setIfInBounds_toArray, List.set_cons_zero, List.set_cons_succ]
          refine wpAnyH_take (i := 13) (oi := { dst := some 29, op := Op.field 33 (Operand.tmp 28) 0, type := 31, pos := "span.go:89", after := #[{ on := 12, ground := Ground.data }], guard := none }) (v := .agg #[.bool hx, .slice hxa hxn hxk, .int .i64 hxe]) rfl (by kernel_rfl) (by kernel_rfl) (by kernel_rfl) (fun _ _ _ h => h) (Or.inl ⟨by rfl, fun w9 hSw => ?_⟩) hHeld24 ?_
          · (try dsimp only at hSw); go_simp
          try simp only [Act.put, List.setIfInBounds_toArray, List.set_cons_zero, List.set_cons_succ]
          refine wpAnyH_take (i := 14) (oi := { dst := some 30, op := Op.build 33 #[(0, Operand.tmp 22), (1, Operand.tmp 29)], type := 33, pos := "span.go:89", after := #[{ on := 6, ground := Ground.data }, { on := 13, ground := Ground.data }], guard := none }) (v := .agg #[.bool ly, .slice lya lyn lyk, .int .i64 lye, .bool hx, .slice hxa hxn hxk, .int .i64 hxe]) rfl (by kernel_rfl) (by kernel_rfl) (by kernel_rfl) (fun _ _ _ h => h) (Or.inl ⟨by rfl, fun w9 hSw => ?_⟩) hHeld24 ?_
          · (try dsimp only at hSw); go_simp
          try simp only [Act.put, List.setIfInBounds_toArray, List.set_cons_zero, List.set_cons_succ]
          refine wpAnyH_ready (rs := [16]) (by kernel_rfl) (by simp) ?_
          refine AllReadyH.cons rfl (fun K hK => ?_) AllReadyH.nil
          have hzb := (block_upW (bl_trans8 hbT23 hbT24) hxPB22)
          have zfb := hexaf hzb
          obtain ⟨zb0, zb1, zb2, zb3, zb4, zb5⟩ := hexa hzb
          have geb : t2.heap.size ≤ PB14.heap.size := gPB14.size
          have gst := below_hexa gT24 geb (.bool ly) (.slice lya lyn lyk) (.int .i64 lye) (.bool hx) (.slice hxa hxn hxk) (.int .i64 hxe)
          go_simp
          refine hK.out _ _ (KS.out _ gst) (fun hHeld25 => ?_)
          clear hK K
          try simp only [Act.put, List.setIfInBounds_toArray, List.set_cons_zero, List.set_cons_succ]
          refine wpAnyH_done (by kernel_rfl) ?_ _
          clear hHeld0 hHeld1 hHeld14 hHeld22 hHeld23 hHeld24 hHeld25
          go_wp2_with fail
          go_meet
          exact one_nn hzb geb (nly.below hbT24) (nhx.below (Below.refl _ _)) gT24
        exact AllReadyH.nil
      refine AllReadyH.cons rfl (fun K hK => ?_) ?_
      · skip
        go_simp
        refine hK.out _ _ (KS.out _ (bl_alloc10 gPB1 _)) (fun hHeld26 => ?_)
        clear hK K
        try simp only [Act.put, List.setIfInBounds_toArray, List.set_cons_zero, List.set_cons_succ]
        obtain ⟨PB26, hPB26, hbPB26, hxPB26⟩ := enter1 PB1 (.cells #[.bool false, .slice none 0 0, .int .i64 0, .bool false, .slice none 0 0, .int .i64 0] 33)
        rw [hPB26] at hHeld26 ⊢
        have gPB26 := bl_trans8 gPB1 hbPB26
        clear hPB26
        refine wpAnyH_ready (rs := [5, 11]) (by kernel_rfl) (by simp) ?_
        refine AllReadyH.cons rfl (fun K hK => ?_) ?_
        · skip
          go_simp
          refine (hull1N UD.heap.size b1 a1 n1 k1 ex1 b3 a3 n3 k3 ex3 L V1 V3 PB26 (block_upW hbPB26 hxPB1) (HNT.out.1.below gPB26) (HNT.out.2.2.1.below gPB26) LL.out).mono ?_
          rintro e' T27 ⟨⟨lx, lxa, lxn, lxk, lxe, ly, lya, lyn, lyk, lye, rfl, nlx, nly⟩, hbT27⟩
          have gT27 := bl_trans8 gPB26 hbT27
          refine hK.out _ _ (KS.out _ gT27) (fun hHeld27 => ?_)
          clear hK K
          try simp only [Act.put, List.setIfInBounds_toArray, List.set_cons_zero, List.set_cons_succ]
          refine wpAnyH_take (i := 6) (oi := { dst := some 22, op := Op.field 33 (Operand.tmp 21) 1, type := 31, pos := "span.go:89", after := #[{ on := 5, ground := Ground.data }], guard := none }) (v := .agg #[.bool ly, .slice lya lyn lyk, .int .i64 lye]) rfl (by kernel_rfl) (by kernel_rfl) (by kernel_rfl) (fun _ _ _ h => h) (Or.inl ⟨by rfl, fun w9 hSw => ?_⟩) hHeld27 ?_
          · (try dsimp only at hSw); go_simp
          try simp only [Act.put, List.setIfInBounds_toArray, List.set_cons_zero, List.set_cons_succ]
          refine wpAnyH_ready (rs := [11]) (by kernel_rfl) (by simp) ?_
          refine AllReadyH.cons rfl (fun K hK => ?_) AllReadyH.nil
          go_simp
          refine hK.out _ _ (KS.out _ (bl_alloc10 gT27 _)) (fun hHeld28 => ?_)
          clear hK K
          try simp only [Act.put, List.setIfInBounds_toArray, List.set_cons_zero, List.set_cons_succ]
          obtain ⟨PB28, hPB28, hbPB28, hxPB28⟩ := enter1 T27 (.cells #[.bool b4, .slice a4 n4 k4, .int .i64 ex4] 31)
          rw [hPB28] at hHeld28 ⊢
          have gPB28 := bl_trans8 gT27 hbPB28
          clear hPB28
          refine wpAnyH_ready (rs := [12]) (by kernel_rfl) (by simp) ?_
          refine AllReadyH.cons rfl (fun K hK => ?_) AllReadyH.nil
          go_simp
          refine (hull1N T27.heap.size b2 a2 n2 k2 ex2 b4 a4 n4 k4 ex4 L V2 V4 PB28 (hxPB28) (HNT.out.2.1.below gPB28) (HNT.out.2.2.2.below gPB28) LL.out).mono ?_
          rintro e' T29 ⟨⟨hx, hxa, hxn, hxk, hxe, hy, hya, hyn, hyk, hye, rfl, nhx, nhy⟩, hbT29⟩
          have gT29 := bl_trans8 gPB28 hbT29
          refine hK.out _ _ (KS.out _ gT29) (fun hHeld29 => ?_)
          clear hK K
          try simp only [Act.put, List.setIfInBounds_toArray, List.set_cons_zero, List.set_cons_succ]
          refine wpAnyH_take (i := 13) (oi := { dst := some 29, op := Op.field 33 (Operand.tmp 28) 0, type := 31, pos := "span.go:89", after := #[{ on := 12, ground := Ground.data }], guard := none }) (v := .agg #[.bool hx, .slice hxa hxn hxk, .int .i64 hxe]) rfl (by kernel_rfl) (by kernel_rfl) (by kernel_rfl) (fun _ _ _ h => h) (Or.inl ⟨by rfl, fun w9 hSw => ?_⟩) hHeld29 ?_
          · (try dsimp only at hSw); go_simp
          try simp only [Act.put, List.setIfInBounds_toArray, List.set_cons_zero, List.set_cons_succ]
          refine wpAnyH_take (i := 14) (oi := { dst := some 30, op := Op.build 33 #[(0, Operand.tmp 22), (1, Operand.tmp 29)], type := 33, pos := "span.go:89", after := #[{ on := 6, ground := Ground.data }, { on := 13, ground := Ground.data }], guard := none }) (v := .agg #[.bool ly, .slice lya lyn lyk, .int .i64 lye, .bool hx, .slice hxa hxn hxk, .int .i64 hxe]) rfl (by kernel_rfl) (by kernel_rfl) (by kernel_rfl) (fun _ _ _ h => h) (Or.inl ⟨by rfl, fun w9 hSw => ?_⟩) hHeld29 ?_
          · (try dsimp only at hSw); go_simp
          try simp only [Act.put, List.setIfInBounds_toArray, List.set_cons_zero, List.set_cons_succ]
          refine wpAnyH_ready (rs := [16]) (by kernel_rfl) (by simp) ?_
          refine AllReadyH.cons rfl (fun K hK => ?_) AllReadyH.nil
          have hzb := (block_upW (bl_trans8 (bl_trans8 hbT27 hbPB28) hbT29) hxPB26)
          have zfb := hexaf hzb
          obtain ⟨zb0, zb1, zb2, zb3, zb4, zb5⟩ := hexa hzb
          have geb : t2.heap.size ≤ PB1.heap.size := gPB1.size
          have gst := below_hexa gT29 geb (.bool ly) (.slice lya lyn lyk) (.int .i64 lye) (.bool hx) (.slice hxa hxn hxk) (.int .i64 hxe)
          go_simp
          refine hK.out _ _ (KS.out _ gst) (fun hHeld30 => ?_)
          clear hK K
          try simp only [Act.put, List.setIfInBounds_toArray, List.set_cons_zero, List.set_cons_succ]
          refine wpAnyH_done (by kernel_rfl) ?_ _
          clear hHeld0 hHeld1 hHeld26 hHeld27 hHeld28 hHeld29 hHeld30
          go_wp2_with fail
          go_meet
          exact one_nn hzb geb (nly.below (bl_trans8 hbPB28 hbT29)) (nhx.below (Below.refl _ _)) gT29
        refine AllReadyH.cons rfl (fun K hK => ?_) ?_
        · skip
          go_simp
          refine hK.out _ _ (KS.out _ (bl_alloc10 gPB26 _)) (fun hHeld31 => ?_)
          clear hK K
          try simp only [Act.put, List.setIfInBounds_toArray, List.set_cons_zero, List.set_cons_succ]
          obtain ⟨PB31, hPB31, hbPB31, hxPB31⟩ := enter1 PB26 (.cells #[.bool b4, .slice a4 n4 k4, .int .i64 ex4] 31)
          rw [hPB31] at hHeld31 ⊢
          have gPB31 := bl_trans8 gPB26 hbPB31
          clear hPB31
          refine wpAnyH_ready (rs := [5]) (by kernel_rfl) (by simp) ?_
          refine AllReadyH.cons rfl (fun K hK => ?_) AllReadyH.nil
          go_simp
          refine (hull1N UD.heap.size b1 a1 n1 k1 ex1 b3 a3 n3 k3 ex3 L V1 V3 PB31 (block_upW (bl_trans8 hbPB26 hbPB31) hxPB1) (HNT.out.1.below gPB31) (HNT.out.2.2.1.below gPB31) LL.out).mono ?_
          rintro e' T32 ⟨⟨lx, lxa, lxn, lxk, lxe, ly, lya, lyn, lyk, lye, rfl, nlx, nly⟩, hbT32⟩
          have gT32 := bl_trans8 gPB31 hbT32
          refine hK.out _ _ (KS.out _ gT32) (fun hHeld32 => ?_)
          clear hK K
          try simp only [Act.put, List.setIfInBounds_toArray, List.set_cons_zero, List.set_cons_succ]
          refine wpAnyH_take (i := 6) (oi := { dst := some 22, op := Op.field 33 (Operand.tmp 21) 1, type := 31, pos := "span.go:89", after := #[{ on := 5, ground := Ground.data }], guard := none }) (v := .agg #[.bool ly, .slice lya lyn lyk, .int .i64 lye]) rfl (by kernel_rfl) (by kernel_rfl) (by kernel_rfl) (fun _ _ _ h => h) (Or.inl ⟨by rfl, fun w9 hSw => ?_⟩) hHeld32 ?_
          · (try dsimp only at hSw); go_simp
          try simp only [Act.put, List.setIfInBounds_toArray, List.set_cons_zero, List.set_cons_succ]
          refine wpAnyH_ready (rs := [12]) (by kernel_rfl) (by simp) ?_
          refine AllReadyH.cons rfl (fun K hK => ?_) AllReadyH.nil
          go_simp
          refine (hull1N PB26.heap.size b2 a2 n2 k2 ex2 b4 a4 n4 k4 ex4 L V2 V4 T32 (block_upW hbT32 hxPB31) (HNT.out.2.1.below gT32) (HNT.out.2.2.2.below gT32) LL.out).mono ?_
          rintro e' T33 ⟨⟨hx, hxa, hxn, hxk, hxe, hy, hya, hyn, hyk, hye, rfl, nhx, nhy⟩, hbT33⟩
          have gT33 := bl_trans8 gT32 hbT33
          refine hK.out _ _ (KS.out _ gT33) (fun hHeld33 => ?_)
          clear hK K
          try simp only [Act.put, List.setIfInBounds_toArray, List.set_cons_zero, List.set_cons_succ]
          refine wpAnyH_take (i := 13) (oi := { dst := some 29, op := Op.field 33 (Operand.tmp 28) 0, type := 31, pos := "span.go:89", after := #[{ on := 12, ground := Ground.data }], guard := none }) (v := .agg #[.bool hx, .slice hxa hxn hxk, .int .i64 hxe]) rfl (by kernel_rfl) (by kernel_rfl) (by kernel_rfl) (fun _ _ _ h => h) (Or.inl ⟨by rfl, fun w9 hSw => ?_⟩) hHeld33 ?_
          · (try dsimp only at hSw); go_simp
          try simp only [Act.put, List.setIfInBounds_toArray, List.set_cons_zero, List.set_cons_succ]
          refine wpAnyH_take (i := 14) (oi := { dst := some 30, op := Op.build 33 #[(0, Operand.tmp 22), (1, Operand.tmp 29)], type := 33, pos := "span.go:89", after := #[{ on := 6, ground := Ground.data }, { on := 13, ground := Ground.data }], guard := none }) (v := .agg #[.bool ly, .slice lya lyn lyk, .int .i64 lye, .bool hx, .slice hxa hxn hxk, .int .i64 hxe]) rfl (by kernel_rfl) (by kernel_rfl) (by kernel_rfl) (fun _ _ _ h => h) (Or.inl ⟨by rfl, fun w9 hSw => ?_⟩) hHeld33 ?_
          · (try dsimp only at hSw); go_simp
          try simp only [Act.put, List.setIfInBounds_toArray, List.set_cons_zero, List.set_cons_succ]
          refine wpAnyH_ready (rs := [16]) (by kernel_rfl) (by simp) ?_
          refine AllReadyH.cons rfl (fun K hK => ?_) AllReadyH.nil
          have hzb := (block_upW (bl_trans8 (bl_trans8 hbPB31 hbT32) hbT33) hxPB26)
          have zfb := hexaf hzb
          obtain ⟨zb0, zb1, zb2, zb3, zb4, zb5⟩ := hexa hzb
          have geb : t2.heap.size ≤ PB1.heap.size := gPB1.size
          have gst := below_hexa gT33 geb (.bool ly) (.slice lya lyn lyk) (.int .i64 lye) (.bool hx) (.slice hxa hxn hxk) (.int .i64 hxe)
          go_simp
          refine hK.out _ _ (KS.out _ gst) (fun hHeld34 => ?_)
          clear hK K
          try simp only [Act.put, List.setIfInBounds_toArray, List.set_cons_zero, List.set_cons_succ]
          refine wpAnyH_done (by kernel_rfl) ?_ _
          clear hHeld0 hHeld1 hHeld26 hHeld31 hHeld32 hHeld33 hHeld34
          go_wp2_with fail
          go_meet
          exact one_nn hzb geb (nly.below hbT33) (nhx.below (Below.refl _ _)) gT33
        exact AllReadyH.nil
      exact AllReadyH.nil
    refine AllReadyH.cons rfl (fun K hK => ?_) ?_
    · skip
      go_simp
      refine hK.out _ _ (KS.out _ (bl_alloc10 gUD _)) (fun hHeld35 => ?_)
      clear hK K
      try simp only [Act.put, List.setIfInBounds_toArray, List.set_cons_zero, List.set_cons_succ]
      obtain ⟨PB35, hPB35, hbPB35, hxPB35⟩ := enter1 UD (.cells #[.bool b4, .slice a4 n4 k4, .int .i64 ex4] 31)
      rw [hPB35] at hHeld35 ⊢
      have gPB35 := bl_trans8 gUD hbPB35
      clear hPB35
      refine wpAnyH_ready (rs := [4, 15]) (by kernel_rfl) (by simp) ?_
      refine AllReadyH.cons rfl (fun K hK => ?_) ?_
      · skip
        go_simp
        refine hK.out _ _ (KS.out _ (bl_alloc10 gPB35 _)) (fun hHeld36 => ?_)
        clear hK K
        try simp only [Act.put, List.setIfInBounds_toArray, List.set_cons_zero, List.set_cons_succ]
        obtain ⟨PB36, hPB36, hbPB36, hxPB36⟩ := enter1 PB35 (.cells #[.bool b3, .slice a3 n3 k3, .int .i64 ex3] 31)
        rw [hPB36] at hHeld36 ⊢
        have gPB36 := bl_trans8 gPB35 hbPB36
        clear hPB36
        refine wpAnyH_ready (rs := [5, 15]) (by kernel_rfl) (by simp) ?_
        refine AllReadyH.cons rfl (fun K hK => ?_) ?_
        · skip
          go_simp
          refine (hull1N PB35.heap.size b1 a1 n1 k1 ex1 b3 a3 n3 k3 ex3 L V1 V3 PB36 (hxPB36) (HNT.out.1.below gPB36) (HNT.out.2.2.1.below gPB36) LL.out).mono ?_
          rintro e' T37 ⟨⟨lx, lxa, lxn, lxk, lxe, ly, lya, lyn, lyk, lye, rfl, nlx, nly⟩, hbT37⟩
          have gT37 := bl_trans8 gPB36 hbT37
          refine hK.out _ _ (KS.out _ gT37) (fun hHeld37 => ?_)
          clear hK K
          try simp only [Act.put, List.setIfInBounds_toArray, List.set_cons_zero, List.set_cons_succ]
          refine wpAnyH_take (i := 6) (oi := { dst := some 22, op := Op.field 33 (Operand.tmp 21) 1, type := 31, pos := "span.go:89", after := #[{ on := 5, ground := Ground.data }], guard := none }) (v := .agg #[.bool ly, .slice lya lyn lyk, .int .i64 lye]) rfl (by kernel_rfl) (by kernel_rfl) (by kernel_rfl) (fun _ _ _ h => h) (Or.inl ⟨by rfl, fun w9 hSw => ?_⟩) hHeld37 ?_
          · (try dsimp only at hSw); go_simp
          try simp only [Act.put, List.setIfInBounds_toArray, List.set_cons_zero, List.set_cons_succ]
          refine wpAnyH_ready (rs := [12, 15]) (by kernel_rfl) (by simp) ?_
          refine AllReadyH.cons rfl (fun K hK => ?_) ?_
          · skip
            go_simp
            refine (hull1N UD.heap.size b2 a2 n2 k2 ex2 b4 a4 n4 k4 ex4 L V2 V4 T37 (block_upW (bl_trans8 hbPB36 hbT37) hxPB35) (HNT.out.2.1.below gT37) (HNT.out.2.2.2.below gT37) LL.out).mono ?_
            rintro e' T38 ⟨⟨hx, hxa, hxn, hxk, hxe, hy, hya, hyn, hyk, hye, rfl, nhx, nhy⟩, hbT38⟩
            have gT38 := bl_trans8 gT37 hbT38
            refine hK.out _ _ (KS.out _ gT38) (fun hHeld38 => ?_)
            clear hK K
            try simp only [Act.put, List.setIfInBounds_toArray, List.set_cons_zero, List.set_cons_succ]
            refine wpAnyH_take (i := 13) (oi := { dst := some 29, op := Op.field 33 (Operand.tmp 28) 0, type := 31, pos := "span.go:89", after := #[{ on := 12, ground := Ground.data }], guard := none }) (v := .agg #[.bool hx, .slice hxa hxn hxk, .int .i64 hxe]) rfl (by kernel_rfl) (by kernel_rfl) (by kernel_rfl) (fun _ _ _ h => h) (Or.inl ⟨by rfl, fun w9 hSw => ?_⟩) hHeld38 ?_
            · (try dsimp only at hSw); go_simp
            try simp only [Act.put, List.setIfInBounds_toArray, List.set_cons_zero, List.set_cons_succ]
            refine wpAnyH_take (i := 14) (oi := { dst := some 30, op := Op.build 33 #[(0, Operand.tmp 22), (1, Operand.tmp 29)], type := 33, pos := "span.go:89", after := #[{ on := 6, ground := Ground.data }, { on := 13, ground := Ground.data }], guard := none }) (v := .agg #[.bool ly, .slice lya lyn lyk, .int .i64 lye, .bool hx, .slice hxa hxn hxk, .int .i64 hxe]) rfl (by kernel_rfl) (by kernel_rfl) (by kernel_rfl) (fun _ _ _ h => h) (Or.inl ⟨by rfl, fun w9 hSw => ?_⟩) hHeld38 ?_
            · (try dsimp only at hSw); go_simp
            try simp only [Act.put, List.setIfInBounds_toArray, List.set_cons_zero, List.set_cons_succ]
            refine wpAnyH_ready (rs := [15]) (by kernel_rfl) (by simp) ?_
            refine AllReadyH.cons rfl (fun K hK => ?_) AllReadyH.nil
            go_simp
            refine hK.out _ _ (KS.out _ (bl_alloc10 gT38 _)) (fun hHeld39 => ?_)
            clear hK K
            try simp only [Act.put, List.setIfInBounds_toArray, List.set_cons_zero, List.set_cons_succ]
            obtain ⟨PB39, hPB39, hbPB39, hxPB39⟩ := enter1 T38 (.cells #[.bool false, .slice none 0 0, .int .i64 0, .bool false, .slice none 0 0, .int .i64 0] 33)
            rw [hPB39] at hHeld39 ⊢
            have gPB39 := bl_trans8 gT38 hbPB39
            clear hPB39
            refine wpAnyH_ready (rs := [16]) (by kernel_rfl) (by simp) ?_
            refine AllReadyH.cons rfl (fun K hK => ?_) AllReadyH.nil
            have hzb := (hxPB39)
            have zfb := hexaf hzb
            obtain ⟨zb0, zb1, zb2, zb3, zb4, zb5⟩ := hexa hzb
            have geb : t2.heap.size ≤ T38.heap.size := gT38.size
            have gst := below_hexa gPB39 geb (.bool ly) (.slice lya lyn lyk) (.int .i64 lye) (.bool hx) (.slice hxa hxn hxk) (.int .i64 hxe)
            go_simp
            refine hK.out _ _ (KS.out _ gst) (fun hHeld40 => ?_)
            clear hK K
            try simp only [Act.put, List.setIfInBounds_toArray, List.set_cons_zero, List.set_cons_succ]
            refine wpAnyH_done (by kernel_rfl) ?_ _
            clear hHeld0 hHeld35 hHeld36 hHeld37 hHeld38 hHeld39 hHeld40
            go_wp2_with fail
            go_meet
            exact one_nn hzb geb (nly.below (bl_trans8 hbT38 hbPB39)) (nhx.below hbPB39) gPB39
          refine AllReadyH.cons rfl (fun K hK => ?_) ?_
          · skip
            go_simp
            refine hK.out _ _ (KS.out _ (bl_alloc10 gT37 _)) (fun hHeld41 => ?_)
            clear hK K
            try simp only [Act.put, List.setIfInBounds_toArray, List.set_cons_zero, List.set_cons_succ]
            obtain ⟨PB41, hPB41, hbPB41, hxPB41⟩ := enter1 T37 (.cells #[.bool false, .slice none 0 0, .int .i64 0, .bool false, .slice none 0 0, .int .i64 0] 33)
            rw [hPB41] at hHeld41 ⊢
            have gPB41 := bl_trans8 gT37 hbPB41
            clear hPB41
            refine wpAnyH_ready (rs := [12]) (by kernel_rfl) (by simp) ?_
            refine AllReadyH.cons rfl (fun K hK => ?_) AllReadyH.nil
            go_simp
            refine (hull1N UD.heap.size b2 a2 n2 k2 ex2 b4 a4 n4 k4 ex4 L V2 V4 PB41 (block_upW (bl_trans8 (bl_trans8 hbPB36 hbT37) hbPB41) hxPB35) (HNT.out.2.1.below gPB41) (HNT.out.2.2.2.below gPB41) LL.out).mono ?_
            rintro e' T42 ⟨⟨hx, hxa, hxn, hxk, hxe, hy, hya, hyn, hyk, hye, rfl, nhx, nhy⟩, hbT42⟩
            have gT42 := bl_trans8 gPB41 hbT42
            refine hK.out _ _ (KS.out _ gT42) (fun hHeld42 => ?_)
            clear hK K
            try simp only [Act.put, List.setIfInBounds_toArray, List.set_cons_zero, List.set_cons_succ]
            refine wpAnyH_take (i := 13) (oi := { dst := some 29, op := Op.field 33 (Operand.tmp 28) 0, type := 31, pos := "span.go:89", after := #[{ on := 12, ground := Ground.data }], guard := none }) (v := .agg #[.bool hx, .slice hxa hxn hxk, .int .i64 hxe]) rfl (by kernel_rfl) (by kernel_rfl) (by kernel_rfl) (fun _ _ _ h => h) (Or.inl ⟨by rfl, fun w9 hSw => ?_⟩) hHeld42 ?_
            · (try dsimp only at hSw); go_simp
            try simp only [Act.put, List.setIfInBounds_toArray, List.set_cons_zero, List.set_cons_succ]
            refine wpAnyH_take (i := 14) (oi := { dst := some 30, op := Op.build 33 #[(0, Operand.tmp 22), (1, Operand.tmp 29)], type := 33, pos := "span.go:89", after := #[{ on := 6, ground := Ground.data }, { on := 13, ground := Ground.data }], guard := none }) (v := .agg #[.bool ly, .slice lya lyn lyk, .int .i64 lye, .bool hx, .slice hxa hxn hxk, .int .i64 hxe]) rfl (by kernel_rfl) (by kernel_rfl) (by kernel_rfl) (fun _ _ _ h => h) (Or.inl ⟨by rfl, fun w9 hSw => ?_⟩) hHeld42 ?_
            · (try dsimp only at hSw); go_simp
            try simp only [Act.put, List.setIfInBounds_toArray, List.set_cons_zero, List.set_cons_succ]
            refine wpAnyH_ready (rs := [16]) (by kernel_rfl) (by simp) ?_
            refine AllReadyH.cons rfl (fun K hK => ?_) AllReadyH.nil
            have hzb := (block_upW hbT42 hxPB41)
            have zfb := hexaf hzb
            obtain ⟨zb0, zb1, zb2, zb3, zb4, zb5⟩ := hexa hzb
            have geb : t2.heap.size ≤ T37.heap.size := gT37.size
            have gst := below_hexa gT42 geb (.bool ly) (.slice lya lyn lyk) (.int .i64 lye) (.bool hx) (.slice hxa hxn hxk) (.int .i64 hxe)
            go_simp
            refine hK.out _ _ (KS.out _ gst) (fun hHeld43 => ?_)
            clear hK K
            try simp only [Act.put, List.setIfInBounds_toArray, List.set_cons_zero, List.set_cons_succ]
            refine wpAnyH_done (by kernel_rfl) ?_ _
            clear hHeld0 hHeld35 hHeld36 hHeld37 hHeld41 hHeld42 hHeld43
            go_wp2_with fail
            go_meet
            exact one_nn hzb geb (nly.below (bl_trans8 hbPB41 hbT42)) (nhx.below (Below.refl _ _)) gT42
          exact AllReadyH.nil
        refine AllReadyH.cons rfl (fun K hK => ?_) ?_
        · skip
          go_simp
          refine hK.out _ _ (KS.out _ (bl_alloc10 gPB36 _)) (fun hHeld44 => ?_)
          clear hK K
          try simp only [Act.put, List.setIfInBounds_toArray, List.set_cons_zero, List.set_cons_succ]
          obtain ⟨PB44, hPB44, hbPB44, hxPB44⟩ := enter1 PB36 (.cells #[.bool false, .slice none 0 0, .int .i64 0, .bool false, .slice none 0 0, .int .i64 0] 33)
          rw [hPB44] at hHeld44 ⊢
          have gPB44 := bl_trans8 gPB36 hbPB44
          clear hPB44
          refine wpAnyH_ready (rs := [5]) (by kernel_rfl) (by simp) ?_
          refine AllReadyH.cons rfl (fun K hK => ?_) AllReadyH.nil
          go_simp
          refine (hull1N PB35.heap.size b1 a1 n1 k1 ex1 b3 a3 n3 k3 ex3 L V1 V3 PB44 (block_upW hbPB44 hxPB36) (HNT.out.1.below gPB44) (HNT.out.2.2.1.below gPB44) LL.out).mono ?_
          rintro e' T45 ⟨⟨lx, lxa, lxn, lxk, lxe, ly, lya, lyn, lyk, lye, rfl, nlx, nly⟩, hbT45⟩
          have gT45 := bl_trans8 gPB44 hbT45
          refine hK.out _ _ (KS.out _ gT45) (fun hHeld45 => ?_)
          clear hK K
          try simp only [Act.put, List.setIfInBounds_toArray, List.set_cons_zero, List.set_cons_succ]
          refine wpAnyH_take (i := 6) (oi := { dst := some 22, op := Op.field 33 (Operand.tmp 21) 1, type := 31, pos := "span.go:89", after := #[{ on := 5, ground := Ground.data }], guard := none }) (v := .agg #[.bool ly, .slice lya lyn lyk, .int .i64 lye]) rfl (by kernel_rfl) (by kernel_rfl) (by kernel_rfl) (fun _ _ _ h => h) (Or.inl ⟨by rfl, fun w9 hSw => ?_⟩) hHeld45 ?_
          · (try dsimp only at hSw); go_simp
          try simp only [Act.put, List.setIfInBounds_toArray, List.set_cons_zero, List.set_cons_succ]
          refine wpAnyH_ready (rs := [12]) (by kernel_rfl) (by simp) ?_
          refine AllReadyH.cons rfl (fun K hK => ?_) AllReadyH.nil
          go_simp
          refine (hull1N UD.heap.size b2 a2 n2 k2 ex2 b4 a4 n4 k4 ex4 L V2 V4 T45 (block_upW (bl_trans8 (bl_trans8 hbPB36 hbPB44) hbT45) hxPB35) (HNT.out.2.1.below gT45) (HNT.out.2.2.2.below gT45) LL.out).mono ?_
          rintro e' T46 ⟨⟨hx, hxa, hxn, hxk, hxe, hy, hya, hyn, hyk, hye, rfl, nhx, nhy⟩, hbT46⟩
          have gT46 := bl_trans8 gT45 hbT46
          refine hK.out _ _ (KS.out _ gT46) (fun hHeld46 => ?_)
          clear hK K
          try simp only [Act.put, List.setIfInBounds_toArray, List.set_cons_zero, List.set_cons_succ]
          refine wpAnyH_take (i := 13) (oi := { dst := some 29, op := Op.field 33 (Operand.tmp 28) 0, type := 31, pos := "span.go:89", after := #[{ on := 12, ground := Ground.data }], guard := none }) (v := .agg #[.bool hx, .slice hxa hxn hxk, .int .i64 hxe]) rfl (by kernel_rfl) (by kernel_rfl) (by kernel_rfl) (fun _ _ _ h => h) (Or.inl ⟨by rfl, fun w9 hSw => ?_⟩) hHeld46 ?_
          · (try dsimp only at hSw); go_simp
          try simp only [Act.put, List.setIfInBounds_toArray, List.set_cons_zero, List.set_cons_succ]
          refine wpAnyH_take (i := 14) (oi := { dst := some 30, op := Op.build 33 #[(0, Operand.tmp 22), (1, Operand.tmp 29)], type := 33, pos := "span.go:89", after := #[{ on := 6, ground := Ground.data }, { on := 13, ground := Ground.data }], guard := none }) (v := .agg #[.bool ly, .slice lya lyn lyk, .int .i64 lye, .bool hx, .slice hxa hxn hxk, .int .i64 hxe]) rfl (by kernel_rfl) (by kernel_rfl) (by kernel_rfl) (fun _ _ _ h => h) (Or.inl ⟨by rfl, fun w9 hSw => ?_⟩) hHeld46 ?_
          · (try dsimp only at hSw); go_simp
          try simp only [Act.put, List.setIfInBounds_toArray, List.set_cons_zero, List.set_cons_succ]
          refine wpAnyH_ready (rs := [16]) (by kernel_rfl) (by simp) ?_
          refine AllReadyH.cons rfl (fun K hK => ?_) AllReadyH.nil
          have hzb := (block_upW (bl_trans8 hbT45 hbT46) hxPB44)
          have zfb := hexaf hzb
          obtain ⟨zb0, zb1, zb2, zb3, zb4, zb5⟩ := hexa hzb
          have geb : t2.heap.size ≤ PB36.heap.size := gPB36.size
          have gst := below_hexa gT46 geb (.bool ly) (.slice lya lyn lyk) (.int .i64 lye) (.bool hx) (.slice hxa hxn hxk) (.int .i64 hxe)
          go_simp
          refine hK.out _ _ (KS.out _ gst) (fun hHeld47 => ?_)
          clear hK K
          try simp only [Act.put, List.setIfInBounds_toArray, List.set_cons_zero, List.set_cons_succ]
          refine wpAnyH_done (by kernel_rfl) ?_ _
          clear hHeld0 hHeld35 hHeld36 hHeld44 hHeld45 hHeld46 hHeld47
          go_wp2_with fail
          go_meet
          exact one_nn hzb geb (nly.below hbT46) (nhx.below (Below.refl _ _)) gT46
        exact AllReadyH.nil
      refine AllReadyH.cons rfl (fun K hK => ?_) ?_
      · skip
        go_simp
        refine hK.out _ _ (KS.out _ (bl_alloc10 gPB35 _)) (fun hHeld48 => ?_)
        clear hK K
        try simp only [Act.put, List.setIfInBounds_toArray, List.set_cons_zero, List.set_cons_succ]
        obtain ⟨PB48, hPB48, hbPB48, hxPB48⟩ := enter1 PB35 (.cells #[.bool false, .slice none 0 0, .int .i64 0, .bool false, .slice none 0 0, .int .i64 0] 33)
        rw [hPB48] at hHeld48 ⊢
        have gPB48 := bl_trans8 gPB35 hbPB48
        clear hPB48
        refine wpAnyH_ready (rs := [4]) (by kernel_rfl) (by simp) ?_
        refine AllReadyH.cons rfl (fun K hK => ?_) AllReadyH.nil
        go_simp
        refine hK.out _ _ (KS.out _ (bl_alloc10 gPB48 _)) (fun hHeld49 => ?_)
        clear hK K
        try simp only [Act.put, List.setIfInBounds_toArray, List.set_cons_zero, List.set_cons_succ]
        obtain ⟨PB49, hPB49, hbPB49, hxPB49⟩ := enter1 PB48 (.cells #[.bool b3, .slice a3 n3 k3, .int .i64 ex3] 31)
        rw [hPB49] at hHeld49 ⊢
        have gPB49 := bl_trans8 gPB48 hbPB49
        clear hPB49
        refine wpAnyH_ready (rs := [5]) (by kernel_rfl) (by simp) ?_
        refine AllReadyH.cons rfl (fun K hK => ?_) AllReadyH.nil
        go_simp
        refine (hull1N PB48.heap.size b1 a1 n1 k1 ex1 b3 a3 n3 k3 ex3 L V1 V3 PB49 (hxPB49) (HNT.out.1.below gPB49) (HNT.out.2.2.1.below gPB49) LL.out).mono ?_
        rintro e' T50 ⟨⟨lx, lxa, lxn, lxk, lxe, ly, lya, lyn, lyk, lye, rfl, nlx, nly⟩, hbT50⟩
        have gT50 := bl_trans8 gPB49 hbT50
        refine hK.out _ _ (KS.out _ gT50) (fun hHeld50 => ?_)
        clear hK K
        try simp only [Act.put, List.setIfInBounds_toArray, List.set_cons_zero, List.set_cons_succ]
        refine wpAnyH_take (i := 6) (oi := { dst := some 22, op := Op.field 33 (Operand.tmp 21) 1, type := 31, pos := "span.go:89", after := #[{ on := 5, ground := Ground.data }], guard := none }) (v := .agg #[.bool ly, .slice lya lyn lyk, .int .i64 lye]) rfl (by kernel_rfl) (by kernel_rfl) (by kernel_rfl) (fun _ _ _ h => h) (Or.inl ⟨by rfl, fun w9 hSw => ?_⟩) hHeld50 ?_
        · (try dsimp only at hSw); go_simp
        try simp only [Act.put, List.setIfInBounds_toArray, List.set_cons_zero, List.set_cons_succ]
        refine wpAnyH_ready (rs := [12]) (by kernel_rfl) (by simp) ?_
        refine AllReadyH.cons rfl (fun K hK => ?_) AllReadyH.nil
        go_simp
        refine (hull1N UD.heap.size b2 a2 n2 k2 ex2 b4 a4 n4 k4 ex4 L V2 V4 T50 (block_upW (bl_trans8 (bl_trans8 hbPB48 hbPB49) hbT50) hxPB35) (HNT.out.2.1.below gT50) (HNT.out.2.2.2.below gT50) LL.out).mono ?_
        rintro e' T51 ⟨⟨hx, hxa, hxn, hxk, hxe, hy, hya, hyn, hyk, hye, rfl, nhx, nhy⟩, hbT51⟩
        have gT51 := bl_trans8 gT50 hbT51
        refine hK.out _ _ (KS.out _ gT51) (fun hHeld51 => ?_)
        clear hK K
        try simp only [Act.put, List.setIfInBounds_toArray, List.set_cons_zero, List.set_cons_succ]
        refine wpAnyH_take (i := 13) (oi := { dst := some 29, op := Op.field 33 (Operand.tmp 28) 0, type := 31, pos := "span.go:89", after := #[{ on := 12, ground := Ground.data }], guard := none }) (v := .agg #[.bool hx, .slice hxa hxn hxk, .int .i64 hxe]) rfl (by kernel_rfl) (by kernel_rfl) (by kernel_rfl) (fun _ _ _ h => h) (Or.inl ⟨by rfl, fun w9 hSw => ?_⟩) hHeld51 ?_
        · (try dsimp only at hSw); go_simp
        try simp only [Act.put, List.setIfInBounds_toArray, List.set_cons_zero, List.set_cons_succ]
        refine wpAnyH_take (i := 14) (oi := { dst := some 30, op := Op.build 33 #[(0, Operand.tmp 22), (1, Operand.tmp 29)], type := 33, pos := "span.go:89", after := #[{ on := 6, ground := Ground.data }, { on := 13, ground := Ground.data }], guard := none }) (v := .agg #[.bool ly, .slice lya lyn lyk, .int .i64 lye, .bool hx, .slice hxa hxn hxk, .int .i64 hxe]) rfl (by kernel_rfl) (by kernel_rfl) (by kernel_rfl) (fun _ _ _ h => h) (Or.inl ⟨by rfl, fun w9 hSw => ?_⟩) hHeld51 ?_
        · (try dsimp only at hSw); go_simp
        try simp only [Act.put, List.setIfInBounds_toArray, List.set_cons_zero, List.set_cons_succ]
        refine wpAnyH_ready (rs := [16]) (by kernel_rfl) (by simp) ?_
        refine AllReadyH.cons rfl (fun K hK => ?_) AllReadyH.nil
        have hzb := (block_upW (bl_trans8 (bl_trans8 hbPB49 hbT50) hbT51) hxPB48)
        have zfb := hexaf hzb
        obtain ⟨zb0, zb1, zb2, zb3, zb4, zb5⟩ := hexa hzb
        have geb : t2.heap.size ≤ PB35.heap.size := gPB35.size
        have gst := below_hexa gT51 geb (.bool ly) (.slice lya lyn lyk) (.int .i64 lye) (.bool hx) (.slice hxa hxn hxk) (.int .i64 hxe)
        go_simp
        refine hK.out _ _ (KS.out _ gst) (fun hHeld52 => ?_)
        clear hK K
        try simp only [Act.put, List.setIfInBounds_toArray, List.set_cons_zero, List.set_cons_succ]
        refine wpAnyH_done (by kernel_rfl) ?_ _
        clear hHeld0 hHeld35 hHeld48 hHeld49 hHeld50 hHeld51 hHeld52
        go_wp2_with fail
        go_meet
        exact one_nn hzb geb (nly.below hbT51) (nhx.below (Below.refl _ _)) gT51
      exact AllReadyH.nil
    refine AllReadyH.cons rfl (fun K hK => ?_) ?_
    · skip
      go_simp
      refine hK.out _ _ (KS.out _ (bl_alloc10 gUD _)) (fun hHeld53 => ?_)
      clear hK K
      try simp only [Act.put, List.setIfInBounds_toArray, List.set_cons_zero, List.set_cons_succ]
      obtain ⟨PB53, hPB53, hbPB53, hxPB53⟩ := enter1 UD (.cells #[.bool false, .slice none 0 0, .int .i64 0, .bool false, .slice none 0 0, .int .i64 0] 33)
      rw [hPB53] at hHeld53 ⊢
      have gPB53 := bl_trans8 gUD hbPB53
      clear hPB53
      refine wpAnyH_ready (rs := [4, 11]) (by kernel_rfl) (by simp) ?_
      refine AllReadyH.cons rfl (fun K hK => ?_) ?_
      · skip
        go_simp
        refine hK.out _ _ (KS.out _ (bl_alloc10 gPB53 _)) (fun hHeld54 => ?_)
        clear hK K
        try simp only [Act.put, List.setIfInBounds_toArray, List.set_cons_zero, List.set_cons_succ]
        obtain ⟨PB54, hPB54, hbPB54, hxPB54⟩ := enter1 PB53 (.cells #[.bool b3, .slice a3 n3 k3, .int .i64 ex3] 31)
        rw [hPB54] at hHeld54 ⊢
        have gPB54 := bl_trans8 gPB53 hbPB54
        clear hPB54
        refine wpAnyH_ready (rs := [5, 11]) (by kernel_rfl) (by simp) ?_
        refine AllReadyH.cons rfl (fun K hK => ?_) ?_
        · skip
          go_simp
          refine (hull1N PB53.heap.size b1 a1 n1 k1 ex1 b3 a3 n3 k3 ex3 L V1 V3 PB54 (hxPB54) (HNT.out.1.below gPB54) (HNT.out.2.2.1.below gPB54) LL.out).mono ?_
          rintro e' T55 ⟨⟨lx, lxa, lxn, lxk, lxe, ly, lya, lyn, lyk, lye, rfl, nlx, nly⟩, hbT55⟩
          have gT55 := bl_trans8 gPB54 hbT55
          refine hK.out _ _ (KS.out _ gT55) (fun hHeld55 => ?_)
          clear hK K
          try simp only [Act.put, List.setIfInBounds_toArray, List.set_cons_zero, List.set_cons_succ]
          refine wpAnyH_take (i := 6) (oi := { dst := some 22, op := Op.field 33 (Operand.tmp 21) 1, type := 31, pos := "span.go:89", after := #[{ on := 5, ground := Ground.data }], guard := none }) (v := .agg #[.bool ly, .slice lya lyn lyk, .int .i64 lye]) rfl (by kernel_rfl) (by kernel_rfl) (by kernel_rfl) (fun _ _ _ h => h) (Or.inl ⟨by rfl, fun w9 hSw => ?_⟩) hHeld55 ?_
          · (try dsimp only at hSw); go_simp
          try simp only [Act.put, List.setIfInBounds_toArray, List.set_cons_zero, List.set_cons_succ]
          refine wpAnyH_ready (rs := [11]) (by kernel_rfl) (by simp) ?_
          refine AllReadyH.cons rfl (fun K hK => ?_) AllReadyH.nil
          go_simp
          refine hK.out _ _ (KS.out _ (bl_alloc10 gT55 _)) (fun hHeld56 => ?_)
          clear hK K
          try simp only [Act.put, List.setIfInBounds_toArray, List.set_cons_zero, List.set_cons_succ]
          obtain ⟨PB56, hPB56, hbPB56, hxPB56⟩ := enter1 T55 (.cells #[.bool b4, .slice a4 n4 k4, .int .i64 ex4] 31)
          rw [hPB56] at hHeld56 ⊢
          have gPB56 := bl_trans8 gT55 hbPB56
          clear hPB56
          refine wpAnyH_ready (rs := [12]) (by kernel_rfl) (by simp) ?_
          refine AllReadyH.cons rfl (fun K hK => ?_) AllReadyH.nil
          go_simp
          refine (hull1N T55.heap.size b2 a2 n2 k2 ex2 b4 a4 n4 k4 ex4 L V2 V4 PB56 (hxPB56) (HNT.out.2.1.below gPB56) (HNT.out.2.2.2.below gPB56) LL.out).mono ?_
          rintro e' T57 ⟨⟨hx, hxa, hxn, hxk, hxe, hy, hya, hyn, hyk, hye, rfl, nhx, nhy⟩, hbT57⟩
          have gT57 := bl_trans8 gPB56 hbT57
          refine hK.out _ _ (KS.out _ gT57) (fun hHeld57 => ?_)
          clear hK K
          try simp only [Act.put, List.setIfInBounds_toArray, List.set_cons_zero, List.set_cons_succ]
          refine wpAnyH_take (i := 13) (oi := { dst := some 29, op := Op.field 33 (Operand.tmp 28) 0, type := 31, pos := "span.go:89", after := #[{ on := 12, ground := Ground.data }], guard := none }) (v := .agg #[.bool hx, .slice hxa hxn hxk, .int .i64 hxe]) rfl (by kernel_rfl) (by kernel_rfl) (by kernel_rfl) (fun _ _ _ h => h) (Or.inl ⟨by rfl, fun w9 hSw => ?_⟩) hHeld57 ?_
          · (try dsimp only at hSw); go_simp
          try simp only [Act.put, List.setIfInBounds_toArray, List.set_cons_zero, List.set_cons_succ]
          refine wpAnyH_take (i := 14) (oi := { dst := some 30, op := Op.build 33 #[(0, Operand.tmp 22), (1, Operand.tmp 29)], type := 33, pos := "span.go:89", after := #[{ on := 6, ground := Ground.data }, { on := 13, ground := Ground.data }], guard := none }) (v := .agg #[.bool ly, .slice lya lyn lyk, .int .i64 lye, .bool hx, .slice hxa hxn hxk, .int .i64 hxe]) rfl (by kernel_rfl) (by kernel_rfl) (by kernel_rfl) (fun _ _ _ h => h) (Or.inl ⟨by rfl, fun w9 hSw => ?_⟩) hHeld57 ?_
          · (try dsimp only at hSw); go_simp
          try simp only [Act.put, List.setIfInBounds_toArray, List.set_cons_zero, List.set_cons_succ]
          refine wpAnyH_ready (rs := [16]) (by kernel_rfl) (by simp) ?_
          refine AllReadyH.cons rfl (fun K hK => ?_) AllReadyH.nil
          have hzb := (block_upW (bl_trans8 (bl_trans8 (bl_trans8 hbPB54 hbT55) hbPB56) hbT57) hxPB53)
          have zfb := hexaf hzb
          obtain ⟨zb0, zb1, zb2, zb3, zb4, zb5⟩ := hexa hzb
          have geb : t2.heap.size ≤ UD.heap.size := gUD.size
          have gst := below_hexa gT57 geb (.bool ly) (.slice lya lyn lyk) (.int .i64 lye) (.bool hx) (.slice hxa hxn hxk) (.int .i64 hxe)
          go_simp
          refine hK.out _ _ (KS.out _ gst) (fun hHeld58 => ?_)
          clear hK K
          try simp only [Act.put, List.setIfInBounds_toArray, List.set_cons_zero, List.set_cons_succ]
          refine wpAnyH_done (by kernel_rfl) ?_ _
          clear hHeld0 hHeld53 hHeld54 hHeld55 hHeld56 hHeld57 hHeld58
          go_wp2_with fail
          go_meet
          exact one_nn hzb geb (nly.below (bl_trans8 hbPB56 hbT57)) (nhx.below (Below.refl _ _)) gT57
        refine AllReadyH.cons rfl (fun K hK => ?_) ?_
        · skip
          go_simp
          refine hK.out _ _ (KS.out _ (bl_alloc10 gPB54 _)) (fun hHeld59 => ?_)
          clear hK K
          try simp only [Act.put, List.setIfInBounds_toArray, List.set_cons_zero, List.set_cons_succ]
          obtain ⟨PB59, hPB59, hbPB59, hxPB59⟩ := enter1 PB54 (.cells #[.bool b4, .slice a4 n4 k4, .int .i64 ex4] 31)
          rw [hPB59] at hHeld59 ⊢
          have gPB59 := bl_trans8 gPB54 hbPB59
          clear hPB59
          refine wpAnyH_ready (rs := [5]) (by kernel_rfl) (by simp) ?_
          refine AllReadyH.cons rfl (fun K hK => ?_) AllReadyH.nil
          go_simp
          refine (hull1N PB53.heap.size b1 a1 n1 k1 ex1 b3 a3 n3 k3 ex3 L V1 V3 PB59 (block_upW hbPB59 hxPB54) (HNT.out.1.below gPB59) (HNT.out.2.2.1.below gPB59) LL.out).mono ?_
          rintro e' T60 ⟨⟨lx, lxa, lxn, lxk, lxe, ly, lya, lyn, lyk, lye, rfl, nlx, nly⟩, hbT60⟩
          have gT60 := bl_trans8 gPB59 hbT60
          refine hK.out _ _ (KS.out _ gT60) (fun hHeld60 => ?_)
          clear hK K
          try simp only [Act.put, List.setIfInBounds_toArray, List.set_cons_zero, List.set_cons_succ]
          refine wpAnyH_take (i := 6) (oi := { dst := some 22, op := Op.field 33 (Operand.tmp 21) 1, type := 31, pos := "span.go:89", after := #[{ on := 5, ground := Ground.data }], guard := none }) (v := .agg #[.bool ly, .slice lya lyn lyk, .int .i64 lye]) rfl (by kernel_rfl) (by kernel_rfl) (by kernel_rfl) (fun _ _ _ h => h) (Or.inl ⟨by rfl, fun w9 hSw => ?_⟩) hHeld60 ?_
          · (try dsimp only at hSw); go_simp
          try simp only [Act.put, List.setIfInBounds_toArray, List.set_cons_zero, List.set_cons_succ]
          refine wpAnyH_ready (rs := [12]) (by kernel_rfl) (by simp) ?_
          refine AllReadyH.cons rfl (fun K hK => ?_) AllReadyH.nil
          go_simp
          refine (hull1N PB54.heap.size b2 a2 n2 k2 ex2 b4 a4 n4 k4 ex4 L V2 V4 T60 (block_upW hbT60 hxPB59) (HNT.out.2.1.below gT60) (HNT.out.2.2.2.below gT60) LL.out).mono ?_
          rintro e' T61 ⟨⟨hx, hxa, hxn, hxk, hxe, hy, hya, hyn, hyk, hye, rfl, nhx, nhy⟩, hbT61⟩
          have gT61 := bl_trans8 gT60 hbT61
          refine hK.out _ _ (KS.out _ gT61) (fun hHeld61 => ?_)
          clear hK K
          try simp only [Act.put, List.setIfInBounds_toArray, List.set_cons_zero, List.set_cons_succ]
          refine wpAnyH_take (i := 13) (oi := { dst := some 29, op := Op.field 33 (Operand.tmp 28) 0, type := 31, pos := "span.go:89", after := #[{ on := 12, ground := Ground.data }], guard := none }) (v := .agg #[.bool hx, .slice hxa hxn hxk, .int .i64 hxe]) rfl (by kernel_rfl) (by kernel_rfl) (by kernel_rfl) (fun _ _ _ h => h) (Or.inl ⟨by rfl, fun w9 hSw => ?_⟩) hHeld61 ?_
          · (try dsimp only at hSw); go_simp
          try simp only [Act.put, List.setIfInBounds_toArray, List.set_cons_zero, List.set_cons_succ]
          refine wpAnyH_take (i := 14) (oi := { dst := some 30, op := Op.build 33 #[(0, Operand.tmp 22), (1, Operand.tmp 29)], type := 33, pos := "span.go:89", after := #[{ on := 6, ground := Ground.data }, { on := 13, ground := Ground.data }], guard := none }) (v := .agg #[.bool ly, .slice lya lyn lyk, .int .i64 lye, .bool hx, .slice hxa hxn hxk, .int .i64 hxe]) rfl (by kernel_rfl) (by kernel_rfl) (by kernel_rfl) (fun _ _ _ h => h) (Or.inl ⟨by rfl, fun w9 hSw => ?_⟩) hHeld61 ?_
          · (try dsimp only at hSw); go_simp
          try simp only [Act.put, List.setIfInBounds_toArray, List.set_cons_zero, List.set_cons_succ]
          refine wpAnyH_ready (rs := [16]) (by kernel_rfl) (by simp) ?_
          refine AllReadyH.cons rfl (fun K hK => ?_) AllReadyH.nil
          have hzb := (block_upW (bl_trans8 (bl_trans8 (bl_trans8 hbPB54 hbPB59) hbT60) hbT61) hxPB53)
          have zfb := hexaf hzb
          obtain ⟨zb0, zb1, zb2, zb3, zb4, zb5⟩ := hexa hzb
          have geb : t2.heap.size ≤ UD.heap.size := gUD.size
          have gst := below_hexa gT61 geb (.bool ly) (.slice lya lyn lyk) (.int .i64 lye) (.bool hx) (.slice hxa hxn hxk) (.int .i64 hxe)
          go_simp
          refine hK.out _ _ (KS.out _ gst) (fun hHeld62 => ?_)
          clear hK K
          try simp only [Act.put, List.setIfInBounds_toArray, List.set_cons_zero, List.set_cons_succ]
          refine wpAnyH_done (by kernel_rfl) ?_ _
          clear hHeld0 hHeld53 hHeld54 hHeld59 hHeld60 hHeld61 hHeld62
          go_wp2_with fail
          go_meet
          exact one_nn hzb geb (nly.below hbT61) (nhx.below (Below.refl _ _)) gT61
        exact AllReadyH.nil
      refine AllReadyH.cons rfl (fun K hK => ?_) ?_
      · skip
        go_simp
        refine hK.out _ _ (KS.out _ (bl_alloc10 gPB53 _)) (fun hHeld63 => ?_)
        clear hK K
        try simp only [Act.put, List.setIfInBounds_toArray, List.set_cons_zero, List.set_cons_succ]
        obtain ⟨PB63, hPB63, hbPB63, hxPB63⟩ := enter1 PB53 (.cells #[.bool b4, .slice a4 n4 k4, .int .i64 ex4] 31)
        rw [hPB63] at hHeld63 ⊢
        have gPB63 := bl_trans8 gPB53 hbPB63
        clear hPB63
        refine wpAnyH_ready (rs := [4]) (by kernel_rfl) (by simp) ?_
        refine AllReadyH.cons rfl (fun K hK => ?_) AllReadyH.nil
        go_simp
        refine hK.out _ _ (KS.out _ (bl_alloc10 gPB63 _)) (fun hHeld64 => ?_)
        clear hK K
        try simp only [Act.put, List.setIfInBounds_toArray, List.set_cons_zero, List.set_cons_succ]
        obtain ⟨PB64, hPB64, hbPB64, hxPB64⟩ := enter1 PB63 (.cells #[.bool b3, .slice a3 n3 k3, .int .i64 ex3] 31)
        rw [hPB64] at hHeld64 ⊢
        have gPB64 := bl_trans8 gPB63 hbPB64
        clear hPB64
        refine wpAnyH_ready (rs := [5]) (by kernel_rfl) (by simp) ?_
        refine AllReadyH.cons rfl (fun K hK => ?_) AllReadyH.nil
        go_simp
        refine (hull1N PB63.heap.size b1 a1 n1 k1 ex1 b3 a3 n3 k3 ex3 L V1 V3 PB64 (hxPB64) (HNT.out.1.below gPB64) (HNT.out.2.2.1.below gPB64) LL.out).mono ?_
        rintro e' T65 ⟨⟨lx, lxa, lxn, lxk, lxe, ly, lya, lyn, lyk, lye, rfl, nlx, nly⟩, hbT65⟩
        have gT65 := bl_trans8 gPB64 hbT65
        refine hK.out _ _ (KS.out _ gT65) (fun hHeld65 => ?_)
        clear hK K
        try simp only [Act.put, List.setIfInBounds_toArray, List.set_cons_zero, List.set_cons_succ]
        refine wpAnyH_take (i := 6) (oi := { dst := some 22, op := Op.field 33 (Operand.tmp 21) 1, type := 31, pos := "span.go:89", after := #[{ on := 5, ground := Ground.data }], guard := none }) (v := .agg #[.bool ly, .slice lya lyn lyk, .int .i64 lye]) rfl (by kernel_rfl) (by kernel_rfl) (by kernel_rfl) (fun _ _ _ h => h) (Or.inl ⟨by rfl, fun w9 hSw => ?_⟩) hHeld65 ?_
        · (try dsimp only at hSw); go_simp
        try simp only [Act.put, List.setIfInBounds_toArray, List.set_cons_zero, List.set_cons_succ]
        refine wpAnyH_ready (rs := [12]) (by kernel_rfl) (by simp) ?_
        refine AllReadyH.cons rfl (fun K hK => ?_) AllReadyH.nil
        go_simp
        refine (hull1N PB53.heap.size b2 a2 n2 k2 ex2 b4 a4 n4 k4 ex4 L V2 V4 T65 (block_upW (bl_trans8 hbPB64 hbT65) hxPB63) (HNT.out.2.1.below gT65) (HNT.out.2.2.2.below gT65) LL.out).mono ?_
        rintro e' T66 ⟨⟨hx, hxa, hxn, hxk, hxe, hy, hya, hyn, hyk, hye, rfl, nhx, nhy⟩, hbT66⟩
        have gT66 := bl_trans8 gT65 hbT66
        refine hK.out _ _ (KS.out _ gT66) (fun hHeld66 => ?_)
        clear hK K
        try simp only [Act.put, List.setIfInBounds_toArray, List.set_cons_zero, List.set_cons_succ]
        refine wpAnyH_take (i := 13) (oi := { dst := some 29, op := Op.field 33 (Operand.tmp 28) 0, type := 31, pos := "span.go:89", after := #[{ on := 12, ground := Ground.data }], guard := none }) (v := .agg #[.bool hx, .slice hxa hxn hxk, .int .i64 hxe]) rfl (by kernel_rfl) (by kernel_rfl) (by kernel_rfl) (fun _ _ _ h => h) (Or.inl ⟨by rfl, fun w9 hSw => ?_⟩) hHeld66 ?_
        · (try dsimp only at hSw); go_simp
        try simp only [Act.put, List.setIfInBounds_toArray, List.set_cons_zero, List.set_cons_succ]
        refine wpAnyH_take (i := 14) (oi := { dst := some 30, op := Op.build 33 #[(0, Operand.tmp 22), (1, Operand.tmp 29)], type := 33, pos := "span.go:89", after := #[{ on := 6, ground := Ground.data }, { on := 13, ground := Ground.data }], guard := none }) (v := .agg #[.bool ly, .slice lya lyn lyk, .int .i64 lye, .bool hx, .slice hxa hxn hxk, .int .i64 hxe]) rfl (by kernel_rfl) (by kernel_rfl) (by kernel_rfl) (fun _ _ _ h => h) (Or.inl ⟨by rfl, fun w9 hSw => ?_⟩) hHeld66 ?_
        · (try dsimp only at hSw); go_simp
        try simp only [Act.put, List.setIfInBounds_toArray, List.set_cons_zero, List.set_cons_succ]
        refine wpAnyH_ready (rs := [16]) (by kernel_rfl) (by simp) ?_
        refine AllReadyH.cons rfl (fun K hK => ?_) AllReadyH.nil
        have hzb := (block_upW (bl_trans8 (bl_trans8 (bl_trans8 hbPB63 hbPB64) hbT65) hbT66) hxPB53)
        have zfb := hexaf hzb
        obtain ⟨zb0, zb1, zb2, zb3, zb4, zb5⟩ := hexa hzb
        have geb : t2.heap.size ≤ UD.heap.size := gUD.size
        have gst := below_hexa gT66 geb (.bool ly) (.slice lya lyn lyk) (.int .i64 lye) (.bool hx) (.slice hxa hxn hxk) (.int .i64 hxe)
        go_simp
        refine hK.out _ _ (KS.out _ gst) (fun hHeld67 => ?_)
        clear hK K
        try simp only [Act.put, List.setIfInBounds_toArray, List.set_cons_zero, List.set_cons_succ]
        refine wpAnyH_done (by kernel_rfl) ?_ _
        clear hHeld0 hHeld53 hHeld63 hHeld64 hHeld65 hHeld66 hHeld67
        go_wp2_with fail
        go_meet
        exact one_nn hzb geb (nly.below hbT66) (nhx.below (Below.refl _ _)) gT66
      exact AllReadyH.nil
    exact AllReadyH.nil
  case rest =>
    obtain ⟨gd, ly, lya, lyn, lyk, lye, hx, hxa, hxn, hxk, hxe, rfl, hX, n1, n2, hbx⟩ := hcut
    have HBX := hide hbx
    have HX := hide hX
    have HN1 := hide n1
    have HN2 := hide n2
    have HG2 := hide (bl_trans8 HG.out hbx)
    have HC2 := hide (block_upW hbx HC1.out)
    have HTC := hide (HTT.out.below hbx)
    clear KS KT g0 hbx hX n1 n2 HG HC1 HTT HNT HP0 HP1
    have C := slessN hx hxa hxn hxk hxe ly lya lyn lyk lye L (min V2 V4) (max V1 V3) wc HN2.out HN1.out LL.out
    obtain ⟨m0, m1, m2, m3, m4, m5⟩ := hexa HX.out
    by_cases hlt : (min V2 V4) < (max V1 V3)
    · rw [decide_eq_true hlt] at C
      have HLT := hide hlt
      obtain rfl : FL = 103 := by rw [← EFL.out, if_pos hlt]
      clear hlt EFL
      go_wp2_with fail
      refine C.mono ?_
      rintro e t5 ⟨rfl, g5⟩
      clear C m0 m1 m2 m3 m4 m5
      have HG := hide (bl_trans8 HG2.out g5)
      have HC1 := hide (block_upW g5 HC2.out)
      clear g5 HG2 HC2
      have hf1 := hexaf HC1.out
      obtain ⟨m0, m1, m2, m3, m4, m5⟩ := hexa HC1.out
      go_wp2
      have T3 := hexa_all HC1.out (.bool false) (.slice none 0 0) (.int .i64 0) (.bool false) (.slice none 0 0) (.int .i64 0)
      have T4 := below_hexa HG.out (show w.heap.size ≤ w.heap.size + 1 + 1 by omega) (.bool false) (.slice none 0 0) (.int .i64 0) (.bool false) (.slice none 0 0) (.int .i64 0)
      obtain ⟨p0, p1, p2, p3, p4, p5⟩ := hexa T3
      have HE := hide T4
      clear T3 T4
      generalize (((((t5.setCell ⟨w.heap.size + 1 + 1, 0, none⟩ (.bool false)).setCell ⟨w.heap.size + 1 + 1, 1, none⟩ (.slice none 0 0)).setCell ⟨w.heap.size + 1 + 1, 2, none⟩ (.int .i64 0)).setCell ⟨w.heap.size + 1 + 1, 3, none⟩ (.bool false)).setCell ⟨w.heap.size + 1 + 1, 4, none⟩ (.slice none 0 0)).setCell ⟨w.heap.size + 1 + 1, 5, none⟩ (.int .i64 0) = w5 at *
      refine bodyPost_ret (v := .tuple #[.agg #[.bool false, .slice none 0 0, .int .i64 0, .bool false, .slice none 0 0, .int .i64 0], .int .i64 103]) (by simp [results, Tryz.results21, go_sem, p0, p1, p2, p3, p4, p5]) rfl ?_
      exact ⟨⟨_, _, _, _, _, _, _, _, _, _, _, rfl, .inl ⟨by decide, rfl, rfl, rfl, rfl, rfl, rfl, rfl⟩⟩, HE.out⟩
    · rw [decide_eq_false hlt] at C
      have HLT := hide hlt
      obtain rfl : FL = 0 := by rw [← EFL.out, if_neg hlt]
      clear hlt EFL
      go_wp2_with fail
      refine C.mono ?_
      rintro e t5 ⟨rfl, g5⟩
      clear C m0 m1 m2 m3 m4 m5
      have C := answeredN ly lya lyn lyk lye hx hxa hxn hxk hxe L (max V1 V3) (min V2 V4) t5 (HTC.out.below g5) (HN1.out.below g5) (HN2.out.below g5) LL.out (by have := HLT.out; omega)
      obtain ⟨m0, m1, m2, m3, m4, m5⟩ := hexa (block_upW g5 HX.out)
      go_wp2_with fail
      refine C.mono ?_
      rintro e t6 ⟨⟨p, pa, pn, pk, pe, q, qa, qn, qk, qe, rc, rfl, hs⟩, hb6⟩
      clear C m0 m1 m2 m3 m4 m5
      have g6 := bl_trans8 g5 hb6
      have HSR0 := hs.base (show w.heap.size ≤ t5.heap.size from Nat.le_trans HG2.out.size g5.size)
      have HSR := hide HSR0
      have HG := hide (bl_trans8 HG2.out g6)
      have HC1 := hide (block_upW g6 HC2.out)
      clear g5 g6 hb6 hs HSR0 HG2 HC2
      have hf1 := hexaf HC1.out
      obtain ⟨m0, m1, m2, m3, m4, m5⟩ := hexa HC1.out
      go_wp2
      have T3 := hexa_all HC1.out (.bool p) (.slice pa pn pk) (.int .i64 pe) (.bool q) (.slice qa qn qk) (.int .i64 qe)
      have T4 := below_hexa HG.out (show w.heap.size ≤ w.heap.size + 1 + 1 by omega) (.bool p) (.slice pa pn pk) (.int .i64 pe) (.bool q) (.slice qa qn qk) (.int .i64 qe)
      have T5 := HSR.out.hexa HC1.out (by decide) (.bool p) (.slice pa pn pk) (.int .i64 pe) (.bool q) (.slice qa qn qk) (.int .i64 qe)
      obtain ⟨p0, p1, p2, p3, p4, p5⟩ := hexa T3
      have HE := hide (And.intro T5 T4)
      clear T3 T4 T5
      generalize (((((t6.setCell ⟨w.heap.size + 1 + 1, 0, none⟩ (.bool p)).setCell ⟨w.heap.size + 1 + 1, 1, none⟩ (.slice pa pn pk)).setCell ⟨w.heap.size + 1 + 1, 2, none⟩ (.int .i64 pe)).setCell ⟨w.heap.size + 1 + 1, 3, none⟩ (.bool q)).setCell ⟨w.heap.size + 1 + 1, 4, none⟩ (.slice qa qn qk)).setCell ⟨w.heap.size + 1 + 1, 5, none⟩ (.int .i64 qe) = w5 at *
      refine bodyPost_ret (v := .tuple #[.agg #[.bool p, .slice pa pn pk, .int .i64 pe, .bool q, .slice qa qn qk, .int .i64 qe], .int .i64 rc]) (by simp [results, Tryz.results21, go_sem, p0, p1, p2, p3, p4, p5]) rfl ?_
      exact ⟨⟨_, _, _, _, _, _, _, _, _, _, _, rfl, HE.out.1⟩, HE.out.2⟩

end Go.Proofs.YtppkhhbhnhijpaaGreatDoor
