/- Package span: Has, Within, Sign, Order; what the laws and the document say of them. -/
import Derived.Test.YtppkhhbhnhijpaaGreatDoorSpQZ
namespace Go.Proofs.YtppkhhbhnhijpaaGreatDoor
open Go.RowKit
open Lm
attribute [local go_sem ↓] Go.wp_at_zero Go.wp_at_succ

theorem sisPosB (n : Int) (w : World) : Calls Tryz.prog 61 #[.int .i64 n] w fun e w' => e = .returned (.bool (fitE n)) ∧ w' = w := by
  by_cases h1 : -1099511627776 ≤ n
  · have h1' : decide (-1099511627776 ≤ n) = true := decide_eq_true h1
    by_cases h2 : n ≤ 1099511627776
    · have h2' : decide (n ≤ 1099511627776) = true := decide_eq_true h2
      rw [(fitE_iff n).2 ⟨h1, h2⟩]
      go_enter Tryz.func61, Tryz.ntmps61
      go_wp2
      go_ret
      exact ⟨rfl, rfl⟩
    · have h2' : decide (n ≤ 1099511627776) = false := decide_eq_false h2
      have e : fitE n = false := by rw [← Bool.not_eq_true, fitE_iff]; omega
      rw [e]
      go_enter Tryz.func61, Tryz.ntmps61
      go_wp2
      go_ret
      exact ⟨rfl, rfl⟩
  · have h1' : decide (-1099511627776 ≤ n) = false := decide_eq_false h1
    have e : fitE n = false := by rw [← Bool.not_eq_true, fitE_iff]; omega
    rw [e]
    go_enter Tryz.func61, Tryz.ntmps61
    go_wp2
    go_ret
    exact ⟨rfl, rfl⟩

set_option maxRecDepth 20000 in
set_option maxHeartbeats 2000000 in
theorem shas_bad (b1 : Bool) (a1 : Option Addr) (n1 k1 : Nat) (ex1 : Int) (b2 : Bool) (a2 : Option Addr) (n2 k2 : Nat) (ex2 : Int) (b3 : Bool) (a3 : Option Addr) (n3 k3 : Nat) (ex3 : Int) (F : Int) (w : World) (hF : FltOf w b1 a1 n1 k1 ex1 b2 a2 n2 k2 ex2 F) (h0 : F ≠ 0) :
    Calls Tryz.prog 27 #[.agg #[.bool b1, .slice a1 n1 k1, .int .i64 ex1, .bool b2, .slice a2 n2 k2, .int .i64 ex2], .agg #[.bool b3, .slice a3 n3 k3, .int .i64 ex3]] w fun e w' => e = .returned (.tuple #[.bool false, .int .i64 F]) ∧ Below w.heap.size w w' := by
  obtain ⟨w0, hw0, hb0, q0, q1⟩ := enter2 w (.cells #[.bool b1, .slice a1 n1 k1, .int .i64 ex1, .bool b2, .slice a2 n2 k2, .int .i64 ex2] 33) (.cells #[.bool b3, .slice a3 n3 k3, .int .i64 ex3] 31)
  obtain ⟨w1, hw1, hb1, q9⟩ := enter1 w0 (.cells #[.bool b1, .slice a1 n1 k1, .int .i64 ex1, .bool b2, .slice a2 n2 k2, .int .i64 ex2] 33)
  have CF := hF w1 w0.heap.size (bl_trans8 hb0 hb1) q9
  have HU := hide (bl_trans8 hb0 hb1)
  obtain ⟨y0, y1, y2, y3, y4, y5⟩ := hexa q0
  have HQ0 := hide (block_upW hb1 q0)
  have HQ1 := hide (block_upW hb1 q1)
  clear q9 hb0 hb1 hF q0 q1
  have i9 : (F != 0) = true := by simpa using h0
  clear h0
  go_enter Tryz.func27, Tryz.ntmps27
  go_wp2_with fail
  refine CF.mono ?_
  rintro e t2 ⟨rfl, g2⟩
  have HG := hide (bl_trans8 HU.out g2)
  have HP0 := hide (block_upW g2 HQ0.out)
  have HP1 := hide (block_upW g2 HQ1.out)
  clear g2 CF y0 y1 y2 y3 y4 y5 hw0 hw1
  go_wp2
  go_ret2
  exact ⟨rfl, HG.out⟩

set_option maxRecDepth 20000 in
set_option maxHeartbeats 2000000 in
theorem shas_exp (b1 : Bool) (a1 : Option Addr) (n1 k1 : Nat) (ex1 : Int) (b2 : Bool) (a2 : Option Addr) (n2 k2 : Nat) (ex2 : Int) (b3 : Bool) (a3 : Option Addr) (n3 k3 : Nat) (ex3 : Int) (w : World) (hF : FltOf w b1 a1 n1 k1 ex1 b2 a2 n2 k2 ex2 0) (hE : fitE ex3 = false) :
    Calls Tryz.prog 27 #[.agg #[.bool b1, .slice a1 n1 k1, .int .i64 ex1, .bool b2, .slice a2 n2 k2, .int .i64 ex2], .agg #[.bool b3, .slice a3 n3 k3, .int .i64 ex3]] w fun e w' => e = .returned (.tuple #[.bool false, .int .i64 80]) ∧ Below w.heap.size w w' := by
  obtain ⟨w0, hw0, hb0, q0, q1⟩ := enter2 w (.cells #[.bool b1, .slice a1 n1 k1, .int .i64 ex1, .bool b2, .slice a2 n2 k2, .int .i64 ex2] 33) (.cells #[.bool b3, .slice a3 n3 k3, .int .i64 ex3] 31)
  obtain ⟨w1, hw1, hb1, q9⟩ := enter1 w0 (.cells #[.bool b1, .slice a1 n1 k1, .int .i64 ex1, .bool b2, .slice a2 n2 k2, .int .i64 ex2] 33)
  have CF := hF w1 w0.heap.size (bl_trans8 hb0 hb1) q9
  have HU := hide (bl_trans8 hb0 hb1)
  obtain ⟨y0, y1, y2, y3, y4, y5⟩ := hexa q0
  have HQ0 := hide (block_upW hb1 q0)
  have HQ1 := hide (block_upW hb1 q1)
  clear q9 hb0 hb1 hF q0 q1
  go_enter Tryz.func27, Tryz.ntmps27
  go_wp2_with fail
  refine CF.mono ?_
  rintro e t2 ⟨rfl, g2⟩
  have HG := hide (bl_trans8 HU.out g2)
  have HP0 := hide (block_upW g2 HQ0.out)
  have HP1 := hide (block_upW g2 HQ1.out)
  clear g2 CF y0 y1 y2 y3 y4 y5 hw0 hw1
  obtain ⟨z0, z1, z2⟩ := tri8 HP1.out
  have C := sisPosB ex3 t2
  rw [hE] at C
  go_wp2_with fail
  refine C.mono ?_
  rintro e wn ⟨rfl, hw⟩; rw [hw]; clear hw wn C
  go_wp2
  go_ret2
  exact ⟨rfl, HG.out⟩

set_option maxRecDepth 20000 in
set_option maxHeartbeats 2000000 in
theorem shas_ok (b1 : Bool) (a1 : Option Addr) (n1 k1 : Nat) (ex1 : Int) (b2 : Bool) (a2 : Option Addr) (n2 k2 : Nat) (ex2 : Int) (b3 : Bool) (a3 : Option Addr) (n3 k3 : Nat) (ex3 : Int) (L : Nat) (V1 V2 V3 : Int) (w : World) (hF : FltOf w b1 a1 n1 k1 ex1 b2 a2 n2 k2 ex2 0) (h1 : N8 w b1 a1 n1 k1 ex1 L V1) (h2 : N8 w b2 a2 n2 k2 ex2 L V2) (h3 : N8 w b3 a3 n3 k3 ex3 L V3) (hL : 4611686018427387904 ≤ L) :
    Calls Tryz.prog 27 #[.agg #[.bool b1, .slice a1 n1 k1, .int .i64 ex1, .bool b2, .slice a2 n2 k2, .int .i64 ex2], .agg #[.bool b3, .slice a3 n3 k3, .int .i64 ex3]] w fun e w' => e = .returned (.tuple #[.bool (!decide (V3 < V1) && !decide (V2 < V3)), .int .i64 0]) ∧ Below w.heap.size w w' := by
  obtain ⟨w0, hw0, hb0, q0, q1⟩ := enter2 w (.cells #[.bool b1, .slice a1 n1 k1, .int .i64 ex1, .bool b2, .slice a2 n2 k2, .int .i64 ex2] 33) (.cells #[.bool b3, .slice a3 n3 k3, .int .i64 ex3] 31)
  obtain ⟨w1, hw1, hb1, q9⟩ := enter1 w0 (.cells #[.bool b1, .slice a1 n1 k1, .int .i64 ex1, .bool b2, .slice a2 n2 k2, .int .i64 ex2] 33)
  have CF := hF w1 w0.heap.size (bl_trans8 hb0 hb1) q9
  have HU := hide (bl_trans8 hb0 hb1)
  obtain ⟨y0, y1, y2, y3, y4, y5⟩ := hexa q0
  have HQ0 := hide (block_upW hb1 q0)
  have HQ1 := hide (block_upW hb1 q1)
  clear q9 hb0 hb1 hF q0 q1
  have hE : fitE ex3 = true := by obtain ⟨_, _, _, _, h, _⟩ := h3; exact h
  have K1 := hide (fun (W : World) (hg : Below w.heap.size w W) => slessN b3 a3 n3 k3 ex3 b1 a1 n1 k1 ex1 L V3 V1 W (h3.below hg) (h1.below hg) hL)
  have K2 := hide (fun (W : World) (hg : Below w.heap.size w W) => slessN b2 a2 n2 k2 ex2 b3 a3 n3 k3 ex3 L V2 V3 W (h2.below hg) (h3.below hg) hL)
  generalize decide (V3 < V1) = D1 at *
  generalize decide (V2 < V3) = D2 at *
  clear h1 h2 h3
  go_enter Tryz.func27, Tryz.ntmps27
  go_wp2_with fail
  refine CF.mono ?_
  rintro e t2 ⟨rfl, g2⟩
  have HG := hide (bl_trans8 HU.out g2)
  have HP0 := hide (block_upW g2 HQ0.out)
  have HP1 := hide (block_upW g2 HQ1.out)
  clear g2 CF y0 y1 y2 y3 y4 y5 hw0 hw1
  obtain ⟨z0, z1, z2⟩ := tri8 HP1.out
  obtain ⟨y0, y1, y2, y3, y4, y5⟩ := hexa HP0.out
  have C := sisPosB ex3 t2
  rw [hE] at C
  go_wp2_with fail
  refine C.mono ?_
  rintro e wn ⟨rfl, hw⟩; rw [hw]; clear hw wn C
  have C := K1.out t2 HG.out
  cases D1
  · go_wp2_with fail
    refine C.mono ?_
    rintro e t3 ⟨rfl, g3⟩
    have HG3 := hide (bl_trans8 HG.out g3)
    clear C z0 z1 z2 y0 y1 y2 y3 y4 y5
    obtain ⟨z0, z1, z2⟩ := tri8 (block_upW g3 HP1.out)
    obtain ⟨y0, y1, y2, y3, y4, y5⟩ := hexa (block_upW g3 HP0.out)
    clear g3
    have C := K2.out t3 HG3.out
    go_wp2_with fail
    refine C.mono ?_
    rintro e t4 ⟨rfl, g4⟩
    have HG4 := hide (bl_trans8 HG3.out g4)
    clear C g4
    go_wp2
    go_ret2
    exact ⟨rfl, HG4.out⟩
  · go_wp2_with fail
    refine C.mono ?_
    rintro e t3 ⟨rfl, g3⟩
    have HG3 := hide (bl_trans8 HG.out g3)
    clear C g3
    go_wp2
    go_ret2
    exact ⟨rfl, HG3.out⟩

set_option maxRecDepth 20000 in
set_option maxHeartbeats 2000000 in
theorem swithin_bad (b1 : Bool) (a1 : Option Addr) (n1 k1 : Nat) (ex1 : Int) (b2 : Bool) (a2 : Option Addr) (n2 k2 : Nat) (ex2 : Int) (b3 : Bool) (a3 : Option Addr) (n3 k3 : Nat) (ex3 : Int) (b4 : Bool) (a4 : Option Addr) (n4 k4 : Nat) (ex4 : Int) (F : Int) (w : World) (hF : FltOf2 w b1 a1 n1 k1 ex1 b2 a2 n2 k2 ex2 b3 a3 n3 k3 ex3 b4 a4 n4 k4 ex4 F) (h0 : F ≠ 0) :
    Calls Tryz.prog 28 #[.agg #[.bool b1, .slice a1 n1 k1, .int .i64 ex1, .bool b2, .slice a2 n2 k2, .int .i64 ex2], .agg #[.bool b3, .slice a3 n3 k3, .int .i64 ex3, .bool b4, .slice a4 n4 k4, .int .i64 ex4]] w fun e w' => e = .returned (.tuple #[.bool false, .int .i64 F]) ∧ Below w.heap.size w w' := by
  obtain ⟨w0, hw0, hb0, q0, q1⟩ := enter2 w (.cells #[.bool b1, .slice a1 n1 k1, .int .i64 ex1, .bool b2, .slice a2 n2 k2, .int .i64 ex2] 33) (.cells #[.bool b3, .slice a3 n3 k3, .int .i64 ex3, .bool b4, .slice a4 n4 k4, .int .i64 ex4] 33)
  obtain ⟨w1, hw1, hb1, q9⟩ := enter1 w0 (.cells #[.bool b1, .slice a1 n1 k1, .int .i64 ex1, .bool b2, .slice a2 n2 k2, .int .i64 ex2, .bool b3, .slice a3 n3 k3, .int .i64 ex3, .bool b4, .slice a4 n4 k4, .int .i64 ex4] 33)
  have CF := hF w1 w0.heap.size (bl_trans8 hb0 hb1) q9
  have HU := hide (bl_trans8 hb0 hb1)
  obtain ⟨y0, y1, y2, y3, y4, y5⟩ := hexa q0
  obtain ⟨y6, y7, y8, y9, y10, y11⟩ := hexa q1
  have HQ0 := hide (block_upW hb1 q0)
  have HQ1 := hide (block_upW hb1 q1)
  clear q9 hb0 hb1 hF q0 q1
  have i9 : (F != 0) = true := by simpa using h0
  clear h0
  go_enter Tryz.func28, Tryz.ntmps28
  go_wp2_with fail
  refine CF.mono ?_
  rintro e t2 ⟨rfl, g2⟩
  have HG := hide (bl_trans8 HU.out g2)
  have HP0 := hide (block_upW g2 HQ0.out)
  have HP1 := hide (block_upW g2 HQ1.out)
  clear g2 CF y0 y1 y2 y3 y4 y5 y6 y7 y8 y9 y10 y11 hw0 hw1
  go_wp2
  go_ret2
  exact ⟨rfl, HG.out⟩

set_option maxRecDepth 20000 in
set_option maxHeartbeats 2000000 in
theorem sorder_bad (b1 : Bool) (a1 : Option Addr) (n1 k1 : Nat) (ex1 : Int) (b2 : Bool) (a2 : Option Addr) (n2 k2 : Nat) (ex2 : Int) (b3 : Bool) (a3 : Option Addr) (n3 k3 : Nat) (ex3 : Int) (b4 : Bool) (a4 : Option Addr) (n4 k4 : Nat) (ex4 : Int) (F : Int) (w : World) (hF : FltOf2 w b1 a1 n1 k1 ex1 b2 a2 n2 k2 ex2 b3 a3 n3 k3 ex3 b4 a4 n4 k4 ex4 F) (h0 : F ≠ 0) :
    Calls Tryz.prog 30 #[.agg #[.bool b1, .slice a1 n1 k1, .int .i64 ex1, .bool b2, .slice a2 n2 k2, .int .i64 ex2], .agg #[.bool b3, .slice a3 n3 k3, .int .i64 ex3, .bool b4, .slice a4 n4 k4, .int .i64 ex4]] w fun e w' => e = .returned (.tuple #[.int .i64 0, .int .i64 F]) ∧ Below w.heap.size w w' := by
  obtain ⟨w0, hw0, hb0, q0, q1⟩ := enter2 w (.cells #[.bool b1, .slice a1 n1 k1, .int .i64 ex1, .bool b2, .slice a2 n2 k2, .int .i64 ex2] 33) (.cells #[.bool b3, .slice a3 n3 k3, .int .i64 ex3, .bool b4, .slice a4 n4 k4, .int .i64 ex4] 33)
  obtain ⟨w1, hw1, hb1, q9⟩ := enter1 w0 (.cells #[.bool b1, .slice a1 n1 k1, .int .i64 ex1, .bool b2, .slice a2 n2 k2, .int .i64 ex2, .bool b3, .slice a3 n3 k3, .int .i64 ex3, .bool b4, .slice a4 n4 k4, .int .i64 ex4] 33)
  have CF := hF w1 w0.heap.size (bl_trans8 hb0 hb1) q9
  have HU := hide (bl_trans8 hb0 hb1)
  obtain ⟨y0, y1, y2, y3, y4, y5⟩ := hexa q0
  obtain ⟨y6, y7, y8, y9, y10, y11⟩ := hexa q1
  have HQ0 := hide (block_upW hb1 q0)
  have HQ1 := hide (block_upW hb1 q1)
  clear q9 hb0 hb1 hF q0 q1
  have i9 : (F != 0) = true := by simpa using h0
  clear h0
  go_enter Tryz.func30, Tryz.ntmps30
  go_wp2_with fail
  refine CF.mono ?_
  rintro e t2 ⟨rfl, g2⟩
  have HG := hide (bl_trans8 HU.out g2)
  have HP0 := hide (block_upW g2 HQ0.out)
  have HP1 := hide (block_upW g2 HQ1.out)
  clear g2 CF y0 y1 y2 y3 y4 y5 y6 y7 y8 y9 y10 y11 hw0 hw1
  go_wp2
  go_ret2
  exact ⟨rfl, HG.out⟩

set_option maxRecDepth 20000 in
set_option maxHeartbeats 2000000 in
theorem ssign_bad (b1 : Bool) (a1 : Option Addr) (n1 k1 : Nat) (ex1 : Int) (b2 : Bool) (a2 : Option Addr) (n2 k2 : Nat) (ex2 : Int) (F : Int) (w : World) (hF : FltOf w b1 a1 n1 k1 ex1 b2 a2 n2 k2 ex2 F) (h0 : F ≠ 0) :
    Calls Tryz.prog 29 #[.agg #[.bool b1, .slice a1 n1 k1, .int .i64 ex1, .bool b2, .slice a2 n2 k2, .int .i64 ex2]] w fun e w' => e = .returned (.tuple #[.int .i64 0, .int .i64 F]) ∧ Below w.heap.size w w' := by
  obtain ⟨w0, hw0, hb0, q0⟩ := enter1 w (.cells #[.bool b1, .slice a1 n1 k1, .int .i64 ex1, .bool b2, .slice a2 n2 k2, .int .i64 ex2] 33)
  obtain ⟨w1, hw1, hb1, q9⟩ := enter1 w0 (.cells #[.bool b1, .slice a1 n1 k1, .int .i64 ex1, .bool b2, .slice a2 n2 k2, .int .i64 ex2] 33)
  have CF := hF w1 w0.heap.size (bl_trans8 hb0 hb1) q9
  have HU := hide (bl_trans8 hb0 hb1)
  obtain ⟨y0, y1, y2, y3, y4, y5⟩ := hexa q0
  have HQ0 := hide (block_upW hb1 q0)
  clear q9 hb0 hb1 hF q0
  have i9 : (F != 0) = true := by simpa using h0
  clear h0
  go_enter Tryz.func29, Tryz.ntmps29
  go_wp2_with fail
  refine CF.mono ?_
  rintro e t2 ⟨rfl, g2⟩
  have HG := hide (bl_trans8 HU.out g2)
  have HP0 := hide (block_upW g2 HQ0.out)
  skip
  clear g2 CF y0 y1 y2 y3 y4 y5 hw0 hw1
  go_wp2
  go_ret2
  exact ⟨rfl, HG.out⟩

set_option maxRecDepth 20000 in
set_option maxHeartbeats 2000000 in
theorem swithin_ok (b1 : Bool) (a1 : Option Addr) (n1 k1 : Nat) (ex1 : Int) (b2 : Bool) (a2 : Option Addr) (n2 k2 : Nat) (ex2 : Int) (b3 : Bool) (a3 : Option Addr) (n3 k3 : Nat) (ex3 : Int) (b4 : Bool) (a4 : Option Addr) (n4 k4 : Nat) (ex4 : Int) (L : Nat) (V1 V2 V3 V4 : Int) (w : World) (hF : FltOf2 w b1 a1 n1 k1 ex1 b2 a2 n2 k2 ex2 b3 a3 n3 k3 ex3 b4 a4 n4 k4 ex4 0) (h1 : N8 w b1 a1 n1 k1 ex1 L V1) (h2 : N8 w b2 a2 n2 k2 ex2 L V2) (h3 : N8 w b3 a3 n3 k3 ex3 L V3) (h4 : N8 w b4 a4 n4 k4 ex4 L V4) (hL : 4611686018427387904 ≤ L) :
    Calls Tryz.prog 28 #[.agg #[.bool b1, .slice a1 n1 k1, .int .i64 ex1, .bool b2, .slice a2 n2 k2, .int .i64 ex2], .agg #[.bool b3, .slice a3 n3 k3, .int .i64 ex3, .bool b4, .slice a4 n4 k4, .int .i64 ex4]] w fun e w' => e = .returned (.tuple #[.bool (!decide (V1 < V3) && !decide (V4 < V2)), .int .i64 0]) ∧ Below w.heap.size w w' := by
  obtain ⟨w0, hw0, hb0, q0, q1⟩ := enter2 w (.cells #[.bool b1, .slice a1 n1 k1, .int .i64 ex1, .bool b2, .slice a2 n2 k2, .int .i64 ex2] 33) (.cells #[.bool b3, .slice a3 n3 k3, .int .i64 ex3, .bool b4, .slice a4 n4 k4, .int .i64 ex4] 33)
  obtain ⟨w1, hw1, hb1, q9⟩ := enter1 w0 (.cells #[.bool b1, .slice a1 n1 k1, .int .i64 ex1, .bool b2, .slice a2 n2 k2, .int .i64 ex2, .bool b3, .slice a3 n3 k3, .int .i64 ex3, .bool b4, .slice a4 n4 k4, .int .i64 ex4] 33)
  have CF := hF w1 w0.heap.size (bl_trans8 hb0 hb1) q9
  have HU := hide (bl_trans8 hb0 hb1)
  obtain ⟨y0, y1, y2, y3, y4, y5⟩ := hexa q0
  obtain ⟨y6, y7, y8, y9, y10, y11⟩ := hexa q1
  have HQ0 := hide (block_upW hb1 q0)
  have HQ1 := hide (block_upW hb1 q1)
  clear q9 hb0 hb1 hF q0 q1
  have K1 := hide (fun (W : World) (hg : Below w.heap.size w W) => slessN b1 a1 n1 k1 ex1 b3 a3 n3 k3 ex3 L V1 V3 W (h1.below hg) (h3.below hg) hL)
  have K2 := hide (fun (W : World) (hg : Below w.heap.size w W) => slessN b4 a4 n4 k4 ex4 b2 a2 n2 k2 ex2 L V4 V2 W (h4.below hg) (h2.below hg) hL)
  generalize decide (V1 < V3) = D1 at *
  generalize decide (V4 < V2) = D2 at *
  clear h1 h2 h3 h4
  go_enter Tryz.func28, Tryz.ntmps28
  go_wp2_with fail
  refine CF.mono ?_
  rintro e t2 ⟨rfl, g2⟩
  have HG := hide (bl_trans8 HU.out g2)
  have HP0 := hide (block_upW g2 HQ0.out)
  have HP1 := hide (block_upW g2 HQ1.out)
  clear g2 CF y0 y1 y2 y3 y4 y5 y6 y7 y8 y9 y10 y11 hw0 hw1
  obtain ⟨z0, z1, z2, z3, z4, z5⟩ := hexa HP1.out
  obtain ⟨y0, y1, y2, y3, y4, y5⟩ := hexa HP0.out
  have C := K1.out t2 HG.out
  cases D1
  · go_wp2_with fail
    refine C.mono ?_
    rintro e t3 ⟨rfl, g3⟩
    have HG3 := hide (bl_trans8 HG.out g3)
    clear C z0 z1 z2 z3 z4 z5 y0 y1 y2 y3 y4 y5
    obtain ⟨z0, z1, z2, z3, z4, z5⟩ := hexa (block_upW g3 HP1.out)
    obtain ⟨y0, y1, y2, y3, y4, y5⟩ := hexa (block_upW g3 HP0.out)
    clear g3
    have C := K2.out t3 HG3.out
    go_wp2_with fail
    refine C.mono ?_
    rintro e t4 ⟨rfl, g4⟩
    have HG4 := hide (bl_trans8 HG3.out g4)
    clear C g4
    go_wp2
    go_ret2
    exact ⟨rfl, HG4.out⟩
  · go_wp2_with fail
    refine C.mono ?_
    rintro e t3 ⟨rfl, g3⟩
    have HG3 := hide (bl_trans8 HG.out g3)
    clear C g3
    go_wp2
    go_ret2
    exact ⟨rfl, HG3.out⟩

/-- All of the one below all of the other, or the other way round. -/
def orderV (D1 D2 : Bool) : Int := if D1 then -1 else if D2 then 1 else 0

set_option maxRecDepth 20000 in
set_option maxHeartbeats 2000000 in
theorem sorder_ok (b1 : Bool) (a1 : Option Addr) (n1 k1 : Nat) (ex1 : Int) (b2 : Bool) (a2 : Option Addr) (n2 k2 : Nat) (ex2 : Int) (b3 : Bool) (a3 : Option Addr) (n3 k3 : Nat) (ex3 : Int) (b4 : Bool) (a4 : Option Addr) (n4 k4 : Nat) (ex4 : Int) (L : Nat) (V1 V2 V3 V4 : Int) (w : World) (hF : FltOf2 w b1 a1 n1 k1 ex1 b2 a2 n2 k2 ex2 b3 a3 n3 k3 ex3 b4 a4 n4 k4 ex4 0) (h1 : N8 w b1 a1 n1 k1 ex1 L V1) (h2 : N8 w b2 a2 n2 k2 ex2 L V2) (h3 : N8 w b3 a3 n3 k3 ex3 L V3) (h4 : N8 w b4 a4 n4 k4 ex4 L V4) (hL : 4611686018427387904 ≤ L) :
    Calls Tryz.prog 30 #[.agg #[.bool b1, .slice a1 n1 k1, .int .i64 ex1, .bool b2, .slice a2 n2 k2, .int .i64 ex2], .agg #[.bool b3, .slice a3 n3 k3, .int .i64 ex3, .bool b4, .slice a4 n4 k4, .int .i64 ex4]] w fun e w' => e = .returned (.tuple #[.int .i64 (orderV (decide (V2 < V3)) (decide (V4 < V1))), .int .i64 0]) ∧ Below w.heap.size w w' := by
  obtain ⟨w0, hw0, hb0, q0, q1⟩ := enter2 w (.cells #[.bool b1, .slice a1 n1 k1, .int .i64 ex1, .bool b2, .slice a2 n2 k2, .int .i64 ex2] 33) (.cells #[.bool b3, .slice a3 n3 k3, .int .i64 ex3, .bool b4, .slice a4 n4 k4, .int .i64 ex4] 33)
  obtain ⟨w1, hw1, hb1, q9⟩ := enter1 w0 (.cells #[.bool b1, .slice a1 n1 k1, .int .i64 ex1, .bool b2, .slice a2 n2 k2, .int .i64 ex2, .bool b3, .slice a3 n3 k3, .int .i64 ex3, .bool b4, .slice a4 n4 k4, .int .i64 ex4] 33)
  have CF := hF w1 w0.heap.size (bl_trans8 hb0 hb1) q9
  have HU := hide (bl_trans8 hb0 hb1)
  obtain ⟨y0, y1, y2, y3, y4, y5⟩ := hexa q0
  obtain ⟨y6, y7, y8, y9, y10, y11⟩ := hexa q1
  have HQ0 := hide (block_upW hb1 q0)
  have HQ1 := hide (block_upW hb1 q1)
  clear q9 hb0 hb1 hF q0 q1
  have K1 := hide (fun (W : World) (hg : Below w.heap.size w W) => slessN b2 a2 n2 k2 ex2 b3 a3 n3 k3 ex3 L V2 V3 W (h2.below hg) (h3.below hg) hL)
  have K2 := hide (fun (W : World) (hg : Below w.heap.size w W) => slessN b4 a4 n4 k4 ex4 b1 a1 n1 k1 ex1 L V4 V1 W (h4.below hg) (h1.below hg) hL)
  generalize decide (V2 < V3) = D1 at *
  generalize decide (V4 < V1) = D2 at *
  clear h1 h2 h3 h4
  go_enter Tryz.func30, Tryz.ntmps30
  go_wp2_with fail
  refine CF.mono ?_
  rintro e t2 ⟨rfl, g2⟩
  have HG := hide (bl_trans8 HU.out g2)
  have HP0 := hide (block_upW g2 HQ0.out)
  have HP1 := hide (block_upW g2 HQ1.out)
  clear g2 CF y0 y1 y2 y3 y4 y5 y6 y7 y8 y9 y10 y11 hw0 hw1
  obtain ⟨z0, z1, z2, z3, z4, z5⟩ := hexa HP1.out
  obtain ⟨y0, y1, y2, y3, y4, y5⟩ := hexa HP0.out
  have C := K1.out t2 HG.out
  cases D1
  · go_wp2_with fail
    refine C.mono ?_
    rintro e t3 ⟨rfl, g3⟩
    have HG3 := hide (bl_trans8 HG.out g3)
    clear C z0 z1 z2 z3 z4 z5 y0 y1 y2 y3 y4 y5
    obtain ⟨z0, z1, z2, z3, z4, z5⟩ := hexa (block_upW g3 HP1.out)
    obtain ⟨y0, y1, y2, y3, y4, y5⟩ := hexa (block_upW g3 HP0.out)
    clear g3
    have C := K2.out t3 HG3.out
    cases D2
    · go_wp2_with fail
      refine C.mono ?_
      rintro e t4 ⟨rfl, g4⟩
      have HG4 := hide (bl_trans8 HG3.out g4)
      clear C g4
      go_wp2
      go_ret2
      exact ⟨rfl, HG4.out⟩
    · go_wp2_with fail
      refine C.mono ?_
      rintro e t4 ⟨rfl, g4⟩
      have HG4 := hide (bl_trans8 HG3.out g4)
      clear C g4
      go_wp2
      go_ret2
      exact ⟨rfl, HG4.out⟩
  · go_wp2_with fail
    refine C.mono ?_
    rintro e t3 ⟨rfl, g3⟩
    have HG3 := hide (bl_trans8 HG.out g3)
    clear C g3
    go_wp2
    go_ret2
    exact ⟨rfl, HG3.out⟩

set_option maxRecDepth 20000 in
set_option maxHeartbeats 2000000 in
theorem ssign_ok (b1 : Bool) (a1 : Option Addr) (n1 k1 : Nat) (ex1 : Int) (b2 : Bool) (a2 : Option Addr) (n2 k2 : Nat) (ex2 : Int) (L : Nat) (V1 V2 : Int) (w : World) (hF : FltOf w b1 a1 n1 k1 ex1 b2 a2 n2 k2 ex2 0) (h1 : N8 w b1 a1 n1 k1 ex1 L V1) (h2 : N8 w b2 a2 n2 k2 ex2 L V2) :
    Calls Tryz.prog 29 #[.agg #[.bool b1, .slice a1 n1 k1, .int .i64 ex1, .bool b2, .slice a2 n2 k2, .int .i64 ex2]] w fun e w' => e = .returned (.tuple #[.int .i64 (sureV V1 V2), .int .i64 0]) ∧ Below w.heap.size w w' := by
  obtain ⟨w0, hw0, hb0, q0⟩ := enter1 w (.cells #[.bool b1, .slice a1 n1 k1, .int .i64 ex1, .bool b2, .slice a2 n2 k2, .int .i64 ex2] 33)
  obtain ⟨w1, hw1, hb1, q9⟩ := enter1 w0 (.cells #[.bool b1, .slice a1 n1 k1, .int .i64 ex1, .bool b2, .slice a2 n2 k2, .int .i64 ex2] 33)
  have CF := hF w1 w0.heap.size (bl_trans8 hb0 hb1) q9
  have HU := hide (bl_trans8 hb0 hb1)
  obtain ⟨y0, y1, y2, y3, y4, y5⟩ := hexa q0
  have HQ0 := hide (block_upW hb1 q0)
  clear q9 hb0 hb1 hF q0
  have K1 := hide (fun (W : World) (hg : Below w.heap.size w W) => ssignN b1 a1 n1 k1 ex1 b2 a2 n2 k2 ex2 L V1 V2 W (h1.below hg) (h2.below hg))
  generalize sureV V1 V2 = R at *
  clear h1 h2
  go_enter Tryz.func29, Tryz.ntmps29
  go_wp2_with fail
  refine CF.mono ?_
  rintro e t2 ⟨rfl, g2⟩
  have HG := hide (bl_trans8 HU.out g2)
  have HP0 := hide (block_upW g2 HQ0.out)
  skip
  clear g2 CF y0 y1 y2 y3 y4 y5 hw0 hw1
  obtain ⟨y0, y1, y2, y3, y4, y5⟩ := hexa HP0.out
  have C := K1.out t2 HG.out
  go_wp2_with fail
  refine C.mono ?_
  rintro e t3 ⟨rfl, g3⟩
  have HG3 := hide (bl_trans8 HG.out g3)
  clear C g3
  go_wp2
  go_ret2
  exact ⟨rfl, HG3.out⟩

theorem cmpZ_le {y z : Int} : cmpZ y z ≤ 0 ↔ y ≤ z := by
  unfold cmpZ
  split
  · omega
  · split <;> omega

set_option maxRecDepth 20000 in
set_option maxHeartbeats 2000000 in
theorem rhasV (b1 : Bool) (a1 : Option Addr) (n1 k1 : Nat) (ex1 : Int) (b2 : Bool) (a2 : Option Addr) (n2 k2 : Nat) (ex2 : Int) (b3 : Bool) (a3 : Option Addr) (n3 k3 : Nat) (ex3 : Int) (L : Nat) (V1 V2 V3 : Int) (w : World) (h1 : V8 w b1 a1 n1 k1 ex1 L V1) (h2 : V8 w b2 a2 n2 k2 ex2 L V2) (h3 : V8 w b3 a3 n3 k3 ex3 L V3) :
    Calls Tryz.prog 33 #[.agg #[.bool b1, .slice a1 n1 k1, .int .i64 ex1, .bool b2, .slice a2 n2 k2, .int .i64 ex2], .agg #[.bool b3, .slice a3 n3 k3, .int .i64 ex3]] w fun e w' => e = .returned (.bool (decide (V1 ≤ V3) && decide (V3 ≤ V2))) ∧ Below w.heap.size w w' := by
  obtain ⟨w0, hw0, hb0, q0, q1⟩ := enter2 w (.cells #[.bool b1, .slice a1 n1 k1, .int .i64 ex1, .bool b2, .slice a2 n2 k2, .int .i64 ex2] 47) (.cells #[.bool b3, .slice a3 n3 k3, .int .i64 ex3] 45)
  obtain ⟨y0, y1, y2, y3, y4, y5⟩ := hexa q0
  obtain ⟨z0, z1, z2⟩ := tri8 q1
  have K1 := (h1.below hb0).cmp (h3.below hb0)
  have K2 := hide (fun (W : World) (hg : Below w0.heap.size w0 W) => ((h3.below hb0).below hg).cmp ((h2.below hb0).below hg))
  obtain ⟨D1, hD1⟩ : ∃ D, decide (V1 ≤ V3) = D := ⟨_, rfl⟩
  obtain ⟨D2, hD2⟩ : ∃ D, decide (V3 ≤ V2) = D := ⟨_, rfl⟩
  have i1 : decide (cmpZ V1 V3 ≤ 0) = D1 := by rw [← hD1]; simp only [cmpZ_le]
  have i2 : decide (cmpZ V3 V2 ≤ 0) = D2 := by rw [← hD2]; simp only [cmpZ_le]
  rw [hD1, hD2]
  generalize cmpZ V1 V3 = s1 at *
  generalize cmpZ V3 V2 = s2 at *
  have HB := hide hb0
  have HQ0 := hide q0
  have HQ1 := hide q1
  clear h1 h2 h3 hb0 q0 q1 hD1 hD2
  cases D1
  · go_enter Tryz.func33, Tryz.ntmps33
    go_wp2_with fail
    refine K1.mono ?_
    rintro e t3 ⟨rfl, g3⟩
    have HG3 := hide (bl_trans8 HB.out g3)
    clear K1 g3
    go_wp2
    go_ret
    exact ⟨rfl, HG3.out⟩
  · go_enter Tryz.func33, Tryz.ntmps33
    go_wp2_with fail
    refine K1.mono ?_
    rintro e t3 ⟨rfl, g3⟩
    have HG3 := hide (bl_trans8 HB.out g3)
    have C := K2.out t3 g3
    clear K1 z0 z1 z2 y0 y1 y2 y3 y4 y5
    obtain ⟨z0, z1, z2⟩ := tri8 (block_upW g3 HQ1.out)
    obtain ⟨y0, y1, y2, y3, y4, y5⟩ := hexa (block_upW g3 HQ0.out)
    clear g3
    go_wp2_with fail
    refine C.mono ?_
    rintro e t4 ⟨rfl, g4⟩
    have HG4 := hide (bl_trans8 HG3.out g4)
    clear C g4
    go_wp2
    go_ret
    exact ⟨rfl, HG4.out⟩

set_option maxRecDepth 20000 in
set_option maxHeartbeats 2000000 in
theorem rwithinV (b1 : Bool) (a1 : Option Addr) (n1 k1 : Nat) (ex1 : Int) (b2 : Bool) (a2 : Option Addr) (n2 k2 : Nat) (ex2 : Int) (b3 : Bool) (a3 : Option Addr) (n3 k3 : Nat) (ex3 : Int) (b4 : Bool) (a4 : Option Addr) (n4 k4 : Nat) (ex4 : Int) (L : Nat) (V1 V2 V3 V4 : Int) (w : World) (h1 : V8 w b1 a1 n1 k1 ex1 L V1) (h2 : V8 w b2 a2 n2 k2 ex2 L V2) (h3 : V8 w b3 a3 n3 k3 ex3 L V3) (h4 : V8 w b4 a4 n4 k4 ex4 L V4) :
    Calls Tryz.prog 34 #[.agg #[.bool b1, .slice a1 n1 k1, .int .i64 ex1, .bool b2, .slice a2 n2 k2, .int .i64 ex2], .agg #[.bool b3, .slice a3 n3 k3, .int .i64 ex3, .bool b4, .slice a4 n4 k4, .int .i64 ex4]] w fun e w' => e = .returned (.bool ((decide (V3 ≤ V1) && decide (V1 ≤ V4)) && (decide (V3 ≤ V2) && decide (V2 ≤ V4)))) ∧ Below w.heap.size w w' := by
  obtain ⟨w0, hw0, hb0, q0, q1⟩ := enter2 w (.cells #[.bool b1, .slice a1 n1 k1, .int .i64 ex1, .bool b2, .slice a2 n2 k2, .int .i64 ex2] 47) (.cells #[.bool b3, .slice a3 n3 k3, .int .i64 ex3, .bool b4, .slice a4 n4 k4, .int .i64 ex4] 47)
  obtain ⟨y0, y1, y2, y3, y4, y5⟩ := hexa q0
  obtain ⟨z0, z1, z2, z3, z4, z5⟩ := hexa q1
  have K1 := rhasV b3 a3 n3 k3 ex3 b4 a4 n4 k4 ex4 b1 a1 n1 k1 ex1 L V3 V4 V1 w0 (h3.below hb0) (h4.below hb0) (h1.below hb0)
  have K2 := hide (fun (W : World) (hg : Below w0.heap.size w0 W) => rhasV b3 a3 n3 k3 ex3 b4 a4 n4 k4 ex4 b2 a2 n2 k2 ex2 L V3 V4 V2 W ((h3.below hb0).below hg) ((h4.below hb0).below hg) ((h2.below hb0).below hg))
  generalize (decide (V3 ≤ V1) && decide (V1 ≤ V4)) = D1 at *
  generalize (decide (V3 ≤ V2) && decide (V2 ≤ V4)) = D2 at *
  have HB := hide hb0
  have HQ0 := hide q0
  have HQ1 := hide q1
  clear h1 h2 h3 h4 hb0 q0 q1
  cases D1
  · go_enter Tryz.func34, Tryz.ntmps34
    go_wp2_with fail
    refine K1.mono ?_
    rintro e t3 ⟨rfl, g3⟩
    have HG3 := hide (bl_trans8 HB.out g3)
    clear K1 g3
    go_wp2
    go_ret
    exact ⟨rfl, HG3.out⟩
  · go_enter Tryz.func34, Tryz.ntmps34
    go_wp2_with fail
    refine K1.mono ?_
    rintro e t3 ⟨rfl, g3⟩
    have HG3 := hide (bl_trans8 HB.out g3)
    have C := K2.out t3 g3
    clear K1 z0 z1 z2 z3 z4 z5 y0 y1 y2 y3 y4 y5
    obtain ⟨z0, z1, z2, z3, z4, z5⟩ := hexa (block_upW g3 HQ1.out)
    obtain ⟨y0, y1, y2, y3, y4, y5⟩ := hexa (block_upW g3 HQ0.out)
    clear g3
    go_wp2_with fail
    refine C.mono ?_
    rintro e t4 ⟨rfl, g4⟩
    have HG4 := hide (bl_trans8 HG3.out g4)
    clear C g4
    go_wp2
    go_ret
    exact ⟨rfl, HG4.out⟩

theorem V8.sign {w : World} {b : Bool} {a : Option Addr} {n c : Nat} {E : Int} {L : Nat} {V : Int} (h : V8 w b a n c E L V) : ∃ s : Int, (∀ W, Below w.heap.size w W → Calls Tryz.prog 63 #[.agg #[.bool b, .slice a n c]] W fun e w' => e = .returned (.int .i64 s) ∧ Below W.heap.size W w') ∧ (0 < s ↔ 0 < V) ∧ (s < 0 ↔ V < 0) := by
  obtain ⟨M, d, r, _⟩ := h
  refine ⟨M.sign, fun W hg => rzsign_any _ M W (d.below hg).zn, ?_, ?_⟩
  · obtain ⟨p1, p2⟩ := r.pos
    rcases Int.lt_trichotomy M 0 with g | g | g
    · have := p1.2 g; rw [Int.sign_eq_neg_one_of_neg g]; omega
    · subst g; have := p2.2 rfl; simp; omega
    · rw [Int.sign_eq_one_of_pos g]
      have q1 : ¬ V < 0 := fun h => by have := p1.1 h; omega
      have q2 : ¬ V = 0 := fun h => by have := p2.1 h; omega
      omega
  · obtain ⟨p1, p2⟩ := r.pos
    rcases Int.lt_trichotomy M 0 with g | g | g
    · have := p1.2 g; rw [Int.sign_eq_neg_one_of_neg g]; omega
    · subst g; have := p2.2 rfl; simp; omega
    · rw [Int.sign_eq_one_of_pos g]
      have q1 : ¬ V < 0 := fun h => by have := p1.1 h; omega
      omega

set_option maxRecDepth 20000 in
set_option maxHeartbeats 2000000 in
theorem rsureV (b1 : Bool) (a1 : Option Addr) (n1 k1 : Nat) (ex1 : Int) (b2 : Bool) (a2 : Option Addr) (n2 k2 : Nat) (ex2 : Int) (L : Nat) (V1 V2 : Int) (w : World) (h1 : V8 w b1 a1 n1 k1 ex1 L V1) (h2 : V8 w b2 a2 n2 k2 ex2 L V2) :
    Calls Tryz.prog 36 #[.agg #[.bool b1, .slice a1 n1 k1, .int .i64 ex1, .bool b2, .slice a2 n2 k2, .int .i64 ex2]] w fun e w' => e = .returned (.int .i64 (sureV V1 V2)) ∧ Below w.heap.size w w' := by
  obtain ⟨w0, hw0, hb0, q0⟩ := enter1 w (.cells #[.bool b1, .slice a1 n1 k1, .int .i64 ex1, .bool b2, .slice a2 n2 k2, .int .i64 ex2] 47)
  obtain ⟨y0, y1, y2, y3, y4, y5⟩ := hexa q0
  obtain ⟨s1, G1, S1, _⟩ := h1.sign
  obtain ⟨s2, G2, _, S2⟩ := h2.sign
  have C := G1 w0 hb0
  have C2 := hide (fun (W : World) (hg : Below w0.heap.size w0 W) => G2 W (bl_trans8 hb0 hg))
  have HB := hide hb0
  have HQ := hide q0
  clear h1 h2 hb0 q0 G1 G2
  unfold sureV
  by_cases p1 : 0 < V1
  · rw [if_pos p1]
    have i1 : decide (0 < s1) = true := decide_eq_true (S1.2 p1)
    clear S1 S2 p1
    go_enter Tryz.func36, Tryz.ntmps36
    go_wp2_with fail
    refine C.mono ?_
    rintro e t1 ⟨rfl, g1⟩
    have HE := hide (bl_trans8 HB.out g1)
    clear g1 C
    go_wp2
    go_ret
    exact ⟨rfl, HE.out⟩
  · rw [if_neg p1]
    have i1 : decide (0 < s1) = false := decide_eq_false (fun h => p1 (S1.1 h))
    obtain ⟨R, hR⟩ : ∃ R : Int, (if V2 < 0 then (-1 : Int) else 0) = R := ⟨_, rfl⟩
    rw [hR]
    by_cases p2 : V2 < 0
    · have i2 : decide (s2 < 0) = true := decide_eq_true (S2.2 p2)
      rw [if_pos p2] at hR
      subst hR
      clear S1 S2 p1 p2
      go_enter Tryz.func36, Tryz.ntmps36
      go_wp2_with fail
      refine C.mono ?_
      rintro e t1 ⟨rfl, g1⟩
      have HE := hide (bl_trans8 HB.out g1)
      have D2 := C2.out t1 g1
      clear y0 y1 y2 y3 y4 y5
      obtain ⟨y0, y1, y2, y3, y4, y5⟩ := hexa (block_upW g1 HQ.out)
      clear g1 C
      go_wp2_with fail
      refine D2.mono ?_
      rintro e t2 ⟨rfl, g2⟩
      have HE2 := hide (bl_trans8 HE.out g2)
      clear g2 D2
      go_wp2
      go_ret
      exact ⟨rfl, HE2.out⟩
    · have i2 : decide (s2 < 0) = false := decide_eq_false (fun h => p2 (S2.1 h))
      rw [if_neg p2] at hR
      subst hR
      clear S1 S2 p1 p2
      go_enter Tryz.func36, Tryz.ntmps36
      go_wp2_with fail
      refine C.mono ?_
      rintro e t1 ⟨rfl, g1⟩
      have HE := hide (bl_trans8 HB.out g1)
      have D2 := C2.out t1 g1
      clear y0 y1 y2 y3 y4 y5
      obtain ⟨y0, y1, y2, y3, y4, y5⟩ := hexa (block_upW g1 HQ.out)
      clear g1 C
      go_wp2_with fail
      refine D2.mono ?_
      rintro e t2 ⟨rfl, g2⟩
      have HE2 := hide (bl_trans8 HE.out g2)
      clear g2 D2
      go_wp2
      go_ret
      exact ⟨rfl, HE2.out⟩

set_option maxRecDepth 20000 in
set_option maxHeartbeats 2000000 in
theorem lworst2 (gs : Nat) (f g : Int) (w : World) (hg : w.heap[gs]? = some (.cells #[.int .i64 f, .int .i64 g] 3)) :
    Calls Tryz.prog 17 #[.int .i64 0, .slice (some ⟨gs, 0, none⟩) 2 2] w fun e w' => e = .returned (.int .i64 (wst f g)) ∧ w' = w := by
  obtain ⟨c0, c1⟩ := duo hg
  have C := rfits_any 0 w
  rw [show fitE 0 = true by decide] at C
  clear hg
  unfold wst
  by_cases h1 : f = 0
  · subst h1
    rw [if_pos rfl]
    by_cases h2 : g = 0
    · subst h2
      go_enter Tryz.func17, Tryz.ntmps17
      go_wp2
      refine wp_loop_rounds 3 ?_
      rw [rounds_succ]
      go_wp2
      rw [rounds_succ]
      go_wp2
      rw [rounds_succ]
      go_wp2_with fail
      refine C.mono ?_
      rintro e wn ⟨rfl, hw⟩; rw [hw]; clear hw wn C
      go_wp2
      go_ret
      exact ⟨rfl, rfl⟩
    · have i2 : (g != 0) = true := by simpa using h2
      clear h2 C
      go_enter Tryz.func17, Tryz.ntmps17
      go_wp2
      refine wp_loop_rounds 3 ?_
      rw [rounds_succ]
      go_wp2
      rw [rounds_succ]
      go_wp2
      go_ret
      exact ⟨rfl, rfl⟩
  · rw [if_neg h1]
    have i1 : (f != 0) = true := by simpa using h1
    clear h1 C
    go_enter Tryz.func17, Tryz.ntmps17
    go_wp2
    refine wp_loop_rounds 3 ?_
    rw [rounds_succ]
    go_wp2
    go_ret
    exact ⟨rfl, rfl⟩

end Go.Proofs.YtppkhhbhnhijpaaGreatDoor
