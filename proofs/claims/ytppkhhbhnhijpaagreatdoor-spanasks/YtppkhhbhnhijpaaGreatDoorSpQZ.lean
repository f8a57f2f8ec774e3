/- Package span: fault, less, sign at one scale. -/
import Derived.Test.YtppkhhbhnhijpaaGreatDoorQZ
namespace Go.Proofs.YtppkhhbhnhijpaaGreatDoor
open Go.RowKit
open Lm
attribute [local go_sem ↓] Go.wp_at_zero Go.wp_at_succ

/-- What is wrong first. -/
def wst (f g : Int) : Int := if f = 0 then g else f

set_option maxRecDepth 20000 in
set_option maxHeartbeats 4000000 in
theorem fault2_any (gs : Nat) (b1 : Bool) (a1 : Option Addr) (n1 k1 : Nat) (ex1 : Int) (b2 : Bool) (a2 : Option Addr) (n2 k2 : Nat) (ex2 : Int) (b3 : Bool) (a3 : Option Addr) (n3 k3 : Nat) (ex3 : Int) (b4 : Bool) (a4 : Option Addr) (n4 k4 : Nat) (ex4 : Int) (o1 c1 o2 c2 : Int) (w : World) (hg : w.heap[gs]? = some (.cells #[.bool b1, .slice a1 n1 k1, .int .i64 ex1, .bool b2, .slice a2 n2 k2, .int .i64 ex2, .bool b3, .slice a3 n3 k3, .int .i64 ex3, .bool b4, .slice a4 n4 k4, .int .i64 ex4] 33)) (h1 : CmpOf w b1 a1 n1 k1 ex1 b2 a2 n2 k2 ex2 o1 c1) (h2 : CmpOf w b3 a3 n3 k3 ex3 b4 a4 n4 k4 ex4 o2 c2) :
    Calls Tryz.prog 55 #[.slice (some ⟨gs, 0, none⟩) 2 2] w fun e w' => e = .returned (.int .i64 (wst (fltC o1 c1) (fltC o2 c2))) ∧ Below w.heap.size w w' := by
  have HS := hide hg
  have C1 := hide h1
  have C2 := hide h2
  clear hg h1 h2
  by_cases z1 : c1 = 0
  · subst z1
    by_cases p1 : 0 < o1
    · rw [show wst (fltC o1 0) (fltC o2 c2) = 100 by unfold wst fltC; rw [if_pos rfl, if_pos p1]; rfl]
      have i1 : decide (0 < o1) = true := decide_eq_true p1
      clear p1
      go_enter Tryz.func55, Tryz.ntmps55
      go_wp2
      refine wp_loop_rounds 3 ?_
      rw [rounds_succ]
      have HB : Hid (Below w.heap.size w w) := hide (Below.refl _ _)
      obtain ⟨u1, hu1, hbu1, qu1⟩ := enter1 w (.cells #[.bool b1, .slice a1 n1 k1, .int .i64 ex1, .bool b2, .slice a2 n2 k2, .int .i64 ex2] 33)
      have Hu1 := hide (bl_trans8 HB.out hbu1)
      have C := C1.out u1 Hu1.out
      obtain ⟨x0, x1, x2, x3, x4, x5⟩ := hexa qu1
      obtain ⟨⟨c0, c1, c2, c3, c4, c5⟩, c6, c7, c8, c9, c10, c11⟩ := dozen (block_upW HB.out HS.out)
      clear hbu1 qu1
      go_wp2_with fail
      refine C.mono ?_
      rintro e t1 ⟨rfl, gt1⟩
      have Ht1 := hide (bl_trans8 Hu1.out gt1)
      clear gt1 C x0 x1 x2 x3 x4 x5 c0 c1 c2 c3 c4 c5 c6 c7 c8 c9 c10 c11 hu1
      go_wp2
      go_ret
      exact ⟨rfl, Ht1.out⟩
    · have i1 : decide (0 < o1) = false := decide_eq_false p1
      rw [show wst (fltC o1 0) (fltC o2 c2) = fltC o2 c2 by unfold wst; rw [if_pos (by unfold fltC; rw [if_pos rfl, if_neg p1])]]
      clear p1
      by_cases z2 : c2 = 0
      · subst z2
        by_cases p2 : 0 < o2
        · rw [show fltC o2 0 = 100 by unfold fltC; rw [if_pos rfl, if_pos p2]]
          have i2 : decide (0 < o2) = true := decide_eq_true p2
          clear p2
          go_enter Tryz.func55, Tryz.ntmps55
          go_wp2
          refine wp_loop_rounds 3 ?_
          rw [rounds_succ]
          have HB : Hid (Below w.heap.size w w) := hide (Below.refl _ _)
          obtain ⟨u1, hu1, hbu1, qu1⟩ := enter1 w (.cells #[.bool b1, .slice a1 n1 k1, .int .i64 ex1, .bool b2, .slice a2 n2 k2, .int .i64 ex2] 33)
          have Hu1 := hide (bl_trans8 HB.out hbu1)
          have C := C1.out u1 Hu1.out
          obtain ⟨x0, x1, x2, x3, x4, x5⟩ := hexa qu1
          obtain ⟨⟨c0, c1, c2, c3, c4, c5⟩, c6, c7, c8, c9, c10, c11⟩ := dozen (block_upW HB.out HS.out)
          clear hbu1 qu1
          go_wp2_with fail
          refine C.mono ?_
          rintro e t1 ⟨rfl, gt1⟩
          have Ht1 := hide (bl_trans8 Hu1.out gt1)
          clear gt1 C x0 x1 x2 x3 x4 x5 c0 c1 c2 c3 c4 c5 c6 c7 c8 c9 c10 c11 hu1
          go_wp2
          rw [rounds_succ]
          obtain ⟨u2, hu2, hbu2, qu2⟩ := enter1 t1 (.cells #[.bool b3, .slice a3 n3 k3, .int .i64 ex3, .bool b4, .slice a4 n4 k4, .int .i64 ex4] 33)
          have Hu2 := hide (bl_trans8 Ht1.out hbu2)
          have C := C2.out u2 Hu2.out
          obtain ⟨x0, x1, x2, x3, x4, x5⟩ := hexa qu2
          obtain ⟨⟨c0, c1, c2, c3, c4, c5⟩, c6, c7, c8, c9, c10, c11⟩ := dozen (block_upW Ht1.out HS.out)
          clear hbu2 qu2
          go_wp2_with fail
          refine C.mono ?_
          rintro e t2 ⟨rfl, gt2⟩
          have Ht2 := hide (bl_trans8 Hu2.out gt2)
          clear gt2 C x0 x1 x2 x3 x4 x5 c0 c1 c2 c3 c4 c5 c6 c7 c8 c9 c10 c11 hu2
          go_wp2
          go_ret
          exact ⟨rfl, Ht2.out⟩
        · rw [show fltC o2 0 = 0 by unfold fltC; rw [if_pos rfl, if_neg p2]]
          have i2 : decide (0 < o2) = false := decide_eq_false p2
          clear p2
          go_enter Tryz.func55, Tryz.ntmps55
          go_wp2
          refine wp_loop_rounds 3 ?_
          rw [rounds_succ]
          have HB : Hid (Below w.heap.size w w) := hide (Below.refl _ _)
          obtain ⟨u1, hu1, hbu1, qu1⟩ := enter1 w (.cells #[.bool b1, .slice a1 n1 k1, .int .i64 ex1, .bool b2, .slice a2 n2 k2, .int .i64 ex2] 33)
          have Hu1 := hide (bl_trans8 HB.out hbu1)
          have C := C1.out u1 Hu1.out
          obtain ⟨x0, x1, x2, x3, x4, x5⟩ := hexa qu1
          obtain ⟨⟨c0, c1, c2, c3, c4, c5⟩, c6, c7, c8, c9, c10, c11⟩ := dozen (block_upW HB.out HS.out)
          clear hbu1 qu1
          go_wp2_with fail
          refine C.mono ?_
          rintro e t1 ⟨rfl, gt1⟩
          have Ht1 := hide (bl_trans8 Hu1.out gt1)
          clear gt1 C x0 x1 x2 x3 x4 x5 c0 c1 c2 c3 c4 c5 c6 c7 c8 c9 c10 c11 hu1
          go_wp2
          rw [rounds_succ]
          obtain ⟨u2, hu2, hbu2, qu2⟩ := enter1 t1 (.cells #[.bool b3, .slice a3 n3 k3, .int .i64 ex3, .bool b4, .slice a4 n4 k4, .int .i64 ex4] 33)
          have Hu2 := hide (bl_trans8 Ht1.out hbu2)
          have C := C2.out u2 Hu2.out
          obtain ⟨x0, x1, x2, x3, x4, x5⟩ := hexa qu2
          obtain ⟨⟨c0, c1, c2, c3, c4, c5⟩, c6, c7, c8, c9, c10, c11⟩ := dozen (block_upW Ht1.out HS.out)
          clear hbu2 qu2
          go_wp2_with fail
          refine C.mono ?_
          rintro e t2 ⟨rfl, gt2⟩
          have Ht2 := hide (bl_trans8 Hu2.out gt2)
          clear gt2 C x0 x1 x2 x3 x4 x5 c0 c1 c2 c3 c4 c5 c6 c7 c8 c9 c10 c11 hu2
          go_wp2
          rw [rounds_succ]
          go_wp2
          go_ret
          exact ⟨rfl, Ht2.out⟩
      · rw [show fltC o2 c2 = c2 by unfold fltC; rw [if_neg z2]]
        have i2 : (c2 != 0) = true := by simpa using z2
        clear z2
        go_enter Tryz.func55, Tryz.ntmps55
        go_wp2
        refine wp_loop_rounds 3 ?_
        rw [rounds_succ]
        have HB : Hid (Below w.heap.size w w) := hide (Below.refl _ _)
        obtain ⟨u1, hu1, hbu1, qu1⟩ := enter1 w (.cells #[.bool b1, .slice a1 n1 k1, .int .i64 ex1, .bool b2, .slice a2 n2 k2, .int .i64 ex2] 33)
        have Hu1 := hide (bl_trans8 HB.out hbu1)
        have C := C1.out u1 Hu1.out
        obtain ⟨x0, x1, x2, x3, x4, x5⟩ := hexa qu1
        obtain ⟨⟨c0, c1, c2, c3, c4, c5⟩, c6, c7, c8, c9, c10, c11⟩ := dozen (block_upW HB.out HS.out)
        clear hbu1 qu1
        go_wp2_with fail
        refine C.mono ?_
        rintro e t1 ⟨rfl, gt1⟩
        have Ht1 := hide (bl_trans8 Hu1.out gt1)
        clear gt1 C x0 x1 x2 x3 x4 x5 c0 c1 c2 c3 c4 c5 c6 c7 c8 c9 c10 c11 hu1
        go_wp2
        rw [rounds_succ]
        obtain ⟨u2, hu2, hbu2, qu2⟩ := enter1 t1 (.cells #[.bool b3, .slice a3 n3 k3, .int .i64 ex3, .bool b4, .slice a4 n4 k4, .int .i64 ex4] 33)
        have Hu2 := hide (bl_trans8 Ht1.out hbu2)
        have C := C2.out u2 Hu2.out
        obtain ⟨x0, x1, x2, x3, x4, x5⟩ := hexa qu2
        obtain ⟨⟨c0, c1, c2, c3, c4, c5⟩, c6, c7, c8, c9, c10, c11⟩ := dozen (block_upW Ht1.out HS.out)
        clear hbu2 qu2
        go_wp2_with fail
        refine C.mono ?_
        rintro e t2 ⟨rfl, gt2⟩
        have Ht2 := hide (bl_trans8 Hu2.out gt2)
        clear gt2 C x0 x1 x2 x3 x4 x5 c0 c1 c2 c3 c4 c5 c6 c7 c8 c9 c10 c11 hu2
        go_wp2
        go_ret
        exact ⟨rfl, Ht2.out⟩
  · rw [show wst (fltC o1 c1) (fltC o2 c2) = c1 by unfold wst fltC; rw [if_neg z1, if_neg z1]]
    have i1 : (c1 != 0) = true := by simpa using z1
    clear z1
    go_enter Tryz.func55, Tryz.ntmps55
    go_wp2
    refine wp_loop_rounds 3 ?_
    rw [rounds_succ]
    have HB : Hid (Below w.heap.size w w) := hide (Below.refl _ _)
    obtain ⟨u1, hu1, hbu1, qu1⟩ := enter1 w (.cells #[.bool b1, .slice a1 n1 k1, .int .i64 ex1, .bool b2, .slice a2 n2 k2, .int .i64 ex2] 33)
    have Hu1 := hide (bl_trans8 HB.out hbu1)
    have C := C1.out u1 Hu1.out
    obtain ⟨x0, x1, x2, x3, x4, x5⟩ := hexa qu1
    obtain ⟨⟨c0, c1, c2, c3, c4, c5⟩, c6, c7, c8, c9, c10, c11⟩ := dozen (block_upW HB.out HS.out)
    clear hbu1 qu1
    go_wp2_with fail
    refine C.mono ?_
    rintro e t1 ⟨rfl, gt1⟩
    have Ht1 := hide (bl_trans8 Hu1.out gt1)
    clear gt1 C x0 x1 x2 x3 x4 x5 c0 c1 c2 c3 c4 c5 c6 c7 c8 c9 c10 c11 hu1
    go_wp2
    go_ret
    exact ⟨rfl, Ht1.out⟩

/-- What fault answers of one span, of two. -/
def FltOf (w : World) (b1 : Bool) (a1 : Option Addr) (n1 k1 : Nat) (ex1 : Int) (b2 : Bool) (a2 : Option Addr) (n2 k2 : Nat) (ex2 : Int) (F : Int) : Prop :=
  ∀ W gs, Below w.heap.size w W → W.heap[gs]? = some (.cells #[.bool b1, .slice a1 n1 k1, .int .i64 ex1, .bool b2, .slice a2 n2 k2, .int .i64 ex2] 33) → Calls Tryz.prog 55 #[.slice (some ⟨gs, 0, none⟩) 1 1] W fun e w' => e = .returned (.int .i64 F) ∧ Below W.heap.size W w'

def FltOf2 (w : World) (b1 : Bool) (a1 : Option Addr) (n1 k1 : Nat) (ex1 : Int) (b2 : Bool) (a2 : Option Addr) (n2 k2 : Nat) (ex2 : Int) (b3 : Bool) (a3 : Option Addr) (n3 k3 : Nat) (ex3 : Int) (b4 : Bool) (a4 : Option Addr) (n4 k4 : Nat) (ex4 : Int) (F : Int) : Prop :=
  ∀ W gs, Below w.heap.size w W → W.heap[gs]? = some (.cells #[.bool b1, .slice a1 n1 k1, .int .i64 ex1, .bool b2, .slice a2 n2 k2, .int .i64 ex2, .bool b3, .slice a3 n3 k3, .int .i64 ex3, .bool b4, .slice a4 n4 k4, .int .i64 ex4] 33) → Calls Tryz.prog 55 #[.slice (some ⟨gs, 0, none⟩) 2 2] W fun e w' => e = .returned (.int .i64 F) ∧ Below W.heap.size W w'

theorem fltOf_any (b1 : Bool) (a1 : Option Addr) (k1 : Nat) (X : List Nat) (ex1 : Int) (b2 : Bool) (a2 : Option Addr) (k2 : Nat) (Y : List Nat) (ex2 : Int) (L : Nat) (w : World) (hA : Arg w (.slice a1 X.length k1) X) (hB : Arg w (.slice a2 Y.length k2) Y) (f1 : X.length ≤ 17592186043904) (f2 : Y.length ≤ 17592186043904) (hL : 4611686018427387904 ≤ L) :
    FltOf w b1 a1 X.length k1 ex1 b2 a2 Y.length k2 ex2 (flt ex1 ex2 (vof b1 X ex1 L) (vof b2 Y ex2 L)) := by
  obtain ⟨o, c, hc, hfl⟩ := cmpOf_any b1 a1 k1 X ex1 b2 a2 k2 Y ex2 L w hA hB f1 f2 hL
  rw [← hfl]
  exact fun W gs hb hg => fault1_any gs b1 a1 X.length k1 ex1 b2 a2 Y.length k2 ex2 o c W hg (hc.below hb)

theorem fltOf2_any (b1 : Bool) (a1 : Option Addr) (k1 : Nat) (X : List Nat) (ex1 : Int) (b2 : Bool) (a2 : Option Addr) (k2 : Nat) (Y : List Nat) (ex2 : Int) (b3 : Bool) (a3 : Option Addr) (k3 : Nat) (Z : List Nat) (ex3 : Int) (b4 : Bool) (a4 : Option Addr) (k4 : Nat) (U : List Nat) (ex4 : Int) (L : Nat) (w : World) (hA : Arg w (.slice a1 X.length k1) X) (hB : Arg w (.slice a2 Y.length k2) Y) (hC : Arg w (.slice a3 Z.length k3) Z) (hD : Arg w (.slice a4 U.length k4) U) (f1 : X.length ≤ 17592186043904) (f2 : Y.length ≤ 17592186043904) (f3 : Z.length ≤ 17592186043904) (f4 : U.length ≤ 17592186043904) (hL : 4611686018427387904 ≤ L) :
    FltOf2 w b1 a1 X.length k1 ex1 b2 a2 Y.length k2 ex2 b3 a3 Z.length k3 ex3 b4 a4 U.length k4 ex4 (wst (flt ex1 ex2 (vof b1 X ex1 L) (vof b2 Y ex2 L)) (flt ex3 ex4 (vof b3 Z ex3 L) (vof b4 U ex4 L))) := by
  obtain ⟨o, c, hc, hfl⟩ := cmpOf_any b1 a1 k1 X ex1 b2 a2 k2 Y ex2 L w hA hB f1 f2 hL
  obtain ⟨o', c', hc', hfl'⟩ := cmpOf_any b3 a3 k3 Z ex3 b4 a4 k4 U ex4 L w hC hD f3 f4 hL
  rw [← hfl, ← hfl']
  exact fun W gs hb hg => fault2_any gs b1 a1 X.length k1 ex1 b2 a2 Y.length k2 ex2 b3 a3 Z.length k3 ex3 b4 a4 U.length k4 ex4 o c o' c' W hg (hc.below hb) (hc'.below hb)

theorem flt_zero {ex1 ex2 V1 V2 : Int} (h : flt ex1 ex2 V1 V2 = 0) : fitE ex1 = true ∧ fitE ex2 = true ∧ V1 ≤ V2 := by
  unfold flt at h
  split at h
  · split at h
    · split at h
      · omega
      · exact ⟨by assumption, by assumption, by omega⟩
    · omega
  · omega

/-- A number that was handed in and means something. -/
def N8 (w : World) (b : Bool) (a : Option Addr) (n k : Nat) (ex : Int) (L : Nat) (V : Int) : Prop :=
  ∃ X : List Nat, n = X.length ∧ Arg w (.slice a n k) X ∧ X.length ≤ 17592186043904 ∧ fitE ex = true ∧ vof b X ex L = V

theorem N8.below {w w' : World} {b : Bool} {a : Option Addr} {n k : Nat} {ex : Int} {L : Nat} {V : Int} (h : N8 w b a n k ex L V) (hb : Below w.heap.size w w') : N8 w' b a n k ex L V := by
  obtain ⟨X, h1, h2, h3⟩ := h
  exact ⟨X, h1, h2.below hb, h3⟩

theorem cmpZ_neg {y z : Int} : cmpZ y z < 0 ↔ y < z := by
  unfold cmpZ
  split
  · omega
  · split <;> omega

set_option maxRecDepth 20000 in
set_option maxHeartbeats 1000000 in
theorem slessN (b1 : Bool) (a1 : Option Addr) (n1 k1 : Nat) (ex1 : Int) (b2 : Bool) (a2 : Option Addr) (n2 k2 : Nat) (ex2 : Int) (L : Nat) (V1 V2 : Int) (w : World) (h1 : N8 w b1 a1 n1 k1 ex1 L V1) (h2 : N8 w b2 a2 n2 k2 ex2 L V2) (hL : 4611686018427387904 ≤ L) :
    Calls Tryz.prog 57 #[.agg #[.bool b1, .slice a1 n1 k1, .int .i64 ex1], .agg #[.bool b2, .slice a2 n2 k2, .int .i64 ex2]] w fun e w' => e = .returned (.bool (decide (V1 < V2))) ∧ Below w.heap.size w w' := by
  obtain ⟨X, rfl, hA, f1, hE1, rfl⟩ := h1
  obtain ⟨Y, rfl, hB, f2, hE2, rfl⟩ := h2
  obtain ⟨w0, hw0, hb0, q0, q1⟩ := enter2 w (.cells #[.bool b1, .slice a1 X.length k1, .int .i64 ex1] 31) (.cells #[.bool b2, .slice a2 Y.length k2, .int .i64 ex2] 31)
  obtain ⟨y0, y1, y2⟩ := tri8 q0
  obtain ⟨y3, y4, y5⟩ := tri8 q1
  have r1 := (fitE_iff ex1).1 hE1
  have r2 := (fitE_iff ex2).1 hE2
  have C := yCompare_ok b1 a1 k1 X ex1 b2 a2 k2 Y ex2 L (ex1 + L).toNat (ex2 + L).toNat w0 (hA.below hb0) (hB.below hb0) (by omega) (by omega) hE1 hE2 hL (by omega) (by omega)
  rw [show zz b1 (val X) * 2 ^ (ex1 + L).toNat = vof b1 X ex1 L from rfl, show zz b2 (val Y) * 2 ^ (ex2 + L).toNat = vof b2 Y ex2 L from rfl] at C
  generalize vof b1 X ex1 L = V1 at *
  generalize vof b2 Y ex2 L = V2 at *
  obtain ⟨D, hD⟩ : ∃ D, decide (V1 < V2) = D := ⟨_, rfl⟩
  have i1 : decide (cmpZ V1 V2 < 0) = D := by rw [← hD]; simp only [cmpZ_neg]
  rw [hD]
  generalize cmpZ V1 V2 = cz at *
  have HB := hide hb0
  clear hA hB q0 q1 hb0 r1 r2 hE1 hE2 hD
  go_enter Tryz.func57, Tryz.ntmps57
  go_wp2_with fail
  refine C.mono ?_
  rintro e t1 ⟨rfl, g1⟩
  have HE := hide (bl_trans8 HB.out g1)
  clear g1 C
  go_wp2
  go_ret
  exact ⟨rfl, HE.out⟩

/-- The sign of a number that is handed in. -/
theorem sg_vof (b : Bool) (X : List Nat) (ex : Int) (L : Nat) : (0 < sg b (val X) ↔ 0 < vof b X ex L) ∧ (sg b (val X) < 0 ↔ vof b X ex L < 0) := by
  have hp : (0 : Int) < 2 ^ (ex + L).toNat := Int.pow_pos (by omega)
  unfold vof
  have e1 : 0 < zz b (val X) * 2 ^ (ex + L).toNat ↔ 0 < zz b (val X) := by
    constructor
    · intro h
      rcases Int.lt_trichotomy (zz b (val X)) 0 with g | g | g
      · have := Int.mul_neg_of_neg_of_pos g hp; omega
      · rw [g] at h; omega
      · exact g
    · intro h; exact Int.mul_pos h hp
  have e2 : zz b (val X) * 2 ^ (ex + L).toNat < 0 ↔ zz b (val X) < 0 := by
    constructor
    · intro h
      rcases Int.lt_trichotomy (zz b (val X)) 0 with g | g | g
      · exact g
      · rw [g] at h; omega
      · have := Int.mul_pos g hp; omega
    · intro h; exact Int.mul_neg_of_neg_of_pos h hp
  rw [e1, e2]
  unfold sg zz
  cases b <;> simp <;> split <;> simp_all <;> omega

/-- All above 0, all below, or neither. -/
def sureV (V1 V2 : Int) : Int := if 0 < V1 then 1 else if V2 < 0 then -1 else 0

set_option maxRecDepth 20000 in
set_option maxHeartbeats 2000000 in
theorem ssignN (b1 : Bool) (a1 : Option Addr) (n1 k1 : Nat) (ex1 : Int) (b2 : Bool) (a2 : Option Addr) (n2 k2 : Nat) (ex2 : Int) (L : Nat) (V1 V2 : Int) (w : World) (h1 : N8 w b1 a1 n1 k1 ex1 L V1) (h2 : N8 w b2 a2 n2 k2 ex2 L V2) :
    Calls Tryz.prog 62 #[.agg #[.bool b1, .slice a1 n1 k1, .int .i64 ex1, .bool b2, .slice a2 n2 k2, .int .i64 ex2]] w fun e w' => e = .returned (.int .i64 (sureV V1 V2)) ∧ Below w.heap.size w w' := by
  obtain ⟨X, rfl, hA, f1, hE1, rfl⟩ := h1
  obtain ⟨Y, rfl, hB, f2, hE2, rfl⟩ := h2
  obtain ⟨w0, hw0, hb0, q0⟩ := enter1 w (.cells #[.bool b1, .slice a1 X.length k1, .int .i64 ex1, .bool b2, .slice a2 Y.length k2, .int .i64 ex2] 33)
  obtain ⟨y0, y1, y2, y3, y4, y5⟩ := hexa q0
  have C := ySign_any b1 a1 k1 X ex1 w0 (hA.below hb0)
  have C2 := hide (fun (W : World) (hg : Below w0.heap.size w0 W) => ySign_any b2 a2 k2 Y ex2 W ((hB.below hb0).below hg))
  have S1 := (sg_vof b1 X ex1 L).1
  have S2 := (sg_vof b2 Y ex2 L).2
  generalize vof b1 X ex1 L = V1 at *
  generalize vof b2 Y ex2 L = V2 at *
  generalize sg b1 (val X) = s1 at *
  generalize sg b2 (val Y) = s2 at *
  have HB := hide hb0
  have HQ := hide q0
  clear hA hB q0 hb0 hE1 hE2
  unfold sureV
  by_cases p1 : 0 < V1
  · rw [if_pos p1]
    have i1 : decide (0 < s1) = true := decide_eq_true (S1.2 p1)
    clear S1 S2 p1
    go_enter Tryz.func62, Tryz.ntmps62
    go_wp2_with fail
    refine C.mono ?_
    rintro e t1 ⟨rfl, g1⟩
    have HE := hide (bl_trans8 HB.out g1)
    clear g1 C
    go_wp2
    go_ret
    exact ⟨rfl, HE.out⟩
  · rw [if_neg p1]
    have i1 : decide (0 < s1) = false := decide_eq_false (fun h => p1 (S1.1 h))
    obtain ⟨R, hR⟩ : ∃ R : Int, (if V2 < 0 then (-1 : Int) else 0) = R := ⟨_, rfl⟩
    rw [hR]
    by_cases p2 : V2 < 0
    · have i2 : decide (s2 < 0) = true := decide_eq_true (S2.2 p2)
      rw [if_pos p2] at hR
      subst hR
      clear S1 S2 p1 p2
      go_enter Tryz.func62, Tryz.ntmps62
      go_wp2_with fail
      refine C.mono ?_
      rintro e t1 ⟨rfl, g1⟩
      have HE := hide (bl_trans8 HB.out g1)
      have D2 := C2.out t1 g1
      clear y0 y1 y2 y3 y4 y5
      obtain ⟨y0, y1, y2, y3, y4, y5⟩ := hexa (block_upW g1 HQ.out)
      clear g1 C
      go_wp2_with fail
      refine D2.mono ?_
      rintro e t2 ⟨rfl, g2⟩
      have HE2 := hide (bl_trans8 HE.out g2)
      clear g2 D2
      go_wp2
      go_ret
      exact ⟨rfl, HE2.out⟩
    · have i2 : decide (s2 < 0) = false := decide_eq_false (fun h => p2 (S2.1 h))
      rw [if_neg p2] at hR
      subst hR
      clear S1 S2 p1 p2
      go_enter Tryz.func62, Tryz.ntmps62
      go_wp2_with fail
      refine C.mono ?_
      rintro e t1 ⟨rfl, g1⟩
      have HE := hide (bl_trans8 HB.out g1)
      have D2 := C2.out t1 g1
      clear y0 y1 y2 y3 y4 y5
      obtain ⟨y0, y1, y2, y3, y4, y5⟩ := hexa (block_upW g1 HQ.out)
      clear g1 C
      go_wp2_with fail
      refine D2.mono ?_
      rintro e t2 ⟨rfl, g2⟩
      have HE2 := hide (bl_trans8 HE.out g2)
      clear g2 D2
      go_wp2
      go_ret
      exact ⟨rfl, HE2.out⟩

end Go.Proofs.YtppkhhbhnhijpaaGreatDoor
