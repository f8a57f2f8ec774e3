/- The walk of the law DyadicTwice. -/
import Derived.Test.YtegbjdjpeblkoaaDoorDyRwZ
import Derived.Test.YtegbjdjpeblkoaaDoorDyAllZ
import Derived.Test.YtegbjdjpeblkoaaDoorQ9
import Derived.BigQuiet
namespace Go.Proofs.YtegbjdjpeblkoaaDoor
open Go.RowKit
open Lm
attribute [local go_sem ↓] Go.wp_at_zero Go.wp_at_succ

theorem i8_of9 {w : World} {b : Bool} {a : Option Addr} {X : List Nat} {k : Nat} {ex : Int} (L : Nat) (hA : Arg w (.slice a X.length k) X) (hf : X.length ≤ 17592186043904) (hL : L = 9223372036854775808) (h : -9223372036854775808 ≤ ex) : ∃ V, I8 w b a X.length k ex L V :=
  ⟨_, X, rfl, hA, hf, Rp.make L _ ex (by omega)⟩

theorem pow_parts {L : Nat} {p q : Int} (h : 0 ≤ p + L) (hq : 0 ≤ q) : (2 : Nat) ^ (p + q + L).toNat = 2 ^ (p + L).toNat * 2 ^ q.toNat := by
  rw [← Nat.pow_add]; congr 1; omega

theorem isM_of {k : Nat} (h : k ≤ 2) : isM (k : Int) = true := (isM_iff _).2 (by omega)

set_option maxRecDepth 20000 in
set_option maxHeartbeats 16000000 in
theorem twice_no1 (b0 : Bool) (v0 : Value) (z0 : List Nat) (p0 : Int) (b1 : Bool) (v1 : Value) (z1 : List Nat) (p1 : Int) (x0 x1 : Int) (w : World) (hT : Tab w) (A0 : Arg w v0 z0) (s0 : z0.length ≤ 17592186043904) (lo0 : -9223372036854775808 ≤ p0) (_ : p0 ≤ 9223372036854775807) (A1 : Arg w v1 z1) (s1 : z1.length ≤ 17592186043904) (lo1 : -9223372036854775808 ≤ p1) (_ : p1 ≤ 9223372036854775807) (_ : -9223372036854775808 ≤ x0) (_ : x0 ≤ 9223372036854775807) (_ : -9223372036854775808 ≤ x1) (_ : x1 ≤ 9223372036854775807) (hd : x1 < 0) :
    Calls Tryd.prog 5 #[.agg #[.bool b0, v0, .int .i64 p0], .agg #[.bool b1, v1, .int .i64 p1], .agg #[.int .i64 x0, .int .i64 x1]] w fun e w' => e = .returned (.bool true) ∧ Below w.heap.size w w' := by
  obtain ⟨a0, n0, rfl, _, _, _⟩ := A0.form
  obtain ⟨a1, n1, rfl, _, _, _⟩ := A1.form
  obtain ⟨L, hL⟩ : ∃ L : Nat, L = 9223372036854775808 := ⟨_, rfl⟩
  obtain ⟨V0, I0⟩ := i8_of9 (b := b0) L A0 s0 hL lo0
  obtain ⟨V1, I1⟩ := i8_of9 (b := b1) L A1 s1 hL lo1
  have hL2 : 4611686018427387904 ≤ L := by omega
  have HL := hide hL2
  clear A0 A1 s0 s1 lo0 lo1 hL hL2
  generalize z0.length = d0 at *
  generalize z1.length = d1 at *
  obtain ⟨w0, hw0, hb0, h0, h1, h2⟩ := enter3 w (.cells #[.bool b0, .slice a0 d0 n0, .int .i64 p0] 24) (.cells #[.bool b1, .slice a1 d1 n1, .int .i64 p1] 24) (.cells #[.int .i64 x0, .int .i64 x1] 66)
  have HA := hide h0
  have HB := hide h1
  have HA0 := hide (I0.below hb0)
  have HA1 := hide (I1.below hb0)
  have HT := hide (hT.below hb0)
  have HW := hide hb0
  obtain ⟨y0, y1⟩ := duo h2
  clear I0 I1 hT hb0 h0 h1 h2
  have i1 : decide (x1 < 0) = true := decide_eq_true hd
  go_enter Tryd.func5, Tryd.ntmps5
  go_wp2_with fail
  go_quiet (fail)
  obtain ⟨wq, hwq⟩ : ∃ wq, wq = w0.drewN nq := ⟨_, rfl⟩
  have hbq : Below w0.heap.size w0 wq := by rw [hwq]; exact ((Same.refl w0).drewN nq).below _
  rw [← hwq]
  replace HA := hide (block_upW hbq HA.out)
  replace HB := hide (block_upW hbq HB.out)
  replace HA0 := hide (HA0.out.below hbq)
  replace HA1 := hide (HA1.out.below hbq)
  replace HT := hide (HT.out.below hbq)
  replace HW := hid_below HW hbq
  clear hwq hbq hw0 y0 y1
  have AW := awake8_any wq HT.out
  go_wp2_with fail
  refine AW.mono ?_
  rintro e t9 ⟨rfl, hb9⟩
  have HFIN := hide (bl_trans8 HW.out hb9)
  clear AW hb9
  go_wp2
  go_ret
  exact ⟨rfl, HFIN.out⟩

set_option maxRecDepth 20000 in
set_option maxHeartbeats 16000000 in
theorem twice_no2 (b0 : Bool) (v0 : Value) (z0 : List Nat) (p0 : Int) (b1 : Bool) (v1 : Value) (z1 : List Nat) (p1 : Int) (x0 x1 : Int) (w : World) (hT : Tab w) (A0 : Arg w v0 z0) (s0 : z0.length ≤ 17592186043904) (lo0 : -9223372036854775808 ≤ p0) (_ : p0 ≤ 9223372036854775807) (A1 : Arg w v1 z1) (s1 : z1.length ≤ 17592186043904) (lo1 : -9223372036854775808 ≤ p1) (_ : p1 ≤ 9223372036854775807) (_ : -9223372036854775808 ≤ x0) (_ : x0 ≤ 9223372036854775807) (_ : -9223372036854775808 ≤ x1) (_ : x1 ≤ 9223372036854775807) (hd : 1048576 < x1) :
    Calls Tryd.prog 5 #[.agg #[.bool b0, v0, .int .i64 p0], .agg #[.bool b1, v1, .int .i64 p1], .agg #[.int .i64 x0, .int .i64 x1]] w fun e w' => e = .returned (.bool true) ∧ Below w.heap.size w w' := by
  obtain ⟨a0, n0, rfl, _, _, _⟩ := A0.form
  obtain ⟨a1, n1, rfl, _, _, _⟩ := A1.form
  obtain ⟨L, hL⟩ : ∃ L : Nat, L = 9223372036854775808 := ⟨_, rfl⟩
  obtain ⟨V0, I0⟩ := i8_of9 (b := b0) L A0 s0 hL lo0
  obtain ⟨V1, I1⟩ := i8_of9 (b := b1) L A1 s1 hL lo1
  have hL2 : 4611686018427387904 ≤ L := by omega
  have HL := hide hL2
  clear A0 A1 s0 s1 lo0 lo1 hL hL2
  generalize z0.length = d0 at *
  generalize z1.length = d1 at *
  obtain ⟨w0, hw0, hb0, h0, h1, h2⟩ := enter3 w (.cells #[.bool b0, .slice a0 d0 n0, .int .i64 p0] 24) (.cells #[.bool b1, .slice a1 d1 n1, .int .i64 p1] 24) (.cells #[.int .i64 x0, .int .i64 x1] 66)
  have HA := hide h0
  have HB := hide h1
  have HA0 := hide (I0.below hb0)
  have HA1 := hide (I1.below hb0)
  have HT := hide (hT.below hb0)
  have HW := hide hb0
  obtain ⟨y0, y1⟩ := duo h2
  clear I0 I1 hT hb0 h0 h1 h2
  have i1 : decide (x1 < 0) = false := decide_eq_false (by omega)
  have i1b : ¬ x1 < 0 := by omega
  have i2 : decide (1048576 < x1) = true := decide_eq_true hd
  have i2b : 1048576 < x1 := hd
  go_enter Tryd.func5, Tryd.ntmps5
  go_wp2_with fail
  go_quiet (fail)
  obtain ⟨wq, hwq⟩ : ∃ wq, wq = w0.drewN nq := ⟨_, rfl⟩
  have hbq : Below w0.heap.size w0 wq := by rw [hwq]; exact ((Same.refl w0).drewN nq).below _
  rw [← hwq]
  replace HA := hide (block_upW hbq HA.out)
  replace HB := hide (block_upW hbq HB.out)
  replace HA0 := hide (HA0.out.below hbq)
  replace HA1 := hide (HA1.out.below hbq)
  replace HT := hide (HT.out.below hbq)
  replace HW := hid_below HW hbq
  clear hwq hbq hw0 y0 y1
  have AW := awake8_any wq HT.out
  go_wp2_with fail
  refine AW.mono ?_
  rintro e t9 ⟨rfl, hb9⟩
  have HFIN := hide (bl_trans8 HW.out hb9)
  clear AW hb9
  go_wp2
  go_ret
  exact ⟨rfl, HFIN.out⟩

set_option maxRecDepth 20000 in
set_option maxHeartbeats 16000000 in
theorem twice_no3 (b0 : Bool) (v0 : Value) (z0 : List Nat) (p0 : Int) (b1 : Bool) (v1 : Value) (z1 : List Nat) (p1 : Int) (x0 x1 : Int) (w : World) (hT : Tab w) (A0 : Arg w v0 z0) (s0 : z0.length ≤ 17592186043904) (lo0 : -9223372036854775808 ≤ p0) (_ : p0 ≤ 9223372036854775807) (A1 : Arg w v1 z1) (s1 : z1.length ≤ 17592186043904) (lo1 : -9223372036854775808 ≤ p1) (_ : p1 ≤ 9223372036854775807) (_ : -9223372036854775808 ≤ x0) (_ : x0 ≤ 9223372036854775807) (_ : -9223372036854775808 ≤ x1) (_ : x1 ≤ 9223372036854775807) (hd0 : 0 ≤ x1) (hd1 : x1 ≤ 1048576) (hd : fitE x0 = false) :
    Calls Tryd.prog 5 #[.agg #[.bool b0, v0, .int .i64 p0], .agg #[.bool b1, v1, .int .i64 p1], .agg #[.int .i64 x0, .int .i64 x1]] w fun e w' => e = .returned (.bool true) ∧ Below w.heap.size w w' := by
  obtain ⟨a0, n0, rfl, _, _, _⟩ := A0.form
  obtain ⟨a1, n1, rfl, _, _, _⟩ := A1.form
  obtain ⟨L, hL⟩ : ∃ L : Nat, L = 9223372036854775808 := ⟨_, rfl⟩
  obtain ⟨V0, I0⟩ := i8_of9 (b := b0) L A0 s0 hL lo0
  obtain ⟨V1, I1⟩ := i8_of9 (b := b1) L A1 s1 hL lo1
  have hL2 : 4611686018427387904 ≤ L := by omega
  have HL := hide hL2
  clear A0 A1 s0 s1 lo0 lo1 hL hL2
  generalize z0.length = d0 at *
  generalize z1.length = d1 at *
  obtain ⟨w0, hw0, hb0, h0, h1, h2⟩ := enter3 w (.cells #[.bool b0, .slice a0 d0 n0, .int .i64 p0] 24) (.cells #[.bool b1, .slice a1 d1 n1, .int .i64 p1] 24) (.cells #[.int .i64 x0, .int .i64 x1] 66)
  have HA := hide h0
  have HB := hide h1
  have HA0 := hide (I0.below hb0)
  have HA1 := hide (I1.below hb0)
  have HT := hide (hT.below hb0)
  have HW := hide hb0
  obtain ⟨y0, y1⟩ := duo h2
  clear I0 I1 hT hb0 h0 h1 h2
  have i1 : decide (x1 < 0) = false := decide_eq_false (by omega)
  have i1b : ¬ x1 < 0 := by omega
  have i2 : decide (1048576 < x1) = false := decide_eq_false (by omega)
  have i2b : ¬ 1048576 < x1 := by omega
  go_enter Tryd.func5, Tryd.ntmps5
  go_wp2_with fail
  go_quiet (fail)
  obtain ⟨wq, hwq⟩ : ∃ wq, wq = w0.drewN nq := ⟨_, rfl⟩
  have hbq : Below w0.heap.size w0 wq := by rw [hwq]; exact ((Same.refl w0).drewN nq).below _
  rw [← hwq]
  replace HA := hide (block_upW hbq HA.out)
  replace HB := hide (block_upW hbq HB.out)
  replace HA0 := hide (HA0.out.below hbq)
  replace HA1 := hide (HA1.out.below hbq)
  replace HT := hide (HT.out.below hbq)
  replace HW := hid_below HW hbq
  clear hwq hbq hw0 y0 y1
  have HF := (by have h := fit8_any x0 wq; rw [hd] at h; exact h)
  go_wp2_with fail
  refine HF.mono ?_
  rintro e wn ⟨rfl, hw⟩; rw [hw]; clear hw wn HF
  have AW := awake8_any wq HT.out
  go_wp2_with fail
  refine AW.mono ?_
  rintro e t9 ⟨rfl, hb9⟩
  have HFIN := hide (bl_trans8 HW.out hb9)
  clear AW hb9
  go_wp2
  go_ret
  exact ⟨rfl, HFIN.out⟩

set_option maxRecDepth 20000 in
set_option maxHeartbeats 16000000 in
theorem twice_no4 (b0 : Bool) (v0 : Value) (z0 : List Nat) (p0 : Int) (b1 : Bool) (v1 : Value) (z1 : List Nat) (p1 : Int) (x0 x1 : Int) (w : World) (hT : Tab w) (A0 : Arg w v0 z0) (s0 : z0.length ≤ 17592186043904) (lo0 : -9223372036854775808 ≤ p0) (_ : p0 ≤ 9223372036854775807) (A1 : Arg w v1 z1) (s1 : z1.length ≤ 17592186043904) (lo1 : -9223372036854775808 ≤ p1) (_ : p1 ≤ 9223372036854775807) (_ : -9223372036854775808 ≤ x0) (_ : x0 ≤ 9223372036854775807) (_ : -9223372036854775808 ≤ x1) (_ : x1 ≤ 9223372036854775807) (hd0 : 0 ≤ x1) (hd1 : x1 ≤ 1048576) (hK0 : fitE x0 = true) (hd : fitE (x0 + x1) = false) :
    Calls Tryd.prog 5 #[.agg #[.bool b0, v0, .int .i64 p0], .agg #[.bool b1, v1, .int .i64 p1], .agg #[.int .i64 x0, .int .i64 x1]] w fun e w' => e = .returned (.bool true) ∧ Below w.heap.size w w' := by
  obtain ⟨a0, n0, rfl, _, _, _⟩ := A0.form
  obtain ⟨a1, n1, rfl, _, _, _⟩ := A1.form
  obtain ⟨L, hL⟩ : ∃ L : Nat, L = 9223372036854775808 := ⟨_, rfl⟩
  obtain ⟨V0, I0⟩ := i8_of9 (b := b0) L A0 s0 hL lo0
  obtain ⟨V1, I1⟩ := i8_of9 (b := b1) L A1 s1 hL lo1
  have hL2 : 4611686018427387904 ≤ L := by omega
  have HL := hide hL2
  clear A0 A1 s0 s1 lo0 lo1 hL hL2
  generalize z0.length = d0 at *
  generalize z1.length = d1 at *
  obtain ⟨w0, hw0, hb0, h0, h1, h2⟩ := enter3 w (.cells #[.bool b0, .slice a0 d0 n0, .int .i64 p0] 24) (.cells #[.bool b1, .slice a1 d1 n1, .int .i64 p1] 24) (.cells #[.int .i64 x0, .int .i64 x1] 66)
  have HA := hide h0
  have HB := hide h1
  have HA0 := hide (I0.below hb0)
  have HA1 := hide (I1.below hb0)
  have HT := hide (hT.below hb0)
  have HW := hide hb0
  obtain ⟨y0, y1⟩ := duo h2
  clear I0 I1 hT hb0 h0 h1 h2
  have i1 : decide (x1 < 0) = false := decide_eq_false (by omega)
  have i1b : ¬ x1 < 0 := by omega
  have i2 : decide (1048576 < x1) = false := decide_eq_false (by omega)
  have i2b : ¬ 1048576 < x1 := by omega
  have hKx := (fitE_iff x0).1 hK0
  have wjk : IntKind.i64.wrap (x0 + x1) = x0 + x1 := by rw [IntKind.wrap_i64]; omega
  go_enter Tryd.func5, Tryd.ntmps5
  go_wp2_with fail
  go_quiet (fail)
  obtain ⟨wq, hwq⟩ : ∃ wq, wq = w0.drewN nq := ⟨_, rfl⟩
  have hbq : Below w0.heap.size w0 wq := by rw [hwq]; exact ((Same.refl w0).drewN nq).below _
  rw [← hwq]
  replace HA := hide (block_upW hbq HA.out)
  replace HB := hide (block_upW hbq HB.out)
  replace HA0 := hide (HA0.out.below hbq)
  replace HA1 := hide (HA1.out.below hbq)
  replace HT := hide (HT.out.below hbq)
  replace HW := hid_below HW hbq
  clear hwq hbq hw0 y0 y1
  have HF := (by have h := fit8_any x0 wq; rw [hK0] at h; exact h)
  go_wp2_with fail
  refine HF.mono ?_
  rintro e wn ⟨rfl, hw⟩; rw [hw]; clear hw wn HF
  have HF := (by have h := fit8_any (x0 + x1) wq; rw [hd] at h; exact h)
  go_wp2_with fail
  refine HF.mono ?_
  rintro e wn ⟨rfl, hw⟩; rw [hw]; clear hw wn HF
  have AW := awake8_any wq HT.out
  go_wp2_with fail
  refine AW.mono ?_
  rintro e t9 ⟨rfl, hb9⟩
  have HFIN := hide (bl_trans8 HW.out hb9)
  clear AW hb9
  go_wp2
  go_ret
  exact ⟨rfl, HFIN.out⟩

set_option maxRecDepth 20000 in
set_option maxHeartbeats 16000000 in
theorem twice_yes (b0 : Bool) (v0 : Value) (z0 : List Nat) (p0 : Int) (b1 : Bool) (v1 : Value) (z1 : List Nat) (p1 : Int) (x0 x1 : Int) (w : World) (hT : Tab w) (A0 : Arg w v0 z0) (s0 : z0.length ≤ 17592186043904) (lo0 : -9223372036854775808 ≤ p0) (_ : p0 ≤ 9223372036854775807) (A1 : Arg w v1 z1) (s1 : z1.length ≤ 17592186043904) (lo1 : -9223372036854775808 ≤ p1) (_ : p1 ≤ 9223372036854775807) (bx0 : -9223372036854775808 ≤ x0) (bx1 : x0 ≤ 9223372036854775807) (bx2 : -9223372036854775808 ≤ x1) (bx3 : x1 ≤ 9223372036854775807) (hd0 : 0 ≤ x1) (hd1 : x1 ≤ 1048576) (hK0 : fitE x0 = true) (hK1 : fitE (x0 + x1) = true) :
    Calls Tryd.prog 5 #[.agg #[.bool b0, v0, .int .i64 p0], .agg #[.bool b1, v1, .int .i64 p1], .agg #[.int .i64 x0, .int .i64 x1]] w fun e w' => e = .returned (.bool true) ∧ Below w.heap.size w w' := by
  obtain ⟨a0, n0, rfl, _, _, _⟩ := A0.form
  obtain ⟨a1, n1, rfl, _, _, _⟩ := A1.form
  obtain ⟨L, hL⟩ : ∃ L : Nat, L = 9223372036854775808 := ⟨_, rfl⟩
  obtain ⟨V0, I0⟩ := i8_of9 (b := b0) L A0 s0 hL lo0
  obtain ⟨V1, I1⟩ := i8_of9 (b := b1) L A1 s1 hL lo1
  have hL2 : 4611686018427387904 ≤ L := by omega
  have HL := hide hL2
  clear A0 A1 s0 s1 lo0 lo1 hL hL2
  generalize z0.length = d0 at *
  generalize z1.length = d1 at *
  obtain ⟨w0, hw0, hb0, h0, h1, h2⟩ := enter3 w (.cells #[.bool b0, .slice a0 d0 n0, .int .i64 p0] 24) (.cells #[.bool b1, .slice a1 d1 n1, .int .i64 p1] 24) (.cells #[.int .i64 x0, .int .i64 x1] 66)
  have HA := hide h0
  have HB := hide h1
  have HA0 := hide (I0.below hb0)
  have HA1 := hide (I1.below hb0)
  have HT := hide (hT.below hb0)
  have HW := hide hb0
  obtain ⟨y0, y1⟩ := duo h2
  clear I0 I1 hT hb0 h0 h1 h2
  have i1 : decide (x1 < 0) = false := decide_eq_false (by omega)
  have i1b : ¬ x1 < 0 := by omega
  have i2 : decide (1048576 < x1) = false := decide_eq_false (by omega)
  have i2b : ¬ 1048576 < x1 := by omega
  have hKx := (fitE_iff x0).1 hK0
  have wjk : IntKind.i64.wrap (x0 + x1) = x0 + x1 := by rw [IntKind.wrap_i64]; omega
  have HKx := hide hKx
  have HWr := hide wjk
  have hP0 : 0 ≤ x0 + L := by have := HL.out; omega
  have HPP := hide (pow_parts hP0 hd0)
  have HK0 := hide hK0
  have HK1 := hide hK1
  have hP1 : 0 < 2 ^ (x0 + L).toNat := Nat.two_pow_pos _
  have HP1 := hide hP1
  generalize hPd : (2 : Nat) ^ (x0 + L).toNat = PA at *
  generalize hPe : (2 : Nat) ^ (x0 + x1 + L).toNat = PB at *
  have HPD := hide hPd
  have HPE := hide hPe
  generalize hxs : x0 + x1 = xs at *
  clear hP0 hPd hPe hd0 hd1 hKx hP1 hK0 hK1
  go_enter Tryd.func5, Tryd.ntmps5
  go_wp2_with fail
  go_quiet (fail)
  obtain ⟨wq, hwq⟩ : ∃ wq, wq = w0.drewN nq := ⟨_, rfl⟩
  have hbq : Below w0.heap.size w0 wq := by rw [hwq]; exact ((Same.refl w0).drewN nq).below _
  rw [← hwq]
  replace HA := hide (block_upW hbq HA.out)
  replace HB := hide (block_upW hbq HB.out)
  replace HA0 := hide (HA0.out.below hbq)
  replace HA1 := hide (HA1.out.below hbq)
  replace HT := hide (HT.out.below hbq)
  replace HW := hid_below HW hbq
  clear hwq hbq hw0 y0 y1
  have HF := fit8_any x0 wq
  rw [HK0.out] at HF
  go_wp2_with fail
  refine HF.mono ?_
  rintro e wn ⟨rfl, hw⟩; rw [hw]; clear hw wn HF
  have HF := fit8_any xs wq
  rw [HK1.out] at HF
  go_wp2_with fail
  refine HF.mono ?_
  rintro e wn ⟨rfl, hw⟩; rw [hw]; clear hw wn HF
  obtain ⟨wl, hwl, hbl, hl⟩ := enter1 wq (.cells #[.int .i64 0, .int .i64 1] 56)
  skip
  have HMwl := hide hl
  replace HA := hide (block_upW hbl HA.out)
  replace HB := hide (block_upW hbl HB.out)
  replace HA0 := hide (HA0.out.below hbl)
  replace HA1 := hide (HA1.out.below hbl)
  replace HT := hide (HT.out.below hbl)
  replace HW := hid_below HW hbl
  clear hbl hl
  go_wp2_with fail
  clear hwl
  go_loopw [52] (fun i wr => ∃ k : Nat, k ≤ 2 ∧ i = .int .i64 k ∧ Below wl.heap.size wl wr) (fun i _ => 2 - (intOf i).toNat)
  case atStart => exact ⟨0, by omega, rfl, Below.refl _ _⟩
  case round =>
    obtain ⟨k, hk, rfl, hbl⟩ := hrel
    by_cases hkl : k < 2
    · skip
      have hck : wr.cell? ⟨wq.heap.size, k, none⟩ = some (.int .i64 (k : Int)) := by
        have h := codes_cell8 (cs := [0, 1]) (block_upW hbl HMwl.out) k (by simp; omega)
        rw [h]
        rcases (show k = 0 ∨ k = 1 by omega) with rfl | rfl <;> rfl
      have HMk := isM_of (show k ≤ 2 by omega)
      have HMh := hide HMk
      clear HMk
      have hm01 : (k : Int) = 0 ∨ (k : Int) = 1 := by omega
      have HTW := hide (fun V => rv_twice hm01 V PA (2 ^ x1.toNat) HP1.out)
      rw [← HPP.out] at HTW
      clear hm01
      have GA := HA
      have GB := HB
      have GA0 := HA0
      have GA1 := HA1
      have GT := HT
      have GW := hide hbl
      replace GA := hide (block_upW hbl GA.out)
      replace GB := hide (block_upW hbl GB.out)
      replace GA0 := hide (GA0.out.below hbl)
      replace GA1 := hide (GA1.out.below hbl)
      replace GT := hide (GT.out.below hbl)
      clear hbl
      obtain ⟨ca0, cb0, cc0⟩ := tri8 GA.out
      have C := in8_any b0 a0 d0 n0 p0 wr
      go_wp2_with fail
      refine C.mono ?_
      rintro e Q1 ⟨rfl, hb⟩
      clear C ca0 cb0 cc0
      replace GA := hide (block_upW hb GA.out)
      replace GB := hide (block_upW hb GB.out)
      replace GA0 := hide (GA0.out.below hb)
      replace GA1 := hide (GA1.out.below hb)
      replace GT := hide (GT.out.below hb)
      replace GW := hid_below GW hb
      clear hb
      have C := yround8 b0 a0 d0 n0 p0 L V0 x0 (k : Int) Q1 GT.out GA0.out HL.out HK0.out HMh.out
      rw [HPD.out] at C
      go_wp2_with fail
      refine C.mono ?_
      rintro e Q2 ⟨⟨bp, ap, lp, kp, ep, cp, rfl, hp⟩, hb⟩
      clear C
      obtain ⟨P3, hP3, hbP, hx⟩ := enter1 Q2 (.cells #[.bool bp, .slice ap lp kp, .int .i64 ep] 29)
      have stp := bl_trans8 hb hbP
      replace GA := hide (block_upW stp GA.out)
      replace GB := hide (block_upW stp GB.out)
      replace GA0 := hide (GA0.out.below stp)
      replace GA1 := hide (GA1.out.below stp)
      replace GT := hide (GT.out.below stp)
      replace GW := hid_below GW stp
      have HRp := hide (hp.below hbP)
      have Hp := hide hx
      clear hp hb hbP hx stp
      obtain ⟨ca0, cb0, cc0⟩ := tri8 GA.out
      have C := in8_any b0 a0 d0 n0 p0 P3
      go_wp2_with fail
      refine C.mono ?_
      rintro e Q4 ⟨rfl, hb⟩
      clear C ca0 cb0 cc0 hP3
      replace GA := hide (block_upW hb GA.out)
      replace GB := hide (block_upW hb GB.out)
      replace Hp := hide (block_upW hb Hp.out)
      replace GA0 := hide (GA0.out.below hb)
      replace GA1 := hide (GA1.out.below hb)
      replace GT := hide (GT.out.below hb)
      replace HRp := hide (HRp.out.below hb)
      replace GW := hid_below GW hb
      clear hb
      have C := yround8 b0 a0 d0 n0 p0 L V0 xs (k : Int) Q4 GT.out GA0.out HL.out HK1.out HMh.out
      rw [HPE.out] at C
      go_wp2_with fail
      refine C.mono ?_
      rintro e Q5 ⟨⟨bq, aq, lq, kq, eq, cq, rfl, hp⟩, hb⟩
      clear C
      obtain ⟨P6, hP6, hbP, hx⟩ := enter1 Q5 (.cells #[.bool bq, .slice aq lq kq, .int .i64 eq] 29)
      have stp := bl_trans8 hb hbP
      replace GA := hide (block_upW stp GA.out)
      replace GB := hide (block_upW stp GB.out)
      replace Hp := hide (block_upW stp Hp.out)
      replace GA0 := hide (GA0.out.below stp)
      replace GA1 := hide (GA1.out.below stp)
      replace GT := hide (GT.out.below stp)
      replace HRp := hide (HRp.out.below stp)
      replace GW := hid_below GW stp
      have HRq := hide (hp.below hbP)
      have Hq := hide hx
      clear hp hb hbP hx stp
      obtain ⟨U7, hU7, hst, hLb⟩ := enter1 P6 (.cells #[.int .i64 cp, .int .i64 cq] 39)
      have AL := yall_any P6.heap.size 2 [cp, cq] U7 rfl (by omega) hLb
      replace GA := hide (block_upW hst GA.out)
      replace GB := hide (block_upW hst GB.out)
      replace Hp := hide (block_upW hst Hp.out)
      replace Hq := hide (block_upW hst Hq.out)
      replace GA0 := hide (GA0.out.below hst)
      replace GA1 := hide (GA1.out.below hst)
      replace GT := hide (GT.out.below hst)
      replace HRp := hide (HRp.out.below hst)
      replace HRq := hide (HRq.out.below hst)
      replace GW := hid_below GW hst
      clear hst hLb
      by_cases hc : cp = 0 ∧ cq = 0
      · skip
        obtain ⟨rfl, rfl⟩ := hc
        have hyes : (([0, 0] : List Int).all (· == 0)) = true := by decide
        rw [hyes] at AL
        clear hyes
        go_wp2_with fail
        refine AL.mono ?_
        rintro e wn ⟨rfl, hw⟩; rw [hw]; clear hw wn AL hP6 hU7
        have HGp := hide (HRp.out rfl)
        have HGq := hide (HRq.out rfl)
        clear HRp HRq
        have hok := HGq.out.ok8
        rw [← HTW.out V0] at hok
        obtain ⟨ca0, cb0, cc0⟩ := tri8 Hp.out
        have C := yround8s bp ap lp kp ep L (rv (k : Int) V0 PA) xs (k : Int) U7 GT.out HGp.out HL.out HK1.out HMh.out (by rw [HPE.out]; exact hok)
        rw [HPE.out, HTW.out V0] at C
        clear hok
        go_wp2_with fail
        refine C.mono ?_
        rintro e Q8 ⟨⟨bt, at2, lt, kt, et, rfl, hp⟩, hb⟩
        clear C ca0 cb0 cc0
        obtain ⟨P9, hP9, hbP, hx⟩ := enter1 Q8 (.cells #[.bool bt, .slice at2 lt kt, .int .i64 et] 29)
        have stp := bl_trans8 hb hbP
        replace GA := hide (block_upW stp GA.out)
        replace GB := hide (block_upW stp GB.out)
        replace Hp := hide (block_upW stp Hp.out)
        replace Hq := hide (block_upW stp Hq.out)
        replace GA0 := hide (GA0.out.below stp)
        replace GA1 := hide (GA1.out.below stp)
        replace GT := hide (GT.out.below stp)
        replace HGp := hide (HGp.out.below stp)
        replace HGq := hide (HGq.out.below stp)
        replace GW := hid_below GW stp
        have HGt := hide (hp.below hbP)
        have Ht := hide hx
        clear hp hb hbP hx stp
        obtain ⟨U10, hU10, hst, hLb⟩ := enter1 P9 (.cells #[.int .i64 0] 39)
        have AL := yall_any P9.heap.size 1 [0] U10 rfl (by omega) hLb
        replace GA := hide (block_upW hst GA.out)
        replace GB := hide (block_upW hst GB.out)
        replace Hp := hide (block_upW hst Hp.out)
        replace Hq := hide (block_upW hst Hq.out)
        replace Ht := hide (block_upW hst Ht.out)
        replace GA0 := hide (GA0.out.below hst)
        replace GA1 := hide (GA1.out.below hst)
        replace GT := hide (GT.out.below hst)
        replace HGp := hide (HGp.out.below hst)
        replace HGq := hide (HGq.out.below hst)
        replace HGt := hide (HGt.out.below hst)
        replace GW := hid_below GW hst
        clear hst hLb
        have hyes : (([0] : List Int).all (· == 0)) = true := by decide
        rw [hyes] at AL
        clear hyes
        go_wp2_with fail
        refine AL.mono ?_
        rintro e wn ⟨rfl, hw⟩; rw [hw]; clear hw wn AL hP9 hU10
        obtain ⟨ca0, cb0, cc0⟩ := tri8 Hq.out
        obtain ⟨ca1, cb1, cc1⟩ := tri8 Ht.out
        have C := ysame8 bq aq lq kq eq bt at2 lt kt et L (rv (k : Int) V0 PB) U10 HGq.out HGt.out
        go_wp2_with fail
        refine C.mono ?_
        rintro e Q11 ⟨rfl, hb⟩
        clear C ca0 cb0 cc0 ca1 cb1 cc1
        replace GA := hide (block_upW hb GA.out)
        replace GB := hide (block_upW hb GB.out)
        replace Hp := hide (block_upW hb Hp.out)
        replace Hq := hide (block_upW hb Hq.out)
        replace Ht := hide (block_upW hb Ht.out)
        replace GA0 := hide (GA0.out.below hb)
        replace GA1 := hide (GA1.out.below hb)
        replace GT := hide (GT.out.below hb)
        replace HGp := hide (HGp.out.below hb)
        replace HGq := hide (HGq.out.below hb)
        replace HGt := hide (HGt.out.below hb)
        replace GW := hid_below GW hb
        clear hb
        go_wp2_with fail
        go_roundw
        case rel => exact ⟨k + 1, by omega, by go_num, GW.out⟩
        case measure => simp [intOf]; omega
      · skip
        have hno : ([cp, cq].all (· == 0)) = false := by
          rw [Bool.eq_false_iff]
          intro h
          simp only [List.all_cons, List.all_nil, Bool.and_true, Bool.and_eq_true, beq_iff_eq] at h
          exact hc h
        rw [hno] at AL
        clear hno
        go_wp2_with fail
        refine AL.mono ?_
        rintro e wn ⟨rfl, hw⟩; rw [hw]; clear hw wn AL hP6 hU7
        have AW := awake8_any U7 GT.out
        go_wp2_with fail
        refine AW.mono ?_
        rintro e t9 ⟨rfl, hb9⟩
        have HFIN := hide (bl_trans8 HW.out (bl_trans8 GW.out hb9))
        clear AW hb9
        go_wp2
        go_ret
        exact ⟨rfl, HFIN.out⟩
    · skip
      have hk2 : ¬ (k : Int) < 2 := by omega
      have hk3 : decide ((k : Int) < 2) = false := decide_eq_false hk2
      replace HA := hide (block_upW hbl HA.out)
      replace HB := hide (block_upW hbl HB.out)
      replace HA0 := hide (HA0.out.below hbl)
      replace HA1 := hide (HA1.out.below hbl)
      replace HT := hide (HT.out.below hbl)
      replace HW := hid_below HW hbl
      clear hbl hk hkl HMwl
      obtain ⟨gk, hgk⟩ : ∃ g, wr.heap.size = g := ⟨_, rfl⟩
      obtain ⟨wm, hwm, hbl, hl⟩ := enter1 wr (.cells #[.int .i64 0, .int .i64 1, .int .i64 2] 56)
      rw [hgk] at hl
      have HMwm := hide hl
      replace HA := hide (block_upW hbl HA.out)
      replace HB := hide (block_upW hbl HB.out)
      replace HA0 := hide (HA0.out.below hbl)
      replace HA1 := hide (HA1.out.below hbl)
      replace HT := hide (HT.out.below hbl)
      replace HW := hid_below HW hbl
      clear hbl hl
      go_wp2_with fail
      clear hwm
      go_loopw [102] (fun i wr => ∃ k : Nat, k ≤ 3 ∧ i = .int .i64 k ∧ Below wm.heap.size wm wr) (fun i _ => 3 - (intOf i).toNat)
      case atStart => exact ⟨0, by omega, rfl, Below.refl _ _⟩
      case round =>
        obtain ⟨k, hk, rfl, hbl⟩ := hrel
        by_cases hkl : k < 3
        · skip
          have hck : wr.cell? ⟨gk, k, none⟩ = some (.int .i64 (k : Int)) := by
            have h := codes_cell8 (cs := [0, 1, 2]) (block_upW hbl HMwm.out) k (by simp; omega)
            rw [h]
            rcases (show k = 0 ∨ k = 1 ∨ k = 2 by omega) with rfl | rfl | rfl <;> rfl
          have HMk := isM_of (show k ≤ 2 by omega)
          have HMh := hide HMk
          clear HMk
          have HCR := hide (cmp_rv (k : Int) V0 V1 PA HP1.out)
          have GA := HA
          have GB := HB
          have GA0 := HA0
          have GA1 := HA1
          have GT := HT
          have GW := hide hbl
          replace GA := hide (block_upW hbl GA.out)
          replace GB := hide (block_upW hbl GB.out)
          replace GA0 := hide (GA0.out.below hbl)
          replace GA1 := hide (GA1.out.below hbl)
          replace GT := hide (GT.out.below hbl)
          clear hbl
          obtain ⟨ca0, cb0, cc0⟩ := tri8 GA.out
          have C := in8_any b0 a0 d0 n0 p0 wr
          go_wp2_with fail
          refine C.mono ?_
          rintro e Q51 ⟨rfl, hb⟩
          clear C ca0 cb0 cc0
          replace GA := hide (block_upW hb GA.out)
          replace GB := hide (block_upW hb GB.out)
          replace GA0 := hide (GA0.out.below hb)
          replace GA1 := hide (GA1.out.below hb)
          replace GT := hide (GT.out.below hb)
          replace GW := hid_below GW hb
          clear hb
          have C := yround8 b0 a0 d0 n0 p0 L V0 x0 (k : Int) Q51 GT.out GA0.out HL.out HK0.out HMh.out
          rw [HPD.out] at C
          go_wp2_with fail
          refine C.mono ?_
          rintro e Q52 ⟨⟨bp, ap, lp, kp, ep, cp, rfl, hp⟩, hb⟩
          clear C
          obtain ⟨P53, hP53, hbP, hx⟩ := enter1 Q52 (.cells #[.bool bp, .slice ap lp kp, .int .i64 ep] 29)
          have stp := bl_trans8 hb hbP
          replace GA := hide (block_upW stp GA.out)
          replace GB := hide (block_upW stp GB.out)
          replace GA0 := hide (GA0.out.below stp)
          replace GA1 := hide (GA1.out.below stp)
          replace GT := hide (GT.out.below stp)
          replace GW := hid_below GW stp
          have HRp := hide (hp.below hbP)
          have Hp := hide hx
          clear hp hb hbP hx stp
          obtain ⟨ca0, cb0, cc0⟩ := tri8 GB.out
          have C := in8_any b1 a1 d1 n1 p1 P53
          go_wp2_with fail
          refine C.mono ?_
          rintro e Q54 ⟨rfl, hb⟩
          clear C ca0 cb0 cc0 hP53
          replace GA := hide (block_upW hb GA.out)
          replace GB := hide (block_upW hb GB.out)
          replace Hp := hide (block_upW hb Hp.out)
          replace GA0 := hide (GA0.out.below hb)
          replace GA1 := hide (GA1.out.below hb)
          replace GT := hide (GT.out.below hb)
          replace HRp := hide (HRp.out.below hb)
          replace GW := hid_below GW hb
          clear hb
          have C := yround8 b1 a1 d1 n1 p1 L V1 x0 (k : Int) Q54 GT.out GA1.out HL.out HK0.out HMh.out
          rw [HPD.out] at C
          go_wp2_with fail
          refine C.mono ?_
          rintro e Q55 ⟨⟨bq, aq, lq, kq, eq, cq, rfl, hp⟩, hb⟩
          clear C
          obtain ⟨P56, hP56, hbP, hx⟩ := enter1 Q55 (.cells #[.bool bq, .slice aq lq kq, .int .i64 eq] 29)
          have stp := bl_trans8 hb hbP
          replace GA := hide (block_upW stp GA.out)
          replace GB := hide (block_upW stp GB.out)
          replace Hp := hide (block_upW stp Hp.out)
          replace GA0 := hide (GA0.out.below stp)
          replace GA1 := hide (GA1.out.below stp)
          replace GT := hide (GT.out.below stp)
          replace HRp := hide (HRp.out.below stp)
          replace GW := hid_below GW stp
          have HRq := hide (hp.below hbP)
          have Hq := hide hx
          clear hp hb hbP hx stp
          have gd : Below P56.heap.size P56 P56.drew := (Below.refl _ _).drew
          replace GA := hide (block_upW gd GA.out)
          replace GB := hide (block_upW gd GB.out)
          replace Hp := hide (block_upW gd Hp.out)
          replace Hq := hide (block_upW gd Hq.out)
          replace GA0 := hide (GA0.out.below gd)
          replace GA1 := hide (GA1.out.below gd)
          replace GT := hide (GT.out.below gd)
          replace HRp := hide (HRp.out.below gd)
          replace HRq := hide (HRq.out.below gd)
          replace GW := hid_below GW gd
          clear gd
          have g0 : Below P56.drew.heap.size P56.drew P56.drew := Below.refl _ _
          have IN1 := hide (fun (W : World) => in8_any b0 a0 d0 n0 p0 W)
          have IN2 := hide (fun (W : World) => in8_any b1 a1 d1 n1 p1 W)
          have KS := hide (fun (W : World) (hg : Below P56.drew.heap.size P56.drew W) => show W.cell? ⟨w.heap.size, 0, none⟩ = some (.bool b0) ∧ W.cell? ⟨w.heap.size, 1, none⟩ = some (.slice a0 d0 n0) ∧ W.cell? ⟨w.heap.size, 2, none⟩ = some (.int .i64 p0) ∧ W.cell? ⟨w.heap.size + 1, 0, none⟩ = some (.bool b1) ∧ W.cell? ⟨w.heap.size + 1, 1, none⟩ = some (.slice a1 d1 n1) ∧ W.cell? ⟨w.heap.size + 1, 2, none⟩ = some (.int .i64 p1) from ⟨(tri8 (block_upW hg GA.out)).1, (tri8 (block_upW hg GA.out)).2.1, (tri8 (block_upW hg GA.out)).2.2, (tri8 (block_upW hg GB.out)).1, (tri8 (block_upW hg GB.out)).2.1, (tri8 (block_upW hg GB.out)).2.2⟩)
          have CM := hide (fun (W : World) (hg : Below P56.drew.heap.size P56.drew W) => ycmp8 b0 a0 d0 n0 p0 b1 a1 d1 n1 p1 L V0 V1 W HL.out (GA0.out.below hg) (GA1.out.below hg))
          go_wp2_with fail
          go_region_held3 (fun w' => w'.cell? ⟨w.heap.size, 0, none⟩ = some (.bool b0) ∧ w'.cell? ⟨w.heap.size, 1, none⟩ = some (.slice a0 d0 n0) ∧ w'.cell? ⟨w.heap.size, 2, none⟩ = some (.int .i64 p0) ∧ w'.cell? ⟨w.heap.size + 1, 0, none⟩ = some (.bool b1) ∧ w'.cell? ⟨w.heap.size + 1, 1, none⟩ = some (.slice a1 d1 n1) ∧ w'.cell? ⟨w.heap.size + 1, 2, none⟩ = some (.int .i64 p1)) (first | with_reducible exact KS.out _ g3 | with_reducible exact KS.out _ g2 | with_reducible exact KS.out _ g1 | with_reducible exact KS.out _ g0) (first
            | (go_at_call 10; refine (CM.out _ g2).mono ?_; rintro e' t3 ⟨⟨kc, cc, rfl, hkc⟩, hb3⟩; have g3 := bl_trans8 g2 hb3)
            | (go_at_call_of 22 a0; refine (IN1.out _).mono ?_; rintro e' t1 ⟨rfl, hb1⟩; have g1 := bl_trans8 g0 hb1)
            | (go_at_call_of 22 a1; refine (IN2.out _).mono ?_; rintro e' t2 ⟨rfl, hb2⟩; have g2 := bl_trans8 g1 hb2))
          have HKC := hide hkc
          clear hkc hb1 hb2 hb3 g0 g1 g2 KS CM IN1 IN2
          replace GA := hide (block_upW g3 GA.out)
          replace GB := hide (block_upW g3 GB.out)
          replace Hp := hide (block_upW g3 Hp.out)
          replace Hq := hide (block_upW g3 Hq.out)
          replace GA0 := hide (GA0.out.below g3)
          replace GA1 := hide (GA1.out.below g3)
          replace GT := hide (GT.out.below g3)
          replace HRp := hide (HRp.out.below g3)
          replace HRq := hide (HRq.out.below g3)
          replace GW := hid_below GW g3
          clear g3
          obtain ⟨U57, hU57, hst, hLb⟩ := enter1 t3 (.cells #[.int .i64 cp, .int .i64 cq, .int .i64 cc] 39)
          have AL := yall_any t3.heap.size 3 [cp, cq, cc] U57 rfl (by omega) hLb
          replace GA := hide (block_upW hst GA.out)
          replace GB := hide (block_upW hst GB.out)
          replace Hp := hide (block_upW hst Hp.out)
          replace Hq := hide (block_upW hst Hq.out)
          replace GA0 := hide (GA0.out.below hst)
          replace GA1 := hide (GA1.out.below hst)
          replace GT := hide (GT.out.below hst)
          replace HRp := hide (HRp.out.below hst)
          replace HRq := hide (HRq.out.below hst)
          replace GW := hid_below GW hst
          clear hst hLb
          by_cases hc : cp = 0 ∧ cq = 0 ∧ cc = 0
          · skip
            obtain ⟨rfl, rfl, rfl⟩ := hc
            have hyes : (([0, 0, 0] : List Int).all (· == 0)) = true := by decide
            rw [hyes] at AL
            clear hyes
            go_wp2_with fail
            refine AL.mono ?_
            rintro e wn ⟨rfl, hw⟩; rw [hw]; clear hw wn AL hU57
            have HGp := hide (HRp.out rfl)
            have HGq := hide (HRq.out rfl)
            replace HKC := hide (HKC.out (by simp))
            clear HRp HRq
            obtain ⟨ca0, cb0, cc0⟩ := tri8 Hp.out
            obtain ⟨ca1, cb1, cc1⟩ := tri8 Hq.out
            have C := ycmp8s bp ap lp kp ep bq aq lq kq eq L (rv (k : Int) V0 PA) (rv (k : Int) V1 PA) U57 HL.out HGp.out HGq.out
            have hcr := HCR.out
            rw [← HKC.out] at hcr
            generalize cmpZ (rv (k : Int) V0 PA) (rv (k : Int) V1 PA) = kd at *
            clear HKC HCR
            go_wp2_with fail
            refine C.mono ?_
            rintro e Q58 ⟨rfl, hb⟩
            clear C ca0 cb0 cc0 ca1 cb1 cc1
            replace GA := hide (block_upW hb GA.out)
            replace GB := hide (block_upW hb GB.out)
            replace Hp := hide (block_upW hb Hp.out)
            replace Hq := hide (block_upW hb Hq.out)
            replace GA0 := hide (GA0.out.below hb)
            replace GA1 := hide (GA1.out.below hb)
            replace GT := hide (GT.out.below hb)
            replace HGp := hide (HGp.out.below hb)
            replace HGq := hide (HGq.out.below hb)
            replace GW := hid_below GW hb
            clear hb
            obtain ⟨U59, hU59, hst, hLb⟩ := enter1 Q58 (.cells #[.int .i64 0] 39)
            have AL := yall_any Q58.heap.size 1 [0] U59 rfl (by omega) hLb
            replace GA := hide (block_upW hst GA.out)
            replace GB := hide (block_upW hst GB.out)
            replace Hp := hide (block_upW hst Hp.out)
            replace Hq := hide (block_upW hst Hq.out)
            replace GA0 := hide (GA0.out.below hst)
            replace GA1 := hide (GA1.out.below hst)
            replace GT := hide (GT.out.below hst)
            replace HGp := hide (HGp.out.below hst)
            replace HGq := hide (HGq.out.below hst)
            replace GW := hid_below GW hst
            clear hst hLb
            have hyes : (([0] : List Int).all (· == 0)) = true := by decide
            rw [hyes] at AL
            clear hyes
            go_wp2_with fail
            refine AL.mono ?_
            rintro e wn ⟨rfl, hw⟩; rw [hw]; clear hw wn AL hU59
            rcases hcr with ⟨rfl, rfl⟩ | ⟨rfl, rfl⟩ | ⟨rfl, rfl⟩ | ⟨rfl, rfl⟩ | ⟨rfl, rfl⟩
            · go_wp2_with fail
              go_roundw
              case rel => exact ⟨k + 1, by omega, by go_num, GW.out⟩
              case measure => simp [intOf]; omega
            · go_wp2_with fail
              go_roundw
              case rel => exact ⟨k + 1, by omega, by go_num, GW.out⟩
              case measure => simp [intOf]; omega
            · go_wp2_with fail
              go_roundw
              case rel => exact ⟨k + 1, by omega, by go_num, GW.out⟩
              case measure => simp [intOf]; omega
            · go_wp2_with fail
              go_roundw
              case rel => exact ⟨k + 1, by omega, by go_num, GW.out⟩
              case measure => simp [intOf]; omega
            · go_wp2_with fail
              go_roundw
              case rel => exact ⟨k + 1, by omega, by go_num, GW.out⟩
              case measure => simp [intOf]; omega
          · skip
            have hno : ([cp, cq, cc].all (· == 0)) = false := by
              rw [Bool.eq_false_iff]
              intro h
              simp only [List.all_cons, List.all_nil, Bool.and_true, Bool.and_eq_true, beq_iff_eq] at h
              exact hc h
            rw [hno] at AL
            clear hno
            go_wp2_with fail
            refine AL.mono ?_
            rintro e wn ⟨rfl, hw⟩; rw [hw]; clear hw wn AL hU57
            have AW := awake8_any U57 GT.out
            go_wp2_with fail
            refine AW.mono ?_
            rintro e t9 ⟨rfl, hb9⟩
            have HFIN := hide (bl_trans8 HW.out (bl_trans8 GW.out hb9))
            clear AW hb9
            go_wp2
            go_ret
            exact ⟨rfl, HFIN.out⟩
        · skip
          have AW := awake8_any wr (HT.out.below hbl)
          have HFI := hide (bl_trans8 HW.out hbl)
          obtain rfl : k = 3 := by omega
          clear hbl
          go_wp2_with fail
          refine AW.mono ?_
          rintro e t9 ⟨rfl, hb9⟩
          have HFIN := hide (bl_trans8 HFI.out hb9)
          clear AW hb9 HFI
          go_wp2
          go_ret
          exact ⟨rfl, HFIN.out⟩

set_option maxRecDepth 20000 in
set_option maxHeartbeats 16000000 in
theorem dyadicTwice_walk (b0 : Bool) (v0 : Value) (z0 : List Nat) (p0 : Int) (b1 : Bool) (v1 : Value) (z1 : List Nat) (p1 : Int) (x0 x1 : Int) (w : World) (hT : Tab w) (A0 : Arg w v0 z0) (s0 : z0.length ≤ 17592186043904) (lo0 : -9223372036854775808 ≤ p0) (hi0 : p0 ≤ 9223372036854775807) (A1 : Arg w v1 z1) (s1 : z1.length ≤ 17592186043904) (lo1 : -9223372036854775808 ≤ p1) (hi1 : p1 ≤ 9223372036854775807) (bx0 : -9223372036854775808 ≤ x0) (bx1 : x0 ≤ 9223372036854775807) (bx2 : -9223372036854775808 ≤ x1) (bx3 : x1 ≤ 9223372036854775807) :
    Calls Tryd.prog 5 #[.agg #[.bool b0, v0, .int .i64 p0], .agg #[.bool b1, v1, .int .i64 p1], .agg #[.int .i64 x0, .int .i64 x1]] w fun e w' => e = .returned (.bool true) ∧ Below w.heap.size w w' := by
  by_cases h1 : x1 < 0
  · exact twice_no1 b0 v0 z0 p0 b1 v1 z1 p1 x0 x1 w hT A0 s0 lo0 hi0 A1 s1 lo1 hi1 bx0 bx1 bx2 bx3 h1
  by_cases h2 : 1048576 < x1
  · exact twice_no2 b0 v0 z0 p0 b1 v1 z1 p1 x0 x1 w hT A0 s0 lo0 hi0 A1 s1 lo1 hi1 bx0 bx1 bx2 bx3 h2
  cases h3 : fitE x0
  · exact twice_no3 b0 v0 z0 p0 b1 v1 z1 p1 x0 x1 w hT A0 s0 lo0 hi0 A1 s1 lo1 hi1 bx0 bx1 bx2 bx3 (by omega) (by omega) h3
  cases h4 : fitE (x0 + x1)
  · exact twice_no4 b0 v0 z0 p0 b1 v1 z1 p1 x0 x1 w hT A0 s0 lo0 hi0 A1 s1 lo1 hi1 bx0 bx1 bx2 bx3 (by omega) (by omega) h3 h4
  exact twice_yes b0 v0 z0 p0 b1 v1 z1 p1 x0 x1 w hT A0 s0 lo0 hi0 A1 s1 lo1 hi1 bx0 bx1 bx2 bx3 (by omega) (by omega) h3 h4

end Go.Proofs.YtegbjdjpeblkoaaDoor
