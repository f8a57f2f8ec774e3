/- The walk of the law DyadicOwn. -/
import Derived.Test.YtegbjdjpeblkoabGreatDoorDyOxZ
namespace Go.Proofs.YtegbjdjpeblkoabGreatDoor
open Go.RowKit
open Lm
attribute [local go_sem ↓] Go.wp_at_zero Go.wp_at_succ

set_option maxRecDepth 20000 in
set_option maxHeartbeats 16000000 in
theorem own8_ff (b0 : Bool) (v0 : Value) (z0 : List Nat) (p0 : Int) (b1 : Bool) (v1 : Value) (z1 : List Nat) (p1 : Int) (pos : Int) (w : World) (hT : Tab w) (A0 : Arg w v0 z0) (_ : z0.length ≤ 1048576) (_ : -9223372036854775808 ≤ p0) (_ : p0 ≤ 9223372036854775807) (A1 : Arg w v1 z1) (_ : z1.length ≤ 1048576) (_ : -9223372036854775808 ≤ p1) (_ : p1 ≤ 9223372036854775807) (_ : -9223372036854775808 ≤ pos) (_ : pos ≤ 9223372036854775807) (hE0 : fitE p0 = false) (hE1 : fitE p1 = false) :
    Calls Tryz.prog 3 #[.agg #[.bool b0, v0, .int .i64 p0], .agg #[.bool b1, v1, .int .i64 p1], .int .i64 pos] w fun e w' => e = .returned (.bool true) ∧ Below w.heap.size w w' := by
  obtain ⟨a0, n0, rfl, _, _, _⟩ := A0.form
  obtain ⟨a1, n1, rfl, _, _, _⟩ := A1.form
  obtain ⟨w0, hw0, hb0, h0, h1⟩ := enter2 w (.cells #[.bool b0, .slice a0 z0.length n0, .int .i64 p0] 24) (.cells #[.bool b1, .slice a1 z1.length n1, .int .i64 p1] 24)
  have HA := hide h0
  have HB := hide h1
  have HA0 := hide (A0.below hb0)
  have HA1 := hide (A1.below hb0)
  have HT := hide (hT.below hb0)
  have HW := hide hb0
  have HLM := hide A0.limbs
  clear hT hb0 h0 h1
  clear A0 A1 HLM
  go_enter Tryz.func3, Tryz.ntmps3
  obtain ⟨ca0, cb0, cc0⟩ := tri8 HA.out
  have C := of8_no b0 a0 z0.length n0 p0 w0 hE0
  go_wp2_with fail
  refine C.mono ?_
  rintro e Q1 ⟨he, hb⟩
  clear C ca0 cb0 cc0 hw0
  obtain ⟨bm, am, lm, km, em, rfl, hq⟩ : ∃ b a n k ex, e = .returned (.tuple #[.agg #[.bool b, .slice a n k, .int .i64 ex], .bool false]) ∧ (b = false ∧ a = none ∧ n = 0 ∧ k = 0 ∧ ex = 0) := ⟨_, _, _, _, _, he, rfl, rfl, rfl, rfl, rfl⟩
  clear he hq
  obtain ⟨P2, hP2, hbP, hx⟩ := enter1 Q1 (.cells #[.bool bm, .slice am lm km, .int .i64 em] 29)
  have stp := bl_trans8 hb hbP
  replace HA := hide (block_upW stp HA.out)
  replace HB := hide (block_upW stp HB.out)
  replace HA0 := hide (HA0.out.below stp)
  replace HA1 := hide (HA1.out.below stp)
  replace HT := hide (HT.out.below stp)
  replace HW := hid_below HW stp
  have Hm := hide hx
  clear hb hbP hx stp
  obtain ⟨ca0, cb0, cc0⟩ := tri8 HB.out
  have C := of8_no b1 a1 z1.length n1 p1 P2 hE1
  go_wp2_with fail
  refine C.mono ?_
  rintro e Q3 ⟨he, hb⟩
  clear C ca0 cb0 cc0 hP2
  obtain ⟨bn, an, ln, kn, en, rfl, hq⟩ : ∃ b a n k ex, e = .returned (.tuple #[.agg #[.bool b, .slice a n k, .int .i64 ex], .bool false]) ∧ (b = false ∧ a = none ∧ n = 0 ∧ k = 0 ∧ ex = 0) := ⟨_, _, _, _, _, he, rfl, rfl, rfl, rfl, rfl⟩
  clear he hq
  obtain ⟨P4, hP4, hbP, hx⟩ := enter1 Q3 (.cells #[.bool bn, .slice an ln kn, .int .i64 en] 29)
  have stp := bl_trans8 hb hbP
  replace HA := hide (block_upW stp HA.out)
  replace HB := hide (block_upW stp HB.out)
  replace Hm := hide (block_upW stp Hm.out)
  replace HA0 := hide (HA0.out.below stp)
  replace HA1 := hide (HA1.out.below stp)
  replace HT := hide (HT.out.below stp)
  replace HW := hid_below HW stp
  have Hn := hide hx
  clear hb hbP hx stp
  have AW := awake8_any P4 HT.out
  go_wp2_with fail
  refine AW.mono ?_
  rintro e t9 ⟨rfl, hb9⟩
  have HFIN := hide (bl_trans8 HW.out hb9)
  clear AW hb9
  go_wp2
  go_ret
  exact ⟨rfl, HFIN.out⟩

set_option maxRecDepth 20000 in
set_option maxHeartbeats 16000000 in
theorem own8_ft (b0 : Bool) (v0 : Value) (z0 : List Nat) (p0 : Int) (b1 : Bool) (v1 : Value) (z1 : List Nat) (p1 : Int) (pos : Int) (w : World) (hT : Tab w) (A0 : Arg w v0 z0) (_ : z0.length ≤ 1048576) (_ : -9223372036854775808 ≤ p0) (_ : p0 ≤ 9223372036854775807) (A1 : Arg w v1 z1) (_ : z1.length ≤ 1048576) (_ : -9223372036854775808 ≤ p1) (_ : p1 ≤ 9223372036854775807) (_ : -9223372036854775808 ≤ pos) (_ : pos ≤ 9223372036854775807) (hE0 : fitE p0 = false) (hE1 : fitE p1 = true) :
    Calls Tryz.prog 3 #[.agg #[.bool b0, v0, .int .i64 p0], .agg #[.bool b1, v1, .int .i64 p1], .int .i64 pos] w fun e w' => e = .returned (.bool true) ∧ Below w.heap.size w w' := by
  obtain ⟨a0, n0, rfl, _, _, _⟩ := A0.form
  obtain ⟨a1, n1, rfl, _, _, _⟩ := A1.form
  obtain ⟨w0, hw0, hb0, h0, h1⟩ := enter2 w (.cells #[.bool b0, .slice a0 z0.length n0, .int .i64 p0] 24) (.cells #[.bool b1, .slice a1 z1.length n1, .int .i64 p1] 24)
  have HA := hide h0
  have HB := hide h1
  have HA0 := hide (A0.below hb0)
  have HA1 := hide (A1.below hb0)
  have HT := hide (hT.below hb0)
  have HW := hide hb0
  have HLM := hide A0.limbs
  clear hT hb0 h0 h1
  clear A0 A1 HLM
  go_enter Tryz.func3, Tryz.ntmps3
  obtain ⟨ca0, cb0, cc0⟩ := tri8 HA.out
  have C := of8_no b0 a0 z0.length n0 p0 w0 hE0
  go_wp2_with fail
  refine C.mono ?_
  rintro e Q1 ⟨he, hb⟩
  clear C ca0 cb0 cc0 hw0
  obtain ⟨bm, am, lm, km, em, rfl, hq⟩ : ∃ b a n k ex, e = .returned (.tuple #[.agg #[.bool b, .slice a n k, .int .i64 ex], .bool false]) ∧ (b = false ∧ a = none ∧ n = 0 ∧ k = 0 ∧ ex = 0) := ⟨_, _, _, _, _, he, rfl, rfl, rfl, rfl, rfl⟩
  clear he hq
  obtain ⟨P2, hP2, hbP, hx⟩ := enter1 Q1 (.cells #[.bool bm, .slice am lm km, .int .i64 em] 29)
  have stp := bl_trans8 hb hbP
  replace HA := hide (block_upW stp HA.out)
  replace HB := hide (block_upW stp HB.out)
  replace HA0 := hide (HA0.out.below stp)
  replace HA1 := hide (HA1.out.below stp)
  replace HT := hide (HT.out.below stp)
  replace HW := hid_below HW stp
  have Hm := hide hx
  clear hb hbP hx stp
  obtain ⟨ca0, cb0, cc0⟩ := tri8 HB.out
  have C := of8_ok b1 a1 n1 z1 p1 P2 HA1.out (by omega) hE1
  go_wp2_with fail
  refine C.mono ?_
  rintro e Q3 ⟨⟨bn, an, ln, kn, rfl, hd⟩, hb⟩
  clear C ca0 cb0 cc0 hP2
  clear hd
  obtain ⟨P4, hP4, hbP, hx⟩ := enter1 Q3 (.cells #[.bool bn, .slice an ln kn, .int .i64 (oe (zz b1 (val z1)) p1)] 29)
  have stp := bl_trans8 hb hbP
  replace HA := hide (block_upW stp HA.out)
  replace HB := hide (block_upW stp HB.out)
  replace Hm := hide (block_upW stp Hm.out)
  replace HA0 := hide (HA0.out.below stp)
  replace HA1 := hide (HA1.out.below stp)
  replace HT := hide (HT.out.below stp)
  replace HW := hid_below HW stp
  have Hn := hide hx
  clear hb hbP hx stp
  have AW := awake8_any P4 HT.out
  go_wp2_with fail
  refine AW.mono ?_
  rintro e t9 ⟨rfl, hb9⟩
  have HFIN := hide (bl_trans8 HW.out hb9)
  clear AW hb9
  go_wp2
  go_ret
  exact ⟨rfl, HFIN.out⟩

set_option maxRecDepth 20000 in
set_option maxHeartbeats 16000000 in
theorem own8_tf (b0 : Bool) (v0 : Value) (z0 : List Nat) (p0 : Int) (b1 : Bool) (v1 : Value) (z1 : List Nat) (p1 : Int) (pos : Int) (w : World) (hT : Tab w) (A0 : Arg w v0 z0) (_ : z0.length ≤ 1048576) (_ : -9223372036854775808 ≤ p0) (_ : p0 ≤ 9223372036854775807) (A1 : Arg w v1 z1) (_ : z1.length ≤ 1048576) (_ : -9223372036854775808 ≤ p1) (_ : p1 ≤ 9223372036854775807) (_ : -9223372036854775808 ≤ pos) (_ : pos ≤ 9223372036854775807) (hE0 : fitE p0 = true) (hE1 : fitE p1 = false) :
    Calls Tryz.prog 3 #[.agg #[.bool b0, v0, .int .i64 p0], .agg #[.bool b1, v1, .int .i64 p1], .int .i64 pos] w fun e w' => e = .returned (.bool true) ∧ Below w.heap.size w w' := by
  obtain ⟨a0, n0, rfl, _, _, _⟩ := A0.form
  obtain ⟨a1, n1, rfl, _, _, _⟩ := A1.form
  obtain ⟨w0, hw0, hb0, h0, h1⟩ := enter2 w (.cells #[.bool b0, .slice a0 z0.length n0, .int .i64 p0] 24) (.cells #[.bool b1, .slice a1 z1.length n1, .int .i64 p1] 24)
  have HA := hide h0
  have HB := hide h1
  have HA0 := hide (A0.below hb0)
  have HA1 := hide (A1.below hb0)
  have HT := hide (hT.below hb0)
  have HW := hide hb0
  have HLM := hide A0.limbs
  clear hT hb0 h0 h1
  clear A0 A1 HLM
  go_enter Tryz.func3, Tryz.ntmps3
  obtain ⟨ca0, cb0, cc0⟩ := tri8 HA.out
  have C := of8_ok b0 a0 n0 z0 p0 w0 HA0.out (by omega) hE0
  go_wp2_with fail
  refine C.mono ?_
  rintro e Q1 ⟨⟨bm, am, lm, km, rfl, hd⟩, hb⟩
  clear C ca0 cb0 cc0 hw0
  clear hd
  obtain ⟨P2, hP2, hbP, hx⟩ := enter1 Q1 (.cells #[.bool bm, .slice am lm km, .int .i64 (oe (zz b0 (val z0)) p0)] 29)
  have stp := bl_trans8 hb hbP
  replace HA := hide (block_upW stp HA.out)
  replace HB := hide (block_upW stp HB.out)
  replace HA0 := hide (HA0.out.below stp)
  replace HA1 := hide (HA1.out.below stp)
  replace HT := hide (HT.out.below stp)
  replace HW := hid_below HW stp
  have Hm := hide hx
  clear hb hbP hx stp
  obtain ⟨ca0, cb0, cc0⟩ := tri8 HB.out
  have C := of8_no b1 a1 z1.length n1 p1 P2 hE1
  go_wp2_with fail
  refine C.mono ?_
  rintro e Q3 ⟨he, hb⟩
  clear C ca0 cb0 cc0 hP2
  obtain ⟨bn, an, ln, kn, en, rfl, hq⟩ : ∃ b a n k ex, e = .returned (.tuple #[.agg #[.bool b, .slice a n k, .int .i64 ex], .bool false]) ∧ (b = false ∧ a = none ∧ n = 0 ∧ k = 0 ∧ ex = 0) := ⟨_, _, _, _, _, he, rfl, rfl, rfl, rfl, rfl⟩
  clear he hq
  obtain ⟨P4, hP4, hbP, hx⟩ := enter1 Q3 (.cells #[.bool bn, .slice an ln kn, .int .i64 en] 29)
  have stp := bl_trans8 hb hbP
  replace HA := hide (block_upW stp HA.out)
  replace HB := hide (block_upW stp HB.out)
  replace Hm := hide (block_upW stp Hm.out)
  replace HA0 := hide (HA0.out.below stp)
  replace HA1 := hide (HA1.out.below stp)
  replace HT := hide (HT.out.below stp)
  replace HW := hid_below HW stp
  have Hn := hide hx
  clear hb hbP hx stp
  have AW := awake8_any P4 HT.out
  go_wp2_with fail
  refine AW.mono ?_
  rintro e t9 ⟨rfl, hb9⟩
  have HFIN := hide (bl_trans8 HW.out hb9)
  clear AW hb9
  go_wp2
  go_ret
  exact ⟨rfl, HFIN.out⟩

set_option maxRecDepth 20000 in
set_option maxHeartbeats 16000000 in
theorem own8_no (b0 : Bool) (v0 : Value) (z0 : List Nat) (p0 : Int) (b1 : Bool) (v1 : Value) (z1 : List Nat) (p1 : Int) (pos : Int) (w : World) (hT : Tab w) (A0 : Arg w v0 z0) (_ : z0.length ≤ 1048576) (_ : -9223372036854775808 ≤ p0) (_ : p0 ≤ 9223372036854775807) (A1 : Arg w v1 z1) (_ : z1.length ≤ 1048576) (_ : -9223372036854775808 ≤ p1) (_ : p1 ≤ 9223372036854775807) (_ : -9223372036854775808 ≤ pos) (_ : pos ≤ 9223372036854775807) (hE0 : fitE p0 = true) (hE1 : fitE p1 = true) (hK : fitE pos = false) :
    Calls Tryz.prog 3 #[.agg #[.bool b0, v0, .int .i64 p0], .agg #[.bool b1, v1, .int .i64 p1], .int .i64 pos] w fun e w' => e = .returned (.bool true) ∧ Below w.heap.size w w' := by
  obtain ⟨a0, n0, rfl, _, _, _⟩ := A0.form
  obtain ⟨a1, n1, rfl, _, _, _⟩ := A1.form
  obtain ⟨w0, hw0, hb0, h0, h1⟩ := enter2 w (.cells #[.bool b0, .slice a0 z0.length n0, .int .i64 p0] 24) (.cells #[.bool b1, .slice a1 z1.length n1, .int .i64 p1] 24)
  have HA := hide h0
  have HB := hide h1
  have HA0 := hide (A0.below hb0)
  have HA1 := hide (A1.below hb0)
  have HT := hide (hT.below hb0)
  have HW := hide hb0
  have HLM := hide A0.limbs
  clear hT hb0 h0 h1
  clear A0 A1 HLM
  go_enter Tryz.func3, Tryz.ntmps3
  obtain ⟨ca0, cb0, cc0⟩ := tri8 HA.out
  have C := of8_ok b0 a0 n0 z0 p0 w0 HA0.out (by omega) hE0
  go_wp2_with fail
  refine C.mono ?_
  rintro e Q1 ⟨⟨bm, am, lm, km, rfl, hd⟩, hb⟩
  clear C ca0 cb0 cc0 hw0
  clear hd
  obtain ⟨P2, hP2, hbP, hx⟩ := enter1 Q1 (.cells #[.bool bm, .slice am lm km, .int .i64 (oe (zz b0 (val z0)) p0)] 29)
  have stp := bl_trans8 hb hbP
  replace HA := hide (block_upW stp HA.out)
  replace HB := hide (block_upW stp HB.out)
  replace HA0 := hide (HA0.out.below stp)
  replace HA1 := hide (HA1.out.below stp)
  replace HT := hide (HT.out.below stp)
  replace HW := hid_below HW stp
  have Hm := hide hx
  clear hb hbP hx stp
  obtain ⟨ca0, cb0, cc0⟩ := tri8 HB.out
  have C := of8_ok b1 a1 n1 z1 p1 P2 HA1.out (by omega) hE1
  go_wp2_with fail
  refine C.mono ?_
  rintro e Q3 ⟨⟨bn, an, ln, kn, rfl, hd⟩, hb⟩
  clear C ca0 cb0 cc0 hP2
  clear hd
  obtain ⟨P4, hP4, hbP, hx⟩ := enter1 Q3 (.cells #[.bool bn, .slice an ln kn, .int .i64 (oe (zz b1 (val z1)) p1)] 29)
  have stp := bl_trans8 hb hbP
  replace HA := hide (block_upW stp HA.out)
  replace HB := hide (block_upW stp HB.out)
  replace Hm := hide (block_upW stp Hm.out)
  replace HA0 := hide (HA0.out.below stp)
  replace HA1 := hide (HA1.out.below stp)
  replace HT := hide (HT.out.below stp)
  replace HW := hid_below HW stp
  have Hn := hide hx
  clear hb hbP hx stp
  have HF := fit8_any pos P4
  rw [hK] at HF
  go_wp2_with fail
  refine HF.mono ?_
  rintro e wn ⟨rfl, hw⟩; rw [hw]; clear hw wn HF hP4
  have AW := awake8_any P4 HT.out
  go_wp2_with fail
  refine AW.mono ?_
  rintro e t9 ⟨rfl, hb9⟩
  have HFIN := hide (bl_trans8 HW.out hb9)
  clear AW hb9
  go_wp2
  go_ret
  exact ⟨rfl, HFIN.out⟩

end Go.Proofs.YtegbjdjpeblkoabGreatDoor
