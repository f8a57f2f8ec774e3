/- Package span: faultAt, joined, Add where nothing is refused. -/
import Derived.Test.YtgkbjoobgaldnaaDoorSpDZ
namespace Go.Proofs.YtgkbjoobgaldnaaDoor
open Go.RowKit
open Lm
attribute [local go_sem ↓] Go.wp_at_zero Go.wp_at_succ

set_option maxRecDepth 20000 in
set_option maxHeartbeats 1000000 in
theorem faultAt_ok (v : Value) (pos : Int) (w : World) (hK : fitE pos = true) (hf : Calls Tryd.prog 27 #[v] w fun e w' => e = .returned (.int .i64 0) ∧ Below w.heap.size w w') :
    Calls Tryd.prog 15 #[.int .i64 pos, v] w fun e w' => e = .returned (.int .i64 0) ∧ Below w.heap.size w w' := by
  go_enter Tryd.func15, Tryd.ntmps15
  go_wp2_with fail
  refine hf.mono ?_
  rintro e t1 ⟨rfl, g1⟩
  have C := sisPos_any pos t1 hK
  have HB := hide g1
  clear g1
  go_wp2_with fail
  refine C.mono ?_
  rintro e wn ⟨rfl, hw⟩; rw [hw]; clear hw wn C
  go_wp2
  go_ret
  exact ⟨rfl, HB.out⟩

set_option maxRecDepth 20000 in
set_option maxHeartbeats 4000000 in
theorem joined_ok (b1 : Bool) (a1 : Option Addr) (n1 k1 : Nat) (ex1 : Int) (b2 : Bool) (a2 : Option Addr) (n2 k2 : Nat) (ex2 : Int) (b3 : Bool) (a3 : Option Addr) (n3 k3 : Nat) (ex3 : Int) (b4 : Bool) (a4 : Option Addr) (n4 k4 : Nat) (ex4 : Int) (pos : Int) (L : Nat) (V1 V2 V3 V4 : Int) (w : World) (hT : Tab w) (hL : 4611686018427387904 ≤ L) (hK : fitE pos = true) (h1 : I8 w b1 a1 n1 k1 ex1 L V1) (h2 : I8 w b2 a2 n2 k2 ex2 L V2) (h3 : I8 w b3 a3 n3 k3 ex3 L V3) (h4 : I8 w b4 a4 n4 k4 ex4 L V4) (hE1 : fitE ex1 = true) (hE2 : fitE ex2 = true) (hE3 : fitE ex3 = true) (hE4 : fitE ex4 = true) (hv1 : V1 ≤ V2) (hv2 : V3 ≤ V4) (ho : Ok8 L (V1 + V3)) (ho2 : Ok8 L (V2 + V4)) (ho3 : Ok8 L (rv 0 (V1 + V3) (2 ^ (pos + L).toNat))) (ho4 : Ok8 L (rv 1 (V2 + V4) (2 ^ (pos + L).toNat))) :
    Calls Tryd.prog 10 #[.agg #[.bool b1, .slice a1 n1 k1, .int .i64 ex1, .bool b2, .slice a2 n2 k2, .int .i64 ex2], .agg #[.bool b3, .slice a3 n3 k3, .int .i64 ex3, .bool b4, .slice a4 n4 k4, .int .i64 ex4], .int .i64 pos, .func (.func 11) #[] #[]] w fun e w' => SS8 w e w' L (rv 0 (V1 + V3) (2 ^ (pos + L).toNat)) (rv 1 (V2 + V4) (2 ^ (pos + L).toNat)) := by
  obtain ⟨w0, hw0, hb0, q0, q1, q9⟩ := enter3 w (.cells #[.bool b1, .slice a1 n1 k1, .int .i64 ex1, .bool b2, .slice a2 n2 k2, .int .i64 ex2] 32) (.cells #[.bool b3, .slice a3 n3 k3, .int .i64 ex3, .bool b4, .slice a4 n4 k4, .int .i64 ex4] 32) (.cells #[.bool false, .slice none 0 0, .int .i64 0, .bool false, .slice none 0 0, .int .i64 0] 32)
  obtain ⟨w1, hw1, hb1, q2⟩ := enter1 w0 (.cells #[.bool b1, .slice a1 n1 k1, .int .i64 ex1, .bool b2, .slice a2 n2 k2, .int .i64 ex2, .bool b3, .slice a3 n3 k3, .int .i64 ex3, .bool b4, .slice a4 n4 k4, .int .i64 ex4] 32)
  obtain ⟨y0, y1, y2, y3, y4, y5⟩ := hexa q0
  obtain ⟨z0, z1, z2, z3, z4, z5⟩ := hexa q1
  have gb := bl_trans8 hb0 hb1
  have CF := faultAt_ok (.slice (some ⟨w0.heap.size, 0, none⟩) 2 2) pos w1 hK (fault2_ok w0.heap.size b1 a1 n1 k1 ex1 b2 a2 n2 k2 ex2 b3 a3 n3 k3 ex3 b4 a4 n4 k4 ex4 L V1 V2 V3 V4 w1 q2 hL (h1.below gb) (h2.below gb) (h3.below gb) (h4.below gb) hE1 hE2 hE3 hE4 hv1 hv2)
  have CS := hide (fun (W : World) (hg : Below w.heap.size w W) => sums_ok b1 a1 n1 k1 ex1 b2 a2 n2 k2 ex2 b3 a3 n3 k3 ex3 b4 a4 n4 k4 ex4 L V1 V2 V3 V4 W (hT.below hg) (h1.below hg) (h2.below hg) (h3.below hg) (h4.below hg) hE1 hE2 hE3 hE4 ho ho2)
  have CO := hide (fun (W : World) (hg : Below w.heap.size w W) (b1 : Bool) (a1 : Option Addr) (n1 k1 : Nat) (ex1 : Int) (b3 : Bool) (a3 : Option Addr) (n3 k3 : Nat) (ex3 : Int) (h1 : G8 W b1 a1 n1 k1 ex1 L (V1 + V3)) (h3 : G8 W b3 a3 n3 k3 ex3 L (V2 + V4)) => outwardOf_ok b1 a1 n1 k1 ex1 b3 a3 n3 k3 ex3 pos L (V1 + V3) (V2 + V4) W (hT.below hg) h1 h3 hL hK ho3 ho4)
  have HU1 := hide gb
  have HQ0 := hide (block_upW hb1 q0)
  have HQ1 := hide (block_upW hb1 q1)
  have HR1 : Hid (w1.heap[w.heap.size + 1 + 1]? = some (.cells #[.bool false, .slice none 0 0, .int .i64 0, .bool false, .slice none 0 0, .int .i64 0] 32)) := hide (block_upW hb1 q9)
  generalize rv 0 (V1 + V3) (2 ^ (pos + L).toNat) = VC at *
  generalize rv 1 (V2 + V4) (2 ^ (pos + L).toNat) = VD at *
  generalize V1 + V3 = VA at *
  generalize V2 + V4 = VB at *
  clear q0 q1 q2 q9 hb0 hb1 gb hT h1 h2 h3 h4 ho ho2 ho3 ho4 hv1 hv2
  go_enter Tryd.func10, Tryd.ntmps10
  go_wp2_with fail
  refine CF.mono ?_
  rintro e t2 ⟨rfl, g2⟩
  have HU2 := hide (bl_trans8 HU1.out g2)
  have HR2 := hide (block_upW g2 HR1.out)
  have C := CS.out t2 HU2.out
  clear y0 y1 y2 y3 y4 y5 z0 z1 z2 z3 z4 z5 CF hw0 hw1
  obtain ⟨y0, y1, y2, y3, y4, y5⟩ := hexa (block_upW g2 HQ0.out)
  obtain ⟨z0, z1, z2, z3, z4, z5⟩ := hexa (block_upW g2 HQ1.out)
  clear g2
  go_wp2_with fail
  refine C.mono ?_
  rintro e t3 ⟨⟨b8, a8, n8, c8, e8, b9, a9, n9, c9, e9, rfl, hg1, hg2⟩, g3⟩
  obtain ⟨w4, hw4, hb4, q4⟩ := enter1 t3 (.cells #[.bool b8, .slice a8 n8 c8, .int .i64 e8, .bool b9, .slice a9 n9 c9, .int .i64 e9] 32)
  have s4 := bl_trans8 g3 hb4
  have HU0 := hide (bl_trans8 HU2.out s4)
  have HR0 := hide (block_upW s4 HR2.out)
  have C4 := CO.out w4 HU0.out b8 a8 n8 c8 e8 b9 a9 n9 c9 e9 (hg1.below hb4) (hg2.below hb4)
  clear y0 y1 y2 y3 y4 y5 z0 z1 z2 z3 z4 z5 C g3 hg1 hg2 hb4 s4
  obtain ⟨x0, x1, x2, x3, x4, x5⟩ := hexa q4
  clear q4
  have C := C4
  clear C4
  go_wp2_with fail
  refine C.mono ?_
  rintro e t1 ⟨⟨b6, a6, n6, c6, e6, b7, a7, n7, c7, e7, rfl, hg1, hg2⟩, g1⟩
  have HC1 := hide (block_upW g1 HR0.out)
  have HG := hide (bl_trans8 HU0.out g1)
  have HD1 := hide hg1
  have HD2 := hide hg2
  have hf1 := hexaf HC1.out
  obtain ⟨m0, m1, m2, m3, m4, m5⟩ := hexa HC1.out
  clear g1 hg1 hg2 C
  go_wp2
  have T3 := hexa_all HC1.out (.bool b6) (.slice a6 n6 c6) (.int .i64 e6) (.bool b7) (.slice a7 n7 c7) (.int .i64 e7)
  have T4 := below_hexa HG.out (show w.heap.size ≤ w.heap.size+1+1 by omega) (.bool b6) (.slice a6 n6 c6) (.int .i64 e6) (.bool b7) (.slice a7 n7 c7) (.int .i64 e7)
  have T5 := HD1.out.hexa HC1.out b6 a6 n6 c6 e6 b7 a7 n7 c7 e7
  have T6 := HD2.out.hexa HC1.out b6 a6 n6 c6 e6 b7 a7 n7 c7 e7
  obtain ⟨p0, p1, p2, p3, p4, p5⟩ := hexa T3
  have HE := hide (And.intro T5 (And.intro T6 T4))
  clear T3 T4 T5 T6
  generalize (((((t1.setCell ⟨w.heap.size+1+1, 0, none⟩ (.bool b6)).setCell ⟨w.heap.size+1+1, 1, none⟩ (.slice a6 n6 c6)).setCell ⟨w.heap.size+1+1, 2, none⟩ (.int .i64 e6)).setCell ⟨w.heap.size+1+1, 3, none⟩ (.bool b7)).setCell ⟨w.heap.size+1+1, 4, none⟩ (.slice a7 n7 c7)).setCell ⟨w.heap.size+1+1, 5, none⟩ (.int .i64 e7) = w5 at *
  refine bodyPost_ret (v := .tuple #[.agg #[.bool b6, .slice a6 n6 c6, .int .i64 e6, .bool b7, .slice a7 n7 c7, .int .i64 e7], .int .i64 0]) (by simp [results, Tryd.results10, go_sem, p0, p1, p2, p3, p4, p5]) rfl ?_
  exact ⟨⟨_, _, _, _, _, _, _, _, _, _, rfl, HE.out.1, HE.out.2.1⟩, HE.out.2.2⟩

set_option maxRecDepth 20000 in
set_option maxHeartbeats 2000000 in
theorem sadd_ok (b1 : Bool) (a1 : Option Addr) (n1 k1 : Nat) (ex1 : Int) (b2 : Bool) (a2 : Option Addr) (n2 k2 : Nat) (ex2 : Int) (b3 : Bool) (a3 : Option Addr) (n3 k3 : Nat) (ex3 : Int) (b4 : Bool) (a4 : Option Addr) (n4 k4 : Nat) (ex4 : Int) (pos : Int) (L : Nat) (V1 V2 V3 V4 : Int) (w : World) (hT : Tab w) (hL : 4611686018427387904 ≤ L) (hK : fitE pos = true) (h1 : I8 w b1 a1 n1 k1 ex1 L V1) (h2 : I8 w b2 a2 n2 k2 ex2 L V2) (h3 : I8 w b3 a3 n3 k3 ex3 L V3) (h4 : I8 w b4 a4 n4 k4 ex4 L V4) (hE1 : fitE ex1 = true) (hE2 : fitE ex2 = true) (hE3 : fitE ex3 = true) (hE4 : fitE ex4 = true) (hv1 : V1 ≤ V2) (hv2 : V3 ≤ V4) (ho : Ok8 L (V1 + V3)) (ho2 : Ok8 L (V2 + V4)) (ho3 : Ok8 L (rv 0 (V1 + V3) (2 ^ (pos + L).toNat))) (ho4 : Ok8 L (rv 1 (V2 + V4) (2 ^ (pos + L).toNat))) :
    Calls Tryd.prog 6 #[.agg #[.bool b1, .slice a1 n1 k1, .int .i64 ex1, .bool b2, .slice a2 n2 k2, .int .i64 ex2], .agg #[.bool b3, .slice a3 n3 k3, .int .i64 ex3, .bool b4, .slice a4 n4 k4, .int .i64 ex4], .int .i64 pos] w fun e w' => SS8 w e w' L (rv 0 (V1 + V3) (2 ^ (pos + L).toNat)) (rv 1 (V2 + V4) (2 ^ (pos + L).toNat)) := by
  obtain ⟨w0, hw0, hb0, q0, q1, q9⟩ := enter3 w (.cells #[.bool b1, .slice a1 n1 k1, .int .i64 ex1, .bool b2, .slice a2 n2 k2, .int .i64 ex2] 32) (.cells #[.bool b3, .slice a3 n3 k3, .int .i64 ex3, .bool b4, .slice a4 n4 k4, .int .i64 ex4] 32) (.cells #[.bool false, .slice none 0 0, .int .i64 0, .bool false, .slice none 0 0, .int .i64 0] 32)
  obtain ⟨y0, y1, y2, y3, y4, y5⟩ := hexa q0
  obtain ⟨z0, z1, z2, z3, z4, z5⟩ := hexa q1
  have C := joined_ok b1 a1 n1 k1 ex1 b2 a2 n2 k2 ex2 b3 a3 n3 k3 ex3 b4 a4 n4 k4 ex4 pos L V1 V2 V3 V4 w0 (hT.below hb0) hL hK (h1.below hb0) (h2.below hb0) (h3.below hb0) (h4.below hb0) hE1 hE2 hE3 hE4 hv1 hv2 ho ho2 ho3 ho4
  have HU0 := hide hb0
  have HR0 : Hid (w0.heap[w.heap.size + 1 + 1]? = some (.cells #[.bool false, .slice none 0 0, .int .i64 0, .bool false, .slice none 0 0, .int .i64 0] 32)) := hide q9
  generalize rv 0 (V1 + V3) (2 ^ (pos + L).toNat) = VC at *
  generalize rv 1 (V2 + V4) (2 ^ (pos + L).toNat) = VD at *
  clear q0 q1 q9 hb0 hT h1 h2 h3 h4 ho ho2 ho3 ho4 hv1 hv2
  go_enter Tryd.func6, Tryd.ntmps6
  go_wp2_with fail
  refine C.mono ?_
  rintro e t1 ⟨⟨b6, a6, n6, c6, e6, b7, a7, n7, c7, e7, rfl, hg1, hg2⟩, g1⟩
  have HC1 := hide (block_upW g1 HR0.out)
  have HG := hide (bl_trans8 HU0.out g1)
  have HD1 := hide hg1
  have HD2 := hide hg2
  have hf1 := hexaf HC1.out
  obtain ⟨m0, m1, m2, m3, m4, m5⟩ := hexa HC1.out
  clear g1 hg1 hg2 C
  go_wp2
  have T3 := hexa_all HC1.out (.bool b6) (.slice a6 n6 c6) (.int .i64 e6) (.bool b7) (.slice a7 n7 c7) (.int .i64 e7)
  have T4 := below_hexa HG.out (show w.heap.size ≤ w.heap.size+1+1 by omega) (.bool b6) (.slice a6 n6 c6) (.int .i64 e6) (.bool b7) (.slice a7 n7 c7) (.int .i64 e7)
  have T5 := HD1.out.hexa HC1.out b6 a6 n6 c6 e6 b7 a7 n7 c7 e7
  have T6 := HD2.out.hexa HC1.out b6 a6 n6 c6 e6 b7 a7 n7 c7 e7
  obtain ⟨p0, p1, p2, p3, p4, p5⟩ := hexa T3
  have HE := hide (And.intro T5 (And.intro T6 T4))
  clear T3 T4 T5 T6
  generalize (((((t1.setCell ⟨w.heap.size+1+1, 0, none⟩ (.bool b6)).setCell ⟨w.heap.size+1+1, 1, none⟩ (.slice a6 n6 c6)).setCell ⟨w.heap.size+1+1, 2, none⟩ (.int .i64 e6)).setCell ⟨w.heap.size+1+1, 3, none⟩ (.bool b7)).setCell ⟨w.heap.size+1+1, 4, none⟩ (.slice a7 n7 c7)).setCell ⟨w.heap.size+1+1, 5, none⟩ (.int .i64 e7) = w5 at *
  refine bodyPost_ret (v := .tuple #[.agg #[.bool b6, .slice a6 n6 c6, .int .i64 e6, .bool b7, .slice a7 n7 c7, .int .i64 e7], .int .i64 0]) (by simp [results, Tryd.results6, go_sem, p0, p1, p2, p3, p4, p5]) rfl ?_
  exact ⟨⟨_, _, _, _, _, _, _, _, _, _, rfl, HE.out.1, HE.out.2.1⟩, HE.out.2.2⟩

/-- A small whole number may be answered. -/
theorem ok_small (k L : Nat) (h : k < 9223372036854775808) : Ok8 L ((k : Int) * 2 ^ L) := by
  have hr : Rp L (k : Int) 0 ((k : Int) * 2 ^ L) := ⟨by omega, by rw [show ((0 : Int) + (L : Int)).toNat = L by omega]⟩
  have hb : blen (k : Int).natAbs ≤ 64 := (blen_le_iff _ _).2 (by rw [Int.natAbs_natCast]; omega)
  have ht := tl_le (k : Int).natAbs
  refine ⟨omz k, oe k 0, hr.norm, nr8_of _ _, ?_, ?_⟩
  · have := blen_mono (od_le (k : Int).natAbs)
    rw [omz_abs]; omega
  · rw [fitE_iff]; unfold oe; split <;> omega

theorem rv_small (m : Int) (k L : Nat) : rv m ((k : Int) * 2 ^ L) (2 ^ ((0 : Int) + (L : Int)).toNat) = (k : Int) * 2 ^ L := by
  rw [show ((0 : Int) + (L : Int)).toNat = L by omega]
  refine rv_mult (Nat.two_pow_pos _) ?_
  rw [Int.natCast_pow]
  exact Int.mul_emod_left _ _

end Go.Proofs.YtgkbjoobgaldnaaDoor
