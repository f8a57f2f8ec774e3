/- Package span: outward, sums; fault and faultAt of two spans that mean something; joined, Add: where nothing is refused. -/
import Derived.Test.YtgkbjoobgaldnaaDoorSpCZ
namespace Go.Proofs.YtgkbjoobgaldnaaDoor
open Go.RowKit
open Lm
attribute [local go_sem ↓] Go.wp_at_zero Go.wp_at_succ

set_option maxRecDepth 20000 in
set_option maxHeartbeats 2000000 in
theorem outward_ok (b1 : Bool) (a1 : Option Addr) (n1 k1 : Nat) (ex1 : Int) (b3 : Bool) (a3 : Option Addr) (n3 k3 : Nat) (ex3 : Int) (pos : Int) (L : Nat) (V1 V3 : Int) (w : World) (hT : Tab w) (h1 : G8 w b1 a1 n1 k1 ex1 L V1) (h3 : G8 w b3 a3 n3 k3 ex3 L V3) (hL : 4611686018427387904 ≤ L) (hK : fitE pos = true) (ho : Ok8 L (rv 0 V1 (2 ^ (pos + L).toNat))) (ho2 : Ok8 L (rv 1 V3 (2 ^ (pos + L).toNat))) :
    Calls Tryd.prog 29 #[.agg #[.bool b1, .slice a1 n1 k1, .int .i64 ex1, .bool b3, .slice a3 n3 k3, .int .i64 ex3], .int .i64 pos] w fun e w' => SS8 w e w' L (rv 0 V1 (2 ^ (pos + L).toNat)) (rv 1 V3 (2 ^ (pos + L).toNat)) := by
  obtain ⟨w0, hw0, hb0, q0, q1, q9⟩ := enter3 w (.cells #[.bool b1, .slice a1 n1 k1, .int .i64 ex1, .bool b3, .slice a3 n3 k3, .int .i64 ex3] 32) (.cells #[.int .i64 pos] 3) (.cells #[.bool false, .slice none 0 0, .int .i64 0, .bool false, .slice none 0 0, .int .i64 0] 32)
  obtain ⟨y0, y1, y2, y3, y4, y5⟩ := hexa q0
  have C := byD (w.heap.size + 1) pos b1 a1 n1 k1 ex1 b3 a3 n3 k3 ex3 L V1 V3 w0 q1 (hT.below hb0) (h1.below hb0) (h3.below hb0) hL hK ho ho2
  have HU0 := hide hb0
  have HR0 : Hid (w0.heap[w.heap.size + 1 + 1]? = some (.cells #[.bool false, .slice none 0 0, .int .i64 0, .bool false, .slice none 0 0, .int .i64 0] 32)) := hide q9
  generalize rv 0 V1 (2 ^ (pos + L).toNat) = VA at *
  generalize rv 1 V3 (2 ^ (pos + L).toNat) = VB at *
  clear q0 q1 q9 hb0 hT h1 h3 ho ho2
  go_enter Tryd.func29, Tryd.ntmps29
  go_wp2_with fail
  refine C.mono ?_
  rintro e t1 ⟨⟨b6, a6, n6, c6, e6, b7, a7, n7, c7, e7, rfl, hg1, hg2⟩, g1⟩
  have HC1 := hide (block_upW g1 HR0.out)
  have HG := hide (bl_trans8 HU0.out g1)
  have HD1 := hide hg1
  have HD2 := hide hg2
  have hf1 := hexaf HC1.out
  obtain ⟨m0, m1, m2, m3, m4, m5⟩ := hexa HC1.out
  clear g1 hg1 hg2 C
  go_wp2
  have T3 := hexa_all HC1.out (.bool b6) (.slice a6 n6 c6) (.int .i64 e6) (.bool b7) (.slice a7 n7 c7) (.int .i64 e7)
  have T4 := below_hexa HG.out (show w.heap.size ≤ w.heap.size+1+1 by omega) (.bool b6) (.slice a6 n6 c6) (.int .i64 e6) (.bool b7) (.slice a7 n7 c7) (.int .i64 e7)
  have T5 := HD1.out.hexa HC1.out b6 a6 n6 c6 e6 b7 a7 n7 c7 e7
  have T6 := HD2.out.hexa HC1.out b6 a6 n6 c6 e6 b7 a7 n7 c7 e7
  obtain ⟨p0, p1, p2, p3, p4, p5⟩ := hexa T3
  have HE := hide (And.intro T5 (And.intro T6 T4))
  clear T3 T4 T5 T6
  generalize (((((t1.setCell ⟨w.heap.size+1+1, 0, none⟩ (.bool b6)).setCell ⟨w.heap.size+1+1, 1, none⟩ (.slice a6 n6 c6)).setCell ⟨w.heap.size+1+1, 2, none⟩ (.int .i64 e6)).setCell ⟨w.heap.size+1+1, 3, none⟩ (.bool b7)).setCell ⟨w.heap.size+1+1, 4, none⟩ (.slice a7 n7 c7)).setCell ⟨w.heap.size+1+1, 5, none⟩ (.int .i64 e7) = w5 at *
  refine bodyPost_ret (v := .tuple #[.agg #[.bool b6, .slice a6 n6 c6, .int .i64 e6, .bool b7, .slice a7 n7 c7, .int .i64 e7], .int .i64 0]) (by simp [results, Tryd.results29, go_sem, p0, p1, p2, p3, p4, p5]) rfl ?_
  exact ⟨⟨_, _, _, _, _, _, _, _, _, _, rfl, HE.out.1, HE.out.2.1⟩, HE.out.2.2⟩

set_option maxRecDepth 20000 in
set_option maxHeartbeats 2000000 in
theorem outwardOf_ok (b1 : Bool) (a1 : Option Addr) (n1 k1 : Nat) (ex1 : Int) (b3 : Bool) (a3 : Option Addr) (n3 k3 : Nat) (ex3 : Int) (pos : Int) (L : Nat) (V1 V3 : Int) (w : World) (hT : Tab w) (h1 : G8 w b1 a1 n1 k1 ex1 L V1) (h3 : G8 w b3 a3 n3 k3 ex3 L V3) (hL : 4611686018427387904 ≤ L) (hK : fitE pos = true) (ho : Ok8 L (rv 0 V1 (2 ^ (pos + L).toNat))) (ho2 : Ok8 L (rv 1 V3 (2 ^ (pos + L).toNat))) :
    Calls Tryd.prog 16 #[.agg #[.bool b1, .slice a1 n1 k1, .int .i64 ex1, .bool b3, .slice a3 n3 k3, .int .i64 ex3], .int .i64 0, .int .i64 pos] w fun e w' => SS8 w e w' L (rv 0 V1 (2 ^ (pos + L).toNat)) (rv 1 V3 (2 ^ (pos + L).toNat)) := by
  obtain ⟨w0, hw0, hb0, q0, q9⟩ := enter2 w (.cells #[.bool b1, .slice a1 n1 k1, .int .i64 ex1, .bool b3, .slice a3 n3 k3, .int .i64 ex3] 32) (.cells #[.bool false, .slice none 0 0, .int .i64 0, .bool false, .slice none 0 0, .int .i64 0] 32)
  obtain ⟨y0, y1, y2, y3, y4, y5⟩ := hexa q0
  have C := outward_ok b1 a1 n1 k1 ex1 b3 a3 n3 k3 ex3 pos L V1 V3 w0 (hT.below hb0) (h1.below hb0) (h3.below hb0) hL hK ho ho2
  have HU0 := hide hb0
  have HR0 := hide q9
  generalize rv 0 V1 (2 ^ (pos + L).toNat) = VA at *
  generalize rv 1 V3 (2 ^ (pos + L).toNat) = VB at *
  clear q0 q9 hb0 hT h1 h3 ho ho2
  go_enter Tryd.func16, Tryd.ntmps16
  go_wp2_with fail
  refine C.mono ?_
  rintro e t1 ⟨⟨b6, a6, n6, c6, e6, b7, a7, n7, c7, e7, rfl, hg1, hg2⟩, g1⟩
  have HC1 := hide (block_upW g1 HR0.out)
  have HG := hide (bl_trans8 HU0.out g1)
  have HD1 := hide hg1
  have HD2 := hide hg2
  have hf1 := hexaf HC1.out
  obtain ⟨m0, m1, m2, m3, m4, m5⟩ := hexa HC1.out
  clear g1 hg1 hg2 C
  go_wp2
  have T3 := hexa_all HC1.out (.bool b6) (.slice a6 n6 c6) (.int .i64 e6) (.bool b7) (.slice a7 n7 c7) (.int .i64 e7)
  have T4 := below_hexa HG.out (show w.heap.size ≤ w.heap.size+1 by omega) (.bool b6) (.slice a6 n6 c6) (.int .i64 e6) (.bool b7) (.slice a7 n7 c7) (.int .i64 e7)
  have T5 := HD1.out.hexa HC1.out b6 a6 n6 c6 e6 b7 a7 n7 c7 e7
  have T6 := HD2.out.hexa HC1.out b6 a6 n6 c6 e6 b7 a7 n7 c7 e7
  obtain ⟨p0, p1, p2, p3, p4, p5⟩ := hexa T3
  have HE := hide (And.intro T5 (And.intro T6 T4))
  clear T3 T4 T5 T6
  generalize (((((t1.setCell ⟨w.heap.size+1, 0, none⟩ (.bool b6)).setCell ⟨w.heap.size+1, 1, none⟩ (.slice a6 n6 c6)).setCell ⟨w.heap.size+1, 2, none⟩ (.int .i64 e6)).setCell ⟨w.heap.size+1, 3, none⟩ (.bool b7)).setCell ⟨w.heap.size+1, 4, none⟩ (.slice a7 n7 c7)).setCell ⟨w.heap.size+1, 5, none⟩ (.int .i64 e7) = w5 at *
  refine bodyPost_ret (v := .tuple #[.agg #[.bool b6, .slice a6 n6 c6, .int .i64 e6, .bool b7, .slice a7 n7 c7, .int .i64 e7], .int .i64 0]) (by simp [results, Tryd.results16, go_sem, p0, p1, p2, p3, p4, p5]) rfl ?_
  exact ⟨⟨_, _, _, _, _, _, _, _, _, _, rfl, HE.out.1, HE.out.2.1⟩, HE.out.2.2⟩

set_option maxRecDepth 20000 in
set_option maxHeartbeats 2000000 in
theorem sums_ok (b1 : Bool) (a1 : Option Addr) (n1 k1 : Nat) (ex1 : Int) (b2 : Bool) (a2 : Option Addr) (n2 k2 : Nat) (ex2 : Int) (b3 : Bool) (a3 : Option Addr) (n3 k3 : Nat) (ex3 : Int) (b4 : Bool) (a4 : Option Addr) (n4 k4 : Nat) (ex4 : Int) (L : Nat) (V1 V2 V3 V4 : Int) (w : World) (hT : Tab w) (h1 : I8 w b1 a1 n1 k1 ex1 L V1) (h2 : I8 w b2 a2 n2 k2 ex2 L V2) (h3 : I8 w b3 a3 n3 k3 ex3 L V3) (h4 : I8 w b4 a4 n4 k4 ex4 L V4) (hE1 : fitE ex1 = true) (hE2 : fitE ex2 = true) (hE3 : fitE ex3 = true) (hE4 : fitE ex4 = true) (ho : Ok8 L (V1 + V3)) (ho2 : Ok8 L (V2 + V4)) :
    Calls Tryd.prog 11 #[.agg #[.bool b1, .slice a1 n1 k1, .int .i64 ex1, .bool b2, .slice a2 n2 k2, .int .i64 ex2], .agg #[.bool b3, .slice a3 n3 k3, .int .i64 ex3, .bool b4, .slice a4 n4 k4, .int .i64 ex4]] w fun e w' => SS8 w e w' L (V1 + V3) (V2 + V4) := by
  obtain ⟨w0, hw0, hb0, q0, q1, q9⟩ := enter3 w (.cells #[.bool b1, .slice a1 n1 k1, .int .i64 ex1, .bool b2, .slice a2 n2 k2, .int .i64 ex2] 32) (.cells #[.bool b3, .slice a3 n3 k3, .int .i64 ex3, .bool b4, .slice a4 n4 k4, .int .i64 ex4] 32) (.cells #[.bool false, .slice none 0 0, .int .i64 0, .bool false, .slice none 0 0, .int .i64 0] 32)
  obtain ⟨y0, y1, y2, y3, y4, y5⟩ := hexa q0
  obtain ⟨z0, z1, z2, z3, z4, z5⟩ := hexa q1
  have C := byP b1 a1 n1 k1 ex1 b3 a3 n3 k3 ex3 b2 a2 n2 k2 ex2 b4 a4 n4 k4 ex4 L V1 V3 V2 V4 w0 (hT.below hb0) (h1.below hb0) (h3.below hb0) (h2.below hb0) (h4.below hb0) hE1 hE3 hE2 hE4 ho ho2
  have HU0 := hide hb0
  have HR0 : Hid (w0.heap[w.heap.size + 1 + 1]? = some (.cells #[.bool false, .slice none 0 0, .int .i64 0, .bool false, .slice none 0 0, .int .i64 0] 32)) := hide q9
  generalize V1 + V3 = VA at *
  generalize V2 + V4 = VB at *
  clear q0 q1 q9 hb0 hT h1 h2 h3 h4 ho ho2
  go_enter Tryd.func11, Tryd.ntmps11
  go_wp2_with fail
  refine C.mono ?_
  rintro e t1 ⟨⟨b6, a6, n6, c6, e6, b7, a7, n7, c7, e7, rfl, hg1, hg2⟩, g1⟩
  have HC1 := hide (block_upW g1 HR0.out)
  have HG := hide (bl_trans8 HU0.out g1)
  have HD1 := hide hg1
  have HD2 := hide hg2
  have hf1 := hexaf HC1.out
  obtain ⟨m0, m1, m2, m3, m4, m5⟩ := hexa HC1.out
  clear g1 hg1 hg2 C
  go_wp2
  have T3 := hexa_all HC1.out (.bool b6) (.slice a6 n6 c6) (.int .i64 e6) (.bool b7) (.slice a7 n7 c7) (.int .i64 e7)
  have T4 := below_hexa HG.out (show w.heap.size ≤ w.heap.size+1+1 by omega) (.bool b6) (.slice a6 n6 c6) (.int .i64 e6) (.bool b7) (.slice a7 n7 c7) (.int .i64 e7)
  have T5 := HD1.out.hexa HC1.out b6 a6 n6 c6 e6 b7 a7 n7 c7 e7
  have T6 := HD2.out.hexa HC1.out b6 a6 n6 c6 e6 b7 a7 n7 c7 e7
  obtain ⟨p0, p1, p2, p3, p4, p5⟩ := hexa T3
  have HE := hide (And.intro T5 (And.intro T6 T4))
  clear T3 T4 T5 T6
  generalize (((((t1.setCell ⟨w.heap.size+1+1, 0, none⟩ (.bool b6)).setCell ⟨w.heap.size+1+1, 1, none⟩ (.slice a6 n6 c6)).setCell ⟨w.heap.size+1+1, 2, none⟩ (.int .i64 e6)).setCell ⟨w.heap.size+1+1, 3, none⟩ (.bool b7)).setCell ⟨w.heap.size+1+1, 4, none⟩ (.slice a7 n7 c7)).setCell ⟨w.heap.size+1+1, 5, none⟩ (.int .i64 e7) = w5 at *
  refine bodyPost_ret (v := .tuple #[.agg #[.bool b6, .slice a6 n6 c6, .int .i64 e6, .bool b7, .slice a7 n7 c7, .int .i64 e7], .int .i64 0]) (by simp [results, Tryd.results11, go_sem, p0, p1, p2, p3, p4, p5]) rfl ?_
  exact ⟨⟨_, _, _, _, _, _, _, _, _, _, rfl, HE.out.1, HE.out.2.1⟩, HE.out.2.2⟩

/-- Compare of two that mean something. -/
theorem ycmpI (b1 : Bool) (a1 : Option Addr) (n1 k1 : Nat) (ex1 : Int) (b2 : Bool) (a2 : Option Addr) (n2 k2 : Nat) (ex2 : Int) (L : Nat) (V1 V2 : Int) (w : World) (hL : 4611686018427387904 ≤ L) (h1 : I8 w b1 a1 n1 k1 ex1 L V1) (h2 : I8 w b2 a2 n2 k2 ex2 L V2) (hE1 : fitE ex1 = true) (hE2 : fitE ex2 = true) :
    Calls Tryd.prog 38 #[.agg #[.bool b1, .slice a1 n1 k1, .int .i64 ex1], .agg #[.bool b2, .slice a2 n2 k2, .int .i64 ex2]] w fun e w' => e = .returned (.tuple #[.int .i64 (cmpZ V1 V2), .int .i64 0]) ∧ Below w.heap.size w w' := by
  obtain ⟨X, rfl, hA, hf, hX⟩ := h1
  obtain ⟨Y, rfl, hB, hg, hY⟩ := h2
  have hx := hX.1
  have hy := hY.1
  refine (yCompare_ok b1 a1 k1 X ex1 b2 a2 k2 Y ex2 L (ex1 + L).toNat (ex2 + L).toNat w hA hB (by omega) (by omega) hE1 hE2 hL (by omega) (by omega)).mono fun e w' h => ⟨?_, h.2⟩
  rw [h.1, hX.2, hY.2]

theorem dozen {w : World} {g : Nat} {a b c d e f a' b' c' d' e' f' : Value} {t : TypeId} (h : w.heap[g]? = some (.cells #[a, b, c, d, e, f, a', b', c', d', e', f'] t)) : (w.cell? ⟨g, 0, none⟩ = some a ∧ w.cell? ⟨g, 1, none⟩ = some b ∧ w.cell? ⟨g, 2, none⟩ = some c ∧ w.cell? ⟨g, 3, none⟩ = some d ∧ w.cell? ⟨g, 4, none⟩ = some e ∧ w.cell? ⟨g, 5, none⟩ = some f) ∧ (w.cell? ⟨g, 6, none⟩ = some a' ∧ w.cell? ⟨g, 7, none⟩ = some b' ∧ w.cell? ⟨g, 8, none⟩ = some c' ∧ w.cell? ⟨g, 9, none⟩ = some d' ∧ w.cell? ⟨g, 10, none⟩ = some e' ∧ w.cell? ⟨g, 11, none⟩ = some f') := by
  refine ⟨⟨?_, ?_, ?_, ?_, ?_, ?_⟩, ⟨?_, ?_, ?_, ?_, ?_, ?_⟩⟩ <;> simp [World.cell?, h]

theorem cmp_le9 {y z : Int} (h : y ≤ z) : ¬ 0 < cmpZ y z := by
  unfold cmpZ
  split
  · omega
  · rw [if_neg (by omega)]; omega

set_option maxRecDepth 20000 in
set_option maxHeartbeats 4000000 in
theorem fault2_ok (gs : Nat) (b1 : Bool) (a1 : Option Addr) (n1 k1 : Nat) (ex1 : Int) (b2 : Bool) (a2 : Option Addr) (n2 k2 : Nat) (ex2 : Int) (b3 : Bool) (a3 : Option Addr) (n3 k3 : Nat) (ex3 : Int) (b4 : Bool) (a4 : Option Addr) (n4 k4 : Nat) (ex4 : Int) (L : Nat) (V1 V2 V3 V4 : Int) (w : World) (hg : w.heap[gs]? = some (.cells #[.bool b1, .slice a1 n1 k1, .int .i64 ex1, .bool b2, .slice a2 n2 k2, .int .i64 ex2, .bool b3, .slice a3 n3 k3, .int .i64 ex3, .bool b4, .slice a4 n4 k4, .int .i64 ex4] 32)) (hL : 4611686018427387904 ≤ L) (h1 : I8 w b1 a1 n1 k1 ex1 L V1) (h2 : I8 w b2 a2 n2 k2 ex2 L V2) (h3 : I8 w b3 a3 n3 k3 ex3 L V3) (h4 : I8 w b4 a4 n4 k4 ex4 L V4) (hE1 : fitE ex1 = true) (hE2 : fitE ex2 = true) (hE3 : fitE ex3 = true) (hE4 : fitE ex4 = true) (ho : V1 ≤ V2) (ho2 : V3 ≤ V4) :
    Calls Tryd.prog 27 #[.slice (some ⟨gs, 0, none⟩) 2 2] w fun e w' => e = .returned (.int .i64 0) ∧ Below w.heap.size w w' := by
  have HS := hide hg
  have i1 := cmp_le9 ho
  have i2 := cmp_le9 ho2
  have C1 := hide (fun (W : World) (hb : Below w.heap.size w W) => ycmpI b1 a1 n1 k1 ex1 b2 a2 n2 k2 ex2 L V1 V2 W hL (h1.below hb) (h2.below hb) hE1 hE2)
  have C2 := hide (fun (W : World) (hb : Below w.heap.size w W) => ycmpI b3 a3 n3 k3 ex3 b4 a4 n4 k4 ex4 L V3 V4 W hL (h3.below hb) (h4.below hb) hE3 hE4)
  generalize cmpZ V1 V2 = o1 at *
  generalize cmpZ V3 V4 = o2 at *
  clear hg h1 h2 h3 h4 ho ho2
  go_enter Tryd.func27, Tryd.ntmps27
  go_wp2
  go_loopw [9] (fun i wr => ∃ k : Nat, k ≤ 2 ∧ i = .int .i64 k ∧ Below w.heap.size w wr) (fun i _ => 2 - (intOf i).toNat)
  case atStart => exact ⟨0, by omega, rfl, Below.refl _ _⟩
  case round =>
    obtain ⟨k, hk, rfl, hb⟩ := hrel
    have HB := hide hb
    obtain ⟨⟨c0, c1, c2, c3, c4, c5⟩, ⟨c6, c7, c8, c9, c10, c11⟩⟩ := dozen (block_upW hb HS.out)
    clear hb
    rcases (show k = 0 ∨ k = 1 ∨ k = 2 by omega) with rfl | rfl | rfl
    · have CMP := C1
      obtain ⟨w2, hw2, hb2, q2⟩ := enter1 wr (.cells #[.bool b1, .slice a1 n1 k1, .int .i64 ex1, .bool b2, .slice a2 n2 k2, .int .i64 ex2] 32)
      have HB2 := hide (bl_trans8 HB.out hb2)
      have C := CMP.out w2 HB2.out
      obtain ⟨x0, x1, x2, x3, x4, x5⟩ := hexa q2
      clear hb2 q2
      go_wp2_with fail
      refine C.mono ?_
      rintro e t3 ⟨rfl, g3⟩
      have HB3 := hide (bl_trans8 HB2.out g3)
      clear g3 C x0 x1 x2 x3 x4 x5
      go_wp2
      go_roundw
      case rel => exact ⟨1, by omega, by go_num, HB3.out⟩
      case measure => simp [intOf]
    · have CMP := C2
      obtain ⟨w2, hw2, hb2, q2⟩ := enter1 wr (.cells #[.bool b3, .slice a3 n3 k3, .int .i64 ex3, .bool b4, .slice a4 n4 k4, .int .i64 ex4] 32)
      have HB2 := hide (bl_trans8 HB.out hb2)
      have C := CMP.out w2 HB2.out
      obtain ⟨x0, x1, x2, x3, x4, x5⟩ := hexa q2
      clear hb2 q2
      go_wp2_with fail
      refine C.mono ?_
      rintro e t3 ⟨rfl, g3⟩
      have HB3 := hide (bl_trans8 HB2.out g3)
      clear g3 C x0 x1 x2 x3 x4 x5
      go_wp2
      go_roundw
      case rel => exact ⟨2, by omega, by go_num, HB3.out⟩
      case measure => simp [intOf]
    · go_wp2
      go_ret
      exact ⟨rfl, HB.out⟩

end Go.Proofs.YtgkbjoobgaldnaaDoor
