/- Package dyadic: length, top, plus. -/
import Derived.Test.YtppkhhbhnhijpaaGreatDoorDyUZ
namespace Go.Proofs.YtppkhhbhnhijpaaGreatDoor
open Go.RowKit
open Lm
attribute [local go_sem ↓] Go.wp_at_zero Go.wp_at_succ

theorem ylength_any (b : Bool) (a : Option Addr) (c : Nat) (X : List Nat) (w : World) (hA : Arg w (.slice a X.length c) X) :
    Calls Tryz.prog 138 #[.agg #[.bool b, .slice a X.length c]] w fun e w' => e = .returned (.int .i64 ((blen (val X) : Nat) : Int)) ∧ Below w.heap.size w w' := by
  obtain ⟨w0, hw0, hb0, h0⟩ := enter1 w (.cells #[.bool b, .slice a X.length c] 150)
  obtain ⟨k0, k1⟩ := duo h0
  have HL := length_val _ X w0 (hA.below hb0)
  have HB := hide hb0
  clear h0 hb0 hA
  go_enter Tryz.func138, Tryz.ntmps138
  go_wp2_with fail
  refine HL.mono ?_
  rintro e wn ⟨rfl, hw⟩; rw [hw]; clear hw wn HL
  go_wp2
  go_ret
  exact ⟨rfl, HB.out⟩

set_option maxRecDepth 20000 in
set_option maxHeartbeats 1000000 in
theorem ytop_any (b : Bool) (a : Option Addr) (c : Nat) (X : List Nat) (ex : Int) (w : World) (hA : Arg w (.slice a X.length c) X) (h1 : -2305843009213693951 ≤ ex) (h2 : ex ≤ 2305843009213693952) :
    Calls Tryz.prog 139 #[.agg #[.bool b, .slice a X.length c, .int .i64 ex]] w fun e w' => e = .returned (.int .i64 (ex + ((blen (val X) : Nat) : Int) - 1)) ∧ Below w.heap.size w w' := by
  obtain ⟨w0, hw0, hb0, h0⟩ := enter1 w (.cells #[.bool b, .slice a X.length c, .int .i64 ex] 153)
  have gd : Below w.heap.size w w0.drew := hb0.drew
  have g0 : Below w0.drew.heap.size w0.drew w0.drew := Below.refl _ _
  have KS := hide (fun (W : World) (hg : Below w0.drew.heap.size w0.drew W) => show W.cell? ⟨w.heap.size, 0, none⟩ = some (.bool b) ∧ W.cell? ⟨w.heap.size, 1, none⟩ = some (.slice a X.length c) ∧ W.cell? ⟨w.heap.size, 2, none⟩ = some (.int .i64 ex) from tri8 (block_upW hg (show w0.drew.heap[w.heap.size]? = some (.cells #[.bool b, .slice a X.length c, .int .i64 ex] 153) from h0)))
  have HL := ylength_any b a c X w0.drew (hA.below gd)
  have hbl := blen_lenU hA.limbs
  have hfw := hA.few
  have w1 : IntKind.i64.wrap (ex + ((blen (val X) : Nat) : Int)) = ex + ((blen (val X) : Nat) : Int) := by rw [IntKind.wrap_i64]; omega
  have w2 : IntKind.i64.wrap (ex + ((blen (val X) : Nat) : Int) - 1) = ex + ((blen (val X) : Nat) : Int) - 1 := by rw [IntKind.wrap_i64]; omega
  generalize blen (val X) = l at *
  have HB := hide gd
  obtain ⟨x0, x1, x2⟩ := KS.out _ g0
  clear h0 hb0 gd hA hbl hfw
  generalize hs1 : ex + (l : Int) = s1 at *
  have hs2 : ex + (l : Int) = s1 := hs1
  clear hs1
  go_enter Tryz.func139, Tryz.ntmps139
  go_wp2
  go_region_held3 (fun w' => w'.cell? ⟨w.heap.size, 0, none⟩ = some (.bool b) ∧ w'.cell? ⟨w.heap.size, 1, none⟩ = some (.slice a X.length c) ∧ w'.cell? ⟨w.heap.size, 2, none⟩ = some (.int .i64 ex)) (first | with_reducible exact KS.out _ g1 | with_reducible exact KS.out _ g0) (first
    | (go_at_call 138; refine HL.mono ?_; rintro e' t1 ⟨rfl, g1⟩))
  have HE := hide (bl_trans8 HB.out g1)
  clear g1 g0 KS HL
  go_wp2
  go_ret
  exact ⟨rfl, HE.out⟩

/-- What plus answers: M and E are the sum's, as it is normal. -/
def YPlus (w : World) (M E : Int) (e : Ending) (w' : World) : Prop :=
  ((∃ b a n k X z ex, e = .returned (.tuple #[.agg #[.bool b, .slice a n k, .int .i64 ex], .int .i64 0]) ∧ n = X.length ∧ Nm w' b (.slice a n k) X z ∧ omz z = M ∧ oe z ex = E ∧ -2305843009213693951 ≤ ex ∧ ex ≤ 2305843009213693952 ∧ X.length ≤ 35184372088800) ∨
    (e = .returned (.tuple #[.agg #[.bool false, .slice none 0 0, .int .i64 0], .int .i64 3]) ∧ 67108864 < blen M.natAbs)) ∧ Below w.heap.size w w'

set_option maxRecDepth 20000 in
set_option maxHeartbeats 2000000 in
theorem yplus_zero1 (b1 : Bool) (a1 : Option Addr) (c1 : Nat) (X : List Nat) (M1 E1 : Int) (b2 : Bool) (a2 : Option Addr) (c2 : Nat) (Y : List Nat) (M2 E2 : Int) (w : World) (h1 : Nm w b1 (.slice a1 X.length c1) X M1) (h2 : Nm w b2 (.slice a2 Y.length c2) Y M2) (f2 : Y.length ≤ 17592186043904) (he1 : -2305843009213693951 ≤ E2) (he2 : E2 ≤ 2305843009213693952) (hX : X.length = 0) :
    Calls Tryz.prog 122 #[.agg #[.bool b1, .slice a1 X.length c1, .int .i64 E1], .agg #[.bool b2, .slice a2 Y.length c2, .int .i64 E2]] w (YPlus w (omz M2) (oe M2 E2)) := by
  obtain ⟨w0, hw0, hb0, k0, k1, k2⟩ := enter3 w (.cells #[.bool b1, .slice a1 X.length c1, .int .i64 E1] 153) (.cells #[.bool b2, .slice a2 Y.length c2, .int .i64 E2] 153) (.cells #[.bool false, .slice none 0 0, .int .i64 0] 153)
  obtain ⟨x0, x1, x2⟩ := tri8 k0
  obtain ⟨x3, x4, x5⟩ := tri8 k1
  have HZ1 := yisZero_any b1 a1 X.length c1 w0
  have HK0 := hide k0
  have HK1 := hide k1
  have HK2 := hide k2
  have HB := hide hb0
  have HN1 := hide h1
  have HN2 := hide h2
  clear k0 k1 k2 hb0 h1 h2
  rw [decide_eq_true hX] at HZ1
  clear hX
  go_enter Tryz.func122, Tryz.ntmps122
  go_wp2_with fail
  refine HZ1.mono ?_
  rintro e t1 ⟨rfl, g1⟩
  have HC1 := hide (block_upW g1 HK2.out)
  have HG := hide (bl_trans8 HB.out g1)
  have HNM := hide (HN2.out.below HG.out)
  have hf1 := tri8f HC1.out
  obtain ⟨m0, m1, m2⟩ := tri8 HC1.out
  obtain ⟨l0, l1, l2⟩ := tri8 (block_upW g1 HK1.out)
  clear g1 HZ1
  go_wp2
  have T3 := tri8_all HC1.out (.bool b2) (.slice a2 Y.length c2) (.int .i64 E2)
  have T4 := below_tri8 HG.out (show w.heap.size ≤ w.heap.size + 1 + 1 by omega) (.bool b2) (.slice a2 Y.length c2) (.int .i64 E2)
  have T5 := HNM.out.tri8 HC1.out b2 a2 Y.length c2 (.int .i64 E2)
  obtain ⟨p0, p1, p2⟩ := tri8 T3
  have HE := hide (And.intro T5 T4)
  clear T3 T4 T5
  generalize ((t1.setCell ⟨w.heap.size + 1 + 1, 0, none⟩ (.bool b2)).setCell ⟨w.heap.size + 1 + 1, 1, none⟩ (.slice a2 Y.length c2)).setCell ⟨w.heap.size + 1 + 1, 2, none⟩ (.int .i64 E2) = w5 at *
  refine bodyPost_ret (v := .tuple #[.agg #[.bool b2, .slice a2 Y.length c2, .int .i64 E2], .int .i64 0]) (by simp [results, Tryz.results122, go_sem, p0, p1, p2]) rfl ?_
  exact ⟨.inl ⟨_, _, _, _, Y, M2, _, rfl, rfl, HE.out.1, rfl, rfl, he1, he2, by omega⟩, HE.out.2⟩

set_option maxRecDepth 20000 in
set_option maxHeartbeats 2000000 in
theorem yplus_zero2 (b1 : Bool) (a1 : Option Addr) (c1 : Nat) (X : List Nat) (M1 E1 : Int) (b2 : Bool) (a2 : Option Addr) (c2 : Nat) (Y : List Nat) (M2 E2 : Int) (w : World) (h1 : Nm w b1 (.slice a1 X.length c1) X M1) (h2 : Nm w b2 (.slice a2 Y.length c2) Y M2) (f1 : X.length ≤ 17592186043904) (he1 : -2305843009213693951 ≤ E1) (he2 : E1 ≤ 2305843009213693952) (hX : ¬ X.length = 0) (hY : Y.length = 0) :
    Calls Tryz.prog 122 #[.agg #[.bool b1, .slice a1 X.length c1, .int .i64 E1], .agg #[.bool b2, .slice a2 Y.length c2, .int .i64 E2]] w (YPlus w (omz M1) (oe M1 E1)) := by
  obtain ⟨w0, hw0, hb0, k0, k1, k2⟩ := enter3 w (.cells #[.bool b1, .slice a1 X.length c1, .int .i64 E1] 153) (.cells #[.bool b2, .slice a2 Y.length c2, .int .i64 E2] 153) (.cells #[.bool false, .slice none 0 0, .int .i64 0] 153)
  obtain ⟨x0, x1, x2⟩ := tri8 k0
  obtain ⟨x3, x4, x5⟩ := tri8 k1
  have HZ1 := yisZero_any b1 a1 X.length c1 w0
  have HK0 := hide k0
  have HK1 := hide k1
  have HK2 := hide k2
  have HB := hide hb0
  have HN1 := hide h1
  have HN2 := hide h2
  clear k0 k1 k2 hb0 h1 h2
  rw [decide_eq_false hX] at HZ1
  have HZ2 := hide (fun (W : World) => yisZero_any b2 a2 Y.length c2 W)
  rw [decide_eq_true hY] at HZ2
  clear hY
  go_enter Tryz.func122, Tryz.ntmps122
  go_wp2_with fail
  refine HZ1.mono ?_
  rintro e t1 ⟨rfl, g1⟩
  have HC0 := hide (block_upW g1 HK2.out)
  have HG0 := hide (bl_trans8 HB.out g1)
  have HL0 := hide (block_upW g1 HK0.out)
  obtain ⟨l3, l4, l5⟩ := tri8 (block_upW g1 HK1.out)
  have HZZ := HZ2.out t1
  clear g1 HZ1
  go_wp2_with fail
  refine HZZ.mono ?_
  rintro e t2 ⟨rfl, g2⟩
  have HC1 := hide (block_upW g2 HC0.out)
  have HG := hide (bl_trans8 HG0.out g2)
  have HNM := hide (HN1.out.below HG.out)
  have hf1 := tri8f HC1.out
  obtain ⟨m0, m1, m2⟩ := tri8 HC1.out
  obtain ⟨l0, l1, l2⟩ := tri8 (block_upW g2 HL0.out)
  clear g2 HZZ
  go_wp2
  have T3 := tri8_all HC1.out (.bool b1) (.slice a1 X.length c1) (.int .i64 E1)
  have T4 := below_tri8 HG.out (show w.heap.size ≤ w.heap.size + 1 + 1 by omega) (.bool b1) (.slice a1 X.length c1) (.int .i64 E1)
  have T5 := HNM.out.tri8 HC1.out b1 a1 X.length c1 (.int .i64 E1)
  obtain ⟨p0, p1, p2⟩ := tri8 T3
  have HE := hide (And.intro T5 T4)
  clear T3 T4 T5
  generalize ((t2.setCell ⟨w.heap.size + 1 + 1, 0, none⟩ (.bool b1)).setCell ⟨w.heap.size + 1 + 1, 1, none⟩ (.slice a1 X.length c1)).setCell ⟨w.heap.size + 1 + 1, 2, none⟩ (.int .i64 E1) = w5 at *
  refine bodyPost_ret (v := .tuple #[.agg #[.bool b1, .slice a1 X.length c1, .int .i64 E1], .int .i64 0]) (by simp [results, Tryz.results122, go_sem, p0, p1, p2]) rfl ?_
  exact ⟨.inl ⟨_, _, _, _, X, M1, _, rfl, rfl, HE.out.1, rfl, rfl, he1, he2, by omega⟩, HE.out.2⟩

end Go.Proofs.YtppkhhbhnhijpaaGreatDoor
