/- Package dyadic: middle. -/
import Derived.Test.YtegbjdjpeblkoaaDoorDyMnZ
namespace Go.Proofs.YtegbjdjpeblkoaaDoor
open Go.RowKit
open Lm
attribute [local go_sem ↓] Go.wp_at_zero Go.wp_at_succ

theorem oe_pred {z ex S m : Int} (h1 : omz z = omz S) (h2 : oe z ex = oe S m) : oe z (ex - 1) = oe S (m - 1) := by
  unfold oe at *
  by_cases hz : z = 0
  · subst hz
    have hS : S = 0 := by
      rcases Decidable.em (S = 0) with h | h
      · exact h
      · exact absurd (h1.symm.trans omz_zero) (omz_ne h)
    subst hS
    simp
  · have hS : S ≠ 0 := by
      rintro rfl
      exact omz_ne hz (h1.trans omz_zero)
    rw [if_neg hz, if_neg hS] at *
    omega

/-- What middle makes of it. -/
theorem PlusV.half {w : World} {b : Bool} {v : Value} {n : Nat} {ex r S m : Int} (h : PlusV w b v n ex r (omz S) (oe S m)) : (r = 0 ∧ -2305843009213693951 ≤ ex ∧ ex ≤ 2305843009213693952 ∧ ∃ X z, n = X.length ∧ Nm w b v X z ∧ omz z = omz S ∧ oe z (ex - 1) = oe S (m - 1) ∧ X.length ≤ 35184372088800) ∨ (r = 3 ∧ 67108864 < blen (omz S).natAbs) := by
  rcases h with ⟨h1, X, z, h2, h3, h4, h5, h6, h7, h8⟩ | h
  · exact .inl ⟨h1, h6, h7, X, z, h2, h3, h4, oe_pred h4 h5, h8⟩
  · exact .inr h

/-- As PlusV, an exponent one lower. -/
def HalfV (w : World) (b : Bool) (v : Value) (n : Nat) (ex r M E : Int) : Prop :=
  (r = 0 ∧ ∃ X z, n = X.length ∧ Nm w b v X z ∧ omz z = M ∧ oe z ex = E ∧ -2305843009213693952 ≤ ex ∧ ex ≤ 2305843009213693952 ∧ X.length ≤ 35184372088800) ∨ (r = 3 ∧ 67108864 < blen M.natAbs)

theorem PlusV.halfV {w : World} {b : Bool} {v : Value} {n : Nat} {ex r M E : Int} (h : PlusV w b v n ex r M E) : HalfV w b v n ex r M E := by
  rcases h with ⟨h1, X, z, h2, h3, h4, h5, h6, h7, h8⟩ | h
  · exact .inl ⟨h1, X, z, h2, h3, h4, h5, by omega, h7, h8⟩
  · exact .inr h

theorem HalfV.tri8 {w : World} {b : Bool} {v : Value} {n0 : Nat} {ex r M E : Int} {g : Nat} {p : Bool} {a : Option Addr} {n c : Nat} {e : Int} {t : TypeId} (h : HalfV w b v n0 ex r M E) (hl : w.heap[g]? = some (.cells #[.bool p, .slice a n c, .int .i64 e] t)) (p1 : Bool) (a1 : Option Addr) (n1 c1 : Nat) (u2 : Value) : HalfV (((w.setCell ⟨g, 0, none⟩ (.bool p1)).setCell ⟨g, 1, none⟩ (.slice a1 n1 c1)).setCell ⟨g, 2, none⟩ u2) b v n0 ex r M E := by
  rcases h with ⟨h1, X, z, h2, h3, h4⟩ | h
  · exact .inl ⟨h1, X, z, h2, h3.tri8 hl p1 a1 n1 c1 u2, h4⟩
  · exact .inr h

def YHalf (w : World) (M E : Int) (e : Ending) (w' : World) : Prop := (∃ b a n k ex r, e = .returned (.tuple #[.agg #[.bool b, .slice a n k, .int .i64 ex], .int .i64 r]) ∧ HalfV w' b (.slice a n k) n ex r M E) ∧ Below w.heap.size w w'

theorem YPlusV.half {w w' : World} {M E : Int} {e : Ending} (h : YPlusV w M E e w') : YHalf w M E e w' := by
  obtain ⟨⟨b, a, n, k, ex, r, he, h⟩, hb⟩ := h
  exact ⟨⟨b, a, n, k, ex, r, he, h.halfV⟩, hb⟩

set_option maxRecDepth 20000 in
set_option maxHeartbeats 2000000 in
theorem ymiddle_any (b1 : Bool) (a1 : Option Addr) (c1 : Nat) (X : List Nat) (M1 E1 : Int) (b2 : Bool) (a2 : Option Addr) (c2 : Nat) (Y : List Nat) (M2 E2 : Int) (w : World) (h1 : Nm w b1 (.slice a1 X.length c1) X M1) (h2 : Nm w b2 (.slice a2 Y.length c2) Y M2) (n1 : Nr8 M1 E1) (n2 : Nr8 M2 E2) (f1 : X.length ≤ 17592186043904) (f2 : Y.length ≤ 17592186043904) (he1 : -1152921504606846976 ≤ E1) (he2 : E2 ≤ 1152921504606846976) (he3 : -1152921504606846976 ≤ E2) (he4 : E1 ≤ 1152921504606846976) :
    Calls Tryd.prog 49 #[.agg #[.bool b1, .slice a1 X.length c1, .int .i64 E1], .agg #[.bool b2, .slice a2 Y.length c2, .int .i64 E2]] w (YHalf w (omz (sm M1 E1 M2 E2)) (oe (sm M1 E1 M2 E2) (min E1 E2 - 1))) := by
  obtain ⟨w0, hw0, hb0, k0, k1, k2⟩ := enter3 w (.cells #[.bool b1, .slice a1 X.length c1, .int .i64 E1] 84) (.cells #[.bool b2, .slice a2 Y.length c2, .int .i64 E2] 84) (.cells #[.bool false, .slice none 0 0, .int .i64 0] 84)
  obtain ⟨x0, x1, x2⟩ := tri8 k0
  obtain ⟨x3, x4, x5⟩ := tri8 k1
  have HC := yplus_any b1 a1 c1 X M1 E1 b2 a2 c2 Y M2 E2 w0 (h1.below hb0) (h2.below hb0) n1 n2 f1 f2 he1 he2 he3 he4
  have HK2 := hide k2
  have HB := hide hb0
  clear k0 k1 k2 hb0 h1 h2 n1 n2
  generalize sm M1 E1 M2 E2 = S at *
  generalize min E1 E2 = m at *
  go_enter Tryd.func49, Tryd.ntmps49
  go_wp2_with fail
  refine HC.mono ?_
  rintro e t1 ⟨⟨b3, a3, n3, k3, e3, r3, rfl, hp⟩, g1⟩
  obtain ⟨w4, hw4, hb4, h4⟩ := enter1 t1 (.cells #[.bool b3, .slice a3 n3 k3, .int .i64 e3] 84)
  have g4 := bl_trans8 g1 hb4
  have HC4 := hide (block_upW g4 HK2.out)
  have HG4 := hide (bl_trans8 HB.out g4)
  have hx := hp.half
  have HN4 : Hid ((r3 = 0 ∧ ∃ X z, n3 = X.length ∧ Nm w4 b3 (.slice a3 n3 k3) X z ∧ omz z = omz S ∧ oe z (e3 - 1) = oe S (m - 1) ∧ X.length ≤ 35184372088800 ∧ -2305843009213693951 ≤ e3 ∧ e3 ≤ 2305843009213693952) ∨ (r3 = 3 ∧ 67108864 < blen (omz S).natAbs)) := hide (by
    rcases hx with ⟨q1, q2, q3, X, z, q4, q5, q6, q7, q8⟩ | q
    · exact .inl ⟨q1, X, z, q4, q5.below hb4, q6, q7, q8, q2, q3⟩
    · exact .inr q)
  obtain ⟨y0, y1, y2⟩ := tri8 h4
  have yf := tri8f h4
  have hlt : w.heap.size + 1 + 1 < t1.heap.size := by
    have := lt_of_block (block_upW g1 HK2.out)
    exact this
  obtain ⟨d3, hd3⟩ : ∃ d3, IntKind.i64.wrap (e3 - 1) = d3 := ⟨_, rfl⟩
  have HD3 := hide hd3
  have hbx : (w4.setCell ⟨t1.heap.size, 2, none⟩ (.int .i64 d3)).heap[t1.heap.size]? = some (.cells #[.bool b3, .slice a3 n3 k3, .int .i64 d3] 84) := box_modify h4 _
  have hcx : (w4.setCell ⟨t1.heap.size, 2, none⟩ (.int .i64 d3)).heap[w.heap.size + 1 + 1]? = some (.cells #[.bool false, .slice none 0 0, .int .i64 0] 84) := by
    rw [Below.heap_setCell _ _ _ _ (show w.heap.size + 1 + 1 ≠ t1.heap.size by omega)]; exact HC4.out
  have hgx : Below w.heap.size w (w4.setCell ⟨t1.heap.size, 2, none⟩ (.int .i64 d3)) := HG4.out.setCell (p := ⟨t1.heap.size, 2, none⟩) (show w.heap.size ≤ t1.heap.size by omega) _
  have hnx : Hid ((r3 = 0 ∧ ∃ X z, n3 = X.length ∧ Nm (w4.setCell ⟨t1.heap.size, 2, none⟩ (.int .i64 d3)) b3 (.slice a3 n3 k3) X z ∧ omz z = omz S ∧ oe z (e3 - 1) = oe S (m - 1) ∧ X.length ≤ 35184372088800 ∧ -2305843009213693951 ≤ e3 ∧ e3 ≤ 2305843009213693952) ∨ (r3 = 3 ∧ 67108864 < blen (omz S).natAbs)) := hide (by
    rcases hx with ⟨q1, q2, q3, X, z, q4, q5, q6, q7, q8⟩ | q
    · have hs : Below t1.heap.size t1 (w4.setCell ⟨t1.heap.size, 2, none⟩ (.int .i64 d3)) := hb4.setCell (p := ⟨t1.heap.size, 2, none⟩) (Nat.le_refl _) _
      exact .inl ⟨q1, X, z, q4, q5.below hs, q6, q7, q8, q2, q3⟩
    · exact .inr q)
  obtain ⟨w6, hw6⟩ : ∃ w6, w4.setCell ⟨t1.heap.size, 2, none⟩ (.int .i64 d3) = w6 := ⟨_, rfl⟩
  rw [hw6] at hbx hcx hgx hnx
  obtain ⟨z0, z1, z2⟩ := tri8 hbx
  obtain ⟨m0, m1, m2⟩ := tri8 hcx
  have mf := tri8f hcx
  have HG := hide hgx
  have HC1 := hide hcx
  clear hx hp g1 hb4 h4 g4 HC HC4 HG4 HK2 HB HN4 hbx hcx hgx hlt x0 x1 x2 x3 x4 x5
  go_wp2
  have T3 := tri8_all HC1.out (.bool b3) (.slice a3 n3 k3) (.int .i64 d3)
  have T4 := below_tri8 HG.out (show w.heap.size ≤ w.heap.size + 1 + 1 by omega) (.bool b3) (.slice a3 n3 k3) (.int .i64 d3)
  have T5 : HalfV w6 b3 (.slice a3 n3 k3) n3 d3 r3 (omz S) (oe S (m - 1)) := by
    rcases hnx.out with ⟨q1, X, z, q4, q5, q6, q7, q8, q2, q3⟩ | q
    · have e : d3 = e3 - 1 := by rw [← HD3.out, IntKind.wrap_i64]; omega
      rw [e]
      exact .inl ⟨q1, X, z, q4, q5, q6, q7, by omega, by omega, q8⟩
    · exact .inr q
  have T6 := T5.tri8 HC1.out b3 a3 n3 k3 (.int .i64 d3)
  obtain ⟨p0, p1, p2⟩ := tri8 T3
  have HE := hide (And.intro T6 T4)
  clear T3 T4 T5 T6
  generalize ((w6.setCell ⟨w.heap.size + 1 + 1, 0, none⟩ (.bool b3)).setCell ⟨w.heap.size + 1 + 1, 1, none⟩ (.slice a3 n3 k3)).setCell ⟨w.heap.size + 1 + 1, 2, none⟩ (.int .i64 d3) = w5 at *
  refine bodyPost_ret (v := .tuple #[.agg #[.bool b3, .slice a3 n3 k3, .int .i64 d3], .int .i64 r3]) (by simp [results, Tryd.results49, go_sem, p0, p1, p2]) rfl ?_
  exact ⟨⟨_, _, _, _, _, _, rfl, HE.out.1⟩, HE.out.2⟩

end Go.Proofs.YtegbjdjpeblkoaaDoor
