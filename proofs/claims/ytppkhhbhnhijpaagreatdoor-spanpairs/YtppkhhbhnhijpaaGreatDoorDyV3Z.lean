/- Package dyadic: plus of any two normal numbers; minus. -/
import Derived.Test.YtppkhhbhnhijpaaGreatDoorDyV2Z
namespace Go.Proofs.YtppkhhbhnhijpaaGreatDoor
open Go.RowKit
open Lm
attribute [local go_sem ↓] Go.wp_at_zero Go.wp_at_succ

theorem sm_low (M1 E1 M2 E2 : Int) (g : Nat) (h : E2 - E1 = (g : Int)) : sm M1 E1 M2 E2 = M1 + M2 * 2 ^ g ∧ min E1 E2 = E1 := by
  have e : min E1 E2 = E1 := by omega
  unfold sm
  rw [e, show (E1 - E1).toNat = 0 by omega, show (E2 - E1).toNat = g by omega, Int.pow_zero, Int.mul_one]
  exact ⟨rfl, rfl⟩

theorem Nm.zero_len {w : World} {b : Bool} {v : Value} {X : List Nat} {z : Int} (h : Nm w b v X z) (hX : X.length = 0) : z = 0 := by
  have h1 := h.abs
  rw [List.eq_nil_of_length_eq_zero hX] at h1
  have h2 : Lm.val [] = 0 := rfl
  omega

theorem Nm.odd {w : World} {b : Bool} {v : Value} {X : List Nat} {z E : Int} (h : Nm w b v X z) (hX : ¬ X.length = 0) (n : Nr8 z E) : z.natAbs % 2 = 1 := by
  rcases n with ⟨h0, _⟩ | h1
  · exfalso
    have h1 := h.abs
    rw [h0] at h1
    have := val_zero h.norm h1
    rw [this] at hX; exact hX rfl
  · exact h1

theorem yplus_le (b1 : Bool) (a1 : Option Addr) (c1 : Nat) (X : List Nat) (M1 E1 : Int) (b2 : Bool) (a2 : Option Addr) (c2 : Nat) (Y : List Nat) (M2 E2 : Int) (w : World) (h1 : Nm w b1 (.slice a1 X.length c1) X M1) (h2 : Nm w b2 (.slice a2 Y.length c2) Y M2) (n1 : Nr8 M1 E1) (f1 : X.length ≤ 17592186043904) (f2 : Y.length ≤ 17592186043904) (he1 : -1152921504606846976 ≤ E1) (he2 : E2 ≤ 1152921504606846976) (he3 : -1152921504606846976 ≤ E2) (he4 : E1 ≤ 1152921504606846976) (hle : E1 ≤ E2 ∨ X.length = 0 ∨ Y.length = 0) :
    Calls Tryz.prog 122 #[.agg #[.bool b1, .slice a1 X.length c1, .int .i64 E1], .agg #[.bool b2, .slice a2 Y.length c2, .int .i64 E2]] w (YPlus w (omz (sm M1 E1 M2 E2)) (oe (sm M1 E1 M2 E2) (min E1 E2))) := by
  by_cases hX : X.length = 0
  · rw [h1.zero_len hX, (sm_zero M2 E1 E2).1, (sm_zero M2 E1 E2).2]
    exact yplus_zero1 b1 a1 c1 X M1 E1 b2 a2 c2 Y M2 E2 w h1 h2 f2 (by omega) (by omega) hX
  · by_cases hY : Y.length = 0
    · rw [h2.zero_len hY, sm_comm, Int.min_comm, (sm_zero M1 E2 E1).1, (sm_zero M1 E2 E1).2]
      exact yplus_zero2 b1 a1 c1 X M1 E1 b2 a2 c2 Y M2 E2 w h1 h2 f1 (by omega) (by omega) hX hY
    · have hle2 : E1 ≤ E2 := by
        rcases hle with h | h | h
        · exact h
        · exact absurd h hX
        · exact absurd h hY
      obtain ⟨g, hg⟩ : ∃ g : Nat, E2 - E1 = (g : Int) := ⟨(E2 - E1).toNat, by omega⟩
      rw [(sm_low M1 E1 M2 E2 g hg).1, (sm_low M1 E1 M2 E2 g hg).2]
      by_cases hgap : g ≤ blen (val X) + 1
      · exact yplus_near b1 a1 c1 X M1 E1 b2 a2 c2 Y M2 E2 g w h1 h2 f1 f2 he1 he2 hX hY hg hgap
      · exact yplus_far b1 a1 c1 X M1 E1 b2 a2 c2 Y M2 E2 g w h1 h2 f1 f2 he1 he2 hX hY hg (by omega) (h1.odd hX n1)

/-- What plus answers, as values. -/
def PlusV (w : World) (b : Bool) (v : Value) (n : Nat) (ex r M E : Int) : Prop :=
  (r = 0 ∧ ∃ X z, n = X.length ∧ Nm w b v X z ∧ omz z = M ∧ oe z ex = E ∧ -2305843009213693951 ≤ ex ∧ ex ≤ 2305843009213693952 ∧ X.length ≤ 35184372088800) ∨ (r = 3 ∧ 67108864 < blen M.natAbs)

theorem PlusV.tri8 {w : World} {b : Bool} {v : Value} {n0 : Nat} {ex r M E : Int} {g : Nat} {p : Bool} {a : Option Addr} {n c : Nat} {e : Int} {t : TypeId} (h : PlusV w b v n0 ex r M E) (hl : w.heap[g]? = some (.cells #[.bool p, .slice a n c, .int .i64 e] t)) (p1 : Bool) (a1 : Option Addr) (n1 c1 : Nat) (u2 : Value) : PlusV (((w.setCell ⟨g, 0, none⟩ (.bool p1)).setCell ⟨g, 1, none⟩ (.slice a1 n1 c1)).setCell ⟨g, 2, none⟩ u2) b v n0 ex r M E := by
  rcases h with ⟨h1, X, z, h2, h3, h4⟩ | h
  · exact .inl ⟨h1, X, z, h2, h3.tri8 hl p1 a1 n1 c1 u2, h4⟩
  · exact .inr h

theorem YPlus.vals {w w' : World} {M E : Int} {e : Ending} (h : YPlus w M E e w') : (∃ b a n k ex r, e = .returned (.tuple #[.agg #[.bool b, .slice a n k, .int .i64 ex], .int .i64 r]) ∧ PlusV w' b (.slice a n k) n ex r M E) ∧ Below w.heap.size w w' := by
  obtain ⟨h | h, hb⟩ := h
  · obtain ⟨b, a, n, k, X, z, ex, h1, h2, h3, h4⟩ := h
    exact ⟨⟨b, a, n, k, ex, 0, h1, .inl ⟨rfl, X, z, h2, h3, h4⟩⟩, hb⟩
  · exact ⟨⟨_, _, _, _, _, _, h.1, .inr ⟨rfl, h.2⟩⟩, hb⟩

/-- plus, its answer as values. -/
def YPlusV (w : World) (M E : Int) (e : Ending) (w' : World) : Prop := (∃ b a n k ex r, e = .returned (.tuple #[.agg #[.bool b, .slice a n k, .int .i64 ex], .int .i64 r]) ∧ PlusV w' b (.slice a n k) n ex r M E) ∧ Below w.heap.size w w'

set_option maxRecDepth 20000 in
set_option maxHeartbeats 2000000 in
theorem yplus_any (b1 : Bool) (a1 : Option Addr) (c1 : Nat) (X : List Nat) (M1 E1 : Int) (b2 : Bool) (a2 : Option Addr) (c2 : Nat) (Y : List Nat) (M2 E2 : Int) (w : World) (h1 : Nm w b1 (.slice a1 X.length c1) X M1) (h2 : Nm w b2 (.slice a2 Y.length c2) Y M2) (n1 : Nr8 M1 E1) (n2 : Nr8 M2 E2) (f1 : X.length ≤ 17592186043904) (f2 : Y.length ≤ 17592186043904) (he1 : -1152921504606846976 ≤ E1) (he2 : E2 ≤ 1152921504606846976) (he3 : -1152921504606846976 ≤ E2) (he4 : E1 ≤ 1152921504606846976) :
    Calls Tryz.prog 122 #[.agg #[.bool b1, .slice a1 X.length c1, .int .i64 E1], .agg #[.bool b2, .slice a2 Y.length c2, .int .i64 E2]] w (YPlusV w (omz (sm M1 E1 M2 E2)) (oe (sm M1 E1 M2 E2) (min E1 E2))) := by
  by_cases hle : E1 ≤ E2 ∨ X.length = 0 ∨ Y.length = 0
  · exact (yplus_le b1 a1 c1 X M1 E1 b2 a2 c2 Y M2 E2 w h1 h2 n1 f1 f2 he1 he2 he3 he4 hle).mono fun e w' h => h.vals
  · have hX : ¬ X.length = 0 := fun h => hle (.inr (.inl h))
    have hY : ¬ Y.length = 0 := fun h => hle (.inr (.inr h))
    have hlt : E2 < E1 := Int.lt_of_not_ge fun h => hle (.inl h)
    obtain ⟨w0, hw0, hb0, k0, k1, k2⟩ := enter3 w (.cells #[.bool b1, .slice a1 X.length c1, .int .i64 E1] 153) (.cells #[.bool b2, .slice a2 Y.length c2, .int .i64 E2] 153) (.cells #[.bool false, .slice none 0 0, .int .i64 0] 153)
    obtain ⟨x0, x1, x2⟩ := tri8 k0
    obtain ⟨x3, x4, x5⟩ := tri8 k1
    have HZ1 := yisZero_any b1 a1 X.length c1 w0
    have HZ2 := hide (fun (W : World) => yisZero_any b2 a2 Y.length c2 W)
    rw [decide_eq_false hX] at HZ1
    rw [decide_eq_false hY] at HZ2
    rw [sm_comm M1 E1 M2 E2, Int.min_comm E1 E2]
    have HPL0 := hide (fun (W : World) (hg : Below w.heap.size w W) => yplus_le b2 a2 c2 Y M2 E2 b1 a1 c1 X M1 E1 W (h2.below hg) (h1.below hg) n2 f2 f1 he3 he4 he1 he2 (.inl (by omega)))
    generalize oe (sm M2 E2 M1 E1) (min E2 E1) = RE at *
    generalize omz (sm M2 E2 M1 E1) = RM at *
    have HK0 := hide k0
    have HK1 := hide k1
    have HK2 := hide k2
    have HB := hide hb0
    clear k0 k1 k2 hb0 h1 h2 hle n1 n2
    go_enter Tryz.func122, Tryz.ntmps122
    go_wp2_with fail
    refine HZ1.mono ?_
    rintro e t1 ⟨rfl, g1⟩
    have HG0 := hide (bl_trans8 HB.out g1)
    have HL0 := hide (block_upW g1 HK0.out)
    have HL1 := hide (block_upW g1 HK1.out)
    have HL2 := hide (block_upW g1 HK2.out)
    obtain ⟨l3, l4, l5⟩ := tri8 HL1.out
    have HZZ := HZ2.out t1
    clear g1 HZ1 HZ2 HK0 HK1 HK2 HB x0 x1 x2 x3 x4 x5
    go_wp2_with fail
    refine HZZ.mono ?_
    rintro e t2 ⟨rfl, g2⟩
    have HG1 := hide (bl_trans8 HG0.out g2)
    have HM0 := hide (block_upW g2 HL0.out)
    have HM1 := hide (block_upW g2 HL1.out)
    have HM2 := hide (block_upW g2 HL2.out)
    obtain ⟨l0, l1, l2⟩ := tri8 HM0.out
    obtain ⟨l3, l4, l5⟩ := tri8 HM1.out
    have HPP := HPL0.out t2 HG1.out
    clear g2 HZZ HL0 HL1 HL2 HG0 HPL0
    go_wp2_with fail
    refine HPP.mono ?_
    intro e t3 h3
    obtain ⟨⟨b3, a3, n3, c3, e3, r3, rfl, P3⟩, g3⟩ := h3.vals
    have HC1 := hide (block_upW g3 HM2.out)
    have HG := hide (bl_trans8 HG1.out g3)
    have HPL := hide P3
    have hf1 := tri8f HC1.out
    obtain ⟨m0, m1, m2⟩ := tri8 HC1.out
    clear g3 HPP P3 h3
    go_wp2
    have T3 := tri8_all HC1.out (.bool b3) (.slice a3 n3 c3) (.int .i64 e3)
    have T4 := below_tri8 HG.out (show w.heap.size ≤ w.heap.size + 1 + 1 by omega) (.bool b3) (.slice a3 n3 c3) (.int .i64 e3)
    have T5 := HPL.out.tri8 HC1.out b3 a3 n3 c3 (.int .i64 e3)
    obtain ⟨p0, p1, p2⟩ := tri8 T3
    have HE := hide (And.intro T5 T4)
    clear T3 T4 T5
    generalize ((t3.setCell ⟨w.heap.size + 1 + 1, 0, none⟩ (.bool b3)).setCell ⟨w.heap.size + 1 + 1, 1, none⟩ (.slice a3 n3 c3)).setCell ⟨w.heap.size + 1 + 1, 2, none⟩ (.int .i64 e3) = w5 at *
    refine bodyPost_ret (v := .tuple #[.agg #[.bool b3, .slice a3 n3 c3, .int .i64 e3], .int .i64 r3]) (by simp [results, Tryz.results122, go_sem, p0, p1, p2]) rfl ?_
    exact ⟨⟨_, _, _, _, _, _, rfl, HE.out.1⟩, HE.out.2⟩

set_option maxRecDepth 20000 in
set_option maxHeartbeats 2000000 in
theorem yminus_any (b1 : Bool) (a1 : Option Addr) (c1 : Nat) (X : List Nat) (M1 E1 : Int) (b2 : Bool) (a2 : Option Addr) (c2 : Nat) (Y : List Nat) (M2 E2 : Int) (w : World) (h1 : Nm w b1 (.slice a1 X.length c1) X M1) (h2 : Nm w b2 (.slice a2 Y.length c2) Y M2) (n1 : Nr8 M1 E1) (n2 : Nr8 M2 E2) (f1 : X.length ≤ 17592186043904) (f2 : Y.length ≤ 17592186043904) (he1 : -1152921504606846976 ≤ E1) (he2 : E2 ≤ 1152921504606846976) (he3 : -1152921504606846976 ≤ E2) (he4 : E1 ≤ 1152921504606846976) :
    Calls Tryz.prog 99 #[.agg #[.bool b1, .slice a1 X.length c1, .int .i64 E1], .agg #[.bool b2, .slice a2 Y.length c2, .int .i64 E2]] w (YPlusV w (omz (sm M1 E1 (-M2) E2)) (oe (sm M1 E1 (-M2) E2) (min E1 E2))) := by
  obtain ⟨w0, hw0, hb0, k0, k1, k2⟩ := enter3 w (.cells #[.bool b1, .slice a1 X.length c1, .int .i64 E1] 153) (.cells #[.bool b2, .slice a2 Y.length c2, .int .i64 E2] 153) (.cells #[.bool false, .slice none 0 0, .int .i64 0] 153)
  obtain ⟨x0, x1, x2⟩ := tri8 k0
  obtain ⟨x3, x4, x5⟩ := tri8 k1
  have hfb := tri8f k1
  have d1 : (w0.setCell ⟨w.heap.size + 1, 0, none⟩ (.bool (!b2))).heap[w.heap.size + 1]? = some (.cells #[.bool (!b2), .slice a2 Y.length c2, .int .i64 E2] 153) := box_modify (k := 0) k1 (.bool (!b2))
  have d0 : (w0.setCell ⟨w.heap.size + 1, 0, none⟩ (.bool (!b2))).heap[w.heap.size]? = some (.cells #[.bool b1, .slice a1 X.length c1, .int .i64 E1] 153) := by
    rw [Below.heap_setCell _ _ _ _ (by simp)]; exact k0
  have d2 : (w0.setCell ⟨w.heap.size + 1, 0, none⟩ (.bool (!b2))).heap[w.heap.size + 1 + 1]? = some (.cells #[.bool false, .slice none 0 0, .int .i64 0] 153) := by
    rw [Below.heap_setCell _ _ _ _ (by simp)]; exact k2
  have G1 : Below w.heap.size w (w0.setCell ⟨w.heap.size + 1, 0, none⟩ (.bool (!b2))) := hb0.setCell (p := ⟨w.heap.size + 1, 0, none⟩) (by show w.heap.size ≤ w.heap.size + 1; omega) _
  have h2n : Nm w (!b2) (.slice a2 Y.length c2) Y (-M2) := ⟨h2.arg, h2.norm, by rw [zz_neg, h2.val]⟩
  have n2n : Nr8 (-M2) E2 := by
    rcases n2 with ⟨q1, q2⟩ | q
    · exact .inl ⟨by omega, q2⟩
    · exact .inr (by rw [Int.natAbs_neg]; exact q)
  have HPP := yplus_any b1 a1 c1 X M1 E1 (!b2) a2 c2 Y (-M2) E2 _ (h1.below G1) (h2n.below G1) n1 n2n f1 f2 he1 he2 he3 he4
  generalize oe (sm M1 E1 (-M2) E2) (min E1 E2) = RE at *
  generalize omz (sm M1 E1 (-M2) E2) = RM at *
  obtain ⟨y0, y1, y2⟩ := tri8 d0
  obtain ⟨y3, y4, y5⟩ := tri8 d1
  have HD2 := hide d2
  have HG1 := hide G1
  clear k0 k1 k2 hb0 h1 h2 h2n n1 n2 n2n d0 d1 d2 G1
  go_enter Tryz.func99, Tryz.ntmps99
  go_wp2_with fail
  generalize w0.setCell ⟨w.heap.size + 1, 0, none⟩ (.bool (!b2)) = w1 at *
  refine HPP.mono ?_
  rintro e t3 ⟨⟨b3, a3, n3, c3, e3, r3, rfl, P3⟩, g3⟩
  have HC1 := hide (block_upW g3 HD2.out)
  have HG := hide (bl_trans8 HG1.out g3)
  have HPL := hide P3
  have hf1 := tri8f HC1.out
  obtain ⟨m0, m1, m2⟩ := tri8 HC1.out
  clear g3 HPP P3
  go_wp2
  have T3 := tri8_all HC1.out (.bool b3) (.slice a3 n3 c3) (.int .i64 e3)
  have T4 := below_tri8 HG.out (show w.heap.size ≤ w.heap.size + 1 + 1 by omega) (.bool b3) (.slice a3 n3 c3) (.int .i64 e3)
  have T5 := HPL.out.tri8 HC1.out b3 a3 n3 c3 (.int .i64 e3)
  obtain ⟨p0, p1, p2⟩ := tri8 T3
  have HE := hide (And.intro T5 T4)
  clear T3 T4 T5
  generalize ((t3.setCell ⟨w.heap.size + 1 + 1, 0, none⟩ (.bool b3)).setCell ⟨w.heap.size + 1 + 1, 1, none⟩ (.slice a3 n3 c3)).setCell ⟨w.heap.size + 1 + 1, 2, none⟩ (.int .i64 e3) = w5 at *
  refine bodyPost_ret (v := .tuple #[.agg #[.bool b3, .slice a3 n3 c3, .int .i64 e3], .int .i64 r3]) (by simp [results, Tryz.results99, go_sem, p0, p1, p2]) rfl ?_
  exact ⟨⟨_, _, _, _, _, _, rfl, HE.out.1⟩, HE.out.2⟩

end Go.Proofs.YtppkhhbhnhijpaaGreatDoor
