/- The document's Add of dyadics, where one of them is 0; where the first has the higher exponent. -/
import Derived.Test.YtemajaclpkgpbaaDoorDyRnZ
import Derived.Test.YtemajaclpkgpbaaDoorRzSZ
import Derived.Test.YtemajaclpkgpbaaDoorDyV2Z
namespace Go.Proofs.YtemajaclpkgpbaaDoor
open Go.RowKit
open Lm
attribute [local go_sem ↓] Go.wp_at_zero Go.wp_at_succ

/-- What the document's Add answers: M times 2^E, or that it is too big. -/
def AddR (w : World) (M E : Int) (e : Ending) (w' : World) : Prop :=
  (∃ b a n k E' ok, e = .returned (.tuple #[.agg #[.bool b, .slice a n k, .int .i64 E'], .bool ok]) ∧ ((ok = true ∧ Dn w' b (.slice a n k) M ∧ E' = E) ∨ (ok = false ∧ 67108864 < blen M.natAbs ∧ Dn w' b (.slice a n k) 0))) ∧ Below w.heap.size w w'

/-- The same, with what is known where it is false. -/
def AddK (w : World) (K : Nat) (M E : Int) (e : Ending) (w' : World) : Prop :=
  (∃ b a n k E' ok, e = .returned (.tuple #[.agg #[.bool b, .slice a n k, .int .i64 E'], .bool ok]) ∧ ((ok = true ∧ Dn w' b (.slice a n k) M ∧ E' = E) ∨ (ok = false ∧ 67108864 + K < blen M.natAbs ∧ Dn w' b (.slice a n k) 0))) ∧ Below w.heap.size w w'

theorem AddK.r {w w' : World} {K : Nat} {M E : Int} {e : Ending} (h : AddK w K M E e w') : AddR w M E e w' := by
  obtain ⟨⟨b, a, n, k, E', ok, h1, h2 | h2⟩, h3⟩ := h
  · exact ⟨⟨b, a, n, k, E', ok, h1, .inl h2⟩, h3⟩
  · exact ⟨⟨b, a, n, k, E', ok, h1, .inr ⟨h2.1, by have := h2.2.1; omega, h2.2.2⟩⟩, h3⟩

set_option maxRecDepth 20000 in
set_option maxHeartbeats 1000000 in
theorem rdAdd_zero1 (b1 : Bool) (a1 : Option Addr) (n1 c1 : Nat) (E1 : Int) (b2 : Bool) (a2 : Option Addr) (n2 c2 : Nat) (M2 E2 : Int) (w : World) (hD1 : Dn w b1 (.slice a1 n1 c1) 0) (hD2 : Dn w b2 (.slice a2 n2 c2) M2) (K : Nat) :
    Calls Tryd.prog 38 #[.agg #[.bool b1, .slice a1 n1 c1, .int .i64 E1], .agg #[.bool b2, .slice a2 n2 c2, .int .i64 E2]] w (AddK w K M2 E2) := by
  obtain ⟨w0, hw0, hb0, h0, h1, h2⟩ := enter3 w (.cells #[.bool b1, .slice a1 n1 c1, .int .i64 E1] 36) (.cells #[.bool b2, .slice a2 n2 c2, .int .i64 E2] 36) (.cells #[.bool false, .slice none 0 0, .int .i64 0] 36)
  obtain ⟨x0, x1, x2⟩ := tri8 h0
  have HS := rzsign_any _ 0 w0 (hD1.below hb0).zn
  rw [show Int.sign 0 = 0 from rfl] at HS
  have HK1 := hide h1
  have HK2 := hide h2
  have HB := hide hb0
  have HD2 := hide (hD2.below hb0)
  clear h0 h1 h2 hb0 hD1 hD2
  go_enter Tryd.func38, Tryd.ntmps38
  go_wp2_with fail
  refine HS.mono ?_
  rintro e t1 ⟨rfl, g1⟩
  have HC1 := hide (block_upW g1 HK2.out)
  have HG := hide (bl_trans8 HB.out g1)
  have hf1 := tri8f HC1.out
  obtain ⟨m0, m1, m2⟩ := tri8 HC1.out
  obtain ⟨y0, y1, y2⟩ := tri8 (block_upW g1 HK1.out)
  have HDD := hide (HD2.out.below g1)
  clear g1 HS
  go_wp2
  have T3 := tri8_all HC1.out (.bool b2) (.slice a2 n2 c2) (.int .i64 E2)
  have T4 := below_tri8 HG.out (show w.heap.size ≤ w.heap.size + 1 + 1 by omega) (.bool b2) (.slice a2 n2 c2) (.int .i64 E2)
  have T5 := HDD.out.tri8 HC1.out b2 a2 n2 c2 (.int .i64 E2)
  obtain ⟨p0, p1, p2⟩ := tri8 T3
  have HE := hide (And.intro T5 T4)
  clear T3 T4 T5
  generalize ((t1.setCell ⟨w.heap.size + 1 + 1, 0, none⟩ (.bool b2)).setCell ⟨w.heap.size + 1 + 1, 1, none⟩ (.slice a2 n2 c2)).setCell ⟨w.heap.size + 1 + 1, 2, none⟩ (.int .i64 E2) = w5 at *
  refine bodyPost_ret (v := .tuple #[.agg #[.bool b2, .slice a2 n2 c2, .int .i64 E2], .bool true]) (by simp [results, Tryd.results38, go_sem, p0, p1, p2]) rfl ?_
  exact ⟨⟨_, _, _, _, _, _, rfl, .inl ⟨rfl, HE.out.1, rfl⟩⟩, HE.out.2⟩

set_option maxRecDepth 20000 in
set_option maxHeartbeats 1000000 in
theorem rdAdd_zero2 (b1 : Bool) (a1 : Option Addr) (n1 c1 : Nat) (M1 E1 : Int) (b2 : Bool) (a2 : Option Addr) (n2 c2 : Nat) (E2 : Int) (w : World) (hD1 : Dn w b1 (.slice a1 n1 c1) M1) (hD2 : Dn w b2 (.slice a2 n2 c2) 0) (hM : M1 ≠ 0) (K : Nat) :
    Calls Tryd.prog 38 #[.agg #[.bool b1, .slice a1 n1 c1, .int .i64 E1], .agg #[.bool b2, .slice a2 n2 c2, .int .i64 E2]] w (AddK w K M1 E1) := by
  obtain ⟨w0, hw0, hb0, h0, h1, h2⟩ := enter3 w (.cells #[.bool b1, .slice a1 n1 c1, .int .i64 E1] 36) (.cells #[.bool b2, .slice a2 n2 c2, .int .i64 E2] 36) (.cells #[.bool false, .slice none 0 0, .int .i64 0] 36)
  obtain ⟨x0, x1, x2⟩ := tri8 h0
  have HS := rzsign_any _ M1 w0 (hD1.below hb0).zn
  have hs0 : (M1.sign == 0) = false := by
    rw [beq_eq_false_iff_ne]
    exact fun h => hM (Int.sign_eq_zero_iff_zero.1 h)
  generalize M1.sign = s1 at *
  have HK0 := hide h0
  have HK1 := hide h1
  have HK2 := hide h2
  have HB := hide hb0
  have HD1 := hide (hD1.below hb0)
  have HD2 := hide (hD2.below hb0)
  clear h0 h1 h2 hb0 hD1 hD2 hM
  go_enter Tryd.func38, Tryd.ntmps38
  go_wp2_with fail
  refine HS.mono ?_
  rintro e t0 ⟨rfl, g0⟩
  have HS2 := rzsign_any _ 0 t0 (HD2.out.below g0).zn
  rw [show Int.sign 0 = 0 from rfl] at HS2
  obtain ⟨y0, y1, y2⟩ := tri8 (block_upW g0 HK1.out)
  have HG0 := hide g0
  clear x0 x1 x2 HS g0
  go_wp2_with fail
  refine HS2.mono ?_
  rintro e t1 ⟨rfl, g1'⟩
  have g1 := bl_trans8 HG0.out g1'
  have HC1 := hide (block_upW g1 HK2.out)
  have HG := hide (bl_trans8 HB.out g1)
  have hf1 := tri8f HC1.out
  obtain ⟨m0, m1, m2⟩ := tri8 HC1.out
  obtain ⟨y0, y1, y2⟩ := tri8 (block_upW g1 HK0.out)
  have HDD := hide (HD1.out.below g1)
  clear g1 g1' HS2
  go_wp2
  have T3 := tri8_all HC1.out (.bool b1) (.slice a1 n1 c1) (.int .i64 E1)
  have T4 := below_tri8 HG.out (show w.heap.size ≤ w.heap.size + 1 + 1 by omega) (.bool b1) (.slice a1 n1 c1) (.int .i64 E1)
  have T5 := HDD.out.tri8 HC1.out b1 a1 n1 c1 (.int .i64 E1)
  obtain ⟨p0, p1, p2⟩ := tri8 T3
  have HE := hide (And.intro T5 T4)
  clear T3 T4 T5
  generalize ((t1.setCell ⟨w.heap.size + 1 + 1, 0, none⟩ (.bool b1)).setCell ⟨w.heap.size + 1 + 1, 1, none⟩ (.slice a1 n1 c1)).setCell ⟨w.heap.size + 1 + 1, 2, none⟩ (.int .i64 E1) = w5 at *
  refine bodyPost_ret (v := .tuple #[.agg #[.bool b1, .slice a1 n1 c1, .int .i64 E1], .bool true]) (by simp [results, Tryd.results38, go_sem, p0, p1, p2]) rfl ?_
  exact ⟨⟨_, _, _, _, _, _, rfl, .inl ⟨rfl, HE.out.1, rfl⟩⟩, HE.out.2⟩

end Go.Proofs.YtemajaclpkgpbaaDoor
