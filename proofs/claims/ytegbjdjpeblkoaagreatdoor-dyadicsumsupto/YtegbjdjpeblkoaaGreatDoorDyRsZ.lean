/- The document's Sum of dyadics. -/
import Derived.Test.YtegbjdjpeblkoaaGreatDoorDyRdZ
namespace Go.Proofs.YtegbjdjpeblkoaaGreatDoor
open Go.RowKit
open Lm
attribute [local go_sem ↓] Go.wp_at_zero Go.wp_at_succ

/-- What the document's Sum answers: M times 2^E, or an error. -/
def SumR (w : World) (M E : Int) (e : Ending) (w' : World) : Prop :=
  (∃ b a n k E' f, e = .returned (.tuple #[.agg #[.bool b, .slice a n k, .int .i64 E'], .int .i64 f]) ∧
    ((f = 0 ∧ Dn w' b (.slice a n k) M ∧ E' = E ∧ blen M.natAbs ≤ 67108864 ∧ fitE E = true) ∨ (f = 3 ∧ 67108864 < blen M.natAbs) ∨ (f = 80 ∧ blen M.natAbs ≤ 67108864 ∧ fitE E = false))) ∧ Below w.heap.size w w'

set_option maxRecDepth 20000 in
set_option maxHeartbeats 1000000 in
theorem rdSum_any (b1 : Bool) (a1 : Option Addr) (n1 c1 : Nat) (E1 : Int) (b2 : Bool) (a2 : Option Addr) (n2 c2 : Nat) (E2 : Int) (M E : Int) (w : World) (hadd : ∀ W, Below w.heap.size w W → Calls Tryz.prog 36 #[.agg #[.bool b1, .slice a1 n1 c1, .int .i64 E1], .agg #[.bool b2, .slice a2 n2 c2, .int .i64 E2]] W (AddR W M E)) :
    Calls Tryz.prog 15 #[.agg #[.bool b1, .slice a1 n1 c1, .int .i64 E1], .agg #[.bool b2, .slice a2 n2 c2, .int .i64 E2]] w (SumR w M E) := by
  obtain ⟨w0, hw0, hb0, h0, h1, h2⟩ := enter3 w (.cells #[.bool b1, .slice a1 n1 c1, .int .i64 E1] 36) (.cells #[.bool b2, .slice a2 n2 c2, .int .i64 E2] 36) (.cells #[.bool false, .slice none 0 0, .int .i64 0] 36)
  obtain ⟨x0, x1, x2⟩ := tri8 h0
  obtain ⟨x3, x4, x5⟩ := tri8 h1
  have HA := hadd w0 hb0
  have HK2 := hide h2
  have HB := hide hb0
  clear h0 h1 h2 hb0 hadd
  go_enter Tryz.func15, Tryz.ntmps15
  go_wp2_with fail
  refine HA.mono ?_
  rintro e t1 ⟨⟨b3, a3, n3, c3, e3, ok, rfl, hcase⟩, g1⟩
  obtain ⟨w4, hw4, hb4, h4⟩ := enter1 t1 (.cells #[.bool b3, .slice a3 n3 c3, .int .i64 e3] 36)
  have g4 := bl_trans8 g1 hb4
  have HC4 := hide (block_upW g4 HK2.out)
  have HG4 := hide (bl_trans8 HB.out g4)
  have HK4 := hide h4
  clear x0 x1 x2 x3 x4 x5 HA HK2 HB g4 h4
  rcases hcase with ⟨rfl, hd, rfl⟩ | ⟨rfl, hbig⟩
  · have HTD := rtold_any b3 a3 n3 c3 M e3 w4 (hd.below hb4)
    obtain ⟨x0, x1, x2⟩ := tri8 HK4.out
    clear hd hb4 g1
    go_wp2_with fail
    refine HTD.mono ?_
    rintro e t2 ⟨⟨b5, a5, n5, c5, e5, f, rfl, hT⟩, g2⟩
    have HC1 := hide (block_upW g2 HC4.out)
    have HG := hide (bl_trans8 HG4.out g2)
    have hf1 := tri8f HC1.out
    obtain ⟨m0, m1, m2⟩ := tri8 HC1.out
    have HTT := hide hT
    clear g2 HTD hT x0 x1 x2
    go_wp2
    have T3 := tri8_all HC1.out (.bool b5) (.slice a5 n5 c5) (.int .i64 e5)
    have T4 := below_tri8 HG.out (show w.heap.size ≤ w.heap.size + 1 + 1 by omega) (.bool b5) (.slice a5 n5 c5) (.int .i64 e5)
    have T5 := fun (h : Dn t2 b5 (.slice a5 n5 c5) M) => h.tri8 HC1.out b5 a5 n5 c5 (.int .i64 e5)
    obtain ⟨p0, p1, p2⟩ := tri8 T3
    have HE := hide (And.intro T4 T5)
    clear T3 T4 T5
    generalize ((t2.setCell ⟨w.heap.size + 1 + 1, 0, none⟩ (.bool b5)).setCell ⟨w.heap.size + 1 + 1, 1, none⟩ (.slice a5 n5 c5)).setCell ⟨w.heap.size + 1 + 1, 2, none⟩ (.int .i64 e5) = w5 at *
    refine bodyPost_ret (v := .tuple #[.agg #[.bool b5, .slice a5 n5 c5, .int .i64 e5], .int .i64 f]) (by simp [results, Tryz.results15, go_sem, p0, p1, p2]) rfl ?_
    refine ⟨⟨_, _, _, _, _, _, rfl, ?_⟩, HE.out.1⟩
    rcases HTT.out with ⟨q1, q2, q3, q4, q5, q6, q7⟩ | ⟨q1, q2⟩ | ⟨q1, q2, q3⟩
    · refine .inl ⟨q1, HE.out.2 ?_, q4, q5, q6⟩
      rw [q2, q3]; exact q7
    · exact .inr (.inl ⟨q1, q2⟩)
    · exact .inr (.inr ⟨q1, q2, q3⟩)
  · have HBIG := hide hbig
    have hf1 := tri8f HC4.out
    obtain ⟨m0, m1, m2⟩ := tri8 HC4.out
    clear hbig hb4 g1
    go_wp2
    have T3 := tri8_all HC4.out (.bool false) (.slice none 0 0) (.int .i64 0)
    have T4 := below_tri8 HG4.out (show w.heap.size ≤ w.heap.size + 1 + 1 by omega) (.bool false) (.slice none 0 0) (.int .i64 0)
    obtain ⟨p0, p1, p2⟩ := tri8 T3
    have HE := hide T4
    clear T3 T4
    generalize ((w4.setCell ⟨w.heap.size + 1 + 1, 0, none⟩ (.bool false)).setCell ⟨w.heap.size + 1 + 1, 1, none⟩ (.slice none 0 0)).setCell ⟨w.heap.size + 1 + 1, 2, none⟩ (.int .i64 0) = w5 at *
    refine bodyPost_ret (v := .tuple #[.agg #[.bool false, .slice none 0 0, .int .i64 0], .int .i64 3]) (by simp [results, Tryz.results15, go_sem, p0, p1, p2]) rfl ?_
    exact ⟨⟨_, _, _, _, _, _, rfl, .inr (.inl ⟨rfl, HBIG.out⟩)⟩, HE.out⟩

end Go.Proofs.YtegbjdjpeblkoaaGreatDoor
