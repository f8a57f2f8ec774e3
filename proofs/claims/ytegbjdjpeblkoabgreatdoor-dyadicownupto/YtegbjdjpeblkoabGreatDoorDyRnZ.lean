/- The document's Neg, Abs, Mul of dyadics. -/
import Derived.Test.YtegbjdjpeblkoabGreatDoorQ9
import Derived.Test.YtegbjdjpeblkoabGreatDoorQ3
import Derived.Test.YtegbjdjpeblkoabGreatDoorDyZnZ
namespace Go.Proofs.YtegbjdjpeblkoabGreatDoor
open Go.RowKit
open Lm
attribute [local go_sem ↓] Go.wp_at_zero Go.wp_at_succ

theorem blen_mul8 {a b m n : Nat} (ha : blen a ≤ m) (hb : blen b ≤ n) : blen (a * b) ≤ m + n := by
  refine (blen_le_iff _ _).2 ?_
  have h1 := (blen_le_iff a m).1 ha
  have h2 := (blen_le_iff b n).1 hb
  rw [Nat.pow_add]
  exact Nat.mul_lt_mul_of_lt_of_lt h1 h2

theorem Zn.dn {w : World} {b : Bool} {a : Option Addr} {n c : Nat} {M : Int} (h : Zn w (.agg #[.bool b, .slice a n c]) M) : Dn w b (.slice a n c) M := by
  obtain ⟨u, e1, hn⟩ := h
  have e2 : b = decide (M < 0) ∧ .slice a n c = u := by
    have := congrArg Value.cells e1
    simp [Value.cells] at this
    exact this
  obtain ⟨h1, rfl⟩ := e2
  exact ⟨h1, hn⟩

set_option maxRecDepth 20000 in
set_option maxHeartbeats 1000000 in
theorem rdAbs_any (b : Bool) (a : Option Addr) (n c : Nat) (M E : Int) (w : World) (hD : Dn w b (.slice a n c) M) :
    Calls Tryz.prog 17 #[.agg #[.bool b, .slice a n c, .int .i64 E]] w (DnDone w (M.natAbs : Int) E) := by
  obtain ⟨w0, hw0, hb0, h0, h1⟩ := enter2 w (.cells #[.bool b, .slice a n c, .int .i64 E] 29) (.cells #[.bool false, .slice none 0 0, .int .i64 0] 29)
  have gd : Below w.heap.size w w0.drew := hb0.drew
  have g0 : Below w0.drew.heap.size w0.drew w0.drew := Below.refl _ _
  have HR := rzabs_any (.agg #[.bool b, .slice a n c]) M w0.drew (hD.below gd).zn
  have KS := hide (fun (W : World) (hg : Below w0.drew.heap.size w0.drew W) => show W.cell? ⟨w.heap.size, 0, none⟩ = some (.bool b) ∧ W.cell? ⟨w.heap.size, 1, none⟩ = some (.slice a n c) ∧ W.cell? ⟨w.heap.size, 2, none⟩ = some (.int .i64 E) from tri8 (block_upW hg (show w0.drew.heap[w.heap.size]? = some (.cells #[.bool b, .slice a n c, .int .i64 E] 29) from h0)))
  have so : ∀ (W : World) (k : Nat) (u : Value) (k' : Nat), (W.setCell ⟨w.heap.size + 1, k, none⟩ u).cell? ⟨w.heap.size, k', none⟩ = W.cell? ⟨w.heap.size, k', none⟩ := fun W k u k' => cell_other8 (by omega)
  have HC1 := hide h1
  have HD := hide gd
  clear gd h0 h1 hb0 hD
  go_enter Tryz.func17, Tryz.ntmps17
  go_wp2
  go_region_held3 (fun w' => w'.cell? ⟨w.heap.size, 0, none⟩ = some (.bool b) ∧ w'.cell? ⟨w.heap.size, 1, none⟩ = some (.slice a n c) ∧ w'.cell? ⟨w.heap.size, 2, none⟩ = some (.int .i64 E)) (first | with_reducible exact KS.out _ g1 | with_reducible exact KS.out _ g0 | (refine ⟨?_, ?_, ?_⟩ <;> (rw [so, so, so]; first | exact (KS.out _ g1).1 | exact (KS.out _ g1).2.1 | exact (KS.out _ g1).2.2))) (first
    | (go_at_call 46; refine HR.mono ?_; rintro e' t2 ⟨⟨b2, a2, n2, c2, rfl, Z2⟩, g1⟩; have N2 := Z2.dn; have hz := block_upW g1 (show w0.drew.heap[w.heap.size + 1]? = some (.cells #[.bool false, .slice none 0 0, .int .i64 0] 29) from HC1.out); have hf := tri8f hz; obtain ⟨m0, m1, m2⟩ := tri8 hz))
  have T3 := tri8_all hz (.bool b2) (.slice a2 n2 c2) (.int .i64 E)
  have T4 := below_tri8 (bl_trans8 HD.out g1) (show w.heap.size ≤ w.heap.size + 1 by omega) (.bool b2) (.slice a2 n2 c2) (.int .i64 E)
  have T5 := N2.tri8 hz b2 a2 n2 c2 (.int .i64 E)
  obtain ⟨p0, p1, p2⟩ := tri8 T3
  have HE := hide (And.intro T5 T4)
  clear T3 T4 T5 so m0 m1 m2 hf KS g0 g1 HR hz N2 Z2
  generalize ((t2.setCell ⟨w.heap.size + 1, 0, none⟩ (.bool b2)).setCell ⟨w.heap.size + 1, 1, none⟩ (.slice a2 n2 c2)).setCell ⟨w.heap.size + 1, 2, none⟩ (.int .i64 E) = w5 at *
  go_wp2
  refine bodyPost_ret (v := .agg #[.bool b2, .slice a2 n2 c2, .int .i64 E]) (by simp [results, Tryz.results17, go_sem, p0, p1, p2]) rfl ?_
  exact ⟨⟨_, _, _, _, rfl, HE.out.1⟩, HE.out.2⟩

set_option maxRecDepth 20000 in
set_option maxHeartbeats 1000000 in
theorem rdMul_any (b1 : Bool) (a1 : Option Addr) (n1 c1 : Nat) (M1 E1 : Int) (b2 : Bool) (a2 : Option Addr) (n2 c2 : Nat) (M2 E2 : Int) (w : World) (hD1 : Dn w b1 (.slice a1 n1 c1) M1) (hD2 : Dn w b2 (.slice a2 n2 c2) M2) (hf : blen M1.natAbs + blen M2.natAbs ≤ 1125899906840000) (he1 : -2305843009213693952 ≤ E1) (he2 : E1 ≤ 2305843009213693952) (he3 : -2305843009213693952 ≤ E2) (he4 : E2 ≤ 2305843009213693952) :
    Calls Tryz.prog 16 #[.agg #[.bool b1, .slice a1 n1 c1, .int .i64 E1], .agg #[.bool b2, .slice a2 n2 c2, .int .i64 E2]] w (DnDone w (omz (M1 * M2)) (oe (M1 * M2) (E1 + E2))) := by
  obtain ⟨w0, hw0, hb0, h0, h1, h2⟩ := enter3 w (.cells #[.bool b1, .slice a1 n1 c1, .int .i64 E1] 29) (.cells #[.bool b2, .slice a2 n2 c2, .int .i64 E2] 29) (.cells #[.bool false, .slice none 0 0, .int .i64 0] 29)
  have gd : Below w.heap.size w w0.drew := hb0.drew
  have g0 : Below w0.drew.heap.size w0.drew w0.drew := Below.refl _ _
  have HR := rzmul_any (.agg #[.bool b1, .slice a1 n1 c1]) (.agg #[.bool b2, .slice a2 n2 c2]) M1 M2 w0.drew (hD1.below gd).zn (hD2.below gd).zn hf
  have hbm : blen (M1 * M2).natAbs ≤ 1125899906840000 := by
    rw [Int.natAbs_mul]
    exact Nat.le_trans (blen_mul8 (Nat.le_refl _) (Nat.le_refl _)) hf
  have HOF := hide (fun (W : World) (b3 : Bool) (a3 : Option Addr) (n3 c3 : Nat) (h : Zn W (.agg #[.bool b3, .slice a3 n3 c3]) (M1 * M2)) => rdOf_any b3 a3 n3 c3 (M1 * M2) (E1 + E2) W h hbm (by omega) (by omega))
  have wk : IntKind.i64.wrap (E1 + E2) = E1 + E2 := by rw [IntKind.wrap_i64]; omega
  have KS := hide (fun (W : World) (hg : Below w0.drew.heap.size w0.drew W) => show W.cell? ⟨w.heap.size, 0, none⟩ = some (.bool b1) ∧ W.cell? ⟨w.heap.size, 1, none⟩ = some (.slice a1 n1 c1) ∧ W.cell? ⟨w.heap.size, 2, none⟩ = some (.int .i64 E1) ∧ W.cell? ⟨w.heap.size + 1, 0, none⟩ = some (.bool b2) ∧ W.cell? ⟨w.heap.size + 1, 1, none⟩ = some (.slice a2 n2 c2) ∧ W.cell? ⟨w.heap.size + 1, 2, none⟩ = some (.int .i64 E2) from by
    obtain ⟨x0, x1, x2⟩ := tri8 (block_upW hg (show w0.drew.heap[w.heap.size]? = some (.cells #[.bool b1, .slice a1 n1 c1, .int .i64 E1] 29) from h0))
    obtain ⟨x3, x4, x5⟩ := tri8 (block_upW hg (show w0.drew.heap[w.heap.size + 1]? = some (.cells #[.bool b2, .slice a2 n2 c2, .int .i64 E2] 29) from h1))
    exact ⟨x0, x1, x2, x3, x4, x5⟩)
  have so : ∀ (W : World) (k : Nat) (u : Value) (k' : Nat), (W.setCell ⟨w.heap.size + 1 + 1, k, none⟩ u).cell? ⟨w.heap.size, k', none⟩ = W.cell? ⟨w.heap.size, k', none⟩ := fun W k u k' => cell_other8 (by omega)
  have so2 : ∀ (W : World) (k : Nat) (u : Value) (k' : Nat), (W.setCell ⟨w.heap.size + 1 + 1, k, none⟩ u).cell? ⟨w.heap.size + 1, k', none⟩ = W.cell? ⟨w.heap.size + 1, k', none⟩ := fun W k u k' => cell_other8 (by omega)
  have HC1 := hide h2
  have HD := hide gd
  clear gd h0 h1 h2 hb0 hD1 hD2 hbm hf
  generalize oe (M1 * M2) (E1 + E2) = EE at *
  generalize omz (M1 * M2) = MM at *
  generalize hes : E1 + E2 = es at *
  have hes2 : E1 + E2 = es := hes
  clear hes
  go_enter Tryz.func16, Tryz.ntmps16
  go_wp2
  go_region_held3 (fun w' => w'.cell? ⟨w.heap.size, 0, none⟩ = some (.bool b1) ∧ w'.cell? ⟨w.heap.size, 1, none⟩ = some (.slice a1 n1 c1) ∧ w'.cell? ⟨w.heap.size, 2, none⟩ = some (.int .i64 E1) ∧ w'.cell? ⟨w.heap.size + 1, 0, none⟩ = some (.bool b2) ∧ w'.cell? ⟨w.heap.size + 1, 1, none⟩ = some (.slice a2 n2 c2) ∧ w'.cell? ⟨w.heap.size + 1, 2, none⟩ = some (.int .i64 E2)) (first | with_reducible exact KS.out _ g2 | with_reducible exact KS.out _ g1 | with_reducible exact KS.out _ g0 | (refine ⟨?_, ?_, ?_, ?_, ?_, ?_⟩ <;> (first | rw [so, so, so] | rw [so2, so2, so2]) <;> (first | exact (KS.out _ g2).1 | exact (KS.out _ g2).2.1 | exact (KS.out _ g2).2.2.1 | exact (KS.out _ g2).2.2.2.1 | exact (KS.out _ g2).2.2.2.2.1 | exact (KS.out _ g2).2.2.2.2.2))) (first
    | (go_at_call 45; refine HR.mono ?_; rintro e' t2 ⟨⟨b3, a3, n3, c3, rfl, Z2⟩, g1⟩)
    | (go_at_call 12; refine (HOF.out t2 b3 a3 n3 c3 Z2).mono ?_; rintro e' t3 ⟨⟨b4, a4, n4, c4, rfl, N4⟩, hb2⟩; have g2 := bl_trans8 g1 hb2; have hz := block_upW g2 (show w0.drew.heap[w.heap.size + 1 + 1]? = some (.cells #[.bool false, .slice none 0 0, .int .i64 0] 29) from HC1.out); have hf := tri8f hz; obtain ⟨m0, m1, m2⟩ := tri8 hz))
  have T3 := tri8_all hz (.bool b4) (.slice a4 n4 c4) (.int .i64 EE)
  have T4 := below_tri8 (bl_trans8 HD.out g2) (show w.heap.size ≤ w.heap.size + 1 + 1 by omega) (.bool b4) (.slice a4 n4 c4) (.int .i64 EE)
  have T5 := N4.tri8 hz b4 a4 n4 c4 (.int .i64 EE)
  obtain ⟨p0, p1, p2⟩ := tri8 T3
  have HE := hide (And.intro T5 T4)
  clear T3 T4 T5 so so2 m0 m1 m2 hf KS g0 g1 g2 hb2 HR hz N4 Z2 HOF
  generalize ((t3.setCell ⟨w.heap.size + 1 + 1, 0, none⟩ (.bool b4)).setCell ⟨w.heap.size + 1 + 1, 1, none⟩ (.slice a4 n4 c4)).setCell ⟨w.heap.size + 1 + 1, 2, none⟩ (.int .i64 EE) = w5 at *
  go_wp2
  refine bodyPost_ret (v := .agg #[.bool b4, .slice a4 n4 c4, .int .i64 EE]) (by simp [results, Tryz.results16, go_sem, p0, p1, p2]) rfl ?_
  exact ⟨⟨_, _, _, _, rfl, HE.out.1⟩, HE.out.2⟩

end Go.Proofs.YtegbjdjpeblkoabGreatDoor
