/- The document's Neg, Abs, Mul of dyadics. -/
import Derived.Test.YtemajaclpkgpbaaDoorQ9
import Derived.Test.YtemajaclpkgpbaaDoorQ3
import Derived.Test.YtemajaclpkgpbaaDoorDyZnZ
namespace Go.Proofs.YtemajaclpkgpbaaDoor
open Go.RowKit
open Lm
attribute [local go_sem ↓] Go.wp_at_zero Go.wp_at_succ

theorem blen_mul8 {a b m n : Nat} (ha : blen a ≤ m) (hb : blen b ≤ n) : blen (a * b) ≤ m + n := by
  refine (blen_le_iff _ _).2 ?_
  have h1 := (blen_le_iff a m).1 ha
  have h2 := (blen_le_iff b n).1 hb
  rw [Nat.pow_add]
  exact Nat.mul_lt_mul_of_lt_of_lt h1 h2

theorem Zn.dn {w : World} {b : Bool} {a : Option Addr} {n c : Nat} {M : Int} (h : Zn w (.agg #[.bool b, .slice a n c]) M) : Dn w b (.slice a n c) M := by
  obtain ⟨u, e1, hn⟩ := h
  have e2 : b = decide (M < 0) ∧ .slice a n c = u := by
    have := congrArg Value.cells e1
    simp [Value.cells] at this
    exact this
  obtain ⟨h1, rfl⟩ := e2
  exact ⟨h1, hn⟩

set_option maxRecDepth 20000 in
set_option maxHeartbeats 1000000 in
theorem rdNeg_any (b : Bool) (a : Option Addr) (n c : Nat) (M E : Int) (w : World) (hD : Dn w b (.slice a n c) M) :
    Calls Tryd.prog 39 #[.agg #[.bool b, .slice a n c, .int .i64 E]] w (DnDone w (-M) E) := by
  obtain ⟨w0, hw0, hb0, h0, h1⟩ := enter2 w (.cells #[.bool b, .slice a n c, .int .i64 E] 36) (.cells #[.bool false, .slice none 0 0, .int .i64 0] 36)
  have gd : Below w.heap.size w w0.drew := hb0.drew
  have g0 : Below w0.drew.heap.size w0.drew w0.drew := Below.refl _ _
  have HR := rzneg_any (.agg #[.bool b, .slice a n c]) M w0.drew (hD.below gd).zn
  have KS := hide (fun (W : World) (hg : Below w0.drew.heap.size w0.drew W) => show W.cell? ⟨w.heap.size, 0, none⟩ = some (.bool b) ∧ W.cell? ⟨w.heap.size, 1, none⟩ = some (.slice a n c) ∧ W.cell? ⟨w.heap.size, 2, none⟩ = some (.int .i64 E) from tri8 (block_upW hg (show w0.drew.heap[w.heap.size]? = some (.cells #[.bool b, .slice a n c, .int .i64 E] 36) from h0)))
  have so : ∀ (W : World) (k : Nat) (u : Value) (k' : Nat), (W.setCell ⟨w.heap.size + 1, k, none⟩ u).cell? ⟨w.heap.size, k', none⟩ = W.cell? ⟨w.heap.size, k', none⟩ := fun W k u k' => cell_other8 (by omega)
  have HC1 := hide h1
  have HD := hide gd
  clear gd h0 h1 hb0 hD
  go_enter Tryd.func39, Tryd.ntmps39
  go_wp2
  go_region_held3 (fun w' => w'.cell? ⟨w.heap.size, 0, none⟩ = some (.bool b) ∧ w'.cell? ⟨w.heap.size, 1, none⟩ = some (.slice a n c) ∧ w'.cell? ⟨w.heap.size, 2, none⟩ = some (.int .i64 E)) (first | with_reducible exact KS.out _ g1 | with_reducible exact KS.out _ g0 | (refine ⟨?_, ?_, ?_⟩ <;> (rw [so, so, so]; first | exact (KS.out _ g1).1 | exact (KS.out _ g1).2.1 | exact (KS.out _ g1).2.2))) (first
    | (go_at_call 77; refine HR.mono ?_; rintro e' t2 ⟨⟨b2, a2, n2, c2, rfl, Z2⟩, g1⟩; have N2 := Z2.dn; have hz := block_upW g1 (show w0.drew.heap[w.heap.size + 1]? = some (.cells #[.bool false, .slice none 0 0, .int .i64 0] 36) from HC1.out); have hf := tri8f hz; obtain ⟨m0, m1, m2⟩ := tri8 hz))
  have T3 := tri8_all hz (.bool b2) (.slice a2 n2 c2) (.int .i64 E)
  have T4 := below_tri8 (bl_trans8 HD.out g1) (show w.heap.size ≤ w.heap.size + 1 by omega) (.bool b2) (.slice a2 n2 c2) (.int .i64 E)
  have T5 := N2.tri8 hz b2 a2 n2 c2 (.int .i64 E)
  obtain ⟨p0, p1, p2⟩ := tri8 T3
  have HE := hide (And.intro T5 T4)
  clear T3 T4 T5 so m0 m1 m2 hf KS g0 g1 HR hz N2 Z2
  generalize ((t2.setCell ⟨w.heap.size + 1, 0, none⟩ (.bool b2)).setCell ⟨w.heap.size + 1, 1, none⟩ (.slice a2 n2 c2)).setCell ⟨w.heap.size + 1, 2, none⟩ (.int .i64 E) = w5 at *
  go_wp2
  refine bodyPost_ret (v := .agg #[.bool b2, .slice a2 n2 c2, .int .i64 E]) (by simp [results, Tryd.results39, go_sem, p0, p1, p2]) rfl ?_
  exact ⟨⟨_, _, _, _, rfl, HE.out.1⟩, HE.out.2⟩

set_option maxRecDepth 20000 in
set_option maxHeartbeats 1000000 in
theorem rdAbs_any (b : Bool) (a : Option Addr) (n c : Nat) (M E : Int) (w : World) (hD : Dn w b (.slice a n c) M) :
    Calls Tryd.prog 41 #[.agg #[.bool b, .slice a n c, .int .i64 E]] w (DnDone w (M.natAbs : Int) E) := by
  obtain ⟨w0, hw0, hb0, h0, h1⟩ := enter2 w (.cells #[.bool b, .slice a n c, .int .i64 E] 36) (.cells #[.bool false, .slice none 0 0, .int .i64 0] 36)
  have gd : Below w.heap.size w w0.drew := hb0.drew
  have g0 : Below w0.drew.heap.size w0.drew w0.drew := Below.refl _ _
  have HR := rzabs_any (.agg #[.bool b, .slice a n c]) M w0.drew (hD.below gd).zn
  have KS := hide (fun (W : World) (hg : Below w0.drew.heap.size w0.drew W) => show W.cell? ⟨w.heap.size, 0, none⟩ = some (.bool b) ∧ W.cell? ⟨w.heap.size, 1, none⟩ = some (.slice a n c) ∧ W.cell? ⟨w.heap.size, 2, none⟩ = some (.int .i64 E) from tri8 (block_upW hg (show w0.drew.heap[w.heap.size]? = some (.cells #[.bool b, .slice a n c, .int .i64 E] 36) from h0)))
  have so : ∀ (W : World) (k : Nat) (u : Value) (k' : Nat), (W.setCell ⟨w.heap.size + 1, k, none⟩ u).cell? ⟨w.heap.size, k', none⟩ = W.cell? ⟨w.heap.size, k', none⟩ := fun W k u k' => cell_other8 (by omega)
  have HC1 := hide h1
  have HD := hide gd
  clear gd h0 h1 hb0 hD
  go_enter Tryd.func41, Tryd.ntmps41
  go_wp2
  go_region_held3 (fun w' => w'.cell? ⟨w.heap.size, 0, none⟩ = some (.bool b) ∧ w'.cell? ⟨w.heap.size, 1, none⟩ = some (.slice a n c) ∧ w'.cell? ⟨w.heap.size, 2, none⟩ = some (.int .i64 E)) (first | with_reducible exact KS.out _ g1 | with_reducible exact KS.out _ g0 | (refine ⟨?_, ?_, ?_⟩ <;> (rw [so, so, so]; first | exact (KS.out _ g1).1 | exact (KS.out _ g1).2.1 | exact (KS.out _ g1).2.2))) (first
    | (go_at_call 78; refine HR.mono ?_; rintro e' t2 ⟨⟨b2, a2, n2, c2, rfl, Z2⟩, g1⟩; have N2 := Z2.dn; have hz := block_upW g1 (show w0.drew.heap[w.heap.size + 1]? = some (.cells #[.bool false, .slice none 0 0, .int .i64 0] 36) from HC1.out); have hf := tri8f hz; obtain ⟨m0, m1, m2⟩ := tri8 hz))
  have T3 := tri8_all hz (.bool b2) (.slice a2 n2 c2) (.int .i64 E)
  have T4 := below_tri8 (bl_trans8 HD.out g1) (show w.heap.size ≤ w.heap.size + 1 by omega) (.bool b2) (.slice a2 n2 c2) (.int .i64 E)
  have T5 := N2.tri8 hz b2 a2 n2 c2 (.int .i64 E)
  obtain ⟨p0, p1, p2⟩ := tri8 T3
  have HE := hide (And.intro T5 T4)
  clear T3 T4 T5 so m0 m1 m2 hf KS g0 g1 HR hz N2 Z2
  generalize ((t2.setCell ⟨w.heap.size + 1, 0, none⟩ (.bool b2)).setCell ⟨w.heap.size + 1, 1, none⟩ (.slice a2 n2 c2)).setCell ⟨w.heap.size + 1, 2, none⟩ (.int .i64 E) = w5 at *
  go_wp2
  refine bodyPost_ret (v := .agg #[.bool b2, .slice a2 n2 c2, .int .i64 E]) (by simp [results, Tryd.results41, go_sem, p0, p1, p2]) rfl ?_
  exact ⟨⟨_, _, _, _, rfl, HE.out.1⟩, HE.out.2⟩

end Go.Proofs.YtemajaclpkgpbaaDoor
