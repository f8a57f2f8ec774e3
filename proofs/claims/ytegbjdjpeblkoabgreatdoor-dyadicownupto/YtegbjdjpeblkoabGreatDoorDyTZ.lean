/- What the laws of dyadics use: lent, of, mode. -/
import Derived.Test.YtegbjdjpeblkoabGreatDoorDyKZ
import Derived.Test.YtegbjdjpeblkoabGreatDoorDyMZ
namespace Go.Proofs.YtegbjdjpeblkoabGreatDoor
open Go.RowKit
open Lm
attribute [local go_sem ↓] Go.wp_at_zero Go.wp_at_succ

set_option maxRecDepth 20000 in
set_option maxHeartbeats 1000000 in
theorem of8_no (b : Bool) (a : Option Addr) (n c : Nat) (ex : Int) (w : World) (hE : fitE ex = false) :
    Calls Tryz.prog 4 #[.agg #[.bool b, .slice a n c, .int .i64 ex]] w fun e w' => e = .returned (.tuple #[.agg #[.bool false, .slice none 0 0, .int .i64 0], .bool false]) ∧ Below w.heap.size w w' := by
  obtain ⟨w0, hw0, hb0, h0, h1⟩ := enter2 w (.cells #[.bool b, .slice a n c, .int .i64 ex] 24) (.cells #[.bool false, .slice none 0 0, .int .i64 0] 29)
  obtain ⟨k0, k1, k2⟩ := tri8 h0
  have HP := rfits_any ex w0
  rw [hE] at HP
  have hf := tri8f h1
  obtain ⟨m0, m1, m2⟩ := tri8 h1
  have H1 := hide h1
  have HB := hide hb0
  clear h0 h1 hb0 hE
  go_enter Tryz.func4, Tryz.ntmps4
  go_wp2_with fail
  refine HP.mono ?_
  rintro e wn ⟨rfl, hw⟩; rw [hw]; clear hw wn HP
  go_wp2
  have T3 := tri8_all H1.out (.bool false) (.slice none 0 0) (.int .i64 0)
  have T4 := below_tri8 HB.out (show w.heap.size ≤ w.heap.size + 1 by omega) (.bool false) (.slice none 0 0) (.int .i64 0)
  obtain ⟨p0, p1, p2⟩ := tri8 T3
  have HE := hide T4
  clear T3 T4
  generalize ((w0.setCell ⟨w.heap.size + 1, 0, none⟩ (.bool false)).setCell ⟨w.heap.size + 1, 1, none⟩ (.slice none 0 0)).setCell ⟨w.heap.size + 1, 2, none⟩ (.int .i64 0) = w5 at *
  refine bodyPost_ret (v := .tuple #[.agg #[.bool false, .slice none 0 0, .int .i64 0], .bool false]) (by simp [results, Tryz.results4, go_sem, p0, p1, p2]) rfl ?_
  exact ⟨rfl, HE.out⟩

set_option maxRecDepth 20000 in
set_option maxHeartbeats 2000000 in
theorem of8_ok (b : Bool) (a : Option Addr) (c : Nat) (X : List Nat) (ex : Int) (w : World) (hA : Arg w (.slice a X.length c) X) (hf : X.length ≤ 17592186043904) (hE : fitE ex = true) :
    Calls Tryz.prog 4 #[.agg #[.bool b, .slice a X.length c, .int .i64 ex]] w fun e w' => (∃ b' a' n' c', e = .returned (.tuple #[.agg #[.bool b', .slice a' n' c', .int .i64 (oe (zz b (val X)) ex)], .bool true]) ∧ Dn w' b' (.slice a' n' c') (omz (zz b (val X)))) ∧ Below w.heap.size w w' := by
  obtain ⟨w0, hw0, hb0, h0, h1⟩ := enter2 w (.cells #[.bool b, .slice a X.length c, .int .i64 ex] 24) (.cells #[.bool false, .slice none 0 0, .int .i64 0] 29)
  obtain ⟨k0, k1, k2⟩ := tri8 h0
  have HP := rfits_any ex w0
  rw [hE] at HP
  have hEr := (fitE_iff ex).1 hE
  have gd : Below w.heap.size w w0.drew := hb0.drew
  have g0 : Below w0.drew.heap.size w0.drew w0.drew := Below.refl _ _
  have HO := rzof_any b _ X w0.drew (hA.below gd) (by omega)
  have hbl : blen (zz b (val X)).natAbs ≤ 1125899906840000 := by
    rw [zz_abs]; have := blen_len8 hA.limbs; omega
  have HD := hide (fun (W : World) (b1 : Bool) (a1 : Option Addr) (n1 c1 : Nat) (hz : Zn W (.agg #[.bool b1, .slice a1 n1 c1]) (zz b (val X))) => rdOf_any b1 a1 n1 c1 (zz b (val X)) ex W hz hbl (by omega) (by omega))
  have KS := hide (fun (W : World) (hg : Below w0.drew.heap.size w0.drew W) => show W.cell? ⟨w.heap.size, 0, none⟩ = some (.bool b) ∧ W.cell? ⟨w.heap.size, 1, none⟩ = some (.slice a X.length c) ∧ W.cell? ⟨w.heap.size, 2, none⟩ = some (.int .i64 ex) from tri8 (block_upW hg (show w0.drew.heap[w.heap.size]? = some (.cells #[.bool b, .slice a X.length c, .int .i64 ex] 24) from h0)))
  have so : ∀ (W : World) (k : Nat) (u : Value) (k' : Nat), (W.setCell ⟨w.heap.size + 1, k, none⟩ u).cell? ⟨w.heap.size, k', none⟩ = W.cell? ⟨w.heap.size, k', none⟩ := fun W k u k' => cell_other8 (by omega)
  have H1 := hide (show w0.drew.heap[w.heap.size + 1]? = some (.cells #[.bool false, .slice none 0 0, .int .i64 0] 29) from h1)
  have HB := hide gd
  clear h0 h1 hb0 gd hE hA hbl
  generalize omz (zz b (val X)) = M at *
  generalize oe (zz b (val X)) ex = E at *
  generalize zz b (val X) = z at *
  go_enter Tryz.func4, Tryz.ntmps4
  go_wp2_with fail
  refine HP.mono ?_
  rintro e wn ⟨rfl, hw⟩; rw [hw]; clear hw wn HP
  go_wp2
  go_region_held3 (fun w' => w'.cell? ⟨w.heap.size, 0, none⟩ = some (.bool b) ∧ w'.cell? ⟨w.heap.size, 1, none⟩ = some (.slice a X.length c) ∧ w'.cell? ⟨w.heap.size, 2, none⟩ = some (.int .i64 ex)) (first | with_reducible exact KS.out _ g2 | with_reducible exact KS.out _ g1 | with_reducible exact KS.out _ g0 | (refine ⟨?_, ?_, ?_⟩ <;> (rw [so, so, so]; first | exact (KS.out _ g2).1 | exact (KS.out _ g2).2.1 | exact (KS.out _ g2).2.2))) (first
    | (go_at_call 13; refine HO.mono ?_; rintro e' t1 ⟨⟨b1, a1, n1, c1, rfl, z1⟩, g1⟩)
    | (go_at_call 12; refine (HD.out t1 b1 a1 n1 c1 z1).mono ?_; rintro e' t2 ⟨⟨b2, a2, n2, c2, rfl, d2⟩, hb2⟩; have g2 := bl_trans8 g1 hb2; have hz := block_upW g2 H1.out; have hf := tri8f hz; obtain ⟨m0, m1, m2⟩ := tri8 hz))
  have T3 := tri8_all hz (.bool b2) (.slice a2 n2 c2) (.int .i64 E)
  have T4 := below_tri8 (bl_trans8 HB.out g2) (show w.heap.size ≤ w.heap.size + 1 by omega) (.bool b2) (.slice a2 n2 c2) (.int .i64 E)
  have T5 := d2.tri8 hz b2 a2 n2 c2 (.int .i64 E)
  obtain ⟨p0, p1, p2⟩ := tri8 T3
  have HE := hide (And.intro T5 T4)
  clear T3 T4 T5 so m0 m1 m2 hf KS g0 g1 g2 hb2 HO hz d2 z1 HD k0 k1 k2
  generalize ((t2.setCell ⟨w.heap.size + 1, 0, none⟩ (.bool b2)).setCell ⟨w.heap.size + 1, 1, none⟩ (.slice a2 n2 c2)).setCell ⟨w.heap.size + 1, 2, none⟩ (.int .i64 E) = w5 at *
  go_wp2
  refine bodyPost_ret (v := .tuple #[.agg #[.bool b2, .slice a2 n2 c2, .int .i64 E], .bool true]) (by simp [results, Tryz.results4, go_sem, p0, p1, p2]) rfl ?_
  exact ⟨⟨_, _, _, _, rfl, HE.out.1⟩, HE.out.2⟩

end Go.Proofs.YtegbjdjpeblkoabGreatDoor
