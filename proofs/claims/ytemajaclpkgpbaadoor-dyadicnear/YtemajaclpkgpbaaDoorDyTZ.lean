/- What the laws of dyadics use: lent, of, mode. -/
import Derived.Test.YtemajaclpkgpbaaDoorDyKZ
import Derived.Test.YtemajaclpkgpbaaDoorDyMZ
namespace Go.Proofs.YtemajaclpkgpbaaDoor
open Go.RowKit
open Lm
attribute [local go_sem ↓] Go.wp_at_zero Go.wp_at_succ

theorem mode8_any (m : Int) (w : World) : Calls Tryd.prog 12 #[.int .i64 m] w fun e w' => e = .returned (.bool (isM m)) ∧ w' = w := by
  by_cases h1 : 0 ≤ m
  · have h1' : decide (0 ≤ m) = true := decide_eq_true h1
    by_cases h2 : m ≤ 2
    · have h2' : decide (m ≤ 2) = true := decide_eq_true h2
      rw [show isM m = true by rw [isM, h1', h2']; rfl]
      go_enter Tryd.func12, Tryd.ntmps12
      go_wp2
      go_ret
      exact ⟨rfl, rfl⟩
    · have h2' : decide (m ≤ 2) = false := decide_eq_false h2
      rw [show isM m = false by rw [isM, h1', h2']; rfl]
      go_enter Tryd.func12, Tryd.ntmps12
      go_wp2
      go_ret
      exact ⟨rfl, rfl⟩
  · have h1' : decide (0 ≤ m) = false := decide_eq_false h1
    rw [show isM m = false by rw [isM, h1']; rfl]
    go_enter Tryd.func12, Tryd.ntmps12
    go_wp2
    go_ret
    exact ⟨rfl, rfl⟩

set_option maxRecDepth 20000 in
set_option maxHeartbeats 1000000 in
theorem lent8_any (b : Bool) (a : Option Addr) (c : Nat) (X : List Nat) (ex : Int) (w : World) (hA : Arg w (.slice a X.length c) X) (hf : X.length ≤ 35184372088000) :
    Calls Tryd.prog 8 #[.agg #[.bool b, .slice a X.length c, .int .i64 ex]] w fun e w' => (∃ aw mw nw a' c', e = .returned (.tuple #[.slice aw mw nw, .agg #[.bool b, .slice a' X.length c', .int .i64 ex]]) ∧ Lent w' (.slice aw mw nw) X ∧ Arg w' (.slice a' X.length c') X) ∧ Below w.heap.size w w' := by
  obtain ⟨w0, hw0, hb0, h0, hx0⟩ := enter2 w (.cells #[.bool b, .slice a X.length c, .int .i64 ex] 24) (.cells #[.bool false, .slice none 0 0, .int .i64 0] 29)
  obtain ⟨k0, k1, k2⟩ := tri8 h0
  have HM := lend_ok _ X w0 (hA.below hb0) hf
  have HB0 := hide hb0
  have HX0 := hide hx0
  have HK0 := hide h0
  clear hA hb0 h0 hx0
  go_enter Tryd.func8, Tryd.ntmps8
  go_wp2_with fail
  refine HM.mono ?_
  rintro e w1 ⟨⟨vw, vp, rfl, hL, hP⟩, hb1⟩
  obtain ⟨gw, rfl, hgw⟩ := hL
  obtain ⟨a1, n1, rfl, _, _, _⟩ := hP.form
  have hbx := block_upW hb1 HX0.out
  have hf1 := tri8f hbx
  obtain ⟨l0, l1, l2⟩ := tri8 hbx
  obtain ⟨j0, j1, j2⟩ := tri8 (block_upW hb1 HK0.out)
  have HBX := hide hbx
  have HBE := hide (HB0.out.trans (hb1.mono HB0.out.size))
  have HP := hide hP
  have HG := hide hgw
  clear hbx hb1 HM hw0 k0 k1 k2 hP hgw
  go_wp2
  go_region
  have R5 := tri8_all HBX.out (.bool b) (.slice a1 X.length n1) (.int .i64 ex)
  have HD := hide (And.intro (HP.out.tri8 HBX.out b a1 X.length n1 (.int .i64 ex)) (below_tri8 HBE.out (show w.heap.size ≤ w.heap.size + 1 by omega) (.bool b) (.slice a1 X.length n1) (.int .i64 ex)))
  have hgl : gw ≠ w.heap.size + 1 := by
    rintro rfl
    have h := HG.out
    unfold Blk at h
    rw [HBX.out] at h
    simp at h
  have HLT : Hid (Blk (((w1.setCell ⟨w.heap.size + 1, 0, none⟩ (.bool b)).setCell ⟨w.heap.size + 1, 1, none⟩ (.slice a1 X.length n1)).setCell ⟨w.heap.size + 1, 2, none⟩ (.int .i64 ex)) gw (lent X)) := hide (by
    have h := HG.out
    unfold Blk at h ⊢
    rw [Below.heap_setCell _ _ _ _ hgl, Below.heap_setCell _ _ _ _ hgl, Below.heap_setCell _ _ _ _ hgl]
    exact h)
  generalize ((w1.setCell ⟨w.heap.size + 1, 0, none⟩ (.bool b)).setCell ⟨w.heap.size + 1, 1, none⟩ (.slice a1 X.length n1)).setCell ⟨w.heap.size + 1, 2, none⟩ (.int .i64 ex) = w5 at *
  obtain ⟨q0, q1, q2⟩ := tri8 (show w5.drew.heap[w.heap.size + 1]? = _ from R5)
  go_wp2
  refine bodyPost_ret (v := .tuple #[.slice (some ⟨gw, 0, none⟩) (X.length + 4) (X.length + 4), .agg #[.bool b, .slice a1 X.length n1, .int .i64 ex]]) (by simp [results, Tryd.results8, go_sem, q0, q1, q2]) rfl ?_
  exact ⟨⟨_, _, _, _, _, rfl, ⟨gw, rfl, HLT.out⟩, HD.out.1.below (Below.refl _ _).drew⟩, HD.out.2.drew⟩

set_option maxRecDepth 20000 in
set_option maxHeartbeats 1000000 in
theorem of8_no (b : Bool) (a : Option Addr) (n c : Nat) (ex : Int) (w : World) (hE : fitE ex = false) :
    Calls Tryd.prog 9 #[.agg #[.bool b, .slice a n c, .int .i64 ex]] w fun e w' => e = .returned (.tuple #[.agg #[.bool false, .slice none 0 0, .int .i64 0], .bool false]) ∧ Below w.heap.size w w' := by
  obtain ⟨w0, hw0, hb0, h0, h1⟩ := enter2 w (.cells #[.bool b, .slice a n c, .int .i64 ex] 24) (.cells #[.bool false, .slice none 0 0, .int .i64 0] 36)
  obtain ⟨k0, k1, k2⟩ := tri8 h0
  have HP := rfits_any ex w0
  rw [hE] at HP
  have hf := tri8f h1
  obtain ⟨m0, m1, m2⟩ := tri8 h1
  have H1 := hide h1
  have HB := hide hb0
  clear h0 h1 hb0 hE
  go_enter Tryd.func9, Tryd.ntmps9
  go_wp2_with fail
  refine HP.mono ?_
  rintro e wn ⟨rfl, hw⟩; rw [hw]; clear hw wn HP
  go_wp2
  have T3 := tri8_all H1.out (.bool false) (.slice none 0 0) (.int .i64 0)
  have T4 := below_tri8 HB.out (show w.heap.size ≤ w.heap.size + 1 by omega) (.bool false) (.slice none 0 0) (.int .i64 0)
  obtain ⟨p0, p1, p2⟩ := tri8 T3
  have HE := hide T4
  clear T3 T4
  generalize ((w0.setCell ⟨w.heap.size + 1, 0, none⟩ (.bool false)).setCell ⟨w.heap.size + 1, 1, none⟩ (.slice none 0 0)).setCell ⟨w.heap.size + 1, 2, none⟩ (.int .i64 0) = w5 at *
  refine bodyPost_ret (v := .tuple #[.agg #[.bool false, .slice none 0 0, .int .i64 0], .bool false]) (by simp [results, Tryd.results9, go_sem, p0, p1, p2]) rfl ?_
  exact ⟨rfl, HE.out⟩

set_option maxRecDepth 20000 in
set_option maxHeartbeats 2000000 in
theorem of8_ok (b : Bool) (a : Option Addr) (c : Nat) (X : List Nat) (ex : Int) (w : World) (hA : Arg w (.slice a X.length c) X) (hf : X.length ≤ 17592186043904) (hE : fitE ex = true) :
    Calls Tryd.prog 9 #[.agg #[.bool b, .slice a X.length c, .int .i64 ex]] w fun e w' => (∃ b' a' n' c', e = .returned (.tuple #[.agg #[.bool b', .slice a' n' c', .int .i64 (oe (zz b (val X)) ex)], .bool true]) ∧ Dn w' b' (.slice a' n' c') (omz (zz b (val X)))) ∧ Below w.heap.size w w' := by
  obtain ⟨w0, hw0, hb0, h0, h1⟩ := enter2 w (.cells #[.bool b, .slice a X.length c, .int .i64 ex] 24) (.cells #[.bool false, .slice none 0 0, .int .i64 0] 36)
  obtain ⟨k0, k1, k2⟩ := tri8 h0
  have HP := rfits_any ex w0
  rw [hE] at HP
  have hEr := (fitE_iff ex).1 hE
  have gd : Below w.heap.size w w0.drew := hb0.drew
  have g0 : Below w0.drew.heap.size w0.drew w0.drew := Below.refl _ _
  have HO := rzof_any b _ X w0.drew (hA.below gd) (by omega)
  have hbl : blen (zz b (val X)).natAbs ≤ 1125899906840000 := by
    rw [zz_abs]; have := blen_len8 hA.limbs; omega
  have HD := hide (fun (W : World) (b1 : Bool) (a1 : Option Addr) (n1 c1 : Nat) (hz : Zn W (.agg #[.bool b1, .slice a1 n1 c1]) (zz b (val X))) => rdOf_any b1 a1 n1 c1 (zz b (val X)) ex W hz hbl (by omega) (by omega))
  have KS := hide (fun (W : World) (hg : Below w0.drew.heap.size w0.drew W) => show W.cell? ⟨w.heap.size, 0, none⟩ = some (.bool b) ∧ W.cell? ⟨w.heap.size, 1, none⟩ = some (.slice a X.length c) ∧ W.cell? ⟨w.heap.size, 2, none⟩ = some (.int .i64 ex) from tri8 (block_upW hg (show w0.drew.heap[w.heap.size]? = some (.cells #[.bool b, .slice a X.length c, .int .i64 ex] 24) from h0)))
  have so : ∀ (W : World) (k : Nat) (u : Value) (k' : Nat), (W.setCell ⟨w.heap.size + 1, k, none⟩ u).cell? ⟨w.heap.size, k', none⟩ = W.cell? ⟨w.heap.size, k', none⟩ := fun W k u k' => cell_other8 (by omega)
  have H1 := hide (show w0.drew.heap[w.heap.size + 1]? = some (.cells #[.bool false, .slice none 0 0, .int .i64 0] 36) from h1)
  have HB := hide gd
  clear h0 h1 hb0 gd hE hA hbl
  generalize omz (zz b (val X)) = M at *
  generalize oe (zz b (val X)) ex = E at *
  generalize zz b (val X) = z at *
  go_enter Tryd.func9, Tryd.ntmps9
  go_wp2_with fail
  refine HP.mono ?_
  rintro e wn ⟨rfl, hw⟩; rw [hw]; clear hw wn HP
  go_wp2
  go_region_held3 (fun w' => w'.cell? ⟨w.heap.size, 0, none⟩ = some (.bool b) ∧ w'.cell? ⟨w.heap.size, 1, none⟩ = some (.slice a X.length c) ∧ w'.cell? ⟨w.heap.size, 2, none⟩ = some (.int .i64 ex)) (first | with_reducible exact KS.out _ g2 | with_reducible exact KS.out _ g1 | with_reducible exact KS.out _ g0 | (refine ⟨?_, ?_, ?_⟩ <;> (rw [so, so, so]; first | exact (KS.out _ g2).1 | exact (KS.out _ g2).2.1 | exact (KS.out _ g2).2.2))) (first
    | (go_at_call 49; refine HO.mono ?_; rintro e' t1 ⟨⟨b1, a1, n1, c1, rfl, z1⟩, g1⟩)
    | (go_at_call 48; refine (HD.out t1 b1 a1 n1 c1 z1).mono ?_; rintro e' t2 ⟨⟨b2, a2, n2, c2, rfl, d2⟩, hb2⟩; have g2 := bl_trans8 g1 hb2; have hz := block_upW g2 H1.out; have hf := tri8f hz; obtain ⟨m0, m1, m2⟩ := tri8 hz))
  have T3 := tri8_all hz (.bool b2) (.slice a2 n2 c2) (.int .i64 E)
  have T4 := below_tri8 (bl_trans8 HB.out g2) (show w.heap.size ≤ w.heap.size + 1 by omega) (.bool b2) (.slice a2 n2 c2) (.int .i64 E)
  have T5 := d2.tri8 hz b2 a2 n2 c2 (.int .i64 E)
  obtain ⟨p0, p1, p2⟩ := tri8 T3
  have HE := hide (And.intro T5 T4)
  clear T3 T4 T5 so m0 m1 m2 hf KS g0 g1 g2 hb2 HO hz d2 z1 HD k0 k1 k2
  generalize ((t2.setCell ⟨w.heap.size + 1, 0, none⟩ (.bool b2)).setCell ⟨w.heap.size + 1, 1, none⟩ (.slice a2 n2 c2)).setCell ⟨w.heap.size + 1, 2, none⟩ (.int .i64 E) = w5 at *
  go_wp2
  refine bodyPost_ret (v := .tuple #[.agg #[.bool b2, .slice a2 n2 c2, .int .i64 E], .bool true]) (by simp [results, Tryd.results9, go_sem, p0, p1, p2]) rfl ?_
  exact ⟨⟨_, _, _, _, rfl, HE.out.1⟩, HE.out.2⟩

end Go.Proofs.YtemajaclpkgpbaaDoor
