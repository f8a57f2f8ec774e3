/- Package dyadic: Cut. -/
import Derived.Test.YtemajaclpkgpbaaDoorDyNZ
import Derived.Test.YtemajaclpkgpbaaDoorDyOZ
import Derived.Deep.RegionHeld3
namespace Go.Proofs.YtemajaclpkgpbaaDoor
open Go.RowKit
open Lm
attribute [local go_sem ↓] Go.wp_at_zero Go.wp_at_succ

/-- The position that a length asks for. -/
noncomputable def cutP (M E bits : Int) : Int := E + ((blen M.natAbs : Nat) : Int) - bits

set_option maxRecDepth 20000 in
set_option maxHeartbeats 1000000 in
theorem ycut_no (b : Bool) (a : Option Addr) (n c : Nat) (ex bits m : Int) (w : World) (hE : fitE ex = false) :
    Calls Tryd.prog 10 #[.agg #[.bool b, .slice a n c, .int .i64 ex], .int .i64 bits, .int .i64 m] w fun e w' => DErr 80 e ∧ Below w.heap.size w w' := by
  obtain ⟨w0, hw0, hb0, h0, h1'⟩ := enter2 w (.cells #[.bool b, .slice a n c, .int .i64 ex] 29) (.cells #[.bool false, .slice none 0 0, .int .i64 0] 29)
  obtain ⟨k0, k1, k2⟩ := tri8 h0
  have HP := yread_no b a n c ex w0 hE
  have HC := hide h1'
  have HB := hide hb0
  clear h0 h1' hb0 hE
  go_enter Tryd.func10, Tryd.ntmps10
  go_wp2_with fail
  refine HP.mono ?_
  rintro e t1 ⟨he, g1⟩
  obtain ⟨fb, fa, fn, fc, fe, rfl⟩ : ∃ fb fa fn fc fe, e = .returned (.tuple #[.agg #[.bool fb, .slice fa fn fc, .int .i64 fe], .int .i64 80]) := ⟨_, _, _, _, _, he⟩
  clear he
  obtain ⟨w4, hw4, hb4, h4⟩ := enter1 t1 (.cells #[.bool fb, .slice fa fn fc, .int .i64 fe] 92)
  have HC1 := hide (block_upW hb4 (block_upW g1 HC.out))
  have HG := hide (bl_trans8 (bl_trans8 HB.out g1) hb4)
  have hf1 := tri8f HC1.out
  obtain ⟨m0, m1, m2⟩ := tri8 HC1.out
  clear g1 hb4 h4 HP
  go_wp2
  have T3 := tri8_all HC1.out (.bool false) (.slice none 0 0) (.int .i64 0)
  have T4 := below_tri8 HG.out (show w.heap.size ≤ w.heap.size + 1 by omega) (.bool false) (.slice none 0 0) (.int .i64 0)
  obtain ⟨p0, p1, p2⟩ := tri8 T3
  have HE := hide T4
  clear T3 T4
  generalize ((w4.setCell ⟨w.heap.size + 1, 0, none⟩ (.bool false)).setCell ⟨w.heap.size + 1, 1, none⟩ (.slice none 0 0)).setCell ⟨w.heap.size + 1, 2, none⟩ (.int .i64 0) = w5 at *
  refine bodyPost_ret (v := .tuple #[.agg #[.bool false, .slice none 0 0, .int .i64 0], .int .i64 80]) (by simp [results, Tryd.results10, go_sem, p0, p1, p2]) rfl ?_
  exact ⟨rfl, HE.out⟩

set_option maxRecDepth 20000 in
set_option maxHeartbeats 1000000 in
theorem ycut_arg (b : Bool) (a : Option Addr) (c : Nat) (X : List Nat) (ex bits m : Int) (w : World) (hA : Arg w (.slice a X.length c) X) (hT : Tab w) (hf : X.length ≤ 17592186044400) (hE : fitE ex = true) (hK : bits < 1) :
    Calls Tryd.prog 10 #[.agg #[.bool b, .slice a X.length c, .int .i64 ex], .int .i64 bits, .int .i64 m] w fun e w' => DErr 1 e ∧ Below w.heap.size w w' := by
  have i1 : decide (bits < 1) = true := decide_eq_true hK
  obtain ⟨w0, hw0, hb0, h0, h1'⟩ := enter2 w (.cells #[.bool b, .slice a X.length c, .int .i64 ex] 29) (.cells #[.bool false, .slice none 0 0, .int .i64 0] 29)
  obtain ⟨k0, k1, k2⟩ := tri8 h0
  have HS0 := hide (show w.heap.size + 2 ≤ w0.heap.size by rw [← hw0, World.size_alloc, World.size_alloc]; omega)
  have HP := yread_ok b a c X ex w0 (hA.below hb0) (hT.below hb0) (by omega) hE
  have HC := hide h1'
  have HB := hide hb0
  have HT := hide hT
  have hbz : blen (zz b (val X)).natAbs ≤ 64 * X.length := by
    rw [zz_abs, blen_le_iff, Nat.mul_comm, ← W_pow]; exact val_lt hA.limbs
  have hEr := (fitE_iff ex).1 hE
  have hOE := oe_range (zz b (val X)) ex (by omega)
  have hbo : blen (omz (zz b (val X))).natAbs ≤ 17592186044400 * 64 := by
    have h5 := blen_mono (od_le (zz b (val X)).natAbs)
    rw [omz_abs]; omega
  clear h0 h1' hb0 hE hA hT hbz
  generalize oe (zz b (val X)) ex = E at *
  generalize omz (zz b (val X)) = M at *
  have he1 : -1152921504606846976 ≤ E - 1152921504606846 := by omega
  have he2 : E + 1152921504606846 ≤ 1152921504606846976 := by omega
  go_enter Tryd.func10, Tryd.ntmps10
  go_wp2_with fail
  refine HP.mono ?_
  rintro e t1 ⟨⟨b1, a1, n1, c1, X1, rfl, rfl, N1, hb1⟩, g1⟩
  obtain ⟨w4, hw4, hb4, h4⟩ := enter1 t1 (.cells #[.bool b1, .slice a1 X1.length c1, .int .i64 E] 92)
  have HC1 := hide (block_upW hb4 (block_upW g1 HC.out))
  have HG := hide (bl_trans8 (bl_trans8 HB.out g1) hb4)
  have HMO := yisMode_any m w4
  have hf1 := tri8f HC1.out
  obtain ⟨m0, m1, m2⟩ := tri8 HC1.out
  obtain ⟨l0, l1, l2⟩ := tri8 h4
  have HN1 := hide (N1.below hb4)
  have H4 := hide h4
  have HLT := hide (show w.heap.size + 1 < t1.heap.size by have := g1.size; have := HS0.out; omega)
  clear g1 hb4 h4 HP HC HB N1
  go_wp2
  have T3 := tri8_all HC1.out (.bool false) (.slice none 0 0) (.int .i64 0)
  have T4 := below_tri8 HG.out (show w.heap.size ≤ w.heap.size + 1 by omega) (.bool false) (.slice none 0 0) (.int .i64 0)
  obtain ⟨p0, p1, p2⟩ := tri8 T3
  have HE := hide T4
  clear T3 T4
  generalize ((w4.setCell ⟨w.heap.size + 1, 0, none⟩ (.bool false)).setCell ⟨w.heap.size + 1, 1, none⟩ (.slice none 0 0)).setCell ⟨w.heap.size + 1, 2, none⟩ (.int .i64 0) = w5 at *
  refine bodyPost_ret (v := .tuple #[.agg #[.bool false, .slice none 0 0, .int .i64 0], .int .i64 1]) (by simp [results, Tryd.results10, go_sem, p0, p1, p2]) rfl ?_
  exact ⟨rfl, HE.out⟩

set_option maxRecDepth 20000 in
set_option maxHeartbeats 1000000 in
theorem ycut_mode (b : Bool) (a : Option Addr) (c : Nat) (X : List Nat) (ex bits m : Int) (w : World) (hA : Arg w (.slice a X.length c) X) (hT : Tab w) (hf : X.length ≤ 17592186044400) (hE : fitE ex = true) (hK : 1 ≤ bits) (hM : isM m = false) :
    Calls Tryd.prog 10 #[.agg #[.bool b, .slice a X.length c, .int .i64 ex], .int .i64 bits, .int .i64 m] w fun e w' => DErr 81 e ∧ Below w.heap.size w w' := by
  have i1 : decide (bits < 1) = false := decide_eq_false (by omega)
  have i1b : ¬ bits < 1 := by omega
  obtain ⟨w0, hw0, hb0, h0, h1'⟩ := enter2 w (.cells #[.bool b, .slice a X.length c, .int .i64 ex] 29) (.cells #[.bool false, .slice none 0 0, .int .i64 0] 29)
  obtain ⟨k0, k1, k2⟩ := tri8 h0
  have HS0 := hide (show w.heap.size + 2 ≤ w0.heap.size by rw [← hw0, World.size_alloc, World.size_alloc]; omega)
  have HP := yread_ok b a c X ex w0 (hA.below hb0) (hT.below hb0) (by omega) hE
  have HC := hide h1'
  have HB := hide hb0
  have HT := hide hT
  have hbz : blen (zz b (val X)).natAbs ≤ 64 * X.length := by
    rw [zz_abs, blen_le_iff, Nat.mul_comm, ← W_pow]; exact val_lt hA.limbs
  have hEr := (fitE_iff ex).1 hE
  have hOE := oe_range (zz b (val X)) ex (by omega)
  have hbo : blen (omz (zz b (val X))).natAbs ≤ 17592186044400 * 64 := by
    have h5 := blen_mono (od_le (zz b (val X)).natAbs)
    rw [omz_abs]; omega
  clear h0 h1' hb0 hE hA hT hbz
  generalize oe (zz b (val X)) ex = E at *
  generalize omz (zz b (val X)) = M at *
  have he1 : -1152921504606846976 ≤ E - 1152921504606846 := by omega
  have he2 : E + 1152921504606846 ≤ 1152921504606846976 := by omega
  go_enter Tryd.func10, Tryd.ntmps10
  go_wp2_with fail
  refine HP.mono ?_
  rintro e t1 ⟨⟨b1, a1, n1, c1, X1, rfl, rfl, N1, hb1⟩, g1⟩
  obtain ⟨w4, hw4, hb4, h4⟩ := enter1 t1 (.cells #[.bool b1, .slice a1 X1.length c1, .int .i64 E] 92)
  have HC1 := hide (block_upW hb4 (block_upW g1 HC.out))
  have HG := hide (bl_trans8 (bl_trans8 HB.out g1) hb4)
  have HMO := yisMode_any m w4
  have hf1 := tri8f HC1.out
  obtain ⟨m0, m1, m2⟩ := tri8 HC1.out
  obtain ⟨l0, l1, l2⟩ := tri8 h4
  have HN1 := hide (N1.below hb4)
  have H4 := hide h4
  have HLT := hide (show w.heap.size + 1 < t1.heap.size by have := g1.size; have := HS0.out; omega)
  clear g1 hb4 h4 HP HC HB N1
  rw [hM] at HMO
  go_wp2_with fail
  refine HMO.mono ?_
  rintro e wn ⟨rfl, hw⟩; rw [hw]; clear hw wn HMO
  go_wp2
  have T3 := tri8_all HC1.out (.bool false) (.slice none 0 0) (.int .i64 0)
  have T4 := below_tri8 HG.out (show w.heap.size ≤ w.heap.size + 1 by omega) (.bool false) (.slice none 0 0) (.int .i64 0)
  obtain ⟨p0, p1, p2⟩ := tri8 T3
  have HE := hide T4
  clear T3 T4
  generalize ((w4.setCell ⟨w.heap.size + 1, 0, none⟩ (.bool false)).setCell ⟨w.heap.size + 1, 1, none⟩ (.slice none 0 0)).setCell ⟨w.heap.size + 1, 2, none⟩ (.int .i64 0) = w5 at *
  refine bodyPost_ret (v := .tuple #[.agg #[.bool false, .slice none 0 0, .int .i64 0], .int .i64 81]) (by simp [results, Tryd.results10, go_sem, p0, p1, p2]) rfl ?_
  exact ⟨rfl, HE.out⟩

set_option maxRecDepth 20000 in
set_option maxHeartbeats 2000000 in
theorem ycut_short (b : Bool) (a : Option Addr) (c : Nat) (X : List Nat) (ex bits m : Int) (w : World) (hA : Arg w (.slice a X.length c) X) (hT : Tab w) (hf : X.length ≤ 17592186044400) (hE : fitE ex = true) (hK : 1 ≤ bits) (hM : isM m = true) (hl : ((blen (omz (zz b (val X))).natAbs : Nat) : Int) ≤ bits) :
    Calls Tryd.prog 10 #[.agg #[.bool b, .slice a X.length c, .int .i64 ex], .int .i64 bits, .int .i64 m] w fun e w' => DRes w' w.heap.size e (omz (omz (zz b (val X)))) (oe (omz (zz b (val X))) (oe (zz b (val X)) ex)) ∧ Below w.heap.size w w' := by
  have i1 : decide (bits < 1) = false := decide_eq_false (by omega)
  have i1b : ¬ bits < 1 := by omega
  obtain ⟨w0, hw0, hb0, h0, h1'⟩ := enter2 w (.cells #[.bool b, .slice a X.length c, .int .i64 ex] 29) (.cells #[.bool false, .slice none 0 0, .int .i64 0] 29)
  obtain ⟨k0, k1, k2⟩ := tri8 h0
  have HS0 := hide (show w.heap.size + 2 ≤ w0.heap.size by rw [← hw0, World.size_alloc, World.size_alloc]; omega)
  have HP := yread_ok b a c X ex w0 (hA.below hb0) (hT.below hb0) (by omega) hE
  have HC := hide h1'
  have HB := hide hb0
  have HT := hide hT
  have hbz : blen (zz b (val X)).natAbs ≤ 64 * X.length := by
    rw [zz_abs, blen_le_iff, Nat.mul_comm, ← W_pow]; exact val_lt hA.limbs
  have hEr := (fitE_iff ex).1 hE
  have hOE := oe_range (zz b (val X)) ex (by omega)
  have hbo : blen (omz (zz b (val X))).natAbs ≤ 17592186044400 * 64 := by
    have h5 := blen_mono (od_le (zz b (val X)).natAbs)
    rw [omz_abs]; omega
  clear h0 h1' hb0 hE hA hT hbz
  generalize oe (zz b (val X)) ex = E at *
  generalize omz (zz b (val X)) = M at *
  have he1 : -1152921504606846976 ≤ E - 1152921504606846 := by omega
  have he2 : E + 1152921504606846 ≤ 1152921504606846976 := by omega
  have i2 : decide (((blen M.natAbs : Nat) : Int) ≤ bits) = true := decide_eq_true hl
  have HBO := hide hbo
  generalize hl9 : blen M.natAbs = l at *
  have HLL := hide hl9
  clear hl9 hbo
  go_enter Tryd.func10, Tryd.ntmps10
  go_wp2_with fail
  refine HP.mono ?_
  rintro e t1 ⟨⟨b1, a1, n1, c1, X1, rfl, rfl, N1, hb1⟩, g1⟩
  obtain ⟨w4, hw4, hb4, h4⟩ := enter1 t1 (.cells #[.bool b1, .slice a1 X1.length c1, .int .i64 E] 92)
  have HC1 := hide (block_upW hb4 (block_upW g1 HC.out))
  have HG := hide (bl_trans8 (bl_trans8 HB.out g1) hb4)
  have HMO := yisMode_any m w4
  have hf1 := tri8f HC1.out
  obtain ⟨m0, m1, m2⟩ := tri8 HC1.out
  obtain ⟨l0, l1, l2⟩ := tri8 h4
  have HN1 := hide (N1.below hb4)
  have H4 := hide h4
  have HLT := hide (show w.heap.size + 1 < t1.heap.size by have := g1.size; have := HS0.out; omega)
  clear g1 hb4 h4 HP HC HB N1
  rw [hM] at HMO
  go_wp2_with fail
  refine HMO.mono ?_
  rintro e wn ⟨rfl, hw⟩; rw [hw]; clear hw wn HMO
  have HLN := ylen_any b1 a1 c1 X1 w4 HN1.out.arg
  rw [HN1.out.abs, HLL.out] at HLN
  go_wp2_with fail
  refine HLN.mono ?_
  rintro e t5 ⟨rfl, g5⟩
  have HC5 := hide (block_upW g5 HC1.out)
  have HG5 := hide (bl_trans8 HG.out g5)
  have HN5 := hide (HN1.out.below g5)
  have H5 := hide (block_upW g5 H4.out)
  clear HLN g5 HN1 HC1 HG H4 m0 m1 m2 hf1 l0 l1 l2
  have HAN := yanswer_any b1 a1 c1 X1 M E t5 HN5.out (HT.out.below HG5.out) (by omega) (by omega) (Nat.le_trans (HN5.out.len 17592186044416 (by have := HBO.out; have := HLL.out; omega)) (by omega))
  obtain ⟨l0, l1, l2⟩ := tri8 H5.out
  clear HN5
  go_wp2_with fail
  refine HAN.mono ?_
  rintro e t6 ⟨⟨b6, a6, n6, c6, e6, r6, rfl, hdr⟩, g6⟩
  have HC1 := hide (block_upW g6 HC5.out)
  have HG := hide (bl_trans8 HG5.out g6)
  have HDR := hide (hdr.base HG5.out.size)
  have hf1 := tri8f HC1.out
  obtain ⟨m0, m1, m2⟩ := tri8 HC1.out
  clear hdr g6 HAN HC5
  go_wp2
  have T3 := tri8_all HC1.out (.bool b6) (.slice a6 n6 c6) (.int .i64 e6)
  have T4 := below_tri8 HG.out (show w.heap.size ≤ w.heap.size + 1 by omega) (.bool b6) (.slice a6 n6 c6) (.int .i64 e6)
  have T5 := HDR.out.tri8 HC1.out (by decide) (.bool b6) (.slice a6 n6 c6) (.int .i64 e6)
  obtain ⟨p0, p1, p2⟩ := tri8 T3
  have HE := hide (And.intro T5 T4)
  clear T3 T4 T5
  generalize ((t6.setCell ⟨w.heap.size + 1, 0, none⟩ (.bool b6)).setCell ⟨w.heap.size + 1, 1, none⟩ (.slice a6 n6 c6)).setCell ⟨w.heap.size + 1, 2, none⟩ (.int .i64 e6) = w5 at *
  refine bodyPost_ret (v := .tuple #[.agg #[.bool b6, .slice a6 n6 c6, .int .i64 e6], .int .i64 r6]) (by simp [results, Tryd.results10, go_sem, p0, p1, p2]) rfl ?_
  exact ⟨⟨_, _, _, _, _, _, rfl, HE.out.1⟩, HE.out.2⟩

set_option maxRecDepth 20000 in
set_option maxHeartbeats 2000000 in
theorem ycut_long (b : Bool) (a : Option Addr) (c : Nat) (X : List Nat) (ex bits m : Int) (w : World) (hA : Arg w (.slice a X.length c) X) (hT : Tab w) (hf : X.length ≤ 17592186044400) (hE : fitE ex = true) (hK : 1 ≤ bits) (hM : isM m = true) (hl : bits < ((blen (omz (zz b (val X))).natAbs : Nat) : Int)) :
    Calls Tryd.prog 10 #[.agg #[.bool b, .slice a X.length c, .int .i64 ex], .int .i64 bits, .int .i64 m] w fun e w' => DRes w' w.heap.size e (omz (rndM (omz (zz b (val X))) (oe (zz b (val X)) ex) (cutP (omz (zz b (val X))) (oe (zz b (val X)) ex) bits) m)) (oe (rndM (omz (zz b (val X))) (oe (zz b (val X)) ex) (cutP (omz (zz b (val X))) (oe (zz b (val X)) ex) bits) m) (rndE (omz (zz b (val X))) (oe (zz b (val X)) ex) (cutP (omz (zz b (val X))) (oe (zz b (val X)) ex) bits))) ∧ Below w.heap.size w w' := by
  have hm := (isM_iff m).1 hM
  have i1 : decide (bits < 1) = false := decide_eq_false (by omega)
  have i1b : ¬ bits < 1 := by omega
  obtain ⟨w0, hw0, hb0, h0, h1'⟩ := enter2 w (.cells #[.bool b, .slice a X.length c, .int .i64 ex] 29) (.cells #[.bool false, .slice none 0 0, .int .i64 0] 29)
  obtain ⟨k0, k1, k2⟩ := tri8 h0
  have HS0 := hide (show w.heap.size + 2 ≤ w0.heap.size by rw [← hw0, World.size_alloc, World.size_alloc]; omega)
  have HP := yread_ok b a c X ex w0 (hA.below hb0) (hT.below hb0) (by omega) hE
  have HC := hide h1'
  have HB := hide hb0
  have HT := hide hT
  have hbz : blen (zz b (val X)).natAbs ≤ 64 * X.length := by
    rw [zz_abs, blen_le_iff, Nat.mul_comm, ← W_pow]; exact val_lt hA.limbs
  have hEr := (fitE_iff ex).1 hE
  have hOE := oe_range (zz b (val X)) ex (by omega)
  have hbo : blen (omz (zz b (val X))).natAbs ≤ 17592186044400 * 64 := by
    have h5 := blen_mono (od_le (zz b (val X)).natAbs)
    rw [omz_abs]; omega
  clear h0 h1' hb0 hE hA hT hbz
  generalize oe (zz b (val X)) ex = E at *
  generalize omz (zz b (val X)) = M at *
  have he1 : -1152921504606846976 ≤ E - 1152921504606846 := by omega
  have he2 : E + 1152921504606846 ≤ 1152921504606846976 := by omega
  have i2 : decide (((blen M.natAbs : Nat) : Int) ≤ bits) = false := decide_eq_false (by omega)
  have i2b : ¬ ((blen M.natAbs : Nat) : Int) ≤ bits := by omega
  have hcp : cutP M E bits = E + ((blen M.natAbs : Nat) : Int) - bits := rfl
  have HRB := hide (rnd_blen M E (cutP M E bits) m _ hbo)
  have hRE : -2305843009213693952 ≤ rndE M E (cutP M E bits) ∧ rndE M E (cutP M E bits) ≤ 2305843009213693952 := by unfold rndE; split <;> omega
  have HRD := hide (fun (W : World) (b1 : Bool) (a1 : Option Addr) (c1 : Nat) (X1 : List Nat) (hn : Nm W b1 (.slice a1 X1.length c1) X1 M) => yrounded_all b1 a1 c1 X1 M E (cutP M E bits) m W hn (by omega) (by omega) (by omega) (by omega) hm (hn.len 17592186044416 (by omega)))
  have HTP := hide (fun (W : World) (b1 : Bool) (a1 : Option Addr) (c1 : Nat) (X1 : List Nat) (hn : Nm W b1 (.slice a1 X1.length c1) X1 M) => (by have h := ytopN_any b1 a1 c1 X1 E W hn.arg (by omega) (by omega); rw [hn.abs] at h; exact h : Calls Tryd.prog 55 #[.agg #[.bool b1, .slice a1 X1.length c1, .int .i64 E]] W fun e w' => e = .returned (.int .i64 (E + ((blen M.natAbs : Nat) : Int) - 1)) ∧ Below W.heap.size W w'))
  generalize rndE M E (cutP M E bits) = RE at *
  generalize rndM M E (cutP M E bits) m = RM at *
  generalize hcq : cutP M E bits = cq at *
  generalize hl9 : blen M.natAbs = l at *
  have HLL := hide hl9
  clear hl9
  obtain ⟨tp, htp⟩ : ∃ tp : Int, tp = E + (l : Int) - 1 := ⟨_, rfl⟩
  have w1 : IntKind.i64.wrap (tp - bits) = tp - bits := by rw [IntKind.wrap_i64]; omega
  obtain ⟨tq, htq⟩ : ∃ tq : Int, tq = tp - bits := ⟨_, rfl⟩
  rw [← htq] at w1
  have w2 : IntKind.i64.wrap (tq + 1) = cq := by rw [IntKind.wrap_i64]; omega
  have w3 : tp - bits = tq := htq.symm
  rw [← htp] at HTP
  have w1b : IntKind.i64.wrap tq = tq := w1
  clear hOE he1 he2 hbo hm hcp hcq htq htp
  go_enter Tryd.func10, Tryd.ntmps10
  go_wp2_with fail
  refine HP.mono ?_
  rintro e t1 ⟨⟨b1, a1, n1, c1, X1, rfl, rfl, N1, hb1⟩, g1⟩
  obtain ⟨w4, hw4, hb4, h4⟩ := enter1 t1 (.cells #[.bool b1, .slice a1 X1.length c1, .int .i64 E] 92)
  have HC1 := hide (block_upW hb4 (block_upW g1 HC.out))
  have HG := hide (bl_trans8 (bl_trans8 HB.out g1) hb4)
  have HMO := yisMode_any m w4
  have hf1 := tri8f HC1.out
  obtain ⟨m0, m1, m2⟩ := tri8 HC1.out
  obtain ⟨l0, l1, l2⟩ := tri8 h4
  have HN1 := hide (N1.below hb4)
  have H4 := hide h4
  have HLT := hide (show w.heap.size + 1 < t1.heap.size by have := g1.size; have := HS0.out; omega)
  clear g1 hb4 h4 HP HC HB N1
  rw [hM] at HMO
  go_wp2_with fail
  refine HMO.mono ?_
  rintro e wn ⟨rfl, hw⟩; rw [hw]; clear hw wn HMO
  have HLN := ylen_any b1 a1 c1 X1 w4 HN1.out.arg
  rw [HN1.out.abs, HLL.out] at HLN
  go_wp2_with fail
  refine HLN.mono ?_
  rintro e t5 ⟨rfl, g5⟩
  have HC5 := hide (block_upW g5 HC1.out)
  have HG5 := hide (bl_trans8 HG.out g5)
  have HN5 := hide (HN1.out.below g5)
  have H5 := hide (block_upW g5 H4.out)
  clear HLN g5 HN1 HC1 HG H4 m0 m1 m2 hf1 l0 l1 l2
  have g0 : Below t5.drew.heap.size t5.drew t5.drew := Below.refl _ _
  have KS := hide (fun (W : World) (hg : Below t5.drew.heap.size t5.drew W) => show W.cell? ⟨t1.heap.size, 0, none⟩ = some (.bool b1) ∧ W.cell? ⟨t1.heap.size, 1, none⟩ = some (.slice a1 X1.length c1) ∧ W.cell? ⟨t1.heap.size, 2, none⟩ = some (.int .i64 E) from tri8 (block_upW hg (show t5.drew.heap[t1.heap.size]? = some (.cells #[.bool b1, .slice a1 X1.length c1, .int .i64 E] 92) from H5.out)))
  have HGd := hide (show Below w.heap.size w t5.drew from HG5.out.drew)
  have HNd := hide (HN5.out.below (show Below t5.heap.size t5 t5.drew from (Below.refl _ _).drew))
  have HCd := hide (show t5.drew.heap[w.heap.size + 1]? = some (.cells #[.bool false, .slice none 0 0, .int .i64 0] 29) from HC5.out)
  have HT1 := HTP.out t5.drew b1 a1 c1 X1 HNd.out
  have HR1 := hide (fun (W : World) (hg : Below t5.drew.heap.size t5.drew W) => HRD.out W b1 a1 c1 X1 (HNd.out.below hg))
  have HTT := hide (fun (W : World) (hg : Below t5.drew.heap.size t5.drew W) => HT.out.below (bl_trans8 HGd.out hg))
  have hlt := HLT.out
  have so : ∀ (W : World) (k : Nat) (u : Value) (k' : Nat), (W.setCell ⟨w.heap.size + 1, k, none⟩ u).cell? ⟨t1.heap.size, k', none⟩ = W.cell? ⟨t1.heap.size, k', none⟩ := fun W k u k' => cell_other8 (by omega)
  clear HTP HRD HN5 HC5 HG5 H5 hlt
  go_wp2
  go_region_held3 (fun w' => w'.cell? ⟨t1.heap.size, 0, none⟩ = some (.bool b1) ∧ w'.cell? ⟨t1.heap.size, 1, none⟩ = some (.slice a1 X1.length c1) ∧ w'.cell? ⟨t1.heap.size, 2, none⟩ = some (.int .i64 E)) (first | with_reducible exact KS.out _ g3 | with_reducible exact KS.out _ g2 | with_reducible exact KS.out _ g1 | with_reducible exact KS.out _ g0 | (refine ⟨?_, ?_, ?_⟩ <;> (rw [so, so, so]; first | exact (KS.out _ g3).1 | exact (KS.out _ g3).2.1 | exact (KS.out _ g3).2.2))) (first
    | (go_at_call 55; refine HT1.mono ?_; rintro e' t6 ⟨rfl, g1⟩)
    | (go_at_call 54; refine (HR1.out t6 g1).mono ?_; rintro e' t7 ⟨⟨b5, a5, n5, c5, X5, rfl, rfl, N5⟩, hb2⟩; have g2 := bl_trans8 g1 hb2)
    | (go_at_call 53; refine (yanswer_any b5 a5 c5 X5 RM RE t7 N5 (HTT.out t7 g2) hRE.1 hRE.2 (Nat.le_trans (N5.len 17592186044416 (by have := HRB.out; omega)) (by omega))).mono ?_; rintro e' t8 ⟨⟨b6, a6, n6, c6, e6, r6, rfl, hdr⟩, hb3⟩; have g3 := bl_trans8 g2 hb3; have hz := block_upW g3 HCd.out; have hfz := tri8f hz; obtain ⟨m0, m1, m2⟩ := tri8 hz))
  have HC1 := hide hz
  have HG := hide (bl_trans8 HGd.out g3)
  have HDR := hide (hdr.base (Nat.le_trans HGd.out.size g2.size))
  clear so m0 m1 m2 hfz KS g0 g1 g2 g3 hb2 hb3 hz hdr N5 HT1 HR1 HTT
  have T3 := tri8_all HC1.out (.bool b6) (.slice a6 n6 c6) (.int .i64 e6)
  have T4 := below_tri8 HG.out (show w.heap.size ≤ w.heap.size + 1 by omega) (.bool b6) (.slice a6 n6 c6) (.int .i64 e6)
  have T5 := HDR.out.tri8 HC1.out (by decide) (.bool b6) (.slice a6 n6 c6) (.int .i64 e6)
  obtain ⟨p0, p1, p2⟩ := tri8 T3
  have HE := hide (And.intro T5 T4)
  clear T3 T4 T5
  generalize ((t8.setCell ⟨w.heap.size + 1, 0, none⟩ (.bool b6)).setCell ⟨w.heap.size + 1, 1, none⟩ (.slice a6 n6 c6)).setCell ⟨w.heap.size + 1, 2, none⟩ (.int .i64 e6) = w5 at *
  go_wp2
  refine bodyPost_ret (v := .tuple #[.agg #[.bool b6, .slice a6 n6 c6, .int .i64 e6], .int .i64 r6]) (by simp [results, Tryd.results10, go_sem, p0, p1, p2]) rfl ?_
  exact ⟨⟨_, _, _, _, _, _, rfl, HE.out.1⟩, HE.out.2⟩

/-- Cut of any number. -/
theorem ycut_ok (b : Bool) (a : Option Addr) (c : Nat) (X : List Nat) (ex bits m : Int) (w : World) (hA : Arg w (.slice a X.length c) X) (hT : Tab w) (hf : X.length ≤ 17592186044400) (hE : fitE ex = true) (hK : 1 ≤ bits) (hM : isM m = true) :
    Calls Tryd.prog 10 #[.agg #[.bool b, .slice a X.length c, .int .i64 ex], .int .i64 bits, .int .i64 m] w fun e w' => DRes w' w.heap.size e (omz (rndM (omz (zz b (val X))) (oe (zz b (val X)) ex) (cutP (omz (zz b (val X))) (oe (zz b (val X)) ex) bits) m)) (oe (rndM (omz (zz b (val X))) (oe (zz b (val X)) ex) (cutP (omz (zz b (val X))) (oe (zz b (val X)) ex) bits) m) (rndE (omz (zz b (val X))) (oe (zz b (val X)) ex) (cutP (omz (zz b (val X))) (oe (zz b (val X)) ex) bits))) ∧ Below w.heap.size w w' := by
  by_cases hl : ((blen (omz (zz b (val X))).natAbs : Nat) : Int) ≤ bits
  · have hp : omz (zz b (val X)) = 0 ∨ cutP (omz (zz b (val X))) (oe (zz b (val X)) ex) bits ≤ oe (zz b (val X)) ex := by right; unfold cutP; omega
    have e1 : ∀ P, (omz (zz b (val X)) = 0 ∨ P ≤ oe (zz b (val X)) ex) → rndM (omz (zz b (val X))) (oe (zz b (val X)) ex) P m = omz (zz b (val X)) ∧ rndE (omz (zz b (val X))) (oe (zz b (val X)) ex) P = oe (zz b (val X)) ex := by
      intro P h
      unfold rndM rndE
      rw [if_pos h, if_pos h]; exact ⟨rfl, rfl⟩
    rw [(e1 _ hp).1, (e1 _ hp).2]
    exact ycut_short b a c X ex bits m w hA hT hf hE hK hM hl
  · exact ycut_long b a c X ex bits m w hA hT hf hE hK hM (by omega)

end Go.Proofs.YtemajaclpkgpbaaDoor
