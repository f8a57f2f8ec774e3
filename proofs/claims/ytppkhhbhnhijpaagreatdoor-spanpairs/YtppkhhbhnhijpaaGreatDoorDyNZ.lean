/- Package dyadic: Round. -/
import Derived.Test.YtppkhhbhnhijpaaGreatDoorDyRZ
namespace Go.Proofs.YtppkhhbhnhijpaaGreatDoor
open Go.RowKit
open Lm
attribute [local go_sem ↓] Go.wp_at_zero Go.wp_at_succ

set_option maxRecDepth 20000 in
set_option maxHeartbeats 1000000 in
theorem yround_no (b : Bool) (a : Option Addr) (n c : Nat) (ex pos m : Int) (w : World) (hE : fitE ex = false) :
    Calls Tryz.prog 123 #[.agg #[.bool b, .slice a n c, .int .i64 ex], .int .i64 pos, .int .i64 m] w fun e w' => DErr 80 e ∧ Below w.heap.size w w' := by
  obtain ⟨w0, hw0, hb0, h0, h1'⟩ := enter2 w (.cells #[.bool b, .slice a n c, .int .i64 ex] 31) (.cells #[.bool false, .slice none 0 0, .int .i64 0] 31)
  obtain ⟨k0, k1, k2⟩ := tri8 h0
  have HP := yread_no b a n c ex w0 hE
  have HC := hide h1'
  have HB := hide hb0
  clear h0 h1' hb0 hE
  go_enter Tryz.func123, Tryz.ntmps123
  go_wp2_with fail
  refine HP.mono ?_
  rintro e t1 ⟨he, g1⟩
  obtain ⟨fb, fa, fn, fc, fe, rfl⟩ : ∃ fb fa fn fc fe, e = .returned (.tuple #[.agg #[.bool fb, .slice fa fn fc, .int .i64 fe], .int .i64 80]) := ⟨_, _, _, _, _, he⟩
  clear he
  obtain ⟨w4, hw4, hb4, h4⟩ := enter1 t1 (.cells #[.bool fb, .slice fa fn fc, .int .i64 fe] 153)
  have HC1 := hide (block_upW hb4 (block_upW g1 HC.out))
  have HG := hide (bl_trans8 (bl_trans8 HB.out g1) hb4)
  have hf1 := tri8f HC1.out
  obtain ⟨m0, m1, m2⟩ := tri8 HC1.out
  clear g1 hb4 h4 HP
  go_wp2
  have T3 := tri8_all HC1.out (.bool false) (.slice none 0 0) (.int .i64 0)
  have T4 := below_tri8 HG.out (show w.heap.size ≤ w.heap.size + 1 by omega) (.bool false) (.slice none 0 0) (.int .i64 0)
  obtain ⟨p0, p1, p2⟩ := tri8 T3
  have HE := hide T4
  clear T3 T4
  generalize ((w4.setCell ⟨w.heap.size + 1, 0, none⟩ (.bool false)).setCell ⟨w.heap.size + 1, 1, none⟩ (.slice none 0 0)).setCell ⟨w.heap.size + 1, 2, none⟩ (.int .i64 0) = w5 at *
  refine bodyPost_ret (v := .tuple #[.agg #[.bool false, .slice none 0 0, .int .i64 0], .int .i64 80]) (by simp [results, Tryz.results123, go_sem, p0, p1, p2]) rfl ?_
  exact ⟨rfl, HE.out⟩

set_option maxRecDepth 20000 in
set_option maxHeartbeats 1000000 in
theorem yround_arg (b : Bool) (a : Option Addr) (c : Nat) (X : List Nat) (ex pos m : Int) (w : World) (hA : Arg w (.slice a X.length c) X) (hT : Tab w) (hf : X.length ≤ 17592186044416) (hE : fitE ex = true) (hK : fitE pos = false) :
    Calls Tryz.prog 123 #[.agg #[.bool b, .slice a X.length c, .int .i64 ex], .int .i64 pos, .int .i64 m] w fun e w' => DErr 1 e ∧ Below w.heap.size w w' := by
  obtain ⟨w0, hw0, hb0, h0, h1'⟩ := enter2 w (.cells #[.bool b, .slice a X.length c, .int .i64 ex] 31) (.cells #[.bool false, .slice none 0 0, .int .i64 0] 31)
  obtain ⟨k0, k1, k2⟩ := tri8 h0
  have HP := yread_ok b a c X ex w0 (hA.below hb0) (hT.below hb0) hf hE
  have HC := hide h1'
  have HB := hide hb0
  have HT := hide hT
  have hbz : blen (zz b (val X)).natAbs ≤ 64 * X.length := by
    rw [zz_abs, blen_le_iff, Nat.mul_comm, ← W_pow]; exact val_lt hA.limbs
  have hEr := (fitE_iff ex).1 hE
  have HOE := hide (oe_range (zz b (val X)) ex (by omega))
  have hbo : blen (omz (zz b (val X))).natAbs ≤ 17592186044416 * 64 := by
    have h5 := blen_mono (od_le (zz b (val X)).natAbs)
    rw [omz_abs]; omega
  have HBO := hide hbo
  have HNO := hide (norm8_of (zz b (val X)) ex)
  clear h0 h1' hb0 hE hA hT hbz hbo
  generalize oe (zz b (val X)) ex = E at *
  generalize omz (zz b (val X)) = M at *
  go_enter Tryz.func123, Tryz.ntmps123
  go_wp2_with fail
  refine HP.mono ?_
  rintro e t1 ⟨⟨b1, a1, n1, c1, X1, rfl, rfl, N1, hb1⟩, g1⟩
  obtain ⟨w4, hw4, hb4, h4⟩ := enter1 t1 (.cells #[.bool b1, .slice a1 X1.length c1, .int .i64 E] 153)
  have HC1 := hide (block_upW hb4 (block_upW g1 HC.out))
  have HG := hide (bl_trans8 (bl_trans8 HB.out g1) hb4)
  have HI := yisPos_any pos w4
  have HMO := yisMode_any m w4
  have hf1 := tri8f HC1.out
  obtain ⟨m0, m1, m2⟩ := tri8 HC1.out
  obtain ⟨l0, l1, l2⟩ := tri8 h4
  have HN1 := hide (N1.below hb4)
  clear g1 hb4 h4 HP HC HB N1
  rw [hK] at HI
  go_wp2_with fail
  refine HI.mono ?_
  rintro e wn ⟨rfl, hw⟩; rw [hw]; clear hw wn HI
  go_wp2
  have T3 := tri8_all HC1.out (.bool false) (.slice none 0 0) (.int .i64 0)
  have T4 := below_tri8 HG.out (show w.heap.size ≤ w.heap.size + 1 by omega) (.bool false) (.slice none 0 0) (.int .i64 0)
  obtain ⟨p0, p1, p2⟩ := tri8 T3
  have HE := hide T4
  clear T3 T4
  generalize ((w4.setCell ⟨w.heap.size + 1, 0, none⟩ (.bool false)).setCell ⟨w.heap.size + 1, 1, none⟩ (.slice none 0 0)).setCell ⟨w.heap.size + 1, 2, none⟩ (.int .i64 0) = w5 at *
  refine bodyPost_ret (v := .tuple #[.agg #[.bool false, .slice none 0 0, .int .i64 0], .int .i64 1]) (by simp [results, Tryz.results123, go_sem, p0, p1, p2]) rfl ?_
  exact ⟨rfl, HE.out⟩

set_option maxRecDepth 20000 in
set_option maxHeartbeats 1000000 in
theorem yround_mode (b : Bool) (a : Option Addr) (c : Nat) (X : List Nat) (ex pos m : Int) (w : World) (hA : Arg w (.slice a X.length c) X) (hT : Tab w) (hf : X.length ≤ 17592186044416) (hE : fitE ex = true) (hK : fitE pos = true) (hM : isM m = false) :
    Calls Tryz.prog 123 #[.agg #[.bool b, .slice a X.length c, .int .i64 ex], .int .i64 pos, .int .i64 m] w fun e w' => DErr 81 e ∧ Below w.heap.size w w' := by
  obtain ⟨w0, hw0, hb0, h0, h1'⟩ := enter2 w (.cells #[.bool b, .slice a X.length c, .int .i64 ex] 31) (.cells #[.bool false, .slice none 0 0, .int .i64 0] 31)
  obtain ⟨k0, k1, k2⟩ := tri8 h0
  have HP := yread_ok b a c X ex w0 (hA.below hb0) (hT.below hb0) hf hE
  have HC := hide h1'
  have HB := hide hb0
  have HT := hide hT
  have hbz : blen (zz b (val X)).natAbs ≤ 64 * X.length := by
    rw [zz_abs, blen_le_iff, Nat.mul_comm, ← W_pow]; exact val_lt hA.limbs
  have hEr := (fitE_iff ex).1 hE
  have HOE := hide (oe_range (zz b (val X)) ex (by omega))
  have hbo : blen (omz (zz b (val X))).natAbs ≤ 17592186044416 * 64 := by
    have h5 := blen_mono (od_le (zz b (val X)).natAbs)
    rw [omz_abs]; omega
  have HBO := hide hbo
  have HNO := hide (norm8_of (zz b (val X)) ex)
  clear h0 h1' hb0 hE hA hT hbz hbo
  generalize oe (zz b (val X)) ex = E at *
  generalize omz (zz b (val X)) = M at *
  go_enter Tryz.func123, Tryz.ntmps123
  go_wp2_with fail
  refine HP.mono ?_
  rintro e t1 ⟨⟨b1, a1, n1, c1, X1, rfl, rfl, N1, hb1⟩, g1⟩
  obtain ⟨w4, hw4, hb4, h4⟩ := enter1 t1 (.cells #[.bool b1, .slice a1 X1.length c1, .int .i64 E] 153)
  have HC1 := hide (block_upW hb4 (block_upW g1 HC.out))
  have HG := hide (bl_trans8 (bl_trans8 HB.out g1) hb4)
  have HI := yisPos_any pos w4
  have HMO := yisMode_any m w4
  have hf1 := tri8f HC1.out
  obtain ⟨m0, m1, m2⟩ := tri8 HC1.out
  obtain ⟨l0, l1, l2⟩ := tri8 h4
  have HN1 := hide (N1.below hb4)
  clear g1 hb4 h4 HP HC HB N1
  rw [hK] at HI
  rw [hM] at HMO
  go_wp2_with fail
  refine HI.mono ?_
  rintro e wn ⟨rfl, hw⟩; rw [hw]; clear hw wn HI
  go_wp2_with fail
  refine HMO.mono ?_
  rintro e wn ⟨rfl, hw⟩; rw [hw]; clear hw wn HMO
  go_wp2
  have T3 := tri8_all HC1.out (.bool false) (.slice none 0 0) (.int .i64 0)
  have T4 := below_tri8 HG.out (show w.heap.size ≤ w.heap.size + 1 by omega) (.bool false) (.slice none 0 0) (.int .i64 0)
  obtain ⟨p0, p1, p2⟩ := tri8 T3
  have HE := hide T4
  clear T3 T4
  generalize ((w4.setCell ⟨w.heap.size + 1, 0, none⟩ (.bool false)).setCell ⟨w.heap.size + 1, 1, none⟩ (.slice none 0 0)).setCell ⟨w.heap.size + 1, 2, none⟩ (.int .i64 0) = w5 at *
  refine bodyPost_ret (v := .tuple #[.agg #[.bool false, .slice none 0 0, .int .i64 0], .int .i64 81]) (by simp [results, Tryz.results123, go_sem, p0, p1, p2]) rfl ?_
  exact ⟨rfl, HE.out⟩

/-- rounded of any number, with a bound on its length. -/
theorem yrounded_all (b : Bool) (a : Option Addr) (c : Nat) (X : List Nat) (M E pos m : Int) (w : World) (hN : Nm w b (.slice a X.length c) X M) (he1 : -1152921504606846976 ≤ E) (he2 : E ≤ 1152921504606846976) (hp1 : -1152921504606846976 ≤ pos) (hp2 : pos ≤ 1152921504606846976) (hm : m = 0 ∨ m = 1 ∨ m = 2) (hf : X.length ≤ 17592186044416) :
    Calls Tryz.prog 143 #[.agg #[.bool b, .slice a X.length c, .int .i64 E], .int .i64 pos, .int .i64 m] w (YNum w (rndM M E pos m) (rndE M E pos)) := by
  by_cases hs : M = 0 ∨ pos ≤ E
  · rw [show rndM M E pos m = M by unfold rndM; rw [if_pos hs], show rndE M E pos = E by unfold rndE; rw [if_pos hs]]
    exact yrounded_same b a c X M E pos m w hN he1 he2 hp1 hp2 hs
  · have hM : M ≠ 0 := fun h => hs (.inl h)
    have hb : decide (M < 0) = b := by
      rw [← hN.val]
      exact zz_lt (by rw [hN.abs]; omega)
    rw [show rndM M E pos m = zz b (rq b M.natAbs (pos - E).toNat m) by unfold rndM; rw [if_neg hs, hb], show rndE M E pos = pos by unfold rndE; rw [if_neg hs]]
    have hpe : E < pos := Int.lt_of_not_ge fun h => hs (.inr h)
    exact yrounded_any b a c X M E pos m (pos - E).toNat w hN hM (by omega) (by omega) he1 he2 hp1 hp2 hm hf

/-- Rounding makes a number hardly longer. -/
theorem rnd_blen (M E pos m : Int) (n : Nat) (h : blen M.natAbs ≤ n) : blen (rndM M E pos m).natAbs ≤ n + 1 := by
  unfold rndM
  split
  · omega
  · rw [zz_abs]
    unfold rq
    have h1 := Nat.div_le_self M.natAbs (2 ^ (pos - E).toNat)
    have h2 := (blen_le_iff _ _).1 h
    refine (blen_le_iff _ _).2 ?_
    rw [Nat.pow_succ]
    have := Nat.two_pow_pos n
    split <;> omega

set_option maxRecDepth 20000 in
set_option maxHeartbeats 1000000 in
theorem yround_ok (b : Bool) (a : Option Addr) (c : Nat) (X : List Nat) (ex pos m : Int) (w : World) (hA : Arg w (.slice a X.length c) X) (hT : Tab w) (hf : X.length ≤ 17592186044400) (hE : fitE ex = true) (hK : fitE pos = true) (hM : isM m = true) :
    Calls Tryz.prog 123 #[.agg #[.bool b, .slice a X.length c, .int .i64 ex], .int .i64 pos, .int .i64 m] w fun e w' => DRes w' w.heap.size e (omz (rndM (omz (zz b (val X))) (oe (zz b (val X)) ex) pos m)) (oe (rndM (omz (zz b (val X))) (oe (zz b (val X)) ex) pos m) (rndE (omz (zz b (val X))) (oe (zz b (val X)) ex) pos)) ∧ Below w.heap.size w w' := by
  have hm := (isM_iff m).1 hM
  have hKr := (fitE_iff pos).1 hK
  have hf0 : X.length ≤ 17592186044416 := by omega
  obtain ⟨w0, hw0, hb0, h0, h1'⟩ := enter2 w (.cells #[.bool b, .slice a X.length c, .int .i64 ex] 31) (.cells #[.bool false, .slice none 0 0, .int .i64 0] 31)
  obtain ⟨k0, k1, k2⟩ := tri8 h0
  have HP := yread_ok b a c X ex w0 (hA.below hb0) (hT.below hb0) hf0 hE
  have HC := hide h1'
  have HB := hide hb0
  have HT := hide hT
  have hbz : blen (zz b (val X)).natAbs ≤ 64 * X.length := by
    rw [zz_abs, blen_le_iff, Nat.mul_comm, ← W_pow]; exact val_lt hA.limbs
  have hEr := (fitE_iff ex).1 hE
  have hOE := oe_range (zz b (val X)) ex (by omega)
  have hbo : blen (omz (zz b (val X))).natAbs ≤ 17592186044400 * 64 := by
    have h5 := blen_mono (od_le (zz b (val X)).natAbs)
    rw [omz_abs]; omega
  clear h0 h1' hb0 hE hA hT hbz
  generalize oe (zz b (val X)) ex = E at *
  generalize omz (zz b (val X)) = M at *
  have he1 : -1152921504606846976 ≤ E := by omega
  have he2 : E ≤ 1152921504606846976 := by omega
  have HBO := hide hbo
  have HRB := hide (rnd_blen M E pos m _ hbo)
  have hRE : -2305843009213693952 ≤ rndE M E pos ∧ rndE M E pos ≤ 2305843009213693952 := by unfold rndE; split <;> omega
  have HRD := hide (fun (W : World) (b1 : Bool) (a1 : Option Addr) (c1 : Nat) (X1 : List Nat) (hn : Nm W b1 (.slice a1 X1.length c1) X1 M) => yrounded_all b1 a1 c1 X1 M E pos m W hn he1 he2 (by omega) (by omega) hm (hn.len 17592186044416 (by omega)))
  generalize rndE M E pos = RE at *
  generalize rndM M E pos m = RM at *
  clear hOE he1 he2 hbo hm
  go_enter Tryz.func123, Tryz.ntmps123
  go_wp2_with fail
  refine HP.mono ?_
  rintro e t1 ⟨⟨b1, a1, n1, c1, X1, rfl, rfl, N1, hb1⟩, g1⟩
  obtain ⟨w4, hw4, hb4, h4⟩ := enter1 t1 (.cells #[.bool b1, .slice a1 X1.length c1, .int .i64 E] 153)
  have HC1 := hide (block_upW hb4 (block_upW g1 HC.out))
  have HG := hide (bl_trans8 (bl_trans8 HB.out g1) hb4)
  have HI := yisPos_any pos w4
  have HMO := yisMode_any m w4
  have hf1 := tri8f HC1.out
  obtain ⟨m0, m1, m2⟩ := tri8 HC1.out
  obtain ⟨l0, l1, l2⟩ := tri8 h4
  have HN1 := hide (N1.below hb4)
  clear g1 hb4 h4 HP HC HB N1
  rw [hK] at HI
  rw [hM] at HMO
  go_wp2_with fail
  refine HI.mono ?_
  rintro e wn ⟨rfl, hw⟩; rw [hw]; clear hw wn HI
  go_wp2_with fail
  refine HMO.mono ?_
  rintro e wn ⟨rfl, hw⟩; rw [hw]; clear hw wn HMO
  have HRR := HRD.out w4 b1 a1 c1 X1 HN1.out
  clear HRD HN1
  go_wp2_with fail
  refine HRR.mono ?_
  rintro e t5 ⟨⟨b5, a5, n5, c5, X5, rfl, rfl, N5⟩, g5⟩
  have HC5 := hide (block_upW g5 HC1.out)
  have HG5 := hide (bl_trans8 HG.out g5)
  have HAN := yanswer_any b5 a5 c5 X5 RM RE t5 N5 (HT.out.below HG5.out) hRE.1 hRE.2 (Nat.le_trans (N5.len 17592186044416 (by have := HRB.out; omega)) (by omega))
  clear HRR g5 N5 HC1 HG m0 m1 m2 hf1
  go_wp2_with fail
  refine HAN.mono ?_
  rintro e t6 ⟨⟨b6, a6, n6, c6, e6, r6, rfl, hdr⟩, g6⟩
  have HC1 := hide (block_upW g6 HC5.out)
  have HG := hide (bl_trans8 HG5.out g6)
  have HDR := hide (hdr.base HG5.out.size)
  have hf1 := tri8f HC1.out
  obtain ⟨m0, m1, m2⟩ := tri8 HC1.out
  clear hdr g6 HAN HC5
  go_wp2
  have T3 := tri8_all HC1.out (.bool b6) (.slice a6 n6 c6) (.int .i64 e6)
  have T4 := below_tri8 HG.out (show w.heap.size ≤ w.heap.size + 1 by omega) (.bool b6) (.slice a6 n6 c6) (.int .i64 e6)
  have T5 := HDR.out.tri8 HC1.out (by decide) (.bool b6) (.slice a6 n6 c6) (.int .i64 e6)
  obtain ⟨p0, p1, p2⟩ := tri8 T3
  have HE := hide (And.intro T5 T4)
  clear T3 T4 T5
  generalize ((t6.setCell ⟨w.heap.size + 1, 0, none⟩ (.bool b6)).setCell ⟨w.heap.size + 1, 1, none⟩ (.slice a6 n6 c6)).setCell ⟨w.heap.size + 1, 2, none⟩ (.int .i64 e6) = w5 at *
  refine bodyPost_ret (v := .tuple #[.agg #[.bool b6, .slice a6 n6 c6, .int .i64 e6], .int .i64 r6]) (by simp [results, Tryz.results123, go_sem, p0, p1, p2]) rfl ?_
  exact ⟨⟨_, _, _, _, _, _, rfl, HE.out.1⟩, HE.out.2⟩

end Go.Proofs.YtppkhhbhnhijpaaGreatDoor
