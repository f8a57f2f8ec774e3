/- Package dyadic: Whole. -/
import Derived.Test.YtemajaclpkgpbaaDoorDyNZ
import Derived.Test.YtemajaclpkgpbaaDoorDyUZ
import Derived.Test.YtemajaclpkgpbaaDoorWhoShZ
import Derived.Deep.RegionHeld3
namespace Go.Proofs.YtemajaclpkgpbaaDoor
open Go.RowKit
open Lm
attribute [local go_sem ↓] Go.wp_at_zero Go.wp_at_succ

def WErr (c : Int) (e : Ending) : Prop := e = .returned (.tuple #[.agg #[.bool false, .slice none 0 0], .int .i64 c])

set_option maxRecDepth 20000 in
set_option maxHeartbeats 1000000 in
theorem ywhole_no (b : Bool) (a : Option Addr) (n c : Nat) (ex m : Int) (w : World) (hE : fitE ex = false) :
    Calls Tryd.prog 11 #[.agg #[.bool b, .slice a n c, .int .i64 ex], .int .i64 m] w fun e w' => WErr 80 e ∧ Below w.heap.size w w' := by
  obtain ⟨w0, hw0, hb0, h0, h1'⟩ := enter2 w (.cells #[.bool b, .slice a n c, .int .i64 ex] 29) (.cells #[.bool false, .slice none 0 0] 27)
  obtain ⟨k0, k1, k2⟩ := tri8 h0
  have HP := yread_no b a n c ex w0 hE
  have HC := hide h1'
  have HB := hide hb0
  clear h0 h1' hb0 hE
  go_enter Tryd.func11, Tryd.ntmps11
  go_wp2_with fail
  refine HP.mono ?_
  rintro e t1 ⟨he, g1⟩
  obtain ⟨fb, fa, fn, fc, fe, rfl⟩ : ∃ fb fa fn fc fe, e = .returned (.tuple #[.agg #[.bool fb, .slice fa fn fc, .int .i64 fe], .int .i64 80]) := ⟨_, _, _, _, _, he⟩
  clear he
  obtain ⟨w4, hw4, hb4, h4⟩ := enter1 t1 (.cells #[.bool fb, .slice fa fn fc, .int .i64 fe] 92)
  have HC1 := hide (block_upW hb4 (block_upW g1 HC.out))
  have HG := hide (bl_trans8 (bl_trans8 HB.out g1) hb4)
  have hf1 := duof HC1.out
  obtain ⟨m0, m1⟩ := duo HC1.out
  clear g1 hb4 h4 HP
  go_wp2
  have T3 := duo_all HC1.out (a' := .bool false) (b' := .slice none 0 0)
  have HE := hide (below_duo HG.out (g := w.heap.size + 1) (u0 := .bool false) (u1 := .slice none 0 0) (by omega))
  obtain ⟨p0, p1⟩ := duo T3
  clear T3
  generalize (w4.setCell ⟨w.heap.size + 1, 0, none⟩ (.bool false)).setCell ⟨w.heap.size + 1, 1, none⟩ (.slice none 0 0) = w5 at *
  refine bodyPost_ret (v := .tuple #[.agg #[.bool false, .slice none 0 0], .int .i64 80]) (by simp [results, Tryd.results11, go_sem, p0, p1]) rfl ?_
  exact ⟨rfl, HE.out⟩

set_option maxRecDepth 20000 in
set_option maxHeartbeats 1000000 in
theorem ywhole_mode (b : Bool) (a : Option Addr) (c : Nat) (X : List Nat) (ex m : Int) (w : World) (hA : Arg w (.slice a X.length c) X) (hT : Tab w) (hf : X.length ≤ 17592186044400) (hE : fitE ex = true) (hM : isM m = false) :
    Calls Tryd.prog 11 #[.agg #[.bool b, .slice a X.length c, .int .i64 ex], .int .i64 m] w fun e w' => WErr 81 e ∧ Below w.heap.size w w' := by
  obtain ⟨w0, hw0, hb0, h0, h1'⟩ := enter2 w (.cells #[.bool b, .slice a X.length c, .int .i64 ex] 29) (.cells #[.bool false, .slice none 0 0] 27)
  obtain ⟨k0, k1, k2⟩ := tri8 h0
  have HS0 := hide (show w.heap.size + 2 ≤ w0.heap.size by rw [← hw0, World.size_alloc, World.size_alloc]; omega)
  have HP := yread_ok b a c X ex w0 (hA.below hb0) (hT.below hb0) (by omega) hE
  have HC := hide h1'
  have HB := hide hb0
  have hbz : blen (zz b (val X)).natAbs ≤ 64 * X.length := by
    rw [zz_abs, blen_le_iff, Nat.mul_comm, ← W_pow]; exact val_lt hA.limbs
  have hEr := (fitE_iff ex).1 hE
  have hOE := oe_range (zz b (val X)) ex (by omega)
  have hbo : blen (omz (zz b (val X))).natAbs ≤ 17592186044400 * 64 := by
    have h5 := blen_mono (od_le (zz b (val X)).natAbs)
    rw [omz_abs]; omega
  clear h0 h1' hb0 hE hA hT hbz
  generalize oe (zz b (val X)) ex = E at *
  generalize omz (zz b (val X)) = M at *
  go_enter Tryd.func11, Tryd.ntmps11
  go_wp2_with fail
  refine HP.mono ?_
  rintro e t1 ⟨⟨b1, a1, n1, c1, X1, rfl, rfl, N1, hb1⟩, g1⟩
  obtain ⟨w4, hw4, hb4, h4⟩ := enter1 t1 (.cells #[.bool b1, .slice a1 X1.length c1, .int .i64 E] 92)
  have HC1 := hide (block_upW hb4 (block_upW g1 HC.out))
  have HG := hide (bl_trans8 (bl_trans8 HB.out g1) hb4)
  have HMO := yisMode_any m w4
  have hf1 := duof HC1.out
  obtain ⟨m0, m1⟩ := duo HC1.out
  obtain ⟨l0, l1, l2⟩ := tri8 h4
  have HN1 := hide (N1.below hb4)
  have H4 := hide h4
  have HLT := hide (show w.heap.size + 1 < t1.heap.size by have := g1.size; have := HS0.out; omega)
  clear g1 hb4 h4 HP HC HB N1
  rw [hM] at HMO
  go_wp2_with fail
  refine HMO.mono ?_
  rintro e wn ⟨rfl, hw⟩; rw [hw]; clear hw wn HMO
  go_wp2
  have T3 := duo_all HC1.out (a' := .bool false) (b' := .slice none 0 0)
  have HE := hide (below_duo HG.out (g := w.heap.size + 1) (u0 := .bool false) (u1 := .slice none 0 0) (by omega))
  obtain ⟨p0, p1⟩ := duo T3
  clear T3
  generalize (w4.setCell ⟨w.heap.size + 1, 0, none⟩ (.bool false)).setCell ⟨w.heap.size + 1, 1, none⟩ (.slice none 0 0) = w5 at *
  refine bodyPost_ret (v := .tuple #[.agg #[.bool false, .slice none 0 0], .int .i64 81]) (by simp [results, Tryd.results11, go_sem, p0, p1]) rfl ?_
  exact ⟨rfl, HE.out⟩

set_option maxRecDepth 20000 in
set_option maxHeartbeats 2000000 in
theorem ywhole_ok (b : Bool) (a : Option Addr) (c : Nat) (X : List Nat) (ex m : Int) (w : World) (hA : Arg w (.slice a X.length c) X) (hT : Tab w) (hf : X.length ≤ 17592186044400) (hE : fitE ex = true) (hM : isM m = true) :
    Calls Tryd.prog 11 #[.agg #[.bool b, .slice a X.length c, .int .i64 ex], .int .i64 m] w fun e w' => ZRes w' w.heap.size e (rndM (omz (zz b (val X))) (oe (zz b (val X)) ex) 0 m * 2 ^ (rndE (omz (zz b (val X))) (oe (zz b (val X)) ex) 0).toNat) ∧ Below w.heap.size w w' := by
  have hm := (isM_iff m).1 hM
  have hzn := nr8_of (zz b (val X)) ex
  obtain ⟨w0, hw0, hb0, h0, h1'⟩ := enter2 w (.cells #[.bool b, .slice a X.length c, .int .i64 ex] 29) (.cells #[.bool false, .slice none 0 0] 27)
  obtain ⟨k0, k1, k2⟩ := tri8 h0
  have HS0 := hide (show w.heap.size + 2 ≤ w0.heap.size by rw [← hw0, World.size_alloc, World.size_alloc]; omega)
  have HP := yread_ok b a c X ex w0 (hA.below hb0) (hT.below hb0) (by omega) hE
  have HC := hide h1'
  have HB := hide hb0
  have hbz : blen (zz b (val X)).natAbs ≤ 64 * X.length := by
    rw [zz_abs, blen_le_iff, Nat.mul_comm, ← W_pow]; exact val_lt hA.limbs
  have hEr := (fitE_iff ex).1 hE
  have hOE := oe_range (zz b (val X)) ex (by omega)
  have hbo : blen (omz (zz b (val X))).natAbs ≤ 17592186044400 * 64 := by
    have h5 := blen_mono (od_le (zz b (val X)).natAbs)
    rw [omz_abs]; omega
  clear h0 h1' hb0 hE hA hT hbz
  generalize oe (zz b (val X)) ex = E at *
  generalize omz (zz b (val X)) = M at *
  have HRB := hide (rnd_blen M E 0 m _ hbo)
  have hRE : 0 ≤ rndE M E 0 ∧ rndE M E 0 ≤ 4611686018427387904 := by
    unfold rndE
    split
    · rename_i h
      rcases h with h | h
      · rcases hzn with h9 | h9
        · omega
        · rw [h] at h9; simp at h9
      · omega
    · omega
  have HRD := hide (fun (W : World) (b1 : Bool) (a1 : Option Addr) (c1 : Nat) (X1 : List Nat) (hn : Nm W b1 (.slice a1 X1.length c1) X1 M) => yrounded_all b1 a1 c1 X1 M E 0 m W hn (by omega) (by omega) (by omega) (by omega) hm (hn.len 17592186044416 (by omega)))
  generalize rndE M E 0 = RE at *
  generalize rndM M E 0 m = RM at *
  obtain ⟨n, hn⟩ : ∃ n : Nat, RE = (n : Int) := ⟨RE.toNat, by omega⟩
  subst hn
  rw [Int.toNat_natCast]
  clear hOE hbo hm hzn
  go_enter Tryd.func11, Tryd.ntmps11
  go_wp2_with fail
  refine HP.mono ?_
  rintro e t1 ⟨⟨b1, a1, n1, c1, X1, rfl, rfl, N1, hb1⟩, g1⟩
  obtain ⟨w4, hw4, hb4, h4⟩ := enter1 t1 (.cells #[.bool b1, .slice a1 X1.length c1, .int .i64 E] 92)
  have HC1 := hide (block_upW hb4 (block_upW g1 HC.out))
  have HG := hide (bl_trans8 (bl_trans8 HB.out g1) hb4)
  have HMO := yisMode_any m w4
  have hf1 := duof HC1.out
  obtain ⟨m0, m1⟩ := duo HC1.out
  obtain ⟨l0, l1, l2⟩ := tri8 h4
  have HN1 := hide (N1.below hb4)
  have H4 := hide h4
  have HLT := hide (show w.heap.size + 1 < t1.heap.size by have := g1.size; have := HS0.out; omega)
  clear g1 hb4 h4 HP HC HB N1
  rw [hM] at HMO
  go_wp2_with fail
  refine HMO.mono ?_
  rintro e wn ⟨rfl, hw⟩; rw [hw]; clear hw wn HMO
  have HRR := HRD.out w4 b1 a1 c1 X1 HN1.out
  clear HRD HN1
  go_wp2_with fail
  refine HRR.mono ?_
  rintro e t5 ⟨⟨b5, a5, n5, c5, X5, rfl, rfl, N5⟩, g5⟩
  have hx5 := block_upW g5 H4.out
  have hf5 := tri8f hx5
  obtain ⟨x0, x1, x2⟩ := tri8 hx5
  have T3 := tri8_all hx5 (.bool b5) (.slice a5 X5.length c5) (.int .i64 (n : Int))
  have T4 := below_tri8 (bl_trans8 HG.out g5) (show w.heap.size ≤ t1.heap.size by have := HLT.out; omega) (.bool b5) (.slice a5 X5.length c5) (.int .i64 (n : Int))
  have T5 := N5.tri8 hx5 b5 a5 X5.length c5 (.int .i64 (n : Int))
  have hne : w.heap.size + 1 ≠ t1.heap.size := by have := HLT.out; omega
  have T6 : (((t5.setCell ⟨t1.heap.size, 0, none⟩ (.bool b5)).setCell ⟨t1.heap.size, 1, none⟩ (.slice a5 X5.length c5)).setCell ⟨t1.heap.size, 2, none⟩ (.int .i64 (n : Int))).heap[w.heap.size + 1]? = some (.cells #[.bool false, .slice none 0 0] 27) := by
    rw [Below.heap_setCell _ _ _ _ hne, Below.heap_setCell _ _ _ _ hne, Below.heap_setCell _ _ _ _ hne]; exact block_upW g5 HC1.out
  clear g5 N5 HRR hne l0 l1 l2 m0 m1 hf1 HC1 HG H4 hx5
  obtain ⟨w6, hw6⟩ : ∃ w6, ((t5.setCell ⟨t1.heap.size, 0, none⟩ (.bool b5)).setCell ⟨t1.heap.size, 1, none⟩ (.slice a5 X5.length c5)).setCell ⟨t1.heap.size, 2, none⟩ (.int .i64 (n : Int)) = w6 := ⟨_, rfl⟩
  rw [hw6] at T3 T4 T5 T6
  have g0 : Below w6.drew.heap.size w6.drew w6.drew := Below.refl _ _
  have KS := hide (fun (W : World) (hg : Below w6.drew.heap.size w6.drew W) => show W.cell? ⟨t1.heap.size, 0, none⟩ = some (.bool b5) ∧ W.cell? ⟨t1.heap.size, 1, none⟩ = some (.slice a5 X5.length c5) ∧ W.cell? ⟨t1.heap.size, 2, none⟩ = some (.int .i64 (n : Int)) from tri8 (block_upW hg (show w6.drew.heap[t1.heap.size]? = some (.cells #[.bool b5, .slice a5 X5.length c5, .int .i64 (n : Int)] 92) from T3)))
  have HGd := hide (show Below w.heap.size w w6.drew from T4.drew)
  have HNd := hide (T5.below (show Below w6.heap.size w6 w6.drew from (Below.refl _ _).drew))
  have HCd := hide (show w6.drew.heap[w.heap.size + 1]? = some (.cells #[.bool false, .slice none 0 0] 27) from T6)
  have HMN := hide (fun (W : World) => yman_any b5 a5 X5.length c5 W)
  have HSH := hide (fun (W : World) (hg : Below w6.drew.heap.size w6.drew W) => (by have h := wshift_up b5 (.slice a5 X5.length c5) X5 n W ((HNd.out.below hg).arg) (by have := HNd.out.len 17592186044416 (by have := HRB.out; omega); omega) (by omega); rw [HNd.out.val] at h; exact h : Calls Tryd.prog 56 #[.agg #[.bool b5, .slice a5 X5.length c5], .int .i64 (n : Int)] W fun e w' => ZRes w' W.heap.size e (RM * 2 ^ n) ∧ Below W.heap.size W w'))
  have so : ∀ (W : World) (k : Nat) (u : Value) (k' : Nat), (W.setCell ⟨w.heap.size + 1, k, none⟩ u).cell? ⟨t1.heap.size, k', none⟩ = W.cell? ⟨t1.heap.size, k', none⟩ := fun W k u k' => cell_other8 (by have := HLT.out; omega)
  clear T3 T4 T5 T6
  go_wp2
  clear hf5 x0 x1 x2
  go_region_held3 (fun w' => w'.cell? ⟨t1.heap.size, 0, none⟩ = some (.bool b5) ∧ w'.cell? ⟨t1.heap.size, 1, none⟩ = some (.slice a5 X5.length c5) ∧ w'.cell? ⟨t1.heap.size, 2, none⟩ = some (.int .i64 (n : Int))) (first | with_reducible exact KS.out _ g2 | with_reducible exact KS.out _ g1 | with_reducible exact KS.out _ g0 | (refine ⟨?_, ?_, ?_⟩ <;> (rw [so, so]; first | exact (KS.out _ g2).1 | exact (KS.out _ g2).2.1 | exact (KS.out _ g2).2.2))) (first
    | (go_at_call 57; refine (HMN.out _).mono ?_; rintro e' t6 ⟨rfl, hb1⟩; have g1 := bl_trans8 g0 hb1)
    | (go_at_call 56; refine (HSH.out t6 g1).mono ?_; rintro e' t8 ⟨⟨b6, a6, n6, c6, r6, rfl, hzr⟩, hb2⟩; have g2 := bl_trans8 g1 hb2; have hz := block_upW g2 HCd.out; have hfz := duof hz; obtain ⟨m0, m1⟩ := duo hz))
  have HC1 := hide hz
  have HG := hide (bl_trans8 HGd.out g2)
  have HZR := hide (hzr.base (Nat.le_trans HGd.out.size g1.size))
  clear so m0 m1 hfz KS g0 g1 g2 hb2 hz hzr HMN HSH
  have R5 := duo_all HC1.out (a' := .bool b6) (b' := .slice a6 n6 c6)
  have HD := hide (And.intro (HZR.out.duo (u0 := .bool b6) (u1 := .slice a6 n6 c6) HC1.out) (below_duo HG.out (g := w.heap.size + 1) (u0 := .bool b6) (u1 := .slice a6 n6 c6) (by omega)))
  obtain ⟨q0, q1⟩ := duo R5
  clear R5
  generalize (t8.setCell ⟨w.heap.size + 1, 0, none⟩ (.bool b6)).setCell ⟨w.heap.size + 1, 1, none⟩ (.slice a6 n6 c6) = w9 at *
  go_wp2
  refine bodyPost_ret (v := .tuple #[.agg #[.bool b6, .slice a6 n6 c6], .int .i64 r6]) (by simp [results, Tryd.results11, go_sem, q0, q1]) rfl ?_
  exact ⟨⟨_, _, _, _, _, rfl, HD.out.1⟩, HD.out.2⟩

end Go.Proofs.YtemajaclpkgpbaaDoor
