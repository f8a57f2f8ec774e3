/- Package whole: Shift upwards. -/
import Derived.Test.YtolebfnkmjmfnaaGreatDoorB03
import Derived.Test.YtolebfnkmjmfnaaGreatDoorB11
import Derived.Test.YtolebfnkmjmfnaaGreatDoorB08
import Derived.Deep.RegionHeld3
import Derived.Test.YtolebfnkmjmfnaaGreatDoorB06
import Derived.Test.YtolebfnkmjmfnaaGreatDoorB05
import Derived.Test.YtolebfnkmjmfnaaGreatDoorB09
namespace Go.Proofs.YtolebfnkmjmfnaaGreatDoor
open Go.RowKit
open Lm
attribute [local go_sem ↓] Go.wp_at_zero Go.wp_at_succ

theorem zz_up (b : Bool) (x n : Nat) : zz b (x * 2 ^ n) = zz b x * 2 ^ n := by cases b <;> simp [zz, Int.neg_mul]

set_option maxRecDepth 20000 in
set_option maxHeartbeats 1000000 in
theorem wshift_up (b : Bool) (v : Value) (X : List Nat) (n : Nat) (w : World) (hA : Arg w v X) (hf : X.length ≤ 17592186044416) (hn : n ≤ 4611686018427387904) :
    Calls Tryz.prog 115 #[.agg #[.bool b, v], .int .i64 (n : Int)] w fun e w' => ZRes w' w.heap.size e (zz b (val X) * 2 ^ n) ∧ Below w.heap.size w w' := by
  obtain ⟨a, c, rfl, _, _, _⟩ := hA.form
  obtain ⟨w0, hw0, hb0, h0, hx0⟩ := enter2 w (.cells #[.bool b, .slice a X.length c] 29) (.cells #[.bool false, .slice none 0 0] 29)
  obtain ⟨k0, k1⟩ := duo h0
  have hf1 := duof hx0
  obtain ⟨l0, l1⟩ := duo hx0
  have HB0 := hide hb0
  have HX0 := hide hx0
  have HZ := wisZero_any _ X w0 (hA.below hb0)
  have i0 : ¬ (n : Int) < 0 := by omega
  rw [← zz_up]
  by_cases hz : val X = 0
  · rw [decide_eq_true hz] at HZ
    rw [hz, Nat.zero_mul, zz_zero]
    clear hA hb0 h0 hx0 hz
    go_enter Tryz.func115, Tryz.ntmps115
    go_wp2_with fail
    refine HZ.mono ?_
    rintro e wn ⟨rfl, hw⟩; rw [hw]; clear hw wn HZ
    go_wp2
    have R5 := duo_all HX0.out (a' := .bool false) (b' := .slice none 0 0)
    have HD := hide (below_duo HB0.out (g := w.heap.size + 1) (u0 := .bool false) (u1 := .slice none 0 0) (by omega))
    generalize (w0.setCell ⟨w.heap.size + 1, 0, none⟩ (.bool false)).setCell ⟨w.heap.size + 1, 1, none⟩ (.slice none 0 0) = w5 at *
    obtain ⟨q0, q1⟩ := duo R5
    refine bodyPost_ret (v := .tuple #[.agg #[.bool false, .slice none 0 0], .int .i64 0]) (by simp [results, Tryz.results115, go_sem, q0, q1]) rfl ?_
    exact ⟨⟨_, _, _, _, 0, rfl, [], Ans.nil _ _, .inl ⟨rfl, rfl, rfl, rfl, by decide⟩⟩, HD.out⟩
  · rw [decide_eq_false hz] at HZ
    by_cases hg : 67108864 < n
    · have i1 : (67108864 : Int) < (n : Int) := by omega
      have HBL := hide (blen_shl (val X) n hz)
      clear hA hb0 h0 hx0 hz
      generalize val X * 2 ^ n = y at *
      go_enter Tryz.func115, Tryz.ntmps115
      go_wp2_with fail
      refine HZ.mono ?_
      rintro e wn ⟨rfl, hw⟩; rw [hw]; clear hw wn HZ
      go_wp2
      have R5 := duo_all HX0.out (a' := .bool false) (b' := .slice none 0 0)
      have HD := hide (below_duo HB0.out (g := w.heap.size + 1) (u0 := .bool false) (u1 := .slice none 0 0) (by omega))
      generalize (w0.setCell ⟨w.heap.size + 1, 0, none⟩ (.bool false)).setCell ⟨w.heap.size + 1, 1, none⟩ (.slice none 0 0) = w5 at *
      obtain ⟨q0, q1⟩ := duo R5
      refine bodyPost_ret (v := .tuple #[.agg #[.bool false, .slice none 0 0], .int .i64 3]) (by simp [results, Tryz.results115, go_sem, q0, q1]) rfl ?_
      exact ⟨⟨_, _, _, _, 3, rfl, [], Ans.nil _ _, .inr ⟨rfl, rfl, rfl, rfl, by rw [zz_abs, HBL.out]; omega⟩⟩, HD.out⟩
    · have i1 : ¬ (67108864 : Int) < (n : Int) := by omega
      have HL := left_any _ X n w0 (hA.below hb0) (by omega) (by omega)
      clear hA hb0 h0 hx0 hz l0 l1 hf1
      generalize val X * 2 ^ n = y at *
      have H0 := hide (show w0.heap[w.heap.size]? = some (.cells #[.bool b, .slice a X.length c] 29) by rw [← hw0]; exact block_upW (below_one6 _ _) (heap_alloc_new w _))
      go_enter Tryz.func115, Tryz.ntmps115
      go_wp2_with fail
      refine HZ.mono ?_
      rintro e wn ⟨rfl, hw⟩; rw [hw]; clear hw wn HZ
      go_wp2_with fail
      refine HL.mono ?_
      rintro e w1 ⟨hb1, v1, c0, rs, rfl, ha, hres⟩
      clear HL
      have hans := wanswered_any b v1 rs c0 y _ w1 ha hres
      obtain ⟨a1, n1, rfl⟩ := ha.shape
      have HW1 := hide hb1
      obtain ⟨m0, m1⟩ := duo (block_upW hb1 H0.out)
      clear ha hres hb1 k0 k1
      go_wp2_with fail
      refine hans.mono ?_
      rintro e w2 ⟨⟨b1, a1, n1, k1, c1, rfl, hzr⟩, hb2⟩
      have HZR := hide (hzr.base HB0.out.size)
      have HW := hide (HW1.out.trans (hb2.mono HW1.out.size))
      have hbx := block_upW HW.out HX0.out
      have hf1 := duof hbx
      obtain ⟨l0, l1⟩ := duo hbx
      have HBX := hide hbx
      have HBE := hide (HB0.out.trans (HW.out.mono HB0.out.size))
      clear hbx hzr hb2 hans
      go_wp2
      have R5 := duo_all HBX.out (a' := .bool b1) (b' := .slice a1 n1 k1)
      have HD := hide (And.intro (HZR.out.duo (u0 := .bool b1) (u1 := .slice a1 n1 k1) HBX.out) (below_duo HBE.out (g := w.heap.size + 1) (u0 := .bool b1) (u1 := .slice a1 n1 k1) (by omega)))
      generalize (w2.setCell ⟨w.heap.size + 1, 0, none⟩ (.bool b1)).setCell ⟨w.heap.size + 1, 1, none⟩ (.slice a1 n1 k1) = w5 at *
      obtain ⟨q0, q1⟩ := duo R5
      refine bodyPost_ret (v := .tuple #[.agg #[.bool b1, .slice a1 n1 k1], .int .i64 c1]) (by simp [results, Tryz.results115, go_sem, q0, q1]) rfl ?_
      exact ⟨⟨_, _, _, _, _, rfl, HD.out.1⟩, HD.out.2⟩

end Go.Proofs.YtolebfnkmjmfnaaGreatDoor

namespace Go.Proofs.YtolebfnkmjmfnaaGreatDoor
open Go.RowKit
open Lm
attribute [local go_sem ↓] Go.wp_at_zero Go.wp_at_succ

set_option maxRecDepth 20000 in
set_option maxHeartbeats 2000000 in
theorem ywhole_ok (b : Bool) (a : Option Addr) (c : Nat) (X : List Nat) (ex m : Int) (w : World) (hA : Arg w (.slice a X.length c) X) (hT : Tab w) (hf : X.length ≤ 17592186044400) (hE : fitE ex = true) (hM : isM m = true) :
    Calls Tryz.prog 87 #[.agg #[.bool b, .slice a X.length c, .int .i64 ex], .int .i64 m] w fun e w' => ZRes w' w.heap.size e (rndM (omz (zz b (val X))) (oe (zz b (val X)) ex) 0 m * 2 ^ (rndE (omz (zz b (val X))) (oe (zz b (val X)) ex) 0).toNat) ∧ Below w.heap.size w w' := by
  have hm := (isM_iff m).1 hM
  have hzn := nr8_of (zz b (val X)) ex
  obtain ⟨w0, hw0, hb0, h0, h1'⟩ := enter2 w (.cells #[.bool b, .slice a X.length c, .int .i64 ex] 31) (.cells #[.bool false, .slice none 0 0] 29)
  obtain ⟨k0, k1, k2⟩ := tri8 h0
  have HS0 := hide (show w.heap.size + 2 ≤ w0.heap.size by rw [← hw0, World.size_alloc, World.size_alloc]; omega)
  have HP := yread_ok b a c X ex w0 (hA.below hb0) (hT.below hb0) (by omega) hE
  have HC := hide h1'
  have HB := hide hb0
  have hbz : blen (zz b (val X)).natAbs ≤ 64 * X.length := by
    rw [zz_abs, blen_le_iff, Nat.mul_comm, ← W_pow]; exact val_lt hA.limbs
  have hEr := (fitE_iff ex).1 hE
  have hOE := oe_range (zz b (val X)) ex (by omega)
  have hbo : blen (omz (zz b (val X))).natAbs ≤ 17592186044400 * 64 := by
    have h5 := blen_mono (od_le (zz b (val X)).natAbs)
    rw [omz_abs]; omega
  clear h0 h1' hb0 hE hA hT hbz
  generalize oe (zz b (val X)) ex = E at *
  generalize omz (zz b (val X)) = M at *
  have HRB := hide (rnd_blen M E 0 m _ hbo)
  have hRE : 0 ≤ rndE M E 0 ∧ rndE M E 0 ≤ 4611686018427387904 := by
    unfold rndE
    split
    · rename_i h
      rcases h with h | h
      · rcases hzn with h9 | h9
        · omega
        · rw [h] at h9; simp at h9
      · omega
    · omega
  have HRD := hide (fun (W : World) (b1 : Bool) (a1 : Option Addr) (c1 : Nat) (X1 : List Nat) (hn : Nm W b1 (.slice a1 X1.length c1) X1 M) => yrounded_all b1 a1 c1 X1 M E 0 m W hn (by omega) (by omega) (by omega) (by omega) hm (hn.len 17592186044416 (by omega)))
  generalize rndE M E 0 = RE at *
  generalize rndM M E 0 m = RM at *
  obtain ⟨n, hn⟩ : ∃ n : Nat, RE = (n : Int) := ⟨RE.toNat, by omega⟩
  subst hn
  rw [Int.toNat_natCast]
  clear hOE hbo hm hzn
  go_enter Tryz.func87, Tryz.ntmps87
  go_wp2_with fail
  refine HP.mono ?_
  rintro e t1 ⟨⟨b1, a1, n1, c1, X1, rfl, rfl, N1, hb1⟩, g1⟩
  obtain ⟨w4, hw4, hb4, h4⟩ := enter1 t1 (.cells #[.bool b1, .slice a1 X1.length c1, .int .i64 E] 129)
  have HC1 := hide (block_upW hb4 (block_upW g1 HC.out))
  have HG := hide (bl_trans8 (bl_trans8 HB.out g1) hb4)
  have HMO := yisMode_any m w4
  have hf1 := duof HC1.out
  obtain ⟨m0, m1⟩ := duo HC1.out
  obtain ⟨l0, l1, l2⟩ := tri8 h4
  have HN1 := hide (N1.below hb4)
  have H4 := hide h4
  have HLT := hide (show w.heap.size + 1 < t1.heap.size by have := g1.size; have := HS0.out; omega)
  clear g1 hb4 h4 HP HC HB N1
  rw [hM] at HMO
  go_wp2_with fail
  refine HMO.mono ?_
  rintro e wn ⟨rfl, hw⟩; rw [hw]; clear hw wn HMO
  have HRR := HRD.out w4 b1 a1 c1 X1 HN1.out
  clear HRD HN1
  go_wp2_with fail
  refine HRR.mono ?_
  rintro e t5 ⟨⟨b5, a5, n5, c5, X5, rfl, rfl, N5⟩, g5⟩
  have hx5 := block_upW g5 H4.out
  have hf5 := tri8f hx5
  obtain ⟨x0, x1, x2⟩ := tri8 hx5
  have T3 := tri8_all hx5 (.bool b5) (.slice a5 X5.length c5) (.int .i64 (n : Int))
  have T4 := below_tri8 (bl_trans8 HG.out g5) (show w.heap.size ≤ t1.heap.size by have := HLT.out; omega) (.bool b5) (.slice a5 X5.length c5) (.int .i64 (n : Int))
  have T5 := N5.tri8 hx5 b5 a5 X5.length c5 (.int .i64 (n : Int))
  have hne : w.heap.size + 1 ≠ t1.heap.size := by have := HLT.out; omega
  have T6 : (((t5.setCell ⟨t1.heap.size, 0, none⟩ (.bool b5)).setCell ⟨t1.heap.size, 1, none⟩ (.slice a5 X5.length c5)).setCell ⟨t1.heap.size, 2, none⟩ (.int .i64 (n : Int))).heap[w.heap.size + 1]? = some (.cells #[.bool false, .slice none 0 0] 29) := by
    rw [Below.heap_setCell _ _ _ _ hne, Below.heap_setCell _ _ _ _ hne, Below.heap_setCell _ _ _ _ hne]; exact block_upW g5 HC1.out
  clear g5 N5 HRR hne l0 l1 l2 m0 m1 hf1 HC1 HG H4 hx5
  obtain ⟨w6, hw6⟩ : ∃ w6, ((t5.setCell ⟨t1.heap.size, 0, none⟩ (.bool b5)).setCell ⟨t1.heap.size, 1, none⟩ (.slice a5 X5.length c5)).setCell ⟨t1.heap.size, 2, none⟩ (.int .i64 (n : Int)) = w6 := ⟨_, rfl⟩
  rw [hw6] at T3 T4 T5 T6
  have g0 : Below w6.drew.heap.size w6.drew w6.drew := Below.refl _ _
  have KS := hide (fun (W : World) (hg : Below w6.drew.heap.size w6.drew W) => show W.cell? ⟨t1.heap.size, 0, none⟩ = some (.bool b5) ∧ W.cell? ⟨t1.heap.size, 1, none⟩ = some (.slice a5 X5.length c5) ∧ W.cell? ⟨t1.heap.size, 2, none⟩ = some (.int .i64 (n : Int)) from tri8 (block_upW hg (show w6.drew.heap[t1.heap.size]? = some (.cells #[.bool b5, .slice a5 X5.length c5, .int .i64 (n : Int)] 129) from T3)))
  have HGd := hide (show Below w.heap.size w w6.drew from T4.drew)
  have HNd := hide (T5.below (show Below w6.heap.size w6 w6.drew from (Below.refl _ _).drew))
  have HCd := hide (show w6.drew.heap[w.heap.size + 1]? = some (.cells #[.bool false, .slice none 0 0] 29) from T6)
  have HMN := hide (fun (W : World) => yman_any b5 a5 X5.length c5 W)
  have HSH := hide (fun (W : World) (hg : Below w6.drew.heap.size w6.drew W) => (by have h := wshift_up b5 (.slice a5 X5.length c5) X5 n W ((HNd.out.below hg).arg) (by have := HNd.out.len 17592186044416 (by have := HRB.out; omega); omega) (by omega); rw [HNd.out.val] at h; exact h : Calls Tryz.prog 115 #[.agg #[.bool b5, .slice a5 X5.length c5], .int .i64 (n : Int)] W fun e w' => ZRes w' W.heap.size e (RM * 2 ^ n) ∧ Below W.heap.size W w'))
  have so : ∀ (W : World) (k : Nat) (u : Value) (k' : Nat), (W.setCell ⟨w.heap.size + 1, k, none⟩ u).cell? ⟨t1.heap.size, k', none⟩ = W.cell? ⟨t1.heap.size, k', none⟩ := fun W k u k' => cell_other8 (by have := HLT.out; omega)
  clear T3 T4 T5 T6
  go_wp2
  clear hf5 x0 x1 x2
  go_region_held3 (fun w' => w'.cell? ⟨t1.heap.size, 0, none⟩ = some (.bool b5) ∧ w'.cell? ⟨t1.heap.size, 1, none⟩ = some (.slice a5 X5.length c5) ∧ w'.cell? ⟨t1.heap.size, 2, none⟩ = some (.int .i64 (n : Int))) (first | with_reducible exact KS.out _ g2 | with_reducible exact KS.out _ g1 | with_reducible exact KS.out _ g0 | (refine ⟨?_, ?_, ?_⟩ <;> (rw [so, so]; first | exact (KS.out _ g2).1 | exact (KS.out _ g2).2.1 | exact (KS.out _ g2).2.2))) (first
    | (go_at_call 116; refine (HMN.out _).mono ?_; rintro e' t6 ⟨rfl, hb1⟩; have g1 := bl_trans8 g0 hb1)
    | (go_at_call 115; refine (HSH.out t6 g1).mono ?_; rintro e' t8 ⟨⟨b6, a6, n6, c6, r6, rfl, hzr⟩, hb2⟩; have g2 := bl_trans8 g1 hb2; have hz := block_upW g2 HCd.out; have hfz := duof hz; obtain ⟨m0, m1⟩ := duo hz))
  have HC1 := hide hz
  have HG := hide (bl_trans8 HGd.out g2)
  have HZR := hide (hzr.base (Nat.le_trans HGd.out.size g1.size))
  clear so m0 m1 hfz KS g0 g1 g2 hb2 hz hzr HMN HSH
  have R5 := duo_all HC1.out (a' := .bool b6) (b' := .slice a6 n6 c6)
  have HD := hide (And.intro (HZR.out.duo (u0 := .bool b6) (u1 := .slice a6 n6 c6) HC1.out) (below_duo HG.out (g := w.heap.size + 1) (u0 := .bool b6) (u1 := .slice a6 n6 c6) (by omega)))
  obtain ⟨q0, q1⟩ := duo R5
  clear R5
  generalize (t8.setCell ⟨w.heap.size + 1, 0, none⟩ (.bool b6)).setCell ⟨w.heap.size + 1, 1, none⟩ (.slice a6 n6 c6) = w9 at *
  go_wp2
  refine bodyPost_ret (v := .tuple #[.agg #[.bool b6, .slice a6 n6 c6], .int .i64 r6]) (by simp [results, Tryz.results87, go_sem, q0, q1]) rfl ?_
  exact ⟨⟨_, _, _, _, _, rfl, HD.out.1⟩, HD.out.2⟩

end Go.Proofs.YtolebfnkmjmfnaaGreatDoor

namespace Go.Proofs.YtolebfnkmjmfnaaGreatDoor
open Go.RowKit
open Lm
attribute [local go_sem ↓] Go.wp_at_zero Go.wp_at_succ

theorem rq_le (b : Bool) {x d : Nat} (hx : 0 < x) (hd : 0 < d) : rq b x d 0 ≤ x := by
  unfold rq
  have h2 : 2 ^ 1 ≤ 2 ^ d := Nat.pow_le_pow_right (by omega) hd
  rw [Nat.pow_one] at h2
  by_cases h1 : x = 1
  · rw [h1, Nat.div_eq_of_lt (by omega)]
    split <;> omega
  · have h3 : x / 2 ^ d ≤ x / 2 := Nat.div_le_div_left h2 (by omega)
    split <;> omega

theorem rnd_small {M E pos : Int} : blen (rndM M E pos 0).natAbs ≤ blen M.natAbs := by
  unfold rndM
  by_cases h : M = 0 ∨ pos ≤ E
  · rw [if_pos h]; exact Nat.le_refl _
  · rw [if_neg h, zz_abs]
    exact blen_mono (rq_le _ (by omega) (by omega))

theorem rnd_small8 {M E pos : Int} : blen (omz (rndM M E pos 0)).natAbs ≤ blen M.natAbs := by
  rw [omz_abs]
  exact Nat.le_trans (blen_mono (od_le _)) rnd_small

/-- What is refused for its exponent is high. -/
theorem rnd_high {M E pos : Int} (hn : Nr8 M E) (hE : fitE E = true) (hP : fitE pos = true) (h : fitE (oe (rndM M E pos 0) (rndE M E pos)) = false) : M.natAbs % 2 = 1 ∧ E < pos ∧ pos - E ≤ (blen M.natAbs : Nat) := by
  by_cases c : M = 0 ∨ pos ≤ E
  · unfold rndM rndE at h
    rw [if_pos c, if_pos c, hn.stay.2, hE] at h
    cases h
  · have hM : M ≠ 0 := fun e => c (.inl e)
    have hodd : M.natAbs % 2 = 1 := by
      rcases hn with ⟨e, _⟩ | e
      · exact absurd e hM
      · exact e
    refine ⟨hodd, by omega, ?_⟩
    unfold rndM rndE at h
    rw [if_neg c, if_neg c, oe_zz] at h
    by_cases hd : M.natAbs / 2 ^ (pos - E).toNat = 0
    · have hq : rq (decide (M < 0)) M.natAbs (pos - E).toNat 0 = 0 ∨ rq (decide (M < 0)) M.natAbs (pos - E).toNat 0 = 1 := by
        unfold rq
        rw [hd]
        split <;> omega
      rcases hq with hq | hq
      · rw [hq, if_pos rfl] at h
        exact absurd h (by decide)
      · rw [hq, if_neg (by decide), (tl_odd (x := 1) rfl).1] at h
        rw [show pos + ((0 : Nat) : Int) = pos by omega, hP] at h
        cases h
    · have h1 : 2 ^ (pos - E).toNat ≤ M.natAbs := by
        rcases Nat.lt_or_ge M.natAbs (2 ^ (pos - E).toNat) with k | k
        · exact absurd (Nat.div_eq_of_lt k) hd
        · exact k
      have h2 := (blen_le_iff M.natAbs _).1 (Nat.le_refl _)
      have h3 := (Nat.pow_lt_pow_iff_right (a := 2) (by omega)).1 (Nat.lt_of_le_of_lt h1 h2)
      omega

/-- What is wrong with a span, or with a position. -/
def fltAt (F pos : Int) : Int := if F = 0 then (if fitE pos = true then 0 else 1) else F

set_option maxRecDepth 20000 in
set_option maxHeartbeats 1000000 in
theorem faultAt_any (v : Value) (F pos : Int) (w : World) (hf : Calls Tryz.prog 25 #[v] w fun e w' => e = .returned (.int .i64 F) ∧ Below w.heap.size w w') :
    Calls Tryz.prog 28 #[.int .i64 pos, v] w fun e w' => e = .returned (.int .i64 (fltAt F pos)) ∧ Below w.heap.size w w' := by
  have HP := hide (fun (W : World) => sisPosB pos W)
  by_cases h0 : F = 0
  · subst h0
    cases hp : fitE pos
    · rw [show fltAt 0 pos = 1 by unfold fltAt; rw [if_pos rfl, hp]; rfl]
      go_enter Tryz.func28, Tryz.ntmps28
      go_wp2_with fail
      refine hf.mono ?_
      rintro e t1 ⟨rfl, g1⟩
      have HG := hide g1
      have C := HP.out t1
      rw [hp] at C
      clear g1
      go_wp2_with fail
      refine C.mono ?_
      rintro e wn ⟨rfl, hw⟩; rw [hw]; clear hw wn C
      go_wp2
      go_ret
      exact ⟨rfl, HG.out⟩
    · rw [show fltAt 0 pos = 0 by unfold fltAt; rw [if_pos rfl, if_pos hp]]
      go_enter Tryz.func28, Tryz.ntmps28
      go_wp2_with fail
      refine hf.mono ?_
      rintro e t1 ⟨rfl, g1⟩
      have HG := hide g1
      have C := HP.out t1
      rw [hp] at C
      clear g1
      go_wp2_with fail
      refine C.mono ?_
      rintro e wn ⟨rfl, hw⟩; rw [hw]; clear hw wn C
      go_wp2
      go_ret
      exact ⟨rfl, HG.out⟩
  · rw [show fltAt F pos = F by unfold fltAt; rw [if_neg h0]]
    have i9 : (F != 0) = true := by simpa using h0
    clear h0 HP
    go_enter Tryz.func28, Tryz.ntmps28
    go_wp2_with fail
    refine hf.mono ?_
    rintro e t1 ⟨rfl, g1⟩
    have HG := hide g1
    clear g1
    go_wp2
    go_ret
    exact ⟨rfl, HG.out⟩

/-- A number in a box of another. -/
theorem N8.tri8 {w : World} {b : Bool} {a0 : Option Addr} {n0 k0 : Nat} {ex : Int} {L : Nat} {V : Int} {g : Nat} {p : Bool} {a : Option Addr} {n c : Nat} {e : Int} {t : TypeId} (h : N8 w b a0 n0 k0 ex L V) (hl : w.heap[g]? = some (.cells #[.bool p, .slice a n c, .int .i64 e] t)) (p1 : Bool) (a1 : Option Addr) (n1 c1 : Nat) (u2 : Value) : N8 (((w.setCell ⟨g, 0, none⟩ (.bool p1)).setCell ⟨g, 1, none⟩ (.slice a1 n1 c1)).setCell ⟨g, 2, none⟩ u2) b a0 n0 k0 ex L V := by
  obtain ⟨X, h1, h2, h3⟩ := h
  exact ⟨X, h1, h2.tri8 hl p1 a1 n1 c1 u2, h3⟩

theorem Ans.len10 {w : World} {base : Nat} {a : Option Addr} {n k : Nat} {rs : List Nat} (h : Ans w base (.slice a n k) rs) : n = rs.length := by
  obtain ⟨_, h2⟩ := h.own
  rcases h2 with ⟨e, h0⟩ | ⟨g, cap, cur, e, _⟩
  · cases e; exact h0.symm
  · cases e; rfl

/-- An answer that was not refused, as a number that is handed in. -/
theorem DR.n8 {w : World} {base : Nat} {b : Bool} {a : Option Addr} {n k : Nat} {ex M E : Int} {L : Nat} {V : Int} (h : DR w base b (.slice a n k) ex 0 M E) (hr : Rp L M E V) : N8 w b a n k ex L V := by
  obtain ⟨rs, h1, h2 | h2 | h2⟩ := h
  · obtain ⟨_, e1, e2, e3, rfl, e5, e6⟩ := h2
    have hl : rs.length ≤ 1048576 := few_ofW e3 e2 (by omega)
    have hn : n = rs.length := h1.len10
    refine ⟨rs, hn, h1.arg (by omega), by omega, e6, ?_⟩
    unfold vof
    rw [e1, e2, zz_self]
    exact hr.2
  · exact absurd h2.1 (by decide)
  · exact absurd h2.1 (by decide)

/-- A number that is no error. -/
def NAns (w : World) (e : Ending) (w' : World) (L : Nat) (V : Int) : Prop :=
  (∃ b a n k ex, e = .returned (.tuple #[.agg #[.bool b, .slice a n k, .int .i64 ex], .int .i64 0]) ∧ N8 w' b a n k ex L V) ∧ Below w.heap.size w w'

set_option maxRecDepth 20000 in
set_option maxHeartbeats 2000000 in
theorem sfloor_ok (b : Bool) (a : Option Addr) (n k : Nat) (ex pos : Int) (c : Int) (L : Nat) (V : Int) (w : World) (hc : c ≠ 80) (hR : ∀ W, Below w.heap.size w W → Calls Tryz.prog 86 #[.agg #[.bool b, .slice a n k, .int .i64 ex], .int .i64 pos, .int .i64 0] W fun e w' => (∃ b6 a6 n6 c6 e6, e = .returned (.tuple #[.agg #[.bool b6, .slice a6 n6 c6, .int .i64 e6], .int .i64 c]) ∧ N8 w' b6 a6 n6 c6 e6 L V) ∧ Below W.heap.size W w') :
    Calls Tryz.prog 62 #[.agg #[.bool b, .slice a n k, .int .i64 ex], .int .i64 pos] w fun e w' => (∃ b6 a6 n6 c6 e6, e = .returned (.tuple #[.agg #[.bool b6, .slice a6 n6 c6, .int .i64 e6], .int .i64 c]) ∧ N8 w' b6 a6 n6 c6 e6 L V) ∧ Below w.heap.size w w' := by
  obtain ⟨w0, hw0, hb0, q0, q9⟩ := enter2 w (.cells #[.bool b, .slice a n k, .int .i64 ex] 31) (.cells #[.bool false, .slice none 0 0, .int .i64 0] 31)
  have C := hR w0 hb0
  have HU := hide hb0
  have HR0 := hide q9
  obtain ⟨y0, y1, y2⟩ := tri8 q0
  have i9 : (c != 80) = true := by simpa using hc
  clear q0 q9 hb0 hR hc
  go_enter Tryz.func62, Tryz.ntmps62
  go_wp2_with fail
  refine C.mono ?_
  rintro e t1 ⟨⟨b6, a6, n6, c6, e6, rfl, hn⟩, g1⟩
  obtain ⟨w2, hw2, hb2, q2⟩ := enter1 t1 (.cells #[.bool b6, .slice a6 n6 c6, .int .i64 e6] 31)
  have HC1 := hide (block_upW hb2 (block_upW g1 HR0.out))
  have HG := hide (bl_trans8 (bl_trans8 HU.out g1) hb2)
  have HN8 := hide (hn.below hb2)
  obtain ⟨x0, x1, x2⟩ := tri8 q2
  have hf1 := tri8f HC1.out
  obtain ⟨m0, m1, m2⟩ := tri8 HC1.out
  clear g1 hn hb2 q2 C y0 y1 y2 hw0
  go_wp2
  have T3 := tri8_all HC1.out (.bool b6) (.slice a6 n6 c6) (.int .i64 e6)
  have T4 := below_tri8 HG.out (show w.heap.size ≤ w.heap.size + 1 by omega) (.bool b6) (.slice a6 n6 c6) (.int .i64 e6)
  have T5 := HN8.out.tri8 HC1.out b6 a6 n6 c6 (.int .i64 e6)
  obtain ⟨p0, p1, p2⟩ := tri8 T3
  have HE := hide (And.intro T5 T4)
  clear T3 T4 T5
  generalize ((w2.setCell ⟨w.heap.size + 1, 0, none⟩ (.bool b6)).setCell ⟨w.heap.size + 1, 1, none⟩ (.slice a6 n6 c6)).setCell ⟨w.heap.size + 1, 2, none⟩ (.int .i64 e6) = w5 at *
  refine bodyPost_ret (v := .tuple #[.agg #[.bool b6, .slice a6 n6 c6, .int .i64 e6], .int .i64 c]) (by simp [results, Tryz.results62, go_sem, p0, p1, p2]) rfl ?_
  exact ⟨⟨_, _, _, _, _, rfl, HE.out.1⟩, HE.out.2⟩

set_option maxRecDepth 20000 in
set_option maxHeartbeats 2000000 in
theorem sfloor_far (b : Bool) (a : Option Addr) (n k : Nat) (ex pos : Int) (L : Nat) (V : Int) (w : World) (hw : IntKind.i64.wrap (ex - pos) = ex - pos) (hR : ∀ W, Below w.heap.size w W → Calls Tryz.prog 86 #[.agg #[.bool b, .slice a n k, .int .i64 ex], .int .i64 pos, .int .i64 0] W fun e w' => (∃ b6 a6 n6 c6 e6, e = .returned (.tuple #[.agg #[.bool b6, .slice a6 n6 c6, .int .i64 e6], .int .i64 80])) ∧ Below W.heap.size W w')
    (hW : ∀ W, Below w.heap.size w W → Calls Tryz.prog 87 #[.agg #[.bool b, .slice a n k, .int .i64 (ex - pos)], .int .i64 0] W fun e w' => (∃ b6 a6 n6 c6, e = .returned (.tuple #[.agg #[.bool b6, .slice a6 n6 c6], .int .i64 0]) ∧ N8 w' b6 a6 n6 c6 pos L V) ∧ Below W.heap.size W w') :
    Calls Tryz.prog 62 #[.agg #[.bool b, .slice a n k, .int .i64 ex], .int .i64 pos] w fun e w' => NAns w e w' L V := by
  obtain ⟨w0, hw0, hb0, q0, q9⟩ := enter2 w (.cells #[.bool b, .slice a n k, .int .i64 ex] 31) (.cells #[.bool false, .slice none 0 0, .int .i64 0] 31)
  have C := hR w0 hb0
  have CW := hide hW
  have HU := hide hb0
  have HQ0 := hide q0
  have HR0 := hide q9
  have hne : w.heap.size + 1 ≠ w.heap.size := by omega
  obtain ⟨y0, y1, y2⟩ := tri8 q0
  generalize hd : ex - pos = d at *
  clear q0 q9 hb0 hR hW
  go_enter Tryz.func62, Tryz.ntmps62
  go_wp2_with fail
  refine C.mono ?_
  rintro e t1 ⟨⟨b6, a6, n6, c6, e6, rfl⟩, g1⟩
  obtain ⟨w2, hw2, hb2, q2⟩ := enter1 t1 (.cells #[.bool b6, .slice a6 n6 c6, .int .i64 e6] 31)
  have hg2 := bl_trans8 g1 hb2
  have q0' := block_upW hg2 HQ0.out
  have q9' := block_upW hg2 HR0.out
  have hf0 := tri8f q0'
  clear y0 y1 y2
  obtain ⟨y0, y1, y2⟩ := tri8 q0'
  obtain ⟨w3, hw3⟩ : ∃ w3, w2.setCell ⟨w.heap.size, 2, none⟩ (.int .i64 d) = w3 := ⟨_, rfl⟩
  have c0 : w3.heap[w.heap.size]? = some (.cells #[.bool b, .slice a n k, .int .i64 d] 31) := by rw [← hw3]; exact box_modify (k := 2) q0' (.int .i64 d)
  have c9 : w3.heap[w.heap.size + 1]? = some (.cells #[.bool false, .slice none 0 0, .int .i64 0] 31) := by rw [← hw3, Below.heap_setCell _ _ _ _ hne]; exact q9'
  have G3 : Below w.heap.size w w3 := by rw [← hw3]; exact (bl_trans8 HU.out hg2).setCell (p := ⟨w.heap.size, 2, none⟩) (Nat.le_refl _) _
  have HC0 := hide c0
  have HC9 := hide c9
  have HG3 := hide G3
  obtain ⟨z0, z1, z2⟩ := tri8 c0
  have CC := CW.out w3 G3
  clear g1 hb2 q2 C hw0 hg2 q0' q9' c0 c9 G3 CW
  go_wp2_with fail
  refine CC.mono ?_
  rintro e t4 ⟨⟨b7, a7, n7, c7, rfl, hn⟩, g4⟩
  obtain ⟨w5', hw5, hb5, q5⟩ := enter1 t4 (.cells #[.bool b7, .slice a7 n7 c7] 29)
  have HC1 := hide (block_upW hb5 (block_upW g4 HC9.out))
  have HG := hide (bl_trans8 (bl_trans8 HG3.out g4) hb5)
  have HN8 := hide (hn.below hb5)
  obtain ⟨x0, x1⟩ := duo q5
  have hf1 := tri8f HC1.out
  obtain ⟨m0, m1, m2⟩ := tri8 HC1.out
  clear g4 hn hb5 q5 CC z0 z1 z2 y0 y1 y2 hf0 hw3
  go_wp2
  have T3 := tri8_all HC1.out (.bool b7) (.slice a7 n7 c7) (.int .i64 pos)
  have T4 := below_tri8 HG.out (show w.heap.size ≤ w.heap.size + 1 by omega) (.bool b7) (.slice a7 n7 c7) (.int .i64 pos)
  have T5 := HN8.out.tri8 HC1.out b7 a7 n7 c7 (.int .i64 pos)
  obtain ⟨p0, p1, p2⟩ := tri8 T3
  have HE := hide (And.intro T5 T4)
  clear T3 T4 T5
  generalize ((w5'.setCell ⟨w.heap.size + 1, 0, none⟩ (.bool b7)).setCell ⟨w.heap.size + 1, 1, none⟩ (.slice a7 n7 c7)).setCell ⟨w.heap.size + 1, 2, none⟩ (.int .i64 pos) = w6 at *
  refine bodyPost_ret (v := .tuple #[.agg #[.bool b7, .slice a7 n7 c7, .int .i64 pos], .int .i64 0]) (by simp [results, Tryz.results62, go_sem, p0, p1, p2]) rfl ?_
  exact ⟨⟨_, _, _, _, _, rfl, HE.out.1⟩, HE.out.2⟩

/-- floorOf of a number that was answered. -/
theorem sfloorV (b : Bool) (a : Option Addr) (n k : Nat) (ex pos M E : Int) (L : Nat) (V : Int) (base : Nat) (w : World) (hT : Tab w) (hD : DR w base b (.slice a n k) ex 0 M E) (hr : Rp L M E V) (hn : Nr8 M E) (hK : fitE pos = true) (hL : 4611686018427387904 ≤ L) :
    Calls Tryz.prog 62 #[.agg #[.bool b, .slice a n k, .int .i64 ex], .int .i64 pos] w fun e w' => NAns w e w' L (rv 0 V (2 ^ (pos + L).toNat)) := by
  have hp := (fitE_iff pos).1 hK
  obtain ⟨rs, h1, h2 | h2 | h2⟩ := hD
  · obtain ⟨_, rfl, e2, e3, rfl, e5, e6⟩ := h2
    have hl : rs.length ≤ 1048576 := few_ofW e3 e2 (by omega)
    obtain rfl : n = rs.length := h1.len10
    have hA := h1.arg (by omega)
    have hz : zz (decide (M < 0)) (val rs) = M := by rw [e2, zz_self]
    have hRp := rnd_rv (pos := pos) (m := 0) hr hn (by omega) (.inl rfl)
    have CR := fun (W : World) (hg : Below w.heap.size w W) => yround_ok (decide (M < 0)) a k rs ex pos 0 W (hA.below hg) (hT.below hg) (by omega) e6 hK (by decide)
    rw [hz, hn.stay.1, hn.stay.2] at CR
    have hsm := rnd_small8 (M := M) (E := ex) (pos := pos)
    cases hq : fitE (oe (rndM M ex pos 0) (rndE M ex pos))
    · obtain ⟨hodd, hlt, hgap⟩ := rnd_high hn e6 hK hq
      have hEr := (fitE_iff ex).1 e6
      have hfit : fitE (ex - pos) = true := (fitE_iff _).2 (by omega)
      have hod := omz_odd hodd
      have CW := fun (W : World) (hg : Below w.heap.size w W) => ywhole_ok (decide (M < 0)) a k rs (ex - pos) 0 W (hA.below hg) (hT.below hg) (by omega) hfit (by decide)
      rw [hz, (hod (ex - pos)).1, (hod (ex - pos)).2] at CW
      have hM0 : M ≠ 0 := by intro h; rw [h] at hodd; revert hodd; decide
      have eM : rndM M (ex - pos) 0 0 = rndM M ex pos 0 := by
        unfold rndM
        rw [if_neg (by omega), if_neg (by omega), show (0 - (ex - pos)).toNat = (pos - ex).toNat by omega]
      have eE : rndE M (ex - pos) 0 = 0 := by unfold rndE; rw [if_neg (by omega)]
      have eP : rndE M ex pos = pos := by unfold rndE; rw [if_neg (by omega)]
      rw [eM, eE, show (0 : Int).toNat = 0 from rfl, Int.pow_zero, Int.mul_one] at CW
      rw [eP] at hRp
      have hsz := rnd_small (M := M) (E := ex) (pos := pos)
      refine sfloor_far (decide (M < 0)) a _ k ex pos L _ w (by rw [IntKind.wrap_i64]; omega) (fun W hg => (CR W hg).mono fun e w' h => ?_) (fun W hg => (CW W hg).mono fun e w' h => ?_)
      · obtain ⟨⟨b6, a6, n6, k6, e6', c6, he, hd⟩, hb⟩ := h
        have hcc := hd.code
        unfold dcode at hcc
        rw [if_neg (by omega), hq, if_neg (by decide)] at hcc
        subst hcc
        exact ⟨⟨_, _, _, _, _, he⟩, hb⟩
      · obtain ⟨⟨b6, a6, n6, k6, c6, he, rs6, g1, g2 | g2⟩, hb⟩ := h
        · obtain ⟨rfl, rfl, v2, v3, v4⟩ := g2
          have hl6 : rs6.length ≤ 1048576 := few_ofW v3 v2 (by omega)
          have hn6 : n6 = rs6.length := g1.len10
          refine ⟨⟨_, _, _, _, he, rs6, hn6, g1.arg (by omega), by omega, hK, ?_⟩, hb⟩
          unfold vof
          rw [v2, zz_self]
          exact hRp.2
        · exact absurd g2.2.2.2.2 (by omega)
    · refine sfloor_ok (decide (M < 0)) a _ k ex pos 0 L _ w (by decide) (fun W hg => (CR W hg).mono fun e w' h => ?_)
      obtain ⟨⟨b6, a6, n6, k6, e6', c6, he, hd⟩, hb⟩ := h
      have hcc := hd.code
      unfold dcode at hcc
      rw [if_neg (by omega), hq, if_pos rfl] at hcc
      subst hcc
      exact ⟨⟨_, _, _, _, _, he, hd.n8 hRp.norm⟩, hb⟩
  · exact absurd h2.1 (by decide)
  · exact absurd h2.1 (by decide)

end Go.Proofs.YtolebfnkmjmfnaaGreatDoor

namespace Go.Proofs.YtolebfnkmjmfnaaGreatDoor
open Go.RowKit
open Lm
attribute [local go_sem ↓] Go.wp_at_zero Go.wp_at_succ

theorem infoL10 : (Tryz.prog.info? 22).map (fun i => (i.zero, i.size, i.bytes)) = some (some (.slice none 0 0), 1, 24) := by kernel_rfl

theorem news10 {w : World} (l : List Value) (t : TypeId) (j : Nat) (u : Value) (hj : l[j]? = some u) : (w.alloc (.cells l.toArray t)).cell? ((⟨w.heap.size, 0, none⟩ : Addr).add j) = some u := by
  have e : (⟨w.heap.size, 0, none⟩ : Addr).add j = ⟨w.heap.size, j, none⟩ := by
    unfold Addr.add; split <;> simp_all
  rw [e]
  simp only [World.cell?, heap_alloc_new]
  simpa using hj

theorem BK.after10 {base : Nat} {w w5 w' : World} (hb : Below w.heap.size w w5) (hle : base ≤ w.heap.size) (h : BK base w5 w') : BK base w w' :=
  ⟨(hb.mono hle).trans h.below, fun g cs t ht ht2 hc => h.box g cs t ht ht2 (block_upW hb hc)⟩

/-- The list of lists that was made, with the room behind it. -/
theorem stx10 {w w5 : World} {base : Nat} {vs : List Value} {rss : List (List Nat)} {g cap : Nat} (hown : w5.ownsRow w.heap.size 22 1 (.slice (some ⟨g, 0, none⟩) vs.length cap) vs.length vs) (hA : Aparts w base vs rss) (hb : Below w.heap.size w w5) : (∃ sp, StX sp w5 base g vs (fun i => rss.getD i [])) ∧ w.heap.size ≤ g := by
  obtain ⟨_, h2⟩ := hown
  rcases h2 with ⟨e, _⟩ | ⟨g', cap', cur, e, hge, hh, _, _, _, ht⟩
  · cases e
  · simp only [Value.slice.injEq, Option.some.injEq, Addr.mk.injEq] at e
    obtain ⟨⟨rfl, _⟩, _⟩ := e
    refine ⟨⟨cur.toList.drop vs.length, ?_, (hA.below hb).row, hA.apart⟩, hge⟩
    rw [hh]
    rw [Nat.mul_one] at ht
    have : vs ++ cur.toList.drop vs.length = cur.toList := by
      conv => lhs; lhs; rw [← ht]
      exact List.take_append_drop _ _
    rw [this]

set_option maxRecDepth 20000 in
set_option maxHeartbeats 4000000 in
theorem own10_2 (gs : Nat) (b1 : Bool) (a1 : Option Addr) (n1 k1 : Nat) (e1 : Int) (b2 : Bool) (a2 : Option Addr) (n2 k2 : Nat) (e2 : Int) (b3 : Bool) (a3 : Option Addr) (n3 k3 : Nat) (e3 : Int) (b4 : Bool) (a4 : Option Addr) (n4 k4 : Nat) (e4 : Int) (base : Nat) (rss : List (List Nat)) (w : World) (hg : w.heap[gs]? = some (.cells #[.bool b1, .slice a1 n1 k1, .int .i64 e1, .bool b2, .slice a2 n2 k2, .int .i64 e2, .bool b3, .slice a3 n3 k3, .int .i64 e3, .bool b4, .slice a4 n4 k4, .int .i64 e4] 33)) (hA : Aparts w base [.slice a1 n1 k1, .slice a2 n2 k2, .slice a3 n3 k3, .slice a4 n4 k4] rss) (hl : ∀ r ∈ rss, r.length ≤ 17592186044000) (hb : base ≤ w.heap.size) :
    Calls Tryz.prog 21 #[.slice (some ⟨gs, 0, none⟩) 2 2] w fun e w' => e = .returned (.bool true) ∧ BK base w w' := by
  obtain ⟨i0, hi, hz0, hz1, hz2⟩ := info_parts infoL10
  have HS := hide hg
  have HA := hide hA
  have HLL := hide hl
  have HBS := hide hb
  have HU : Hid (Below w.heap.size w w) := hide (Below.refl _ _)
  have HO : Hid (w.ownsRow w.heap.size 22 1 (.slice none 0 0) 0 []) := hide ⟨rfl, .inl ⟨rfl, rfl⟩⟩
  clear hg hA hl hb
  go_enter Tryz.func21, Tryz.ntmps21
  go_wp2
  refine wp_loop_rounds 3 ?_
  rw [rounds_succ]
  obtain ⟨u0, hu0, hbu0, qu0⟩ := enter1 w (.cells #[.bool b1, .slice a1 n1 k1, .int .i64 e1, .bool b2, .slice a2 n2 k2, .int .i64 e2] 33)
  obtain ⟨x0, x1, x2, x3, x4, x5⟩ := hexa qu0
  have CS := block_upW HU.out HS.out
  have c0 : w.cell? ⟨gs, 0, none⟩ = some (.bool b1) := by simp [World.cell?, CS]
  have c1 : w.cell? ⟨gs, 1, none⟩ = some (.slice a1 n1 k1) := by simp [World.cell?, CS]
  have c2 : w.cell? ⟨gs, 2, none⟩ = some (.int .i64 e1) := by simp [World.cell?, CS]
  have c3 : w.cell? ⟨gs, 3, none⟩ = some (.bool b2) := by simp [World.cell?, CS]
  have c4 : w.cell? ⟨gs, 4, none⟩ = some (.slice a2 n2 k2) := by simp [World.cell?, CS]
  have c5 : w.cell? ⟨gs, 5, none⟩ = some (.int .i64 e2) := by simp [World.cell?, CS]
  have HBN := hide (bl_trans8 HU.out hbu0)
  have HON := hide (show u0.ownsRow w.heap.size 22 1 (.slice none 0 0) 0 [] by rw [← hu0]; exact HO.out.alloc _)
  clear CS HU HO hbu0 qu0
  go_wp2_with (at_builtin; refine wpList_append_own_at _ rfl _ _ 100 rfl w.heap.size 22 i0 (.slice none 0 0) 1 24 Tryz.underlying100 hi hz0 hz1 hz2 rfl (by decide) (.slice none 0 0) 0 [] rfl (HON.out.alloc _) ⟨u0.heap.size, 0, none⟩ 2 2 [.slice a1 n1 k1, .slice a2 n2 k2] rfl rfl (news10 [.slice a1 n1 k1, .slice a2 n2 k2] 22) (by intro u hu; simp at hu; rcases hu with rfl | rfl <;> rfl) (by unfold maxLen; omega) (by omega) (by have := HBN.out.size; simp; omega) ?_; intro v0 t0 hown hgrow _ _; obtain ⟨g0, cap0, rfl⟩ := own_shape hown (by omega); have HU := hide ((HBN.out.alloc (by have := HBN.out.size; omega) _).grown hgrow (by have := HBN.out.size; simp; omega) (fun g hg => (HON.out.lt g hg).1)); have HO := hide hown; clear hown hgrow HBN HON x0 x1 x2 x3 x4 x5 c0 c1 c2 c3 c4 c5 hu0)
  rw [rounds_succ]
  obtain ⟨u1, hu1, hbu1, qu1⟩ := enter1 t0 (.cells #[.bool b3, .slice a3 n3 k3, .int .i64 e3, .bool b4, .slice a4 n4 k4, .int .i64 e4] 33)
  obtain ⟨x0, x1, x2, x3, x4, x5⟩ := hexa qu1
  have CS := block_upW HU.out HS.out
  have c0 : t0.cell? ⟨gs, 6, none⟩ = some (.bool b3) := by simp [World.cell?, CS]
  have c1 : t0.cell? ⟨gs, 7, none⟩ = some (.slice a3 n3 k3) := by simp [World.cell?, CS]
  have c2 : t0.cell? ⟨gs, 8, none⟩ = some (.int .i64 e3) := by simp [World.cell?, CS]
  have c3 : t0.cell? ⟨gs, 9, none⟩ = some (.bool b4) := by simp [World.cell?, CS]
  have c4 : t0.cell? ⟨gs, 10, none⟩ = some (.slice a4 n4 k4) := by simp [World.cell?, CS]
  have c5 : t0.cell? ⟨gs, 11, none⟩ = some (.int .i64 e4) := by simp [World.cell?, CS]
  have HBN := hide (bl_trans8 HU.out hbu1)
  have HON := hide (show u1.ownsRow w.heap.size 22 1 (.slice (some ⟨g0, 0, none⟩) 2 cap0) 2 [.slice a1 n1 k1, .slice a2 n2 k2] by rw [← hu1]; exact HO.out.alloc _)
  clear CS HU HO hbu1 qu1
  go_wp2_with (at_builtin; refine wpList_append_own_at _ rfl _ _ 100 rfl w.heap.size 22 i0 (.slice none 0 0) 1 24 Tryz.underlying100 hi hz0 hz1 hz2 rfl (by decide) (.slice (some ⟨g0, 0, none⟩) 2 cap0) 2 [.slice a1 n1 k1, .slice a2 n2 k2] rfl (HON.out.alloc _) ⟨u1.heap.size, 0, none⟩ 2 2 [.slice a3 n3 k3, .slice a4 n4 k4] rfl rfl (news10 [.slice a3 n3 k3, .slice a4 n4 k4] 22) (by intro u hu; simp at hu; rcases hu with rfl | rfl <;> rfl) (by unfold maxLen; omega) (by omega) (by have := HBN.out.size; simp; omega) ?_; intro v1 t1 hown hgrow _ _; obtain ⟨g1, cap1, rfl⟩ := own_shape hown (by omega); have HU := hide ((HBN.out.alloc (by have := HBN.out.size; omega) _).grown hgrow (by have := HBN.out.size; simp; omega) (fun g hg => (HON.out.lt g hg).1)); have HO := hide hown; clear hown hgrow HBN HON x0 x1 x2 x3 x4 x5 c0 c1 c2 c3 c4 c5 hu1)
  rw [rounds_succ]
  obtain ⟨⟨sp, hst⟩, hge⟩ := stx10 (vs := [.slice a1 n1 k1, .slice a2 n2 k2, .slice a3 n3 k3, .slice a4 n4 k4]) HO.out HA.out HU.out
  have C := own_anyX sp cap1 g1 base [.slice a1 n1 k1, .slice a2 n2 k2, .slice a3 n3 k3, .slice a4 n4 k4] (fun i => rss.getD i []) t1 hst (by simp) (by
    intro i hi'
    have hi2 : i < rss.length := by rw [← HA.out.len]; exact hi'
    show (rss.getD i []).length ≤ _
    have e : rss.getD i [] = rss[i] := by simp [List.getD, hi2]
    rw [e]
    exact HLL.out _ (List.getElem_mem _)) (by have := HBS.out; omega)
  clear hst hge HO
  go_wp2_with fail
  refine C.mono ?_
  rintro e t9 ⟨rfl, hk⟩
  have HE := hide (BK.after10 HU.out HBS.out hk)
  clear hk C
  go_wp2
  go_ret
  exact ⟨rfl, HE.out⟩

end Go.Proofs.YtolebfnkmjmfnaaGreatDoor

namespace Go.Proofs.YtolebfnkmjmfnaaGreatDoor
open Go.RowKit
open Lm
attribute [local go_sem ↓] Go.wp_at_zero Go.wp_at_succ

theorem fldH1 (b : Bool) (a : Option Addr) (n k : Nat) (e : Int) (b' : Bool) (a' : Option Addr) (n' k' : Nat) (e' : Int) (w : World) : (Instr.field 33 (.agg #[.bool b, .slice a n k, .int .i64 e, .bool b', .slice a' n' k', .int .i64 e']) 1).run Tryz.prog w = .ok (.agg #[.bool b', .slice a' n' k', .int .i64 e']) w := by kernel_rfl

attribute [local go_sem] fldH1

set_option maxRecDepth 20000 in
set_option maxHeartbeats 2000000 in
theorem scut_no (b1 : Bool) (a1 : Option Addr) (n1 k1 : Nat) (ex1 : Int) (b2 : Bool) (a2 : Option Addr) (n2 k2 : Nat) (ex2 : Int) (pos c : Int) (w : World) (hc : c ≠ 0) (hM : ∀ W, Below w.heap.size w W → Calls Tryz.prog 27 #[.agg #[.bool b1, .slice a1 n1 k1, .int .i64 ex1], .agg #[.bool b2, .slice a2 n2 k2, .int .i64 ex2]] W fun e w' => (∃ b6 a6 n6 c6 e6, e = .returned (.tuple #[.agg #[.bool b6, .slice a6 n6 c6, .int .i64 e6], .int .i64 c])) ∧ Below W.heap.size W w') :
    Calls Tryz.prog 29 #[.agg #[.bool b1, .slice a1 n1 k1, .int .i64 ex1, .bool b2, .slice a2 n2 k2, .int .i64 ex2], .int .i64 pos] w fun e w' => DErr c e ∧ Below w.heap.size w w' := by
  obtain ⟨w0, hw0, hb0, q0, q9⟩ := enter2 w (.cells #[.bool b1, .slice a1 n1 k1, .int .i64 ex1, .bool b2, .slice a2 n2 k2, .int .i64 ex2] 33) (.cells #[.bool false, .slice none 0 0, .int .i64 0] 31)
  have C := hM w0 hb0
  have HU := hide hb0
  have HR0 := hide q9
  obtain ⟨y0, y1, y2, y3, y4, y5⟩ := hexa q0
  have i9 : (c != 0) = true := by simpa using hc
  clear q0 q9 hb0 hM hc
  go_enter Tryz.func29, Tryz.ntmps29
  go_wp2_with fail
  refine C.mono ?_
  rintro e t1 ⟨⟨b6, a6, n6, c6, e6, rfl⟩, g1⟩
  obtain ⟨w2, hw2, hb2, q2⟩ := enter1 t1 (.cells #[.bool b6, .slice a6 n6 c6, .int .i64 e6] 31)
  have HC1 := hide (block_upW hb2 (block_upW g1 HR0.out))
  have HG := hide (bl_trans8 (bl_trans8 HU.out g1) hb2)
  obtain ⟨x0, x1, x2⟩ := tri8 q2
  have hf1 := tri8f HC1.out
  obtain ⟨m0, m1, m2⟩ := tri8 HC1.out
  clear g1 hb2 q2 C y0 y1 y2 y3 y4 y5 hw0
  go_wp2
  have T3 := tri8_all HC1.out (.bool false) (.slice none 0 0) (.int .i64 0)
  have T4 := below_tri8 HG.out (show w.heap.size ≤ w.heap.size + 1 by omega) (.bool false) (.slice none 0 0) (.int .i64 0)
  obtain ⟨p0, p1, p2⟩ := tri8 T3
  have HE := hide T4
  clear T3 T4
  generalize ((w2.setCell ⟨w.heap.size + 1, 0, none⟩ (.bool false)).setCell ⟨w.heap.size + 1, 1, none⟩ (.slice none 0 0)).setCell ⟨w.heap.size + 1, 2, none⟩ (.int .i64 0) = w9 at *
  refine bodyPost_ret (v := .tuple #[.agg #[.bool false, .slice none 0 0, .int .i64 0], .int .i64 c]) (by simp [results, Tryz.results29, go_sem, p0, p1, p2]) rfl ?_
  exact ⟨rfl, HE.out⟩

set_option maxRecDepth 20000 in
set_option maxHeartbeats 2000000 in
theorem scut_ok (b1 : Bool) (a1 : Option Addr) (n1 k1 : Nat) (ex1 : Int) (b2 : Bool) (a2 : Option Addr) (n2 k2 : Nat) (ex2 : Int) (pos M E : Int) (L : Nat) (V1 V : Int) (w : World) (hT : Tab w) (h1 : N8 w b1 a1 n1 k1 ex1 L V1) (hr : Rp L M E V) (hn : Nr8 M E) (hK : fitE pos = true) (hL : 4611686018427387904 ≤ L) (hM : ∀ W, Below w.heap.size w W → Calls Tryz.prog 27 #[.agg #[.bool b1, .slice a1 n1 k1, .int .i64 ex1], .agg #[.bool b2, .slice a2 n2 k2, .int .i64 ex2]] W fun e w' => (∃ b6 a6 n6 c6 e6, e = .returned (.tuple #[.agg #[.bool b6, .slice a6 n6 c6, .int .i64 e6], .int .i64 0]) ∧ DR w' W.heap.size b6 (.slice a6 n6 c6) e6 0 M E) ∧ Below W.heap.size W w') :
    Calls Tryz.prog 29 #[.agg #[.bool b1, .slice a1 n1 k1, .int .i64 ex1, .bool b2, .slice a2 n2 k2, .int .i64 ex2], .int .i64 pos] w fun e w' => NAns w e w' L (max V1 (rv 0 V (2 ^ (pos + L).toNat))) := by
  obtain ⟨w0, hw0, hb0, q0, q9⟩ := enter2 w (.cells #[.bool b1, .slice a1 n1 k1, .int .i64 ex1, .bool b2, .slice a2 n2 k2, .int .i64 ex2] 33) (.cells #[.bool false, .slice none 0 0, .int .i64 0] 31)
  have C := hM w0 hb0
  have HU := hide hb0
  have HR0 := hide q9
  have HQ0 := hide q0
  obtain ⟨y0, y1, y2, y3, y4, y5⟩ := hexa q0
  have CFL := hide (fun (W : World) (b6 : Bool) (a6 : Option Addr) (n6 c6 : Nat) (e6 : Int) (bs : Nat) (hg : Below w.heap.size w W) (hd : DR W bs b6 (.slice a6 n6 c6) e6 0 M E) => sfloorV b6 a6 n6 c6 e6 pos M E L V bs W (hT.below hg) hd hr hn hK hL)
  have HN1 := hide h1
  have LL := hide hL
  generalize hC : rv 0 V (2 ^ (pos + L).toNat) = VC at *
  generalize hmx : max V1 VC = VM at *
  have HMX := hide hmx
  clear q0 q9 hb0 hM hT h1 hr hn hK hL hC hmx
  go_enter Tryz.func29, Tryz.ntmps29
  go_wp2_with fail
  refine C.mono ?_
  rintro e t1 ⟨⟨b6, a6, n6, c6, e6, rfl, hd⟩, g1⟩
  obtain ⟨w2, hw2, hb2, q2⟩ := enter1 t1 (.cells #[.bool b6, .slice a6 n6 c6, .int .i64 e6] 31)
  have hg2 := bl_trans8 g1 hb2
  have HG2 := hide (bl_trans8 HU.out hg2)
  have HR2 := hide (block_upW hg2 HR0.out)
  have HQ2 := hide (block_upW hg2 HQ0.out)
  have CF := CFL.out w2 b6 a6 n6 c6 e6 _ HG2.out (hd.below hb2)
  obtain ⟨x0, x1, x2⟩ := tri8 q2
  clear g1 hb2 q2 C y0 y1 y2 y3 y4 y5 hw0 hg2 hd CFL
  go_wp2_with fail
  refine CF.mono ?_
  rintro e t3 ⟨⟨b7, a7, n7, c7, e7, rfl, hn7⟩, g3⟩
  obtain ⟨w4, hw4, hb4, q4⟩ := enter1 t3 (.cells #[.bool b7, .slice a7 n7 c7, .int .i64 e7] 31)
  obtain ⟨w5, hw5, hb5, q5⟩ := enter1 w4 (.cells #[.bool b7, .slice a7 n7 c7, .int .i64 e7] 31)
  have hg5 := bl_trans8 (bl_trans8 g3 hb4) hb5
  have HG5 := hide (bl_trans8 HG2.out hg5)
  have HR5 := hide (block_upW hg5 HR2.out)
  have CH := hull1N w4.heap.size b1 a1 n1 k1 ex1 b7 a7 n7 c7 e7 L V1 VC w5 q5 (HN1.out.below HG5.out) ((hn7.below hb4).below hb5) LL.out
  have q2' := block_upW (bl_trans8 g3 hb4) HQ2.out
  obtain ⟨y0, y1, y2, y3, y4, y5⟩ := hexa q2'
  obtain ⟨x0, x1, x2⟩ := tri8 q4
  rw [HMX.out] at CH
  clear g3 hb4 hb5 q4 q5 hg5 CF hw2 hn7 q2'
  go_wp2_with fail
  refine CH.mono ?_
  rintro e t6 ⟨⟨p6, o6, l6, r6, i6, b8, a8, n8, c8, e8, rfl, _, hn8⟩, g6⟩
  have HC1 := hide (block_upW g6 HR5.out)
  have HG := hide (bl_trans8 HG5.out g6)
  have HN8 := hide hn8
  have hf1 := tri8f HC1.out
  obtain ⟨m0, m1, m2⟩ := tri8 HC1.out
  clear g6 hn8 CH y0 y1 y2 y3 y4 y5 x0 x1 x2 hw4 hw5
  go_wp2
  have T3 := tri8_all HC1.out (.bool b8) (.slice a8 n8 c8) (.int .i64 e8)
  have T4 := below_tri8 HG.out (show w.heap.size ≤ w.heap.size + 1 by omega) (.bool b8) (.slice a8 n8 c8) (.int .i64 e8)
  have T5 := HN8.out.tri8 HC1.out b8 a8 n8 c8 (.int .i64 e8)
  obtain ⟨p0, p1, p2⟩ := tri8 T3
  have HE := hide (And.intro T5 T4)
  clear T3 T4 T5
  generalize ((t6.setCell ⟨w.heap.size + 1, 0, none⟩ (.bool b8)).setCell ⟨w.heap.size + 1, 1, none⟩ (.slice a8 n8 c8)).setCell ⟨w.heap.size + 1, 2, none⟩ (.int .i64 e8) = w9 at *
  refine bodyPost_ret (v := .tuple #[.agg #[.bool b8, .slice a8 n8 c8, .int .i64 e8], .int .i64 0]) (by simp [results, Tryz.results29, go_sem, p0, p1, p2]) rfl ?_
  exact ⟨⟨_, _, _, _, _, rfl, HE.out.1⟩, HE.out.2⟩

/-- Make of two numbers that were handed in and stand in order. -/
theorem smakeN (b1 : Bool) (a1 : Option Addr) (n1 k1 : Nat) (ex1 : Int) (b2 : Bool) (a2 : Option Addr) (n2 k2 : Nat) (ex2 : Int) (L : Nat) (V1 V2 : Int) (w : World) (hT : Tab w) (h1 : N8 w b1 a1 n1 k1 ex1 L V1) (h2 : N8 w b2 a2 n2 k2 ex2 L V2) (hle : V1 ≤ V2) (hL : 4611686018427387904 ≤ L) :
    Calls Tryz.prog 30 #[.agg #[.bool b1, .slice a1 n1 k1, .int .i64 ex1], .agg #[.bool b2, .slice a2 n2 k2, .int .i64 ex2]] w fun e w' => SAns w e w' 0 L V1 V2 := by
  obtain ⟨X, rfl, hA, f1, hE1, rfl⟩ := h1
  obtain ⟨Y, rfl, hB, f2, hE2, rfl⟩ := h2
  have C := smakeV b1 a1 k1 X ex1 b2 a2 k2 Y ex2 L w hT hA hB f1 f2 hL
  rw [show flt ex1 ex2 (vof b1 X ex1 L) (vof b2 Y ex2 L) = 0 by unfold flt; rw [if_pos hE1, if_pos hE2, if_neg (by omega)]] at C
  exact C

/-- The code of a number. -/
def Code (L : Nat) (V c : Int) : Prop := ∃ M E, Rp L M E V ∧ Nr8 M E ∧ c = dcode M E

theorem Code.one {L : Nat} {V c c' : Int} (h : Code L V c) (h' : Code L V c') : c = c' := by
  obtain ⟨M, E, h1, h2, rfl⟩ := h
  obtain ⟨M', E', h1', h2', rfl⟩ := h'
  obtain ⟨rfl, rfl⟩ := Rp.one h1 h1' h2 h2'
  rfl

theorem Code.is {L : Nat} {V c : Int} (h : Code L V c) : IsCode c := by
  obtain ⟨M, E, _, _, rfl⟩ := h
  unfold dcode IsCode
  split
  · exact .inr (.inl rfl)
  · split
    · exact .inl rfl
    · exact .inr (.inr rfl)

theorem SRV.codes {w : World} {base : Nat} {b1 : Bool} {v1 : Value} {e1 : Int} {b2 : Bool} {v2 : Value} {e2 c : Int} {L : Nat} {V1 V2 d1 d2 : Int} (h : SRV w base b1 v1 e1 b2 v2 e2 c 0 L V1 V2) (h1 : Code L V1 d1) (h2 : Code L V2 d2) : c = refC d1 d2 := by
  rcases h with ⟨h0, _⟩ | ⟨_, M1, E1, M2, E2, hs, r1, m1, r2, m2⟩
  · exact absurd rfl h0
  · rw [hs.1, h1.one ⟨M1, E1, r1, m1, rfl⟩, h2.one ⟨M2, E2, r2, m2, rfl⟩]

theorem Aparts.hexa {w : World} {base g : Nat} {vs : List Value} {rss : List (List Nat)} {a0 a1 a2 a3 a4 a5 : Value} {t : TypeId} (h : Aparts w base vs rss) (hl : w.heap[g]? = some (.cells #[a0, a1, a2, a3, a4, a5] t)) (ht : t ≠ 101) (u0 u1 u2 u3 u4 u5 : Value) :
    Aparts ((((((w.setCell ⟨g, 0, none⟩ u0).setCell ⟨g, 1, none⟩ u1).setCell ⟨g, 2, none⟩ u2).setCell ⟨g, 3, none⟩ u3).setCell ⟨g, 4, none⟩ u4).setCell ⟨g, 5, none⟩ u5) base vs rss :=
  ⟨h.len, fun i hi => (h.row i hi).hexa hl ht u0 u1 u2 u3 u4 u5, h.apart⟩

theorem Aparts.nils10 (w : World) (base : Nat) : Aparts w base [.slice none 0 0, .slice none 0 0, .slice none 0 0, .slice none 0 0] [[], [], [], []] := by
  have hN : ∀ i, (([.slice none 0 0, .slice none 0 0, .slice none 0 0, .slice none 0 0] : List Value).getD i nilV).ownBlock = none := by
    intro i
    rcases i with _ | _ | _ | _ | i <;> rfl
  refine ⟨rfl, fun i hi => ?_, fun i j hi hj hij => .inl (hN i)⟩
  rcases i with _ | _ | _ | _ | i
  · exact Ans.nil10 w base
  · exact Ans.nil10 w base
  · exact Ans.nil10 w base
  · exact Ans.nil10 w base
  · have h9 : i + 1 + 1 + 1 + 1 < 4 := hi
    omega

/-- Two spans that were answered, or refused with m. -/
def ApR (w : World) (base : Nat) (w' : World) (b1 : Bool) (v1 : Value) (e1 : Int) (b2 : Bool) (v2 : Value) (e2 : Int) (b3 : Bool) (v3 : Value) (e3 : Int) (b4 : Bool) (v4 : Value) (e4 : Int) (m : Int) (L : Nat) (V1 C V2 : Int) : Prop :=
  SRV w' base b1 v1 e1 b2 v2 e2 m m L V1 C ∧ SRV w' base b3 v3 e3 b4 v4 e4 m m L C V2 ∧ (∃ rss, Aparts w' base [v1, v2, v3, v4] rss ∧ ∀ r ∈ rss, r.length ≤ 1048576) ∧ Below w.heap.size w w'

theorem ApR.refused {w w' : World} {m : Int} (hm : m ≠ 0) (hb : Below w.heap.size w w') (base L : Nat) (V1 C V2 : Int) : ApR w base w' false (.slice none 0 0) 0 false (.slice none 0 0) 0 false (.slice none 0 0) 0 false (.slice none 0 0) 0 m L V1 C V2 :=
  ⟨.inl ⟨hm, rfl, rfl, rfl, rfl, rfl, rfl, rfl⟩, .inl ⟨hm, rfl, rfl, rfl, rfl, rfl, rfl, rfl⟩, ⟨_, Aparts.nils10 w' base, by simp⟩, hb⟩

def ApAns (w : World) (e : Ending) (w' : World) (m : Int) (L : Nat) (V1 C V2 : Int) : Prop :=
  ∃ b1 a1 n1 k1 e1 b2 a2 n2 k2 e2 b3 a3 n3 k3 e3 b4 a4 n4 k4 e4, e = .returned (.tuple #[.agg #[.bool b1, .slice a1 n1 k1, .int .i64 e1, .bool b2, .slice a2 n2 k2, .int .i64 e2], .agg #[.bool b3, .slice a3 n3 k3, .int .i64 e3, .bool b4, .slice a4 n4 k4, .int .i64 e4], .int .i64 m]) ∧ ApR w w.heap.size w' b1 (.slice a1 n1 k1) e1 b2 (.slice a2 n2 k2) e2 b3 (.slice a3 n3 k3) e3 b4 (.slice a4 n4 k4) e4 m L V1 C V2

end Go.Proofs.YtolebfnkmjmfnaaGreatDoor

namespace Go.Proofs.YtolebfnkmjmfnaaGreatDoor
open Go.RowKit
open Lm
attribute [local go_sem ↓] Go.wp_at_zero Go.wp_at_succ

/-- What faultAt answers of one span. -/
def FltAt (w : World) (b1 : Bool) (a1 : Option Addr) (n1 k1 : Nat) (ex1 : Int) (b2 : Bool) (a2 : Option Addr) (n2 k2 : Nat) (ex2 : Int) (pos F : Int) : Prop :=
  ∀ W gs, Below w.heap.size w W → W.heap[gs]? = some (.cells #[.bool b1, .slice a1 n1 k1, .int .i64 ex1, .bool b2, .slice a2 n2 k2, .int .i64 ex2] 33) → Calls Tryz.prog 28 #[.int .i64 pos, .slice (some ⟨gs, 0, none⟩) 1 1] W fun e w' => e = .returned (.int .i64 F) ∧ Below W.heap.size W w'

theorem FltOf.at {w : World} {b1 : Bool} {a1 : Option Addr} {n1 k1 : Nat} {ex1 : Int} {b2 : Bool} {a2 : Option Addr} {n2 k2 : Nat} {ex2 F : Int} (h : FltOf w b1 a1 n1 k1 ex1 b2 a2 n2 k2 ex2 F) (pos : Int) : FltAt w b1 a1 n1 k1 ex1 b2 a2 n2 k2 ex2 pos (fltAt F pos) :=
  fun W gs hb hg => faultAt_any _ F pos W (h W gs hb hg)

theorem lt_block10 {w : World} {g : Nat} {o : Obj} (h : w.heap[g]? = some o) : g < w.heap.size := (Array.getElem?_eq_some_iff.1 h).1

theorem Aparts.pair10 {w : World} {base : Nat} {v1 v2 : Value} {r1 r2 : List Nat} (h1 : Ans w base v1 r1) (h2 : Ans w base v2 r2) (hap : v1.ownBlock = none ∨ v1.ownBlock ≠ v2.ownBlock) : Aparts w base [v1, v2] [r1, r2] := by
  refine ⟨rfl, fun i hi => ?_, fun i j hi hj hij => ?_⟩
  · rcases i with _ | _ | i
    · exact h1
    · exact h2
    · have h9 : i + 1 + 1 < 2 := hi
      omega
  · rcases i with _ | _ | i
    · rcases j with _ | _ | j
      · exact absurd rfl hij
      · exact hap
      · have h9 : j + 1 + 1 < 2 := hj
        omega
    · rcases j with _ | _ | j
      · show v2.ownBlock = none ∨ v2.ownBlock ≠ v1.ownBlock
        rcases ho : v2.ownBlock with _ | g
        · exact .inl rfl
        · refine .inr fun e => ?_
          rcases hap with k | k
          · rw [k] at e; cases e
          · exact k (by rw [ho, e])
      · exact absurd rfl hij
      · have h9 : j + 1 + 1 < 2 := hj
        omega
    · have h9 : i + 1 + 1 < 2 := hi
      omega

set_option maxRecDepth 20000 in
set_option maxHeartbeats 2000000 in
theorem sapart_bad (b1 : Bool) (a1 : Option Addr) (n1 k1 : Nat) (ex1 : Int) (b2 : Bool) (a2 : Option Addr) (n2 k2 : Nat) (ex2 : Int) (pos F : Int) (L : Nat) (V1 C V2 : Int) (w : World) (hF : FltAt w b1 a1 n1 k1 ex1 b2 a2 n2 k2 ex2 pos F) (h0 : F ≠ 0) :
    Calls Tryz.prog 8 #[.agg #[.bool b1, .slice a1 n1 k1, .int .i64 ex1, .bool b2, .slice a2 n2 k2, .int .i64 ex2], .int .i64 pos] w fun e w' => ApAns w e w' F L V1 C V2 := by
  obtain ⟨w0, hw0, hb0, q0, q8, q9⟩ := enter3 w (.cells #[.bool b1, .slice a1 n1 k1, .int .i64 ex1, .bool b2, .slice a2 n2 k2, .int .i64 ex2] 33) (.cells #[.bool false, .slice none 0 0, .int .i64 0, .bool false, .slice none 0 0, .int .i64 0] 33) (.cells #[.bool false, .slice none 0 0, .int .i64 0, .bool false, .slice none 0 0, .int .i64 0] 33)
  obtain ⟨w1, hw1, hb1, q2⟩ := enter1 w0 (.cells #[.bool b1, .slice a1 n1 k1, .int .i64 ex1, .bool b2, .slice a2 n2 k2, .int .i64 ex2] 33)
  have CF := hF w1 w0.heap.size (bl_trans8 hb0 hb1) q2
  have HU1 := hide (bl_trans8 hb0 hb1)
  have HQ1 := hide (block_upW hb1 q0)
  have HR1 := hide (block_upW hb1 q8)
  have HS1 : Hid (w1.heap[w.heap.size + 1 + 1]? = some (.cells #[.bool false, .slice none 0 0, .int .i64 0, .bool false, .slice none 0 0, .int .i64 0] 33)) := hide (block_upW hb1 q9)
  obtain ⟨y0, y1, y2, y3, y4, y5⟩ := hexa q0
  have HF0 := hide h0
  have i9 : (F != 0) = true := by simpa using h0
  clear q0 q2 q8 q9 hb0 hb1 hF h0
  go_enter Tryz.func8, Tryz.ntmps8
  go_wp2_with fail
  refine CF.mono ?_
  rintro e t2 ⟨rfl, g2⟩
  have HU2 := hide (bl_trans8 HU1.out g2)
  have HQ2 := hide (block_upW g2 HQ1.out)
  have HR2 := hide (block_upW g2 HR1.out)
  have HS2 := hide (block_upW g2 HS1.out)
  clear g2 CF y0 y1 y2 y3 y4 y5 hw0 hw1
  have HG := HU2
  have HC1 := HR2
  have HC2 := HS2
  have hf1 := hexaf HC1.out
  obtain ⟨m0, m1, m2, m3, m4, m5⟩ := hexa HC1.out
  have hf2 := hexaf HC2.out
  obtain ⟨o0, o1, o2, o3, o4, o5⟩ := hexa HC2.out
  go_wp2
  have T3 := hexa_all HC1.out (.bool false) (.slice none 0 0) (.int .i64 0) (.bool false) (.slice none 0 0) (.int .i64 0)
  have T4 := below_hexa HG.out (show w.heap.size ≤ w.heap.size + 1 by omega) (.bool false) (.slice none 0 0) (.int .i64 0) (.bool false) (.slice none 0 0) (.int .i64 0)
  have T5 : ((((((t2.setCell ⟨w.heap.size + 1, 0, none⟩ (.bool false)).setCell ⟨w.heap.size + 1, 1, none⟩ (.slice none 0 0)).setCell ⟨w.heap.size + 1, 2, none⟩ (.int .i64 0)).setCell ⟨w.heap.size + 1, 3, none⟩ (.bool false)).setCell ⟨w.heap.size + 1, 4, none⟩ (.slice none 0 0)).setCell ⟨w.heap.size + 1, 5, none⟩ (.int .i64 0)).heap[w.heap.size + 1 + 1]? = some (.cells #[.bool false, .slice none 0 0, .int .i64 0, .bool false, .slice none 0 0, .int .i64 0] 33) := by rw [hexa_other (show w.heap.size + 1 + 1 ≠ w.heap.size + 1 by omega)]; exact HC2.out
  generalize ((((((t2.setCell ⟨w.heap.size + 1, 0, none⟩ (.bool false)).setCell ⟨w.heap.size + 1, 1, none⟩ (.slice none 0 0)).setCell ⟨w.heap.size + 1, 2, none⟩ (.int .i64 0)).setCell ⟨w.heap.size + 1, 3, none⟩ (.bool false)).setCell ⟨w.heap.size + 1, 4, none⟩ (.slice none 0 0)).setCell ⟨w.heap.size + 1, 5, none⟩ (.int .i64 0)) = w7 at *
  have T6 := hexa_all T5 (.bool false) (.slice none 0 0) (.int .i64 0) (.bool false) (.slice none 0 0) (.int .i64 0)
  have T7 := below_hexa T4 (show w.heap.size ≤ w.heap.size + 1 + 1 by omega) (.bool false) (.slice none 0 0) (.int .i64 0) (.bool false) (.slice none 0 0) (.int .i64 0)
  have T8 : ((((((w7.setCell ⟨w.heap.size + 1 + 1, 0, none⟩ (.bool false)).setCell ⟨w.heap.size + 1 + 1, 1, none⟩ (.slice none 0 0)).setCell ⟨w.heap.size + 1 + 1, 2, none⟩ (.int .i64 0)).setCell ⟨w.heap.size + 1 + 1, 3, none⟩ (.bool false)).setCell ⟨w.heap.size + 1 + 1, 4, none⟩ (.slice none 0 0)).setCell ⟨w.heap.size + 1 + 1, 5, none⟩ (.int .i64 0)).heap[w.heap.size + 1]? = some (.cells #[.bool false, .slice none 0 0, .int .i64 0, .bool false, .slice none 0 0, .int .i64 0] 33) := by rw [hexa_other (show w.heap.size + 1 ≠ w.heap.size + 1 + 1 by omega)]; exact T3
  generalize ((((((w7.setCell ⟨w.heap.size + 1 + 1, 0, none⟩ (.bool false)).setCell ⟨w.heap.size + 1 + 1, 1, none⟩ (.slice none 0 0)).setCell ⟨w.heap.size + 1 + 1, 2, none⟩ (.int .i64 0)).setCell ⟨w.heap.size + 1 + 1, 3, none⟩ (.bool false)).setCell ⟨w.heap.size + 1 + 1, 4, none⟩ (.slice none 0 0)).setCell ⟨w.heap.size + 1 + 1, 5, none⟩ (.int .i64 0)) = w8 at *
  obtain ⟨p0, p1, p2, p3, p4, p5⟩ := hexa T6
  obtain ⟨r0, r1, r2, r3, r4, r5⟩ := hexa T8
  have HE := hide T7
  clear T3 T4 T5 T6 T7 T8
  refine bodyPost_ret (v := .tuple #[.agg #[.bool false, .slice none 0 0, .int .i64 0, .bool false, .slice none 0 0, .int .i64 0], .agg #[.bool false, .slice none 0 0, .int .i64 0, .bool false, .slice none 0 0, .int .i64 0], .int .i64 F]) (by simp [results, Tryz.results8, go_sem, p0, p1, p2, p3, p4, p5, r0, r1, r2, r3, r4, r5]) rfl ?_
  exact ⟨_, _, _, _, _, _, _, _, _, _, _, _, _, _, _, _, _, _, _, _, rfl, ApR.refused HF0.out HE.out _ L V1 C V2⟩

set_option maxRecDepth 20000 in
set_option maxHeartbeats 2000000 in
theorem sapart_cut (b1 : Bool) (a1 : Option Addr) (n1 k1 : Nat) (ex1 : Int) (b2 : Bool) (a2 : Option Addr) (n2 k2 : Nat) (ex2 : Int) (pos c : Int) (L : Nat) (V1 C V2 : Int) (w : World) (hF : FltAt w b1 a1 n1 k1 ex1 b2 a2 n2 k2 ex2 pos 0) (h0 : c ≠ 0) (hC : ∀ W, Below w.heap.size w W → Calls Tryz.prog 29 #[.agg #[.bool b1, .slice a1 n1 k1, .int .i64 ex1, .bool b2, .slice a2 n2 k2, .int .i64 ex2], .int .i64 pos] W fun e w' => DErr c e ∧ Below W.heap.size W w') :
    Calls Tryz.prog 8 #[.agg #[.bool b1, .slice a1 n1 k1, .int .i64 ex1, .bool b2, .slice a2 n2 k2, .int .i64 ex2], .int .i64 pos] w fun e w' => ApAns w e w' c L V1 C V2 := by
  obtain ⟨w0, hw0, hb0, q0, q8, q9⟩ := enter3 w (.cells #[.bool b1, .slice a1 n1 k1, .int .i64 ex1, .bool b2, .slice a2 n2 k2, .int .i64 ex2] 33) (.cells #[.bool false, .slice none 0 0, .int .i64 0, .bool false, .slice none 0 0, .int .i64 0] 33) (.cells #[.bool false, .slice none 0 0, .int .i64 0, .bool false, .slice none 0 0, .int .i64 0] 33)
  obtain ⟨w1, hw1, hb1, q2⟩ := enter1 w0 (.cells #[.bool b1, .slice a1 n1 k1, .int .i64 ex1, .bool b2, .slice a2 n2 k2, .int .i64 ex2] 33)
  have CF := hF w1 w0.heap.size (bl_trans8 hb0 hb1) q2
  have HU1 := hide (bl_trans8 hb0 hb1)
  have HQ1 := hide (block_upW hb1 q0)
  have HR1 := hide (block_upW hb1 q8)
  have HS1 : Hid (w1.heap[w.heap.size + 1 + 1]? = some (.cells #[.bool false, .slice none 0 0, .int .i64 0, .bool false, .slice none 0 0, .int .i64 0] 33)) := hide (block_upW hb1 q9)
  obtain ⟨y0, y1, y2, y3, y4, y5⟩ := hexa q0
  have HF0 := hide h0
  have HCU := hide hC
  have i9 : (c != 0) = true := by simpa using h0
  clear q0 q2 q8 q9 hb0 hb1 hF h0 hC
  go_enter Tryz.func8, Tryz.ntmps8
  go_wp2_with fail
  refine CF.mono ?_
  rintro e t2 ⟨rfl, g2⟩
  have HU2 := hide (bl_trans8 HU1.out g2)
  have HQ2 := hide (block_upW g2 HQ1.out)
  have HR2 := hide (block_upW g2 HR1.out)
  have HS2 := hide (block_upW g2 HS1.out)
  clear g2 CF y0 y1 y2 y3 y4 y5 hw0 hw1
  obtain ⟨y0, y1, y2, y3, y4, y5⟩ := hexa HQ2.out
  have CC := HCU.out t2 HU2.out
  go_wp2_with fail
  refine CC.mono ?_
  rintro e t3 ⟨he, g3⟩
  obtain ⟨fb, fa, fn, fc, fe, rfl⟩ : ∃ fb fa fn fc fe, e = .returned (.tuple #[.agg #[.bool fb, .slice fa fn fc, .int .i64 fe], .int .i64 c]) := ⟨_, _, _, _, _, he⟩
  obtain ⟨w4, hw4, hb4, q4⟩ := enter1 t3 (.cells #[.bool fb, .slice fa fn fc, .int .i64 fe] 31)
  have g4 := bl_trans8 g3 hb4
  have HG := hide (bl_trans8 HU2.out g4)
  have HC1 := hide (block_upW g4 HR2.out)
  have HC2 := hide (block_upW g4 HS2.out)
  have hf1 := hexaf HC1.out
  obtain ⟨m0, m1, m2, m3, m4, m5⟩ := hexa HC1.out
  have hf2 := hexaf HC2.out
  obtain ⟨o0, o1, o2, o3, o4, o5⟩ := hexa HC2.out
  clear he g3 g4 hb4 q4 CC y0 y1 y2 y3 y4 y5
  go_wp2
  have T3 := hexa_all HC1.out (.bool false) (.slice none 0 0) (.int .i64 0) (.bool false) (.slice none 0 0) (.int .i64 0)
  have T4 := below_hexa HG.out (show w.heap.size ≤ w.heap.size + 1 by omega) (.bool false) (.slice none 0 0) (.int .i64 0) (.bool false) (.slice none 0 0) (.int .i64 0)
  have T5 : ((((((w4.setCell ⟨w.heap.size + 1, 0, none⟩ (.bool false)).setCell ⟨w.heap.size + 1, 1, none⟩ (.slice none 0 0)).setCell ⟨w.heap.size + 1, 2, none⟩ (.int .i64 0)).setCell ⟨w.heap.size + 1, 3, none⟩ (.bool false)).setCell ⟨w.heap.size + 1, 4, none⟩ (.slice none 0 0)).setCell ⟨w.heap.size + 1, 5, none⟩ (.int .i64 0)).heap[w.heap.size + 1 + 1]? = some (.cells #[.bool false, .slice none 0 0, .int .i64 0, .bool false, .slice none 0 0, .int .i64 0] 33) := by rw [hexa_other (show w.heap.size + 1 + 1 ≠ w.heap.size + 1 by omega)]; exact HC2.out
  generalize ((((((w4.setCell ⟨w.heap.size + 1, 0, none⟩ (.bool false)).setCell ⟨w.heap.size + 1, 1, none⟩ (.slice none 0 0)).setCell ⟨w.heap.size + 1, 2, none⟩ (.int .i64 0)).setCell ⟨w.heap.size + 1, 3, none⟩ (.bool false)).setCell ⟨w.heap.size + 1, 4, none⟩ (.slice none 0 0)).setCell ⟨w.heap.size + 1, 5, none⟩ (.int .i64 0)) = w7 at *
  have T6 := hexa_all T5 (.bool false) (.slice none 0 0) (.int .i64 0) (.bool false) (.slice none 0 0) (.int .i64 0)
  have T7 := below_hexa T4 (show w.heap.size ≤ w.heap.size + 1 + 1 by omega) (.bool false) (.slice none 0 0) (.int .i64 0) (.bool false) (.slice none 0 0) (.int .i64 0)
  have T8 : ((((((w7.setCell ⟨w.heap.size + 1 + 1, 0, none⟩ (.bool false)).setCell ⟨w.heap.size + 1 + 1, 1, none⟩ (.slice none 0 0)).setCell ⟨w.heap.size + 1 + 1, 2, none⟩ (.int .i64 0)).setCell ⟨w.heap.size + 1 + 1, 3, none⟩ (.bool false)).setCell ⟨w.heap.size + 1 + 1, 4, none⟩ (.slice none 0 0)).setCell ⟨w.heap.size + 1 + 1, 5, none⟩ (.int .i64 0)).heap[w.heap.size + 1]? = some (.cells #[.bool false, .slice none 0 0, .int .i64 0, .bool false, .slice none 0 0, .int .i64 0] 33) := by rw [hexa_other (show w.heap.size + 1 ≠ w.heap.size + 1 + 1 by omega)]; exact T3
  generalize ((((((w7.setCell ⟨w.heap.size + 1 + 1, 0, none⟩ (.bool false)).setCell ⟨w.heap.size + 1 + 1, 1, none⟩ (.slice none 0 0)).setCell ⟨w.heap.size + 1 + 1, 2, none⟩ (.int .i64 0)).setCell ⟨w.heap.size + 1 + 1, 3, none⟩ (.bool false)).setCell ⟨w.heap.size + 1 + 1, 4, none⟩ (.slice none 0 0)).setCell ⟨w.heap.size + 1 + 1, 5, none⟩ (.int .i64 0)) = w8 at *
  obtain ⟨p0, p1, p2, p3, p4, p5⟩ := hexa T6
  obtain ⟨r0, r1, r2, r3, r4, r5⟩ := hexa T8
  have HE := hide T7
  clear T3 T4 T5 T6 T7 T8
  refine bodyPost_ret (v := .tuple #[.agg #[.bool false, .slice none 0 0, .int .i64 0, .bool false, .slice none 0 0, .int .i64 0], .agg #[.bool false, .slice none 0 0, .int .i64 0, .bool false, .slice none 0 0, .int .i64 0], .int .i64 c]) (by simp [results, Tryz.results8, go_sem, p0, p1, p2, p3, p4, p5, r0, r1, r2, r3, r4, r5]) rfl ?_
  exact ⟨_, _, _, _, _, _, _, _, _, _, _, _, _, _, _, _, _, _, _, _, rfl, ApR.refused HF0.out HE.out _ L V1 C V2⟩

set_option maxRecDepth 20000 in
set_option maxHeartbeats 4000000 in
theorem sapart_ok (b1 : Bool) (a1 : Option Addr) (n1 k1 : Nat) (ex1 : Int) (b2 : Bool) (a2 : Option Addr) (n2 k2 : Nat) (ex2 : Int) (pos : Int) (L : Nat) (V1 C V2 d1 dc d2 : Int) (w : World) (hT : Tab w) (hF : FltAt w b1 a1 n1 k1 ex1 b2 a2 n2 k2 ex2 pos 0) (hL : 4611686018427387904 ≤ L) (h1 : N8 w b1 a1 n1 k1 ex1 L V1) (h2 : N8 w b2 a2 n2 k2 ex2 L V2) (hl1 : V1 ≤ C) (hl2 : C ≤ V2) (k1' : Code L V1 d1) (kc : Code L C dc) (k2' : Code L V2 d2) (hC : ∀ W, Below w.heap.size w W → Calls Tryz.prog 29 #[.agg #[.bool b1, .slice a1 n1 k1, .int .i64 ex1, .bool b2, .slice a2 n2 k2, .int .i64 ex2], .int .i64 pos] W fun e w' => NAns W e w' L C) :
    Calls Tryz.prog 8 #[.agg #[.bool b1, .slice a1 n1 k1, .int .i64 ex1, .bool b2, .slice a2 n2 k2, .int .i64 ex2], .int .i64 pos] w fun e w' => ApAns w e w' (refC (refC d1 dc) (refC dc d2)) L V1 C V2 := by
  obtain ⟨w0, hw0, hb0, q0, q8, q9⟩ := enter3 w (.cells #[.bool b1, .slice a1 n1 k1, .int .i64 ex1, .bool b2, .slice a2 n2 k2, .int .i64 ex2] 33) (.cells #[.bool false, .slice none 0 0, .int .i64 0, .bool false, .slice none 0 0, .int .i64 0] 33) (.cells #[.bool false, .slice none 0 0, .int .i64 0, .bool false, .slice none 0 0, .int .i64 0] 33)
  obtain ⟨w1, hw1, hb1, q2⟩ := enter1 w0 (.cells #[.bool b1, .slice a1 n1 k1, .int .i64 ex1, .bool b2, .slice a2 n2 k2, .int .i64 ex2] 33)
  have CF := hF w1 w0.heap.size (bl_trans8 hb0 hb1) q2
  have HU1 := hide (bl_trans8 hb0 hb1)
  have HQ1 := hide (block_upW hb1 q0)
  have HR1 := hide (block_upW hb1 q8)
  have HS1 : Hid (w1.heap[w.heap.size + 1 + 1]? = some (.cells #[.bool false, .slice none 0 0, .int .i64 0, .bool false, .slice none 0 0, .int .i64 0] 33)) := hide (block_upW hb1 q9)
  obtain ⟨y0, y1, y2, y3, y4, y5⟩ := hexa q0
  have HCU := hide hC
  have KA := hide (fun (W : World) (b : Bool) (a : Option Addr) (n k : Nat) (e : Int) (hg : Below w.heap.size w W) (hc : N8 W b a n k e L C) => smakeN b1 a1 n1 k1 ex1 b a n k e L V1 C W (hT.below hg) (h1.below hg) hc hl1 hL)
  have KB := hide (fun (W : World) (b : Bool) (a : Option Addr) (n k : Nat) (e : Int) (hg : Below w.heap.size w W) (hc : N8 W b a n k e L C) => smakeN b a n k e b2 a2 n2 k2 ex2 L C V2 W (hT.below hg) hc (h2.below hg) hl2 hL)
  have KC := hide (And.intro k1' (And.intro kc k2'))
  obtain ⟨R, hR⟩ : ∃ R, refC (refC d1 dc) (refC dc d2) = R := ⟨_, rfl⟩
  rw [hR]
  have HRR := hide hR
  clear q0 q2 q8 q9 hb0 hb1 hF hC hT h1 h2 hl1 hl2 k1' kc k2' hL hR
  by_cases hR0 : R = 0
  · subst hR0
    go_enter Tryz.func8, Tryz.ntmps8
    go_wp2_with fail
    refine CF.mono ?_
    rintro e t2 ⟨rfl, g2⟩
    have HU2 := hide (bl_trans8 HU1.out g2)
    have HQ2 := hide (block_upW g2 HQ1.out)
    have HR2 := hide (block_upW g2 HR1.out)
    have HS2 := hide (block_upW g2 HS1.out)
    clear g2 CF y0 y1 y2 y3 y4 y5 hw0 hw1
    obtain ⟨y0, y1, y2, y3, y4, y5⟩ := hexa HQ2.out
    have CC := HCU.out t2 HU2.out
    go_wp2_with fail
    refine CC.mono ?_
    rintro e t3 ⟨⟨b9, a9, n9, k9, e9, rfl, hn9⟩, g3⟩
    obtain ⟨w4, hw4, hb4, q4⟩ := enter1 t3 (.cells #[.bool b9, .slice a9 n9 k9, .int .i64 e9] 31)
    have g4 := bl_trans8 g3 hb4
    have HU4 := hide (bl_trans8 HU2.out g4)
    have HQ4 := hide (block_upW g4 HQ2.out)
    have HR4 := hide (block_upW g4 HR2.out)
    have HS4 := hide (block_upW g4 HS2.out)
    have HX4 := hide q4
    have HN4 := hide (hn9.below hb4)
    have CA := KA.out w4 b9 a9 n9 k9 e9 HU4.out HN4.out
    clear g3 g4 hb4 q4 hn9 CC y0 y1 y2 y3 y4 y5 KA HCU
    obtain ⟨y0, y1, y2, y3, y4, y5⟩ := hexa HQ4.out
    obtain ⟨x0, x1, x2⟩ := tri8 HX4.out
    go_wp2_with fail
    refine CA.mono ?_
    rintro e t5 ⟨⟨b3, a3, n3, k3, e3, b4, a4, n4, k4, e4, cu, rfl, hsu⟩, g5⟩
    obtain ⟨w6, hw6, hb6, q6⟩ := enter1 t5 (.cells #[.bool b3, .slice a3 n3 k3, .int .i64 e3, .bool b4, .slice a4 n4 k4, .int .i64 e4] 33)
    have g6 := bl_trans8 g5 hb6
    have HU6 := hide (bl_trans8 HU4.out g6)
    have HQ6 := hide (block_upW g6 HQ4.out)
    have HR6 := hide (block_upW g6 HR4.out)
    have HS6 := hide (block_upW g6 HS4.out)
    have HX6 := hide (block_upW g6 HX4.out)
    have HY6 := hide q6
    have HP6 := hide ((hsu.below hb6).base HU4.out.size)
    have CB := KB.out w6 b9 a9 n9 k9 e9 HU6.out (HN4.out.below g6)
    have L5 : Hid (w.heap.size + 1 + 1 < t5.heap.size) := hide (Nat.lt_of_lt_of_le (lt_block10 HS4.out) g5.size)
    have hcu : cu = refC d1 dc := hsu.codes KC.out.1 KC.out.2.1
    clear g5 g6 hb6 q6 hsu CA y0 y1 y2 y3 y4 y5 x0 x1 x2 KB HN4 hw4
    obtain ⟨y0, y1, y2, y3, y4, y5⟩ := hexa HQ6.out
    obtain ⟨x0, x1, x2⟩ := tri8 HX6.out
    have HCU := hide hcu
    clear hcu
    go_wp2_with fail
    refine CB.mono ?_
    rintro e t7 ⟨⟨b5, a5, n5, k5, e5, b6, a6, n6, k6, e6, cv, rfl, hsv⟩, g7⟩
    obtain ⟨w7, hw7, hb7, q7⟩ := enter1 t7 (.cells #[.bool b5, .slice a5 n5 k5, .int .i64 e5, .bool b6, .slice a6 n6 k6, .int .i64 e6] 33)
    obtain ⟨w8, hw8, hb8, q8⟩ := enter1 w7 (.cells #[.int .i64 cu, .int .i64 cv] 46)
    have g8 := bl_trans8 (bl_trans8 g7 hb7) hb8
    have HG := hide (bl_trans8 HU6.out g8)
    have HC1 := hide (block_upW g8 HR6.out)
    have HC2 := hide (block_upW g8 HS6.out)
    have HY8 := hide (block_upW g8 HY6.out)
    have HZ8 := hide (block_upW hb8 q7)
    have hcv : cv = refC dc d2 := hsv.codes KC.out.2.1 KC.out.2.2
    have hcu := HCU.out
    have hrc := HRR.out
    have RF := refusal_any w7.heap.size cu cv w8 q8
    obtain ⟨ru1, ru2, hA1, hA2, hl1, hl2, hap1⟩ := HP6.out.lists
    obtain ⟨rv1, rv2, hA3, hA4, hl3, hl4, hap2⟩ := hsv.lists
    have A0 : Aparts w6 w.heap.size [.slice a3 n3 k3, .slice a4 n4 k4] [ru1, ru2] := Aparts.pair10 hA1 hA2 hap1
    have A1 := ((A0.two10 g7 HU6.out.size hA3 hA4 hap2).below hb7).below hb8
    have HAP : Hid (Aparts w8 w.heap.size [.slice a3 n3 k3, .slice a4 n4 k4, .slice a5 n5 k5, .slice a6 n6 k6] [ru1, ru2, rv1, rv2] ∧ ∀ r ∈ [ru1, ru2, rv1, rv2], r.length ≤ 1048576) := hide ⟨A1, by simp; exact ⟨hl1, hl2, hl3, hl4⟩⟩
    have HS_U := HP6.out.below g8
    have HS_V := (((hsv.below hb7).below hb8).base HU6.out.size)
    have L7 : w.heap.size + 1 + 1 < t7.heap.size := Nat.lt_of_lt_of_le (lt_block10 HS6.out) g7.size
    have L5' := L5.out
    have RL1 : ∀ (W : World) (k j : Nat) (u : Value), (W.setCell ⟨w.heap.size + 1, k, none⟩ u).cell? ⟨t5.heap.size, j, none⟩ = W.cell? ⟨t5.heap.size, j, none⟩ := fun W k j u => cell_other8 (by omega)
    have RL2 : ∀ (W : World) (k j : Nat) (u : Value), (W.setCell ⟨w.heap.size + 1 + 1, k, none⟩ u).cell? ⟨t5.heap.size, j, none⟩ = W.cell? ⟨t5.heap.size, j, none⟩ := fun W k j u => cell_other8 (by omega)
    have RL3 : ∀ (W : World) (k j : Nat) (u : Value), (W.setCell ⟨w.heap.size + 1, k, none⟩ u).cell? ⟨t7.heap.size, j, none⟩ = W.cell? ⟨t7.heap.size, j, none⟩ := fun W k j u => cell_other8 (by omega)
    have RL4 : ∀ (W : World) (k j : Nat) (u : Value), (W.setCell ⟨w.heap.size + 1 + 1, k, none⟩ u).cell? ⟨t7.heap.size, j, none⟩ = W.cell? ⟨t7.heap.size, j, none⟩ := fun W k j u => cell_other8 (by omega)
    have hf1 := hexaf HC1.out
    obtain ⟨m0, m1, m2, m3, m4, m5⟩ := hexa HC1.out
    have hf2 := hexaf HC2.out
    obtain ⟨o0, o1, o2, o3, o4, o5⟩ := hexa HC2.out
    obtain ⟨y0, y1, y2, y3, y4, y5⟩ := hexa HY8.out
    obtain ⟨z0, z1, z2, z3, z4, z5⟩ := hexa HZ8.out
    clear g7 g8 hb7 hb8 q7 q8 hsv CB x0 x1 x2 hw6 L7 L5' L5 A0 A1 hA1 hA2 hA3 hA4 hap1 hap2 hl1 hl2 hl3 hl4
    have hz := refC_zero.1 hrc
    have hu0 : cu = 0 := by rw [hcu]; exact hz.1
    have hv0 : cv = 0 := by rw [hcv]; exact hz.2
    rw [hu0] at HS_U
    rw [hv0] at HS_V
    rw [hu0, hv0, show refC 0 0 = 0 from rfl] at RF
    subst hu0 hv0
    have HSU := hide HS_U
    have HSV := hide HS_V
    clear HS_U HS_V hz hcu hcv hrc
    go_wp2_with fail
    refine RF.mono ?_
    rintro e wn ⟨rfl, hw⟩; rw [hw]; clear hw wn RF
    go_wp2
    go_region
    all_goals go_wp2
    all_goals first
      | skip
        have T3 := hexa_all HC1.out (.bool b3) (.slice a3 n3 k3) (.int .i64 e3) (.bool b4) (.slice a4 n4 k4) (.int .i64 e4)
        have T4 := below_hexa HG.out (show w.heap.size ≤ w.heap.size + 1 by omega) (.bool b3) (.slice a3 n3 k3) (.int .i64 e3) (.bool b4) (.slice a4 n4 k4) (.int .i64 e4)
        have S1 := HSU.out.hexa HC1.out (by decide) (.bool b3) (.slice a3 n3 k3) (.int .i64 e3) (.bool b4) (.slice a4 n4 k4) (.int .i64 e4)
        have S2 := HSV.out.hexa HC1.out (by decide) (.bool b3) (.slice a3 n3 k3) (.int .i64 e3) (.bool b4) (.slice a4 n4 k4) (.int .i64 e4)
        have S3 := HAP.out.1.hexa HC1.out (by decide) (.bool b3) (.slice a3 n3 k3) (.int .i64 e3) (.bool b4) (.slice a4 n4 k4) (.int .i64 e4)
        have T5 : ((((((w8.setCell ⟨w.heap.size + 1, 0, none⟩ (.bool b3)).setCell ⟨w.heap.size + 1, 1, none⟩ (.slice a3 n3 k3)).setCell ⟨w.heap.size + 1, 2, none⟩ (.int .i64 e3)).setCell ⟨w.heap.size + 1, 3, none⟩ (.bool b4)).setCell ⟨w.heap.size + 1, 4, none⟩ (.slice a4 n4 k4)).setCell ⟨w.heap.size + 1, 5, none⟩ (.int .i64 e4)).heap[w.heap.size + 1 + 1]? = some (.cells #[.bool false, .slice none 0 0, .int .i64 0, .bool false, .slice none 0 0, .int .i64 0] 33) := by rw [hexa_other (show w.heap.size + 1 + 1 ≠ w.heap.size + 1 by omega)]; exact HC2.out
        generalize ((((((w8.setCell ⟨w.heap.size + 1, 0, none⟩ (.bool b3)).setCell ⟨w.heap.size + 1, 1, none⟩ (.slice a3 n3 k3)).setCell ⟨w.heap.size + 1, 2, none⟩ (.int .i64 e3)).setCell ⟨w.heap.size + 1, 3, none⟩ (.bool b4)).setCell ⟨w.heap.size + 1, 4, none⟩ (.slice a4 n4 k4)).setCell ⟨w.heap.size + 1, 5, none⟩ (.int .i64 e4)) = w9 at *
        have T6 := hexa_all T5 (.bool b5) (.slice a5 n5 k5) (.int .i64 e5) (.bool b6) (.slice a6 n6 k6) (.int .i64 e6)
        have T7 := below_hexa T4 (show w.heap.size ≤ w.heap.size + 1 + 1 by omega) (.bool b5) (.slice a5 n5 k5) (.int .i64 e5) (.bool b6) (.slice a6 n6 k6) (.int .i64 e6)
        have S4 := S1.hexa T5 (by decide) (.bool b5) (.slice a5 n5 k5) (.int .i64 e5) (.bool b6) (.slice a6 n6 k6) (.int .i64 e6)
        have S5 := S2.hexa T5 (by decide) (.bool b5) (.slice a5 n5 k5) (.int .i64 e5) (.bool b6) (.slice a6 n6 k6) (.int .i64 e6)
        have S6 := S3.hexa T5 (by decide) (.bool b5) (.slice a5 n5 k5) (.int .i64 e5) (.bool b6) (.slice a6 n6 k6) (.int .i64 e6)
        have T8 : ((((((w9.setCell ⟨w.heap.size + 1 + 1, 0, none⟩ (.bool b5)).setCell ⟨w.heap.size + 1 + 1, 1, none⟩ (.slice a5 n5 k5)).setCell ⟨w.heap.size + 1 + 1, 2, none⟩ (.int .i64 e5)).setCell ⟨w.heap.size + 1 + 1, 3, none⟩ (.bool b6)).setCell ⟨w.heap.size + 1 + 1, 4, none⟩ (.slice a6 n6 k6)).setCell ⟨w.heap.size + 1 + 1, 5, none⟩ (.int .i64 e6)).heap[w.heap.size + 1]? = some (.cells #[.bool b3, .slice a3 n3 k3, .int .i64 e3, .bool b4, .slice a4 n4 k4, .int .i64 e4] 33) := by rw [hexa_other (show w.heap.size + 1 ≠ w.heap.size + 1 + 1 by omega)]; exact T3
        generalize ((((((w9.setCell ⟨w.heap.size + 1 + 1, 0, none⟩ (.bool b5)).setCell ⟨w.heap.size + 1 + 1, 1, none⟩ (.slice a5 n5 k5)).setCell ⟨w.heap.size + 1 + 1, 2, none⟩ (.int .i64 e5)).setCell ⟨w.heap.size + 1 + 1, 3, none⟩ (.bool b6)).setCell ⟨w.heap.size + 1 + 1, 4, none⟩ (.slice a6 n6 k6)).setCell ⟨w.heap.size + 1 + 1, 5, none⟩ (.int .i64 e6)) = w10 at *
        obtain ⟨p0, p1, p2, p3, p4, p5⟩ := hexa T6
        obtain ⟨r0, r1, r2, r3, r4, r5⟩ := hexa T8
        have HE := hide (And.intro T7 (And.intro S4 (And.intro S5 S6)))
        clear T3 T4 T5 T6 T7 T8 S1 S2 S3 S4 S5 S6
        refine bodyPost_ret (v := .tuple #[.agg #[.bool b3, .slice a3 n3 k3, .int .i64 e3, .bool b4, .slice a4 n4 k4, .int .i64 e4], .agg #[.bool b5, .slice a5 n5 k5, .int .i64 e5, .bool b6, .slice a6 n6 k6, .int .i64 e6], .int .i64 0]) (by simp [results, Tryz.results8, go_sem, p0, p1, p2, p3, p4, p5, r0, r1, r2, r3, r4, r5]) rfl ?_
        exact ⟨_, _, _, _, _, _, _, _, _, _, _, _, _, _, _, _, _, _, _, _, rfl, HE.out.2.1.below (Below.refl _ _).drew, HE.out.2.2.1.below (Below.refl _ _).drew, ⟨_, HE.out.2.2.2.below (Below.refl _ _).drew, HAP.out.2⟩, HE.out.1.drew⟩
      | skip
        have T3 := hexa_all HC2.out (.bool b5) (.slice a5 n5 k5) (.int .i64 e5) (.bool b6) (.slice a6 n6 k6) (.int .i64 e6)
        have T4 := below_hexa HG.out (show w.heap.size ≤ w.heap.size + 1 + 1 by omega) (.bool b5) (.slice a5 n5 k5) (.int .i64 e5) (.bool b6) (.slice a6 n6 k6) (.int .i64 e6)
        have S1 := HSU.out.hexa HC2.out (by decide) (.bool b5) (.slice a5 n5 k5) (.int .i64 e5) (.bool b6) (.slice a6 n6 k6) (.int .i64 e6)
        have S2 := HSV.out.hexa HC2.out (by decide) (.bool b5) (.slice a5 n5 k5) (.int .i64 e5) (.bool b6) (.slice a6 n6 k6) (.int .i64 e6)
        have S3 := HAP.out.1.hexa HC2.out (by decide) (.bool b5) (.slice a5 n5 k5) (.int .i64 e5) (.bool b6) (.slice a6 n6 k6) (.int .i64 e6)
        have T5 : ((((((w8.setCell ⟨w.heap.size + 1 + 1, 0, none⟩ (.bool b5)).setCell ⟨w.heap.size + 1 + 1, 1, none⟩ (.slice a5 n5 k5)).setCell ⟨w.heap.size + 1 + 1, 2, none⟩ (.int .i64 e5)).setCell ⟨w.heap.size + 1 + 1, 3, none⟩ (.bool b6)).setCell ⟨w.heap.size + 1 + 1, 4, none⟩ (.slice a6 n6 k6)).setCell ⟨w.heap.size + 1 + 1, 5, none⟩ (.int .i64 e6)).heap[w.heap.size + 1]? = some (.cells #[.bool false, .slice none 0 0, .int .i64 0, .bool false, .slice none 0 0, .int .i64 0] 33) := by rw [hexa_other (show w.heap.size + 1 ≠ w.heap.size + 1 + 1 by omega)]; exact HC1.out
        generalize ((((((w8.setCell ⟨w.heap.size + 1 + 1, 0, none⟩ (.bool b5)).setCell ⟨w.heap.size + 1 + 1, 1, none⟩ (.slice a5 n5 k5)).setCell ⟨w.heap.size + 1 + 1, 2, none⟩ (.int .i64 e5)).setCell ⟨w.heap.size + 1 + 1, 3, none⟩ (.bool b6)).setCell ⟨w.heap.size + 1 + 1, 4, none⟩ (.slice a6 n6 k6)).setCell ⟨w.heap.size + 1 + 1, 5, none⟩ (.int .i64 e6)) = w9 at *
        have T6 := hexa_all T5 (.bool b3) (.slice a3 n3 k3) (.int .i64 e3) (.bool b4) (.slice a4 n4 k4) (.int .i64 e4)
        have T7 := below_hexa T4 (show w.heap.size ≤ w.heap.size + 1 by omega) (.bool b3) (.slice a3 n3 k3) (.int .i64 e3) (.bool b4) (.slice a4 n4 k4) (.int .i64 e4)
        have S4 := S1.hexa T5 (by decide) (.bool b3) (.slice a3 n3 k3) (.int .i64 e3) (.bool b4) (.slice a4 n4 k4) (.int .i64 e4)
        have S5 := S2.hexa T5 (by decide) (.bool b3) (.slice a3 n3 k3) (.int .i64 e3) (.bool b4) (.slice a4 n4 k4) (.int .i64 e4)
        have S6 := S3.hexa T5 (by decide) (.bool b3) (.slice a3 n3 k3) (.int .i64 e3) (.bool b4) (.slice a4 n4 k4) (.int .i64 e4)
        have T8 : ((((((w9.setCell ⟨w.heap.size + 1, 0, none⟩ (.bool b3)).setCell ⟨w.heap.size + 1, 1, none⟩ (.slice a3 n3 k3)).setCell ⟨w.heap.size + 1, 2, none⟩ (.int .i64 e3)).setCell ⟨w.heap.size + 1, 3, none⟩ (.bool b4)).setCell ⟨w.heap.size + 1, 4, none⟩ (.slice a4 n4 k4)).setCell ⟨w.heap.size + 1, 5, none⟩ (.int .i64 e4)).heap[w.heap.size + 1 + 1]? = some (.cells #[.bool b5, .slice a5 n5 k5, .int .i64 e5, .bool b6, .slice a6 n6 k6, .int .i64 e6] 33) := by rw [hexa_other (show w.heap.size + 1 + 1 ≠ w.heap.size + 1 by omega)]; exact T3
        generalize ((((((w9.setCell ⟨w.heap.size + 1, 0, none⟩ (.bool b3)).setCell ⟨w.heap.size + 1, 1, none⟩ (.slice a3 n3 k3)).setCell ⟨w.heap.size + 1, 2, none⟩ (.int .i64 e3)).setCell ⟨w.heap.size + 1, 3, none⟩ (.bool b4)).setCell ⟨w.heap.size + 1, 4, none⟩ (.slice a4 n4 k4)).setCell ⟨w.heap.size + 1, 5, none⟩ (.int .i64 e4)) = w10 at *
        obtain ⟨p0, p1, p2, p3, p4, p5⟩ := hexa T6
        obtain ⟨r0, r1, r2, r3, r4, r5⟩ := hexa T8
        have HE := hide (And.intro T7 (And.intro S4 (And.intro S5 S6)))
        clear T3 T4 T5 T6 T7 T8 S1 S2 S3 S4 S5 S6
        refine bodyPost_ret (v := .tuple #[.agg #[.bool b3, .slice a3 n3 k3, .int .i64 e3, .bool b4, .slice a4 n4 k4, .int .i64 e4], .agg #[.bool b5, .slice a5 n5 k5, .int .i64 e5, .bool b6, .slice a6 n6 k6, .int .i64 e6], .int .i64 0]) (by simp [results, Tryz.results8, go_sem, p0, p1, p2, p3, p4, p5, r0, r1, r2, r3, r4, r5]) rfl ?_
        exact ⟨_, _, _, _, _, _, _, _, _, _, _, _, _, _, _, _, _, _, _, _, rfl, HE.out.2.1.below (Below.refl _ _).drew, HE.out.2.2.1.below (Below.refl _ _).drew, ⟨_, HE.out.2.2.2.below (Below.refl _ _).drew, HAP.out.2⟩, HE.out.1.drew⟩
  · have HR0 := hide hR0
    have i9 : (R != 0) = true := by simpa using hR0
    clear hR0
    go_enter Tryz.func8, Tryz.ntmps8
    go_wp2_with fail
    refine CF.mono ?_
    rintro e t2 ⟨rfl, g2⟩
    have HU2 := hide (bl_trans8 HU1.out g2)
    have HQ2 := hide (block_upW g2 HQ1.out)
    have HR2 := hide (block_upW g2 HR1.out)
    have HS2 := hide (block_upW g2 HS1.out)
    clear g2 CF y0 y1 y2 y3 y4 y5 hw0 hw1
    obtain ⟨y0, y1, y2, y3, y4, y5⟩ := hexa HQ2.out
    have CC := HCU.out t2 HU2.out
    go_wp2_with fail
    refine CC.mono ?_
    rintro e t3 ⟨⟨b9, a9, n9, k9, e9, rfl, hn9⟩, g3⟩
    obtain ⟨w4, hw4, hb4, q4⟩ := enter1 t3 (.cells #[.bool b9, .slice a9 n9 k9, .int .i64 e9] 31)
    have g4 := bl_trans8 g3 hb4
    have HU4 := hide (bl_trans8 HU2.out g4)
    have HQ4 := hide (block_upW g4 HQ2.out)
    have HR4 := hide (block_upW g4 HR2.out)
    have HS4 := hide (block_upW g4 HS2.out)
    have HX4 := hide q4
    have HN4 := hide (hn9.below hb4)
    have CA := KA.out w4 b9 a9 n9 k9 e9 HU4.out HN4.out
    clear g3 g4 hb4 q4 hn9 CC y0 y1 y2 y3 y4 y5 KA HCU
    obtain ⟨y0, y1, y2, y3, y4, y5⟩ := hexa HQ4.out
    obtain ⟨x0, x1, x2⟩ := tri8 HX4.out
    go_wp2_with fail
    refine CA.mono ?_
    rintro e t5 ⟨⟨b3, a3, n3, k3, e3, b4, a4, n4, k4, e4, cu, rfl, hsu⟩, g5⟩
    obtain ⟨w6, hw6, hb6, q6⟩ := enter1 t5 (.cells #[.bool b3, .slice a3 n3 k3, .int .i64 e3, .bool b4, .slice a4 n4 k4, .int .i64 e4] 33)
    have g6 := bl_trans8 g5 hb6
    have HU6 := hide (bl_trans8 HU4.out g6)
    have HQ6 := hide (block_upW g6 HQ4.out)
    have HR6 := hide (block_upW g6 HR4.out)
    have HS6 := hide (block_upW g6 HS4.out)
    have HX6 := hide (block_upW g6 HX4.out)
    have HY6 := hide q6
    have HP6 := hide ((hsu.below hb6).base HU4.out.size)
    have CB := KB.out w6 b9 a9 n9 k9 e9 HU6.out (HN4.out.below g6)
    have L5 : Hid (w.heap.size + 1 + 1 < t5.heap.size) := hide (Nat.lt_of_lt_of_le (lt_block10 HS4.out) g5.size)
    have hcu : cu = refC d1 dc := hsu.codes KC.out.1 KC.out.2.1
    clear g5 g6 hb6 q6 hsu CA y0 y1 y2 y3 y4 y5 x0 x1 x2 KB HN4 hw4
    obtain ⟨y0, y1, y2, y3, y4, y5⟩ := hexa HQ6.out
    obtain ⟨x0, x1, x2⟩ := tri8 HX6.out
    have HCU := hide hcu
    clear hcu
    go_wp2_with fail
    refine CB.mono ?_
    rintro e t7 ⟨⟨b5, a5, n5, k5, e5, b6, a6, n6, k6, e6, cv, rfl, hsv⟩, g7⟩
    obtain ⟨w7, hw7, hb7, q7⟩ := enter1 t7 (.cells #[.bool b5, .slice a5 n5 k5, .int .i64 e5, .bool b6, .slice a6 n6 k6, .int .i64 e6] 33)
    obtain ⟨w8, hw8, hb8, q8⟩ := enter1 w7 (.cells #[.int .i64 cu, .int .i64 cv] 46)
    have g8 := bl_trans8 (bl_trans8 g7 hb7) hb8
    have HG := hide (bl_trans8 HU6.out g8)
    have HC1 := hide (block_upW g8 HR6.out)
    have HC2 := hide (block_upW g8 HS6.out)
    have HY8 := hide (block_upW g8 HY6.out)
    have HZ8 := hide (block_upW hb8 q7)
    have hcv : cv = refC dc d2 := hsv.codes KC.out.2.1 KC.out.2.2
    have hcu := HCU.out
    have hrc := HRR.out
    have RF := refusal_any w7.heap.size cu cv w8 q8
    obtain ⟨ru1, ru2, hA1, hA2, hl1, hl2, hap1⟩ := HP6.out.lists
    obtain ⟨rv1, rv2, hA3, hA4, hl3, hl4, hap2⟩ := hsv.lists
    have A0 : Aparts w6 w.heap.size [.slice a3 n3 k3, .slice a4 n4 k4] [ru1, ru2] := Aparts.pair10 hA1 hA2 hap1
    have A1 := ((A0.two10 g7 HU6.out.size hA3 hA4 hap2).below hb7).below hb8
    have HAP : Hid (Aparts w8 w.heap.size [.slice a3 n3 k3, .slice a4 n4 k4, .slice a5 n5 k5, .slice a6 n6 k6] [ru1, ru2, rv1, rv2] ∧ ∀ r ∈ [ru1, ru2, rv1, rv2], r.length ≤ 1048576) := hide ⟨A1, by simp; exact ⟨hl1, hl2, hl3, hl4⟩⟩
    have HS_U := HP6.out.below g8
    have HS_V := (((hsv.below hb7).below hb8).base HU6.out.size)
    have L7 : w.heap.size + 1 + 1 < t7.heap.size := Nat.lt_of_lt_of_le (lt_block10 HS6.out) g7.size
    have L5' := L5.out
    have RL1 : ∀ (W : World) (k j : Nat) (u : Value), (W.setCell ⟨w.heap.size + 1, k, none⟩ u).cell? ⟨t5.heap.size, j, none⟩ = W.cell? ⟨t5.heap.size, j, none⟩ := fun W k j u => cell_other8 (by omega)
    have RL2 : ∀ (W : World) (k j : Nat) (u : Value), (W.setCell ⟨w.heap.size + 1 + 1, k, none⟩ u).cell? ⟨t5.heap.size, j, none⟩ = W.cell? ⟨t5.heap.size, j, none⟩ := fun W k j u => cell_other8 (by omega)
    have RL3 : ∀ (W : World) (k j : Nat) (u : Value), (W.setCell ⟨w.heap.size + 1, k, none⟩ u).cell? ⟨t7.heap.size, j, none⟩ = W.cell? ⟨t7.heap.size, j, none⟩ := fun W k j u => cell_other8 (by omega)
    have RL4 : ∀ (W : World) (k j : Nat) (u : Value), (W.setCell ⟨w.heap.size + 1 + 1, k, none⟩ u).cell? ⟨t7.heap.size, j, none⟩ = W.cell? ⟨t7.heap.size, j, none⟩ := fun W k j u => cell_other8 (by omega)
    have hf1 := hexaf HC1.out
    obtain ⟨m0, m1, m2, m3, m4, m5⟩ := hexa HC1.out
    have hf2 := hexaf HC2.out
    obtain ⟨o0, o1, o2, o3, o4, o5⟩ := hexa HC2.out
    obtain ⟨y0, y1, y2, y3, y4, y5⟩ := hexa HY8.out
    obtain ⟨z0, z1, z2, z3, z4, z5⟩ := hexa HZ8.out
    clear g7 g8 hb7 hb8 q7 q8 hsv CB x0 x1 x2 hw6 L7 L5' L5 A0 A1 hA1 hA2 hA3 hA4 hap1 hap2 hl1 hl2 hl3 hl4
    rw [← hcu, ← hcv] at hrc
    rw [hrc] at RF
    clear HS_U HS_V hcu hcv hrc
    go_wp2_with fail
    refine RF.mono ?_
    rintro e wn ⟨rfl, hw⟩; rw [hw]; clear hw wn RF
    go_wp2
    have T3 := hexa_all HC1.out (.bool false) (.slice none 0 0) (.int .i64 0) (.bool false) (.slice none 0 0) (.int .i64 0)
    have T4 := below_hexa HG.out (show w.heap.size ≤ w.heap.size + 1 by omega) (.bool false) (.slice none 0 0) (.int .i64 0) (.bool false) (.slice none 0 0) (.int .i64 0)
    have T5 : ((((((w8.setCell ⟨w.heap.size + 1, 0, none⟩ (.bool false)).setCell ⟨w.heap.size + 1, 1, none⟩ (.slice none 0 0)).setCell ⟨w.heap.size + 1, 2, none⟩ (.int .i64 0)).setCell ⟨w.heap.size + 1, 3, none⟩ (.bool false)).setCell ⟨w.heap.size + 1, 4, none⟩ (.slice none 0 0)).setCell ⟨w.heap.size + 1, 5, none⟩ (.int .i64 0)).heap[w.heap.size + 1 + 1]? = some (.cells #[.bool false, .slice none 0 0, .int .i64 0, .bool false, .slice none 0 0, .int .i64 0] 33) := by rw [hexa_other (show w.heap.size + 1 + 1 ≠ w.heap.size + 1 by omega)]; exact HC2.out
    generalize ((((((w8.setCell ⟨w.heap.size + 1, 0, none⟩ (.bool false)).setCell ⟨w.heap.size + 1, 1, none⟩ (.slice none 0 0)).setCell ⟨w.heap.size + 1, 2, none⟩ (.int .i64 0)).setCell ⟨w.heap.size + 1, 3, none⟩ (.bool false)).setCell ⟨w.heap.size + 1, 4, none⟩ (.slice none 0 0)).setCell ⟨w.heap.size + 1, 5, none⟩ (.int .i64 0)) = w7 at *
    have T6 := hexa_all T5 (.bool false) (.slice none 0 0) (.int .i64 0) (.bool false) (.slice none 0 0) (.int .i64 0)
    have T7 := below_hexa T4 (show w.heap.size ≤ w.heap.size + 1 + 1 by omega) (.bool false) (.slice none 0 0) (.int .i64 0) (.bool false) (.slice none 0 0) (.int .i64 0)
    have T8 : ((((((w7.setCell ⟨w.heap.size + 1 + 1, 0, none⟩ (.bool false)).setCell ⟨w.heap.size + 1 + 1, 1, none⟩ (.slice none 0 0)).setCell ⟨w.heap.size + 1 + 1, 2, none⟩ (.int .i64 0)).setCell ⟨w.heap.size + 1 + 1, 3, none⟩ (.bool false)).setCell ⟨w.heap.size + 1 + 1, 4, none⟩ (.slice none 0 0)).setCell ⟨w.heap.size + 1 + 1, 5, none⟩ (.int .i64 0)).heap[w.heap.size + 1]? = some (.cells #[.bool false, .slice none 0 0, .int .i64 0, .bool false, .slice none 0 0, .int .i64 0] 33) := by rw [hexa_other (show w.heap.size + 1 ≠ w.heap.size + 1 + 1 by omega)]; exact T3
    generalize ((((((w7.setCell ⟨w.heap.size + 1 + 1, 0, none⟩ (.bool false)).setCell ⟨w.heap.size + 1 + 1, 1, none⟩ (.slice none 0 0)).setCell ⟨w.heap.size + 1 + 1, 2, none⟩ (.int .i64 0)).setCell ⟨w.heap.size + 1 + 1, 3, none⟩ (.bool false)).setCell ⟨w.heap.size + 1 + 1, 4, none⟩ (.slice none 0 0)).setCell ⟨w.heap.size + 1 + 1, 5, none⟩ (.int .i64 0)) = w8 at *
    obtain ⟨p0, p1, p2, p3, p4, p5⟩ := hexa T6
    obtain ⟨r0, r1, r2, r3, r4, r5⟩ := hexa T8
    have HE := hide T7
    clear T3 T4 T5 T6 T7 T8
    refine bodyPost_ret (v := .tuple #[.agg #[.bool false, .slice none 0 0, .int .i64 0, .bool false, .slice none 0 0, .int .i64 0], .agg #[.bool false, .slice none 0 0, .int .i64 0, .bool false, .slice none 0 0, .int .i64 0], .int .i64 R]) (by simp [results, Tryz.results8, go_sem, p0, p1, p2, p3, p4, p5, r0, r1, r2, r3, r4, r5]) rfl ?_
    exact ⟨_, _, _, _, _, _, _, _, _, _, _, _, _, _, _, _, _, _, _, _, rfl, ApR.refused HR0.out HE.out _ L V1 C V2⟩

end Go.Proofs.YtolebfnkmjmfnaaGreatDoor

namespace Go.Proofs.YtolebfnkmjmfnaaGreatDoor
open Go.RowKit
open Lm
attribute [local go_sem ↓] Go.wp_at_zero Go.wp_at_succ

theorem Zn.dn {w : World} {b : Bool} {a : Option Addr} {n c : Nat} {M : Int} (h : Zn w (.agg #[.bool b, .slice a n c]) M) : Dn w b (.slice a n c) M := by
  obtain ⟨u, e1, hn⟩ := h
  have e2 : b = decide (M < 0) ∧ .slice a n c = u := by
    have := congrArg Value.cells e1
    simp [Value.cells] at this
    exact this
  obtain ⟨h1, rfl⟩ := e2
  exact ⟨h1, hn⟩

set_option maxRecDepth 20000 in
set_option maxHeartbeats 1000000 in
theorem rdNeg_any (b : Bool) (a : Option Addr) (n c : Nat) (M E : Int) (w : World) (hD : Dn w b (.slice a n c) M) :
    Calls Tryz.prog 14 #[.agg #[.bool b, .slice a n c, .int .i64 E]] w (DnDone w (-M) E) := by
  obtain ⟨w0, hw0, hb0, h0, h1⟩ := enter2 w (.cells #[.bool b, .slice a n c, .int .i64 E] 41) (.cells #[.bool false, .slice none 0 0, .int .i64 0] 41)
  have gd : Below w.heap.size w w0.drew := hb0.drew
  have g0 : Below w0.drew.heap.size w0.drew w0.drew := Below.refl _ _
  have HR := rzneg_any (.agg #[.bool b, .slice a n c]) M w0.drew (hD.below gd).zn
  have KS := hide (fun (W : World) (hg : Below w0.drew.heap.size w0.drew W) => show W.cell? ⟨w.heap.size, 0, none⟩ = some (.bool b) ∧ W.cell? ⟨w.heap.size, 1, none⟩ = some (.slice a n c) ∧ W.cell? ⟨w.heap.size, 2, none⟩ = some (.int .i64 E) from tri8 (block_upW hg (show w0.drew.heap[w.heap.size]? = some (.cells #[.bool b, .slice a n c, .int .i64 E] 41) from h0)))
  have so : ∀ (W : World) (k : Nat) (u : Value) (k' : Nat), (W.setCell ⟨w.heap.size + 1, k, none⟩ u).cell? ⟨w.heap.size, k', none⟩ = W.cell? ⟨w.heap.size, k', none⟩ := fun W k u k' => cell_other8 (by omega)
  have HC1 := hide h1
  have HD := hide gd
  clear gd h0 h1 hb0 hD
  go_enter Tryz.func14, Tryz.ntmps14
  go_wp2
  go_region_held3 (fun w' => w'.cell? ⟨w.heap.size, 0, none⟩ = some (.bool b) ∧ w'.cell? ⟨w.heap.size, 1, none⟩ = some (.slice a n c) ∧ w'.cell? ⟨w.heap.size, 2, none⟩ = some (.int .i64 E)) (first | with_reducible exact KS.out _ g1 | with_reducible exact KS.out _ g0 | (refine ⟨?_, ?_, ?_⟩ <;> (rw [so, so, so]; first | exact (KS.out _ g1).1 | exact (KS.out _ g1).2.1 | exact (KS.out _ g1).2.2))) (first
    | (go_at_call 40; refine HR.mono ?_; rintro e' t2 ⟨⟨b2, a2, n2, c2, rfl, Z2⟩, g1⟩; have N2 := Z2.dn; have hz := block_upW g1 (show w0.drew.heap[w.heap.size + 1]? = some (.cells #[.bool false, .slice none 0 0, .int .i64 0] 41) from HC1.out); have hf := tri8f hz; obtain ⟨m0, m1, m2⟩ := tri8 hz))
  have T3 := tri8_all hz (.bool b2) (.slice a2 n2 c2) (.int .i64 E)
  have T4 := below_tri8 (bl_trans8 HD.out g1) (show w.heap.size ≤ w.heap.size + 1 by omega) (.bool b2) (.slice a2 n2 c2) (.int .i64 E)
  have T5 := N2.tri8 hz b2 a2 n2 c2 (.int .i64 E)
  obtain ⟨p0, p1, p2⟩ := tri8 T3
  have HE := hide (And.intro T5 T4)
  clear T3 T4 T5 so m0 m1 m2 hf KS g0 g1 HR hz N2 Z2
  generalize ((t2.setCell ⟨w.heap.size + 1, 0, none⟩ (.bool b2)).setCell ⟨w.heap.size + 1, 1, none⟩ (.slice a2 n2 c2)).setCell ⟨w.heap.size + 1, 2, none⟩ (.int .i64 E) = w5 at *
  go_wp2
  refine bodyPost_ret (v := .agg #[.bool b2, .slice a2 n2 c2, .int .i64 E]) (by simp [results, Tryz.results14, go_sem, p0, p1, p2]) rfl ?_
  exact ⟨⟨_, _, _, _, rfl, HE.out.1⟩, HE.out.2⟩

end Go.Proofs.YtolebfnkmjmfnaaGreatDoor
