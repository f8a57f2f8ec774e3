/- Package dyadic: joined; Add, Sub, Mul. -/
import Derived.Test.YtppkhhbhnhijpaaGreatDoorDyV3Z
namespace Go.Proofs.YtppkhhbhnhijpaaGreatDoor
open Go.RowKit
open Lm
attribute [local go_sem ↓] Go.wp_at_zero Go.wp_at_succ

theorem DErr.res {w : World} {base : Nat} {e : Ending} {M E : Int} (h : DErr 3 e) (hb : 67108864 < blen M.natAbs) : DRes w base e M E :=
  ⟨false, none, 0, 0, 0, 3, h, [], Ans.nil _ _, .inr (.inl ⟨rfl, rfl, rfl, rfl, rfl, hb⟩)⟩

/-- answered of what plus has answered. -/
theorem yanswered_any (b : Bool) (a : Option Addr) (n c : Nat) (ex r M E : Int) (w : World) (hT : Tab w) (h : PlusV w b (.slice a n c) n ex r M E) :
    Calls Tryz.prog 121 #[.agg #[.bool b, .slice a n c, .int .i64 ex], .int .i64 r] w fun e w' => DRes w' w.heap.size e M E ∧ Below w.heap.size w w' := by
  rcases h with ⟨rfl, X, z, rfl, h3, h4, h5, h6, h7, h8⟩ | ⟨rfl, h2⟩
  · have := yanswered_ok b a c X z ex w h3 hT (by omega) h7 h8
    rw [h4, h5] at this
    exact this
  · exact (yanswered_no b a n c ex 3 w (by decide)).mono fun e w' h => ⟨h.1.res h2, h.2⟩

/-- What read tells of a number that means something. -/
theorem read_facts {w : World} {b : Bool} {v : Value} {X : List Nat} {ex : Int} (hA : Arg w v X) (hf : X.length ≤ 17592186043904) (hE : fitE ex = true) :
    blen (omz (zz b (val X))).natAbs ≤ 17592186043904 * 64 ∧ -1152921504606846976 ≤ oe (zz b (val X)) ex ∧ oe (zz b (val X)) ex ≤ 1152921504606846976 ∧ Nr8 (omz (zz b (val X))) (oe (zz b (val X)) ex) := by
  have hbz : blen (zz b (val X)).natAbs ≤ 64 * X.length := by rw [zz_abs]; exact blen_lenU hA.limbs
  have hEr := (fitE_iff ex).1 hE
  have hOE := oe_range (zz b (val X)) ex (by omega)
  have h5 := blen_mono (od_le (zz b (val X)).natAbs)
  refine ⟨by rw [omz_abs]; omega, by omega, by omega, nr8_of _ _⟩

set_option maxRecDepth 20000 in
set_option maxHeartbeats 2000000 in
theorem yjp_no1 (b1 : Bool) (a1 : Option Addr) (n1 c1 : Nat) (ex1 : Int) (b2 : Bool) (a2 : Option Addr) (n2 c2 : Nat) (ex2 : Int) (w : World) (hE : fitE ex1 = false) :
    Calls Tryz.prog 98 #[.agg #[.bool b1, .slice a1 n1 c1, .int .i64 ex1], .agg #[.bool b2, .slice a2 n2 c2, .int .i64 ex2], .func (Fn.func 122) #[] #[]] w fun e w' => DErr 80 e ∧ Below w.heap.size w w' := by
  obtain ⟨w0, hw0, hb0, k0, k1, k2⟩ := enter3 w (.cells #[.bool b1, .slice a1 n1 c1, .int .i64 ex1] 31) (.cells #[.bool b2, .slice a2 n2 c2, .int .i64 ex2] 31) (.cells #[.bool false, .slice none 0 0, .int .i64 0] 31)
  obtain ⟨x0, x1, x2⟩ := tri8 k0
  have HP := yread_no b1 a1 n1 c1 ex1 w0 hE
  have HK2 := hide k2
  have HB := hide hb0
  clear k0 k1 k2 hb0 hE
  go_enter Tryz.func98, Tryz.ntmps98
  go_wp2_with fail
  refine HP.mono ?_
  rintro e t1 ⟨he, g1⟩
  obtain ⟨fb, fa, fn, fc, fe, rfl⟩ : ∃ fb fa fn fc fe, e = .returned (.tuple #[.agg #[.bool fb, .slice fa fn fc, .int .i64 fe], .int .i64 80]) := ⟨_, _, _, _, _, he⟩
  clear he
  obtain ⟨w4, hw4, hb4, h4⟩ := enter1 t1 (.cells #[.bool fb, .slice fa fn fc, .int .i64 fe] 153)
  have HC1 := hide (block_upW hb4 (block_upW g1 HK2.out))
  have HG := hide (bl_trans8 (bl_trans8 HB.out g1) hb4)
  have hf1 := tri8f HC1.out
  obtain ⟨m0, m1, m2⟩ := tri8 HC1.out
  clear g1 hb4 h4 HP
  go_wp2
  have T3 := tri8_all HC1.out (.bool false) (.slice none 0 0) (.int .i64 0)
  have T4 := below_tri8 HG.out (show w.heap.size ≤ w.heap.size + 1 + 1 by omega) (.bool false) (.slice none 0 0) (.int .i64 0)
  obtain ⟨p0, p1, p2⟩ := tri8 T3
  have HE := hide T4
  clear T3 T4
  generalize ((w4.setCell ⟨w.heap.size + 1 + 1, 0, none⟩ (.bool false)).setCell ⟨w.heap.size + 1 + 1, 1, none⟩ (.slice none 0 0)).setCell ⟨w.heap.size + 1 + 1, 2, none⟩ (.int .i64 0) = w5 at *
  refine bodyPost_ret (v := .tuple #[.agg #[.bool false, .slice none 0 0, .int .i64 0], .int .i64 80]) (by simp [results, Tryz.results98, go_sem, p0, p1, p2]) rfl ?_
  exact ⟨rfl, HE.out⟩

set_option maxRecDepth 20000 in
set_option maxHeartbeats 2000000 in
theorem yjp_no2 (b1 : Bool) (a1 : Option Addr) (c1 : Nat) (X : List Nat) (ex1 : Int) (b2 : Bool) (a2 : Option Addr) (n2 c2 : Nat) (ex2 : Int) (w : World) (hT : Tab w) (hA : Arg w (.slice a1 X.length c1) X) (hf : X.length ≤ 17592186043904) (hE1 : fitE ex1 = true) (hE : fitE ex2 = false) :
    Calls Tryz.prog 98 #[.agg #[.bool b1, .slice a1 X.length c1, .int .i64 ex1], .agg #[.bool b2, .slice a2 n2 c2, .int .i64 ex2], .func (Fn.func 122) #[] #[]] w fun e w' => DErr 80 e ∧ Below w.heap.size w w' := by
  obtain ⟨w0, hw0, hb0, k0, k1, k2⟩ := enter3 w (.cells #[.bool b1, .slice a1 X.length c1, .int .i64 ex1] 31) (.cells #[.bool b2, .slice a2 n2 c2, .int .i64 ex2] 31) (.cells #[.bool false, .slice none 0 0, .int .i64 0] 31)
  obtain ⟨x0, x1, x2⟩ := tri8 k0
  have HP1 := yread_ok b1 a1 c1 X ex1 w0 (hA.below hb0) (hT.below hb0) (by omega) hE1
  have HP := hide (fun (W : World) => yread_no b2 a2 n2 c2 ex2 W hE)
  have HK1 := hide k1
  have HK2 := hide k2
  have HB := hide hb0
  clear k0 k1 k2 hb0 hE hE1 hA hT
  generalize oe (zz b1 (val X)) ex1 = E1 at *
  generalize omz (zz b1 (val X)) = M1 at *
  go_enter Tryz.func98, Tryz.ntmps98
  go_wp2_with fail
  refine HP1.mono ?_
  rintro e t1 ⟨⟨b3, a3, n3, c3, X3, rfl, rfl, _, _⟩, g1⟩
  obtain ⟨w4, hw4, hb4, h4⟩ := enter1 t1 (.cells #[.bool b3, .slice a3 X3.length c3, .int .i64 E1] 153)
  have HC0 := hide (block_upW hb4 (block_upW g1 HK2.out))
  have HG0 := hide (bl_trans8 (bl_trans8 HB.out g1) hb4)
  obtain ⟨l0, l1, l2⟩ := tri8 (block_upW hb4 (block_upW g1 HK1.out))
  have HPP := HP.out w4
  clear g1 hb4 h4 HP HP1 HK1 HK2 HB
  go_wp2_with fail
  refine HPP.mono ?_
  rintro e t5 ⟨he, g5⟩
  obtain ⟨fb, fa, fn, fc, fe, rfl⟩ : ∃ fb fa fn fc fe, e = .returned (.tuple #[.agg #[.bool fb, .slice fa fn fc, .int .i64 fe], .int .i64 80]) := ⟨_, _, _, _, _, he⟩
  clear he
  obtain ⟨w6, hw6, hb6, h6⟩ := enter1 t5 (.cells #[.bool fb, .slice fa fn fc, .int .i64 fe] 153)
  have HC1 := hide (block_upW hb6 (block_upW g5 HC0.out))
  have HG := hide (bl_trans8 (bl_trans8 HG0.out g5) hb6)
  have hf1 := tri8f HC1.out
  obtain ⟨m0, m1, m2⟩ := tri8 HC1.out
  clear g5 hb6 h6 HPP
  go_wp2
  have T3 := tri8_all HC1.out (.bool false) (.slice none 0 0) (.int .i64 0)
  have T4 := below_tri8 HG.out (show w.heap.size ≤ w.heap.size + 1 + 1 by omega) (.bool false) (.slice none 0 0) (.int .i64 0)
  obtain ⟨p0, p1, p2⟩ := tri8 T3
  have HE := hide T4
  clear T3 T4
  generalize ((w6.setCell ⟨w.heap.size + 1 + 1, 0, none⟩ (.bool false)).setCell ⟨w.heap.size + 1 + 1, 1, none⟩ (.slice none 0 0)).setCell ⟨w.heap.size + 1 + 1, 2, none⟩ (.int .i64 0) = w5 at *
  refine bodyPost_ret (v := .tuple #[.agg #[.bool false, .slice none 0 0, .int .i64 0], .int .i64 80]) (by simp [results, Tryz.results98, go_sem, p0, p1, p2]) rfl ?_
  exact ⟨rfl, HE.out⟩

set_option maxRecDepth 20000 in
set_option maxHeartbeats 2000000 in
theorem yjp_ok (b1 : Bool) (a1 : Option Addr) (c1 : Nat) (X : List Nat) (ex1 : Int) (b2 : Bool) (a2 : Option Addr) (c2 : Nat) (Y : List Nat) (ex2 : Int) (RM RE : Int) (w : World) (hT : Tab w) (hA : Arg w (.slice a1 X.length c1) X) (hB : Arg w (.slice a2 Y.length c2) Y) (hf : X.length ≤ 17592186043904) (hg : Y.length ≤ 17592186043904) (hE1 : fitE ex1 = true) (hE2 : fitE ex2 = true)
    (hW : ∀ (W : World) (b3 : Bool) (a3 : Option Addr) (c3 : Nat) (X3 : List Nat) (b4 : Bool) (a4 : Option Addr) (c4 : Nat) (X4 : List Nat), Tab W → Nm W b3 (.slice a3 X3.length c3) X3 (omz (zz b1 (val X))) → Nm W b4 (.slice a4 X4.length c4) X4 (omz (zz b2 (val Y))) → X3.length ≤ 17592186043904 → X4.length ≤ 17592186043904 →
      Calls Tryz.prog 122 #[.agg #[.bool b3, .slice a3 X3.length c3, .int .i64 (oe (zz b1 (val X)) ex1)], .agg #[.bool b4, .slice a4 X4.length c4, .int .i64 (oe (zz b2 (val Y)) ex2)]] W (YPlusV W RM RE)) :
    Calls Tryz.prog 98 #[.agg #[.bool b1, .slice a1 X.length c1, .int .i64 ex1], .agg #[.bool b2, .slice a2 Y.length c2, .int .i64 ex2], .func (Fn.func 122) #[] #[]] w fun e w' => DRes w' w.heap.size e RM RE ∧ Below w.heap.size w w' := by
  obtain ⟨w0, hw0, hb0, k0, k1, k2⟩ := enter3 w (.cells #[.bool b1, .slice a1 X.length c1, .int .i64 ex1] 31) (.cells #[.bool b2, .slice a2 Y.length c2, .int .i64 ex2] 31) (.cells #[.bool false, .slice none 0 0, .int .i64 0] 31)
  obtain ⟨x0, x1, x2⟩ := tri8 k0
  have HP1 := yread_ok b1 a1 c1 X ex1 w0 (hA.below hb0) (hT.below hb0) (by omega) hE1
  have HP2 := hide (fun (W : World) (hh : Below w.heap.size w W) => yread_ok b2 a2 c2 Y ex2 W (hB.below hh) (hT.below hh) (by omega) hE2)
  have r1 := read_facts (b := b1) hA hf hE1
  have r2 := read_facts (b := b2) hB hg hE2
  have HR := hide (And.intro r1.1 r2.1)
  have HK1 := hide k1
  have HK2 := hide k2
  have HB := hide hb0
  have HT := hide hT
  have HWK := hide hW
  clear k0 k1 k2 hb0 hE1 hE2 hA hB hT r1 r2 hW
  generalize oe (zz b1 (val X)) ex1 = E1 at *
  generalize omz (zz b1 (val X)) = M1 at *
  generalize oe (zz b2 (val Y)) ex2 = E2 at *
  generalize omz (zz b2 (val Y)) = M2 at *
  go_enter Tryz.func98, Tryz.ntmps98
  go_wp2_with fail
  refine HP1.mono ?_
  rintro e t1 ⟨⟨b3, a3, n3, c3, X3, rfl, rfl, N3, _⟩, g1⟩
  obtain ⟨w4, hw4, hb4, h4⟩ := enter1 t1 (.cells #[.bool b3, .slice a3 X3.length c3, .int .i64 E1] 153)
  have HC0 := hide (block_upW hb4 (block_upW g1 HK2.out))
  have HG0 := hide (bl_trans8 (bl_trans8 HB.out g1) hb4)
  obtain ⟨l0, l1, l2⟩ := tri8 (block_upW hb4 (block_upW g1 HK1.out))
  have HPP := HP2.out w4 HG0.out
  have HN3 := hide (N3.below hb4)
  have HH4 := hide h4
  clear g1 hb4 h4 HP1 HP2 HK1 HK2 HB N3
  go_wp2_with fail
  refine HPP.mono ?_
  rintro e t5 ⟨⟨b6, a6, n6, c6, X6, rfl, rfl, N6, _⟩, g5⟩
  obtain ⟨w6, hw6, hb6, h6⟩ := enter1 t5 (.cells #[.bool b6, .slice a6 X6.length c6, .int .i64 E2] 153)
  have HC2 := hide (block_upW hb6 (block_upW g5 HC0.out))
  have HG2 := hide (bl_trans8 (bl_trans8 HG0.out g5) hb6)
  obtain ⟨u0, u1, u2⟩ := tri8 h6
  obtain ⟨u3, u4, u5⟩ := tri8 (block_upW hb6 (block_upW g5 HH4.out))
  have N3' := (HN3.out.below g5).below hb6
  have N6' := N6.below hb6
  have HWW := HWK.out w6 b3 a3 c3 X3 b6 a6 c6 X6 (HT.out.below HG2.out) N3' N6' (N3'.len 17592186043904 HR.out.1) (N6'.len 17592186043904 HR.out.2)
  clear g5 hb6 h6 HPP N3' N6' N6 HN3 HH4 HC0 HG0 HWK
  go_wp2_with fail
  refine HWW.mono ?_
  rintro e t7 ⟨⟨b7, a7, n7, c7, e7, r7, rfl, P7⟩, g7⟩
  have HC3 := hide (block_upW g7 HC2.out)
  have HG3 := hide (bl_trans8 HG2.out g7)
  have HAN := yanswered_any b7 a7 n7 c7 e7 r7 RM RE t7 (HT.out.below HG3.out) P7
  clear g7 HWW P7 HC2 HG2
  go_wp2_with fail
  refine HAN.mono ?_
  rintro e t8 ⟨⟨b8, a8, n8, c8, e8, r8, rfl, D8⟩, g8⟩
  have HC1 := hide (block_upW g8 HC3.out)
  have HG := hide (bl_trans8 HG3.out g8)
  have HDR := hide (D8.base HG3.out.size)
  have hf1 := tri8f HC1.out
  obtain ⟨m0, m1, m2⟩ := tri8 HC1.out
  clear g8 HAN D8 HC3 HG3
  go_wp2
  have T3 := tri8_all HC1.out (.bool b8) (.slice a8 n8 c8) (.int .i64 e8)
  have T4 := below_tri8 HG.out (show w.heap.size ≤ w.heap.size + 1 + 1 by omega) (.bool b8) (.slice a8 n8 c8) (.int .i64 e8)
  have T5 := HDR.out.tri8 HC1.out (by decide) (.bool b8) (.slice a8 n8 c8) (.int .i64 e8)
  obtain ⟨p0, p1, p2⟩ := tri8 T3
  have HE := hide (And.intro T5 T4)
  clear T3 T4 T5
  generalize ((t8.setCell ⟨w.heap.size + 1 + 1, 0, none⟩ (.bool b8)).setCell ⟨w.heap.size + 1 + 1, 1, none⟩ (.slice a8 n8 c8)).setCell ⟨w.heap.size + 1 + 1, 2, none⟩ (.int .i64 e8) = w5 at *
  refine bodyPost_ret (v := .tuple #[.agg #[.bool b8, .slice a8 n8 c8, .int .i64 e8], .int .i64 r8]) (by simp [results, Tryz.results98, go_sem, p0, p1, p2]) rfl ?_
  exact ⟨⟨_, _, _, _, _, _, rfl, HE.out.1⟩, HE.out.2⟩

set_option maxRecDepth 20000 in
set_option maxHeartbeats 2000000 in
theorem yjm_no1 (b1 : Bool) (a1 : Option Addr) (n1 c1 : Nat) (ex1 : Int) (b2 : Bool) (a2 : Option Addr) (n2 c2 : Nat) (ex2 : Int) (w : World) (hE : fitE ex1 = false) :
    Calls Tryz.prog 98 #[.agg #[.bool b1, .slice a1 n1 c1, .int .i64 ex1], .agg #[.bool b2, .slice a2 n2 c2, .int .i64 ex2], .func (Fn.func 99) #[] #[]] w fun e w' => DErr 80 e ∧ Below w.heap.size w w' := by
  obtain ⟨w0, hw0, hb0, k0, k1, k2⟩ := enter3 w (.cells #[.bool b1, .slice a1 n1 c1, .int .i64 ex1] 31) (.cells #[.bool b2, .slice a2 n2 c2, .int .i64 ex2] 31) (.cells #[.bool false, .slice none 0 0, .int .i64 0] 31)
  obtain ⟨x0, x1, x2⟩ := tri8 k0
  have HP := yread_no b1 a1 n1 c1 ex1 w0 hE
  have HK2 := hide k2
  have HB := hide hb0
  clear k0 k1 k2 hb0 hE
  go_enter Tryz.func98, Tryz.ntmps98
  go_wp2_with fail
  refine HP.mono ?_
  rintro e t1 ⟨he, g1⟩
  obtain ⟨fb, fa, fn, fc, fe, rfl⟩ : ∃ fb fa fn fc fe, e = .returned (.tuple #[.agg #[.bool fb, .slice fa fn fc, .int .i64 fe], .int .i64 80]) := ⟨_, _, _, _, _, he⟩
  clear he
  obtain ⟨w4, hw4, hb4, h4⟩ := enter1 t1 (.cells #[.bool fb, .slice fa fn fc, .int .i64 fe] 153)
  have HC1 := hide (block_upW hb4 (block_upW g1 HK2.out))
  have HG := hide (bl_trans8 (bl_trans8 HB.out g1) hb4)
  have hf1 := tri8f HC1.out
  obtain ⟨m0, m1, m2⟩ := tri8 HC1.out
  clear g1 hb4 h4 HP
  go_wp2
  have T3 := tri8_all HC1.out (.bool false) (.slice none 0 0) (.int .i64 0)
  have T4 := below_tri8 HG.out (show w.heap.size ≤ w.heap.size + 1 + 1 by omega) (.bool false) (.slice none 0 0) (.int .i64 0)
  obtain ⟨p0, p1, p2⟩ := tri8 T3
  have HE := hide T4
  clear T3 T4
  generalize ((w4.setCell ⟨w.heap.size + 1 + 1, 0, none⟩ (.bool false)).setCell ⟨w.heap.size + 1 + 1, 1, none⟩ (.slice none 0 0)).setCell ⟨w.heap.size + 1 + 1, 2, none⟩ (.int .i64 0) = w5 at *
  refine bodyPost_ret (v := .tuple #[.agg #[.bool false, .slice none 0 0, .int .i64 0], .int .i64 80]) (by simp [results, Tryz.results98, go_sem, p0, p1, p2]) rfl ?_
  exact ⟨rfl, HE.out⟩

set_option maxRecDepth 20000 in
set_option maxHeartbeats 2000000 in
theorem yjm_no2 (b1 : Bool) (a1 : Option Addr) (c1 : Nat) (X : List Nat) (ex1 : Int) (b2 : Bool) (a2 : Option Addr) (n2 c2 : Nat) (ex2 : Int) (w : World) (hT : Tab w) (hA : Arg w (.slice a1 X.length c1) X) (hf : X.length ≤ 17592186043904) (hE1 : fitE ex1 = true) (hE : fitE ex2 = false) :
    Calls Tryz.prog 98 #[.agg #[.bool b1, .slice a1 X.length c1, .int .i64 ex1], .agg #[.bool b2, .slice a2 n2 c2, .int .i64 ex2], .func (Fn.func 99) #[] #[]] w fun e w' => DErr 80 e ∧ Below w.heap.size w w' := by
  obtain ⟨w0, hw0, hb0, k0, k1, k2⟩ := enter3 w (.cells #[.bool b1, .slice a1 X.length c1, .int .i64 ex1] 31) (.cells #[.bool b2, .slice a2 n2 c2, .int .i64 ex2] 31) (.cells #[.bool false, .slice none 0 0, .int .i64 0] 31)
  obtain ⟨x0, x1, x2⟩ := tri8 k0
  have HP1 := yread_ok b1 a1 c1 X ex1 w0 (hA.below hb0) (hT.below hb0) (by omega) hE1
  have HP := hide (fun (W : World) => yread_no b2 a2 n2 c2 ex2 W hE)
  have HK1 := hide k1
  have HK2 := hide k2
  have HB := hide hb0
  clear k0 k1 k2 hb0 hE hE1 hA hT
  generalize oe (zz b1 (val X)) ex1 = E1 at *
  generalize omz (zz b1 (val X)) = M1 at *
  go_enter Tryz.func98, Tryz.ntmps98
  go_wp2_with fail
  refine HP1.mono ?_
  rintro e t1 ⟨⟨b3, a3, n3, c3, X3, rfl, rfl, _, _⟩, g1⟩
  obtain ⟨w4, hw4, hb4, h4⟩ := enter1 t1 (.cells #[.bool b3, .slice a3 X3.length c3, .int .i64 E1] 153)
  have HC0 := hide (block_upW hb4 (block_upW g1 HK2.out))
  have HG0 := hide (bl_trans8 (bl_trans8 HB.out g1) hb4)
  obtain ⟨l0, l1, l2⟩ := tri8 (block_upW hb4 (block_upW g1 HK1.out))
  have HPP := HP.out w4
  clear g1 hb4 h4 HP HP1 HK1 HK2 HB
  go_wp2_with fail
  refine HPP.mono ?_
  rintro e t5 ⟨he, g5⟩
  obtain ⟨fb, fa, fn, fc, fe, rfl⟩ : ∃ fb fa fn fc fe, e = .returned (.tuple #[.agg #[.bool fb, .slice fa fn fc, .int .i64 fe], .int .i64 80]) := ⟨_, _, _, _, _, he⟩
  clear he
  obtain ⟨w6, hw6, hb6, h6⟩ := enter1 t5 (.cells #[.bool fb, .slice fa fn fc, .int .i64 fe] 153)
  have HC1 := hide (block_upW hb6 (block_upW g5 HC0.out))
  have HG := hide (bl_trans8 (bl_trans8 HG0.out g5) hb6)
  have hf1 := tri8f HC1.out
  obtain ⟨m0, m1, m2⟩ := tri8 HC1.out
  clear g5 hb6 h6 HPP
  go_wp2
  have T3 := tri8_all HC1.out (.bool false) (.slice none 0 0) (.int .i64 0)
  have T4 := below_tri8 HG.out (show w.heap.size ≤ w.heap.size + 1 + 1 by omega) (.bool false) (.slice none 0 0) (.int .i64 0)
  obtain ⟨p0, p1, p2⟩ := tri8 T3
  have HE := hide T4
  clear T3 T4
  generalize ((w6.setCell ⟨w.heap.size + 1 + 1, 0, none⟩ (.bool false)).setCell ⟨w.heap.size + 1 + 1, 1, none⟩ (.slice none 0 0)).setCell ⟨w.heap.size + 1 + 1, 2, none⟩ (.int .i64 0) = w5 at *
  refine bodyPost_ret (v := .tuple #[.agg #[.bool false, .slice none 0 0, .int .i64 0], .int .i64 80]) (by simp [results, Tryz.results98, go_sem, p0, p1, p2]) rfl ?_
  exact ⟨rfl, HE.out⟩

set_option maxRecDepth 20000 in
set_option maxHeartbeats 2000000 in
theorem yjm_ok (b1 : Bool) (a1 : Option Addr) (c1 : Nat) (X : List Nat) (ex1 : Int) (b2 : Bool) (a2 : Option Addr) (c2 : Nat) (Y : List Nat) (ex2 : Int) (RM RE : Int) (w : World) (hT : Tab w) (hA : Arg w (.slice a1 X.length c1) X) (hB : Arg w (.slice a2 Y.length c2) Y) (hf : X.length ≤ 17592186043904) (hg : Y.length ≤ 17592186043904) (hE1 : fitE ex1 = true) (hE2 : fitE ex2 = true)
    (hW : ∀ (W : World) (b3 : Bool) (a3 : Option Addr) (c3 : Nat) (X3 : List Nat) (b4 : Bool) (a4 : Option Addr) (c4 : Nat) (X4 : List Nat), Tab W → Nm W b3 (.slice a3 X3.length c3) X3 (omz (zz b1 (val X))) → Nm W b4 (.slice a4 X4.length c4) X4 (omz (zz b2 (val Y))) → X3.length ≤ 17592186043904 → X4.length ≤ 17592186043904 →
      Calls Tryz.prog 99 #[.agg #[.bool b3, .slice a3 X3.length c3, .int .i64 (oe (zz b1 (val X)) ex1)], .agg #[.bool b4, .slice a4 X4.length c4, .int .i64 (oe (zz b2 (val Y)) ex2)]] W (YPlusV W RM RE)) :
    Calls Tryz.prog 98 #[.agg #[.bool b1, .slice a1 X.length c1, .int .i64 ex1], .agg #[.bool b2, .slice a2 Y.length c2, .int .i64 ex2], .func (Fn.func 99) #[] #[]] w fun e w' => DRes w' w.heap.size e RM RE ∧ Below w.heap.size w w' := by
  obtain ⟨w0, hw0, hb0, k0, k1, k2⟩ := enter3 w (.cells #[.bool b1, .slice a1 X.length c1, .int .i64 ex1] 31) (.cells #[.bool b2, .slice a2 Y.length c2, .int .i64 ex2] 31) (.cells #[.bool false, .slice none 0 0, .int .i64 0] 31)
  obtain ⟨x0, x1, x2⟩ := tri8 k0
  have HP1 := yread_ok b1 a1 c1 X ex1 w0 (hA.below hb0) (hT.below hb0) (by omega) hE1
  have HP2 := hide (fun (W : World) (hh : Below w.heap.size w W) => yread_ok b2 a2 c2 Y ex2 W (hB.below hh) (hT.below hh) (by omega) hE2)
  have r1 := read_facts (b := b1) hA hf hE1
  have r2 := read_facts (b := b2) hB hg hE2
  have HR := hide (And.intro r1.1 r2.1)
  have HK1 := hide k1
  have HK2 := hide k2
  have HB := hide hb0
  have HT := hide hT
  have HWK := hide hW
  clear k0 k1 k2 hb0 hE1 hE2 hA hB hT r1 r2 hW
  generalize oe (zz b1 (val X)) ex1 = E1 at *
  generalize omz (zz b1 (val X)) = M1 at *
  generalize oe (zz b2 (val Y)) ex2 = E2 at *
  generalize omz (zz b2 (val Y)) = M2 at *
  go_enter Tryz.func98, Tryz.ntmps98
  go_wp2_with fail
  refine HP1.mono ?_
  rintro e t1 ⟨⟨b3, a3, n3, c3, X3, rfl, rfl, N3, _⟩, g1⟩
  obtain ⟨w4, hw4, hb4, h4⟩ := enter1 t1 (.cells #[.bool b3, .slice a3 X3.length c3, .int .i64 E1] 153)
  have HC0 := hide (block_upW hb4 (block_upW g1 HK2.out))
  have HG0 := hide (bl_trans8 (bl_trans8 HB.out g1) hb4)
  obtain ⟨l0, l1, l2⟩ := tri8 (block_upW hb4 (block_upW g1 HK1.out))
  have HPP := HP2.out w4 HG0.out
  have HN3 := hide (N3.below hb4)
  have HH4 := hide h4
  clear g1 hb4 h4 HP1 HP2 HK1 HK2 HB N3
  go_wp2_with fail
  refine HPP.mono ?_
  rintro e t5 ⟨⟨b6, a6, n6, c6, X6, rfl, rfl, N6, _⟩, g5⟩
  obtain ⟨w6, hw6, hb6, h6⟩ := enter1 t5 (.cells #[.bool b6, .slice a6 X6.length c6, .int .i64 E2] 153)
  have HC2 := hide (block_upW hb6 (block_upW g5 HC0.out))
  have HG2 := hide (bl_trans8 (bl_trans8 HG0.out g5) hb6)
  obtain ⟨u0, u1, u2⟩ := tri8 h6
  obtain ⟨u3, u4, u5⟩ := tri8 (block_upW hb6 (block_upW g5 HH4.out))
  have N3' := (HN3.out.below g5).below hb6
  have N6' := N6.below hb6
  have HWW := HWK.out w6 b3 a3 c3 X3 b6 a6 c6 X6 (HT.out.below HG2.out) N3' N6' (N3'.len 17592186043904 HR.out.1) (N6'.len 17592186043904 HR.out.2)
  clear g5 hb6 h6 HPP N3' N6' N6 HN3 HH4 HC0 HG0 HWK
  go_wp2_with fail
  refine HWW.mono ?_
  rintro e t7 ⟨⟨b7, a7, n7, c7, e7, r7, rfl, P7⟩, g7⟩
  have HC3 := hide (block_upW g7 HC2.out)
  have HG3 := hide (bl_trans8 HG2.out g7)
  have HAN := yanswered_any b7 a7 n7 c7 e7 r7 RM RE t7 (HT.out.below HG3.out) P7
  clear g7 HWW P7 HC2 HG2
  go_wp2_with fail
  refine HAN.mono ?_
  rintro e t8 ⟨⟨b8, a8, n8, c8, e8, r8, rfl, D8⟩, g8⟩
  have HC1 := hide (block_upW g8 HC3.out)
  have HG := hide (bl_trans8 HG3.out g8)
  have HDR := hide (D8.base HG3.out.size)
  have hf1 := tri8f HC1.out
  obtain ⟨m0, m1, m2⟩ := tri8 HC1.out
  clear g8 HAN D8 HC3 HG3
  go_wp2
  have T3 := tri8_all HC1.out (.bool b8) (.slice a8 n8 c8) (.int .i64 e8)
  have T4 := below_tri8 HG.out (show w.heap.size ≤ w.heap.size + 1 + 1 by omega) (.bool b8) (.slice a8 n8 c8) (.int .i64 e8)
  have T5 := HDR.out.tri8 HC1.out (by decide) (.bool b8) (.slice a8 n8 c8) (.int .i64 e8)
  obtain ⟨p0, p1, p2⟩ := tri8 T3
  have HE := hide (And.intro T5 T4)
  clear T3 T4 T5
  generalize ((t8.setCell ⟨w.heap.size + 1 + 1, 0, none⟩ (.bool b8)).setCell ⟨w.heap.size + 1 + 1, 1, none⟩ (.slice a8 n8 c8)).setCell ⟨w.heap.size + 1 + 1, 2, none⟩ (.int .i64 e8) = w5 at *
  refine bodyPost_ret (v := .tuple #[.agg #[.bool b8, .slice a8 n8 c8, .int .i64 e8], .int .i64 r8]) (by simp [results, Tryz.results98, go_sem, p0, p1, p2]) rfl ?_
  exact ⟨⟨_, _, _, _, _, _, rfl, HE.out.1⟩, HE.out.2⟩

set_option maxRecDepth 20000 in
set_option maxHeartbeats 2000000 in
theorem yadd_no (b1 : Bool) (a1 : Option Addr) (n1 c1 : Nat) (ex1 : Int) (b2 : Bool) (a2 : Option Addr) (n2 c2 : Nat) (ex2 : Int) (w : World) (h : ∀ W, Below w.heap.size w W → Calls Tryz.prog 98 #[.agg #[.bool b1, .slice a1 n1 c1, .int .i64 ex1], .agg #[.bool b2, .slice a2 n2 c2, .int .i64 ex2], .func (Fn.func 122) #[] #[]] W fun e w' => DErr 80 e ∧ Below W.heap.size W w') :
    Calls Tryz.prog 116 #[.agg #[.bool b1, .slice a1 n1 c1, .int .i64 ex1], .agg #[.bool b2, .slice a2 n2 c2, .int .i64 ex2]] w fun e w' => DErr 80 e ∧ Below w.heap.size w w' := by
  obtain ⟨w0, hw0, hb0, k0, k1, k2⟩ := enter3 w (.cells #[.bool b1, .slice a1 n1 c1, .int .i64 ex1] 31) (.cells #[.bool b2, .slice a2 n2 c2, .int .i64 ex2] 31) (.cells #[.bool false, .slice none 0 0, .int .i64 0] 31)
  obtain ⟨x0, x1, x2⟩ := tri8 k0
  obtain ⟨x3, x4, x5⟩ := tri8 k1
  have HJ := h w0 hb0
  have HK2 := hide k2
  have HB := hide hb0
  clear k0 k1 k2 hb0 h
  go_enter Tryz.func116, Tryz.ntmps116
  go_wp2_with fail
  refine HJ.mono ?_
  rintro e t1 ⟨he, g1⟩
  obtain ⟨fb, fa, fn, fc, fe, rfl, heq⟩ : ∃ fb fa fn fc fe, e = .returned (.tuple #[.agg #[.bool fb, .slice fa fn fc, .int .i64 fe], .int .i64 80]) ∧ (fb = false ∧ fa = none ∧ fn = 0 ∧ fc = 0 ∧ fe = 0) := ⟨_, _, _, _, _, he, rfl, rfl, rfl, rfl, rfl⟩
  have HQ := hide heq
  clear he heq
  have HC1 := hide (block_upW g1 HK2.out)
  have HG := hide (bl_trans8 HB.out g1)
  have hf1 := tri8f HC1.out
  obtain ⟨m0, m1, m2⟩ := tri8 HC1.out
  clear g1 HJ
  go_wp2
  have T3 := tri8_all HC1.out (.bool fb) (.slice fa fn fc) (.int .i64 fe)
  have T4 := below_tri8 HG.out (show w.heap.size ≤ w.heap.size + 1 + 1 by omega) (.bool fb) (.slice fa fn fc) (.int .i64 fe)
  obtain ⟨p0, p1, p2⟩ := tri8 T3
  have HE := hide T4
  clear T3 T4
  generalize ((t1.setCell ⟨w.heap.size + 1 + 1, 0, none⟩ (.bool fb)).setCell ⟨w.heap.size + 1 + 1, 1, none⟩ (.slice fa fn fc)).setCell ⟨w.heap.size + 1 + 1, 2, none⟩ (.int .i64 fe) = w5 at *
  refine bodyPost_ret (v := .tuple #[.agg #[.bool fb, .slice fa fn fc, .int .i64 fe], .int .i64 80]) (by simp [results, Tryz.results116, go_sem, p0, p1, p2]) rfl ?_
  obtain ⟨q1, q2, q3, q4, q5⟩ := HQ.out
  subst q1 q2 q3 q4 q5
  exact ⟨rfl, HE.out⟩

set_option maxRecDepth 20000 in
set_option maxHeartbeats 2000000 in
theorem yadd_res (b1 : Bool) (a1 : Option Addr) (n1 c1 : Nat) (ex1 : Int) (b2 : Bool) (a2 : Option Addr) (n2 c2 : Nat) (ex2 : Int) (RM RE : Int) (w : World) (h : ∀ W, Below w.heap.size w W → Calls Tryz.prog 98 #[.agg #[.bool b1, .slice a1 n1 c1, .int .i64 ex1], .agg #[.bool b2, .slice a2 n2 c2, .int .i64 ex2], .func (Fn.func 122) #[] #[]] W fun e w' => DRes w' W.heap.size e RM RE ∧ Below W.heap.size W w') :
    Calls Tryz.prog 116 #[.agg #[.bool b1, .slice a1 n1 c1, .int .i64 ex1], .agg #[.bool b2, .slice a2 n2 c2, .int .i64 ex2]] w fun e w' => DRes w' w.heap.size e RM RE ∧ Below w.heap.size w w' := by
  obtain ⟨w0, hw0, hb0, k0, k1, k2⟩ := enter3 w (.cells #[.bool b1, .slice a1 n1 c1, .int .i64 ex1] 31) (.cells #[.bool b2, .slice a2 n2 c2, .int .i64 ex2] 31) (.cells #[.bool false, .slice none 0 0, .int .i64 0] 31)
  obtain ⟨x0, x1, x2⟩ := tri8 k0
  obtain ⟨x3, x4, x5⟩ := tri8 k1
  have HJ := h w0 hb0
  have HK2 := hide k2
  have HB := hide hb0
  clear k0 k1 k2 hb0 h
  go_enter Tryz.func116, Tryz.ntmps116
  go_wp2_with fail
  refine HJ.mono ?_
  rintro e t8 ⟨⟨b8, a8, n8, c8, e8, r8, rfl, D8⟩, g8⟩
  have HC1 := hide (block_upW g8 HK2.out)
  have HG := hide (bl_trans8 HB.out g8)
  have HDR := hide (D8.base HB.out.size)
  have hf1 := tri8f HC1.out
  obtain ⟨m0, m1, m2⟩ := tri8 HC1.out
  clear g8 HJ D8
  go_wp2
  have T3 := tri8_all HC1.out (.bool b8) (.slice a8 n8 c8) (.int .i64 e8)
  have T4 := below_tri8 HG.out (show w.heap.size ≤ w.heap.size + 1 + 1 by omega) (.bool b8) (.slice a8 n8 c8) (.int .i64 e8)
  have T5 := HDR.out.tri8 HC1.out (by decide) (.bool b8) (.slice a8 n8 c8) (.int .i64 e8)
  obtain ⟨p0, p1, p2⟩ := tri8 T3
  have HE := hide (And.intro T5 T4)
  clear T3 T4 T5
  generalize ((t8.setCell ⟨w.heap.size + 1 + 1, 0, none⟩ (.bool b8)).setCell ⟨w.heap.size + 1 + 1, 1, none⟩ (.slice a8 n8 c8)).setCell ⟨w.heap.size + 1 + 1, 2, none⟩ (.int .i64 e8) = w5 at *
  refine bodyPost_ret (v := .tuple #[.agg #[.bool b8, .slice a8 n8 c8, .int .i64 e8], .int .i64 r8]) (by simp [results, Tryz.results116, go_sem, p0, p1, p2]) rfl ?_
  exact ⟨⟨_, _, _, _, _, _, rfl, HE.out.1⟩, HE.out.2⟩

set_option maxRecDepth 20000 in
set_option maxHeartbeats 2000000 in
theorem ysub_no (b1 : Bool) (a1 : Option Addr) (n1 c1 : Nat) (ex1 : Int) (b2 : Bool) (a2 : Option Addr) (n2 c2 : Nat) (ex2 : Int) (w : World) (h : ∀ W, Below w.heap.size w W → Calls Tryz.prog 98 #[.agg #[.bool b1, .slice a1 n1 c1, .int .i64 ex1], .agg #[.bool b2, .slice a2 n2 c2, .int .i64 ex2], .func (Fn.func 99) #[] #[]] W fun e w' => DErr 80 e ∧ Below W.heap.size W w') :
    Calls Tryz.prog 67 #[.agg #[.bool b1, .slice a1 n1 c1, .int .i64 ex1], .agg #[.bool b2, .slice a2 n2 c2, .int .i64 ex2]] w fun e w' => DErr 80 e ∧ Below w.heap.size w w' := by
  obtain ⟨w0, hw0, hb0, k0, k1, k2⟩ := enter3 w (.cells #[.bool b1, .slice a1 n1 c1, .int .i64 ex1] 31) (.cells #[.bool b2, .slice a2 n2 c2, .int .i64 ex2] 31) (.cells #[.bool false, .slice none 0 0, .int .i64 0] 31)
  obtain ⟨x0, x1, x2⟩ := tri8 k0
  obtain ⟨x3, x4, x5⟩ := tri8 k1
  have HJ := h w0 hb0
  have HK2 := hide k2
  have HB := hide hb0
  clear k0 k1 k2 hb0 h
  go_enter Tryz.func67, Tryz.ntmps67
  go_wp2_with fail
  refine HJ.mono ?_
  rintro e t1 ⟨he, g1⟩
  obtain ⟨fb, fa, fn, fc, fe, rfl, heq⟩ : ∃ fb fa fn fc fe, e = .returned (.tuple #[.agg #[.bool fb, .slice fa fn fc, .int .i64 fe], .int .i64 80]) ∧ (fb = false ∧ fa = none ∧ fn = 0 ∧ fc = 0 ∧ fe = 0) := ⟨_, _, _, _, _, he, rfl, rfl, rfl, rfl, rfl⟩
  have HQ := hide heq
  clear he heq
  have HC1 := hide (block_upW g1 HK2.out)
  have HG := hide (bl_trans8 HB.out g1)
  have hf1 := tri8f HC1.out
  obtain ⟨m0, m1, m2⟩ := tri8 HC1.out
  clear g1 HJ
  go_wp2
  have T3 := tri8_all HC1.out (.bool fb) (.slice fa fn fc) (.int .i64 fe)
  have T4 := below_tri8 HG.out (show w.heap.size ≤ w.heap.size + 1 + 1 by omega) (.bool fb) (.slice fa fn fc) (.int .i64 fe)
  obtain ⟨p0, p1, p2⟩ := tri8 T3
  have HE := hide T4
  clear T3 T4
  generalize ((t1.setCell ⟨w.heap.size + 1 + 1, 0, none⟩ (.bool fb)).setCell ⟨w.heap.size + 1 + 1, 1, none⟩ (.slice fa fn fc)).setCell ⟨w.heap.size + 1 + 1, 2, none⟩ (.int .i64 fe) = w5 at *
  refine bodyPost_ret (v := .tuple #[.agg #[.bool fb, .slice fa fn fc, .int .i64 fe], .int .i64 80]) (by simp [results, Tryz.results67, go_sem, p0, p1, p2]) rfl ?_
  obtain ⟨q1, q2, q3, q4, q5⟩ := HQ.out
  subst q1 q2 q3 q4 q5
  exact ⟨rfl, HE.out⟩

set_option maxRecDepth 20000 in
set_option maxHeartbeats 2000000 in
theorem ysub_res (b1 : Bool) (a1 : Option Addr) (n1 c1 : Nat) (ex1 : Int) (b2 : Bool) (a2 : Option Addr) (n2 c2 : Nat) (ex2 : Int) (RM RE : Int) (w : World) (h : ∀ W, Below w.heap.size w W → Calls Tryz.prog 98 #[.agg #[.bool b1, .slice a1 n1 c1, .int .i64 ex1], .agg #[.bool b2, .slice a2 n2 c2, .int .i64 ex2], .func (Fn.func 99) #[] #[]] W fun e w' => DRes w' W.heap.size e RM RE ∧ Below W.heap.size W w') :
    Calls Tryz.prog 67 #[.agg #[.bool b1, .slice a1 n1 c1, .int .i64 ex1], .agg #[.bool b2, .slice a2 n2 c2, .int .i64 ex2]] w fun e w' => DRes w' w.heap.size e RM RE ∧ Below w.heap.size w w' := by
  obtain ⟨w0, hw0, hb0, k0, k1, k2⟩ := enter3 w (.cells #[.bool b1, .slice a1 n1 c1, .int .i64 ex1] 31) (.cells #[.bool b2, .slice a2 n2 c2, .int .i64 ex2] 31) (.cells #[.bool false, .slice none 0 0, .int .i64 0] 31)
  obtain ⟨x0, x1, x2⟩ := tri8 k0
  obtain ⟨x3, x4, x5⟩ := tri8 k1
  have HJ := h w0 hb0
  have HK2 := hide k2
  have HB := hide hb0
  clear k0 k1 k2 hb0 h
  go_enter Tryz.func67, Tryz.ntmps67
  go_wp2_with fail
  refine HJ.mono ?_
  rintro e t8 ⟨⟨b8, a8, n8, c8, e8, r8, rfl, D8⟩, g8⟩
  have HC1 := hide (block_upW g8 HK2.out)
  have HG := hide (bl_trans8 HB.out g8)
  have HDR := hide (D8.base HB.out.size)
  have hf1 := tri8f HC1.out
  obtain ⟨m0, m1, m2⟩ := tri8 HC1.out
  clear g8 HJ D8
  go_wp2
  have T3 := tri8_all HC1.out (.bool b8) (.slice a8 n8 c8) (.int .i64 e8)
  have T4 := below_tri8 HG.out (show w.heap.size ≤ w.heap.size + 1 + 1 by omega) (.bool b8) (.slice a8 n8 c8) (.int .i64 e8)
  have T5 := HDR.out.tri8 HC1.out (by decide) (.bool b8) (.slice a8 n8 c8) (.int .i64 e8)
  obtain ⟨p0, p1, p2⟩ := tri8 T3
  have HE := hide (And.intro T5 T4)
  clear T3 T4 T5
  generalize ((t8.setCell ⟨w.heap.size + 1 + 1, 0, none⟩ (.bool b8)).setCell ⟨w.heap.size + 1 + 1, 1, none⟩ (.slice a8 n8 c8)).setCell ⟨w.heap.size + 1 + 1, 2, none⟩ (.int .i64 e8) = w5 at *
  refine bodyPost_ret (v := .tuple #[.agg #[.bool b8, .slice a8 n8 c8, .int .i64 e8], .int .i64 r8]) (by simp [results, Tryz.results67, go_sem, p0, p1, p2]) rfl ?_
  exact ⟨⟨_, _, _, _, _, _, rfl, HE.out.1⟩, HE.out.2⟩

end Go.Proofs.YtppkhhbhnhijpaaGreatDoor
