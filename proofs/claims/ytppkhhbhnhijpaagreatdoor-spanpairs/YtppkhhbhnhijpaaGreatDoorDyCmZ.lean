/- Package dyadic: Compare. -/
import Derived.Test.YtppkhhbhnhijpaaGreatDoorDyC2Z
import Derived.Test.YtppkhhbhnhijpaaGreatDoorQ9
namespace Go.Proofs.YtppkhhbhnhijpaaGreatDoor
open Go.RowKit
open Lm
attribute [local go_sem ↓] Go.wp_at_zero Go.wp_at_succ

set_option maxRecDepth 20000 in
set_option maxHeartbeats 2000000 in
theorem yCompare_no1 (b1 : Bool) (a1 : Option Addr) (n1 c1 : Nat) (ex1 : Int) (b2 : Bool) (a2 : Option Addr) (n2 c2 : Nat) (ex2 : Int) (w : World) (hE : fitE ex1 = false) :
    Calls Tryz.prog 94 #[.agg #[.bool b1, .slice a1 n1 c1, .int .i64 ex1], .agg #[.bool b2, .slice a2 n2 c2, .int .i64 ex2]] w fun e w' => e = .returned (.tuple #[.int .i64 0, .int .i64 80]) ∧ Below w.heap.size w w' := by
  obtain ⟨w0, hw0, hb0, k0, k1⟩ := enter2 w (.cells #[.bool b1, .slice a1 n1 c1, .int .i64 ex1] 31) (.cells #[.bool b2, .slice a2 n2 c2, .int .i64 ex2] 31)
  obtain ⟨x0, x1, x2⟩ := tri8 k0
  have HP := yseen_no b1 a1 n1 c1 ex1 w0 hE
  have HB := hide hb0
  clear k0 k1 hb0 hE
  go_enter Tryz.func94, Tryz.ntmps94
  go_wp2_with fail
  refine HP.mono ?_
  rintro e t1 ⟨he, g1⟩
  obtain ⟨fb, fa, fn, fc, fe, rfl⟩ : ∃ fb fa fn fc fe, e = .returned (.tuple #[.agg #[.bool fb, .slice fa fn fc, .int .i64 fe], .int .i64 80]) := ⟨_, _, _, _, _, he⟩
  clear he
  obtain ⟨w4, hw4, hb4, h4⟩ := enter1 t1 (.cells #[.bool fb, .slice fa fn fc, .int .i64 fe] 153)
  have HG := hide (bl_trans8 (bl_trans8 HB.out g1) hb4)
  clear g1 hb4 h4 HP
  go_wp2
  refine bodyPost_ret (v := .tuple #[.int .i64 0, .int .i64 80]) (by simp [results, Tryz.results94, go_sem]) rfl ?_
  exact ⟨rfl, HG.out⟩

set_option maxRecDepth 20000 in
set_option maxHeartbeats 2000000 in
theorem yCompare_no2 (b1 : Bool) (a1 : Option Addr) (c1 : Nat) (X : List Nat) (ex1 : Int) (b2 : Bool) (a2 : Option Addr) (n2 c2 : Nat) (ex2 : Int) (w : World) (hA : Arg w (.slice a1 X.length c1) X) (hE1 : fitE ex1 = true) (hE : fitE ex2 = false) :
    Calls Tryz.prog 94 #[.agg #[.bool b1, .slice a1 X.length c1, .int .i64 ex1], .agg #[.bool b2, .slice a2 n2 c2, .int .i64 ex2]] w fun e w' => e = .returned (.tuple #[.int .i64 0, .int .i64 80]) ∧ Below w.heap.size w w' := by
  obtain ⟨w0, hw0, hb0, k0, k1⟩ := enter2 w (.cells #[.bool b1, .slice a1 X.length c1, .int .i64 ex1] 31) (.cells #[.bool b2, .slice a2 n2 c2, .int .i64 ex2] 31)
  obtain ⟨x0, x1, x2⟩ := tri8 k0
  have HP := yseen_ok b1 a1 c1 X ex1 w0 (hA.below hb0) hE1
  have HP2 := hide (fun (W : World) => yseen_no b2 a2 n2 c2 ex2 W hE)
  have HK1 := hide k1
  have HB := hide hb0
  clear k0 k1 hb0 hE hA hE1
  generalize (tr X).length = m at *
  go_enter Tryz.func94, Tryz.ntmps94
  go_wp2_with fail
  refine HP.mono ?_
  rintro e t1 ⟨rfl, g1⟩
  obtain ⟨w4, hw4, hb4, h4⟩ := enter1 t1 (.cells #[.bool b1, .slice a1 m c1, .int .i64 ex1] 153)
  have HG := hide (bl_trans8 (bl_trans8 HB.out g1) hb4)
  obtain ⟨x3, x4, x5⟩ := tri8 (block_upW hb4 (block_upW g1 HK1.out))
  have HQ := HP2.out w4
  clear g1 hb4 h4 HP HP2 x0 x1 x2 HK1
  go_wp2_with fail
  refine HQ.mono ?_
  rintro e t2 ⟨he, g2⟩
  obtain ⟨fb, fa, fn, fc, fe, rfl⟩ : ∃ fb fa fn fc fe, e = .returned (.tuple #[.agg #[.bool fb, .slice fa fn fc, .int .i64 fe], .int .i64 80]) := ⟨_, _, _, _, _, he⟩
  clear he
  obtain ⟨w5, hw5, hb5, h5⟩ := enter1 t2 (.cells #[.bool fb, .slice fa fn fc, .int .i64 fe] 153)
  have HG2 := hide (bl_trans8 (bl_trans8 HG.out g2) hb5)
  clear g2 hb5 h5 HQ
  go_wp2
  refine bodyPost_ret (v := .tuple #[.int .i64 0, .int .i64 80]) (by simp [results, Tryz.results94, go_sem]) rfl ?_
  exact ⟨rfl, HG2.out⟩

set_option maxRecDepth 20000 in
set_option maxHeartbeats 2000000 in
theorem yCompare_ok (b1 : Bool) (a1 : Option Addr) (c1 : Nat) (X : List Nat) (ex1 : Int) (b2 : Bool) (a2 : Option Addr) (c2 : Nat) (Y : List Nat) (ex2 : Int) (L p q : Nat) (w : World) (hA : Arg w (.slice a1 X.length c1) X) (hB : Arg w (.slice a2 Y.length c2) Y) (f1 : X.length ≤ 17592186044416) (f2 : Y.length ≤ 17592186044416) (hE1 : fitE ex1 = true) (hE2 : fitE ex2 = true) (hL : 4611686018427387904 ≤ L) (hp : (p : Int) = ex1 + L) (hq : (q : Int) = ex2 + L) :
    Calls Tryz.prog 94 #[.agg #[.bool b1, .slice a1 X.length c1, .int .i64 ex1], .agg #[.bool b2, .slice a2 Y.length c2, .int .i64 ex2]] w fun e w' => e = .returned (.tuple #[.int .i64 (cmpZ (zz b1 (val X) * 2 ^ p) (zz b2 (val Y) * 2 ^ q)), .int .i64 0]) ∧ Below w.heap.size w w' := by
  obtain ⟨w0, hw0, hb0, k0, k1⟩ := enter2 w (.cells #[.bool b1, .slice a1 X.length c1, .int .i64 ex1] 31) (.cells #[.bool b2, .slice a2 Y.length c2, .int .i64 ex2] 31)
  obtain ⟨x0, x1, x2⟩ := tri8 k0
  have HP := yseen_ok b1 a1 c1 X ex1 w0 (hA.below hb0) hE1
  have HP2 := hide (fun (W : World) (hg : Below w.heap.size w W) => yseen_ok b2 a2 c2 Y ex2 W (hB.below hg) hE2)
  have hr1 := (fitE_iff ex1).1 hE1
  have hr2 := (fitE_iff ex2).1 hE2
  have HC := hide (fun (W : World) (hg : Below w.heap.size w W) => ycompare_any b1 a1 c1 (tr X) ex1 b2 a2 c2 (tr Y) ex2 L p q W (hA.trim.below hg) (hB.trim.below hg) (by have := tr_length_le X; omega) (by have := tr_length_le Y; omega) (by omega) (by omega) (by omega) (by omega) hL hp hq)
  rw [val_tr, val_tr] at HC
  have HK1 := hide k1
  have HB := hide hb0
  clear k0 k1 hb0 hA hB hE1 hE2 hr1 hr2 hp hq
  generalize cmpZ (zz b1 (val X) * 2 ^ p) (zz b2 (val Y) * 2 ^ q) = R at *
  generalize (tr X).length = m at *
  generalize (tr Y).length = m2 at *
  go_enter Tryz.func94, Tryz.ntmps94
  go_wp2_with fail
  refine HP.mono ?_
  rintro e t1 ⟨rfl, g1⟩
  obtain ⟨w4, hw4, hb4, h4⟩ := enter1 t1 (.cells #[.bool b1, .slice a1 m c1, .int .i64 ex1] 153)
  have HG := hide (bl_trans8 (bl_trans8 HB.out g1) hb4)
  obtain ⟨x3, x4, x5⟩ := tri8 (block_upW hb4 (block_upW g1 HK1.out))
  have HQ := HP2.out w4 HG.out
  have HK4 := hide h4
  clear g1 hb4 h4 HP HP2 x0 x1 x2 HK1
  go_wp2_with fail
  refine HQ.mono ?_
  rintro e t2 ⟨rfl, g2⟩
  obtain ⟨w5, hw5, hb5, h5⟩ := enter1 t2 (.cells #[.bool b2, .slice a2 m2 c2, .int .i64 ex2] 153)
  have HG2 := hide (bl_trans8 (bl_trans8 HG.out g2) hb5)
  obtain ⟨y0, y1, y2⟩ := tri8 (block_upW hb5 (block_upW g2 HK4.out))
  obtain ⟨y3, y4, y5⟩ := tri8 h5
  have HR := HC.out w5 HG2.out
  clear g2 hb5 h5 HQ HC x3 x4 x5
  go_wp2_with fail
  refine HR.mono ?_
  rintro e t3 ⟨rfl, g3⟩
  have HG3 := hide (bl_trans8 HG2.out g3)
  clear g3 HR
  go_wp2
  refine bodyPost_ret (v := .tuple #[.int .i64 R, .int .i64 0]) (by simp [results, Tryz.results94, go_sem]) rfl ?_
  exact ⟨rfl, HG3.out⟩

end Go.Proofs.YtppkhhbhnhijpaaGreatDoor
