/- Package whole: Shift upwards. -/
import Derived.Test.YtemajaclpkgpbaaDoorQ2
import Derived.Test.YtemajaclpkgpbaaDoorQB
namespace Go.Proofs.YtemajaclpkgpbaaDoor
open Go.RowKit
open Lm
attribute [local go_sem ↓] Go.wp_at_zero Go.wp_at_succ

theorem zz_up (b : Bool) (x n : Nat) : zz b (x * 2 ^ n) = zz b x * 2 ^ n := by cases b <;> simp [zz, Int.neg_mul]

set_option maxRecDepth 20000 in
set_option maxHeartbeats 1000000 in
theorem wshift_up (b : Bool) (v : Value) (X : List Nat) (n : Nat) (w : World) (hA : Arg w v X) (hf : X.length ≤ 17592186044416) (hn : n ≤ 4611686018427387904) :
    Calls Tryd.prog 56 #[.agg #[.bool b, v], .int .i64 (n : Int)] w fun e w' => ZRes w' w.heap.size e (zz b (val X) * 2 ^ n) ∧ Below w.heap.size w w' := by
  obtain ⟨a, c, rfl, _, _, _⟩ := hA.form
  obtain ⟨w0, hw0, hb0, h0, hx0⟩ := enter2 w (.cells #[.bool b, .slice a X.length c] 27) (.cells #[.bool false, .slice none 0 0] 27)
  obtain ⟨k0, k1⟩ := duo h0
  have hf1 := duof hx0
  obtain ⟨l0, l1⟩ := duo hx0
  have HB0 := hide hb0
  have HX0 := hide hx0
  have HZ := wisZero_any _ X w0 (hA.below hb0)
  have i0 : ¬ (n : Int) < 0 := by omega
  rw [← zz_up]
  by_cases hz : val X = 0
  · rw [decide_eq_true hz] at HZ
    rw [hz, Nat.zero_mul, zz_zero]
    clear hA hb0 h0 hx0 hz
    go_enter Tryd.func56, Tryd.ntmps56
    go_wp2_with fail
    refine HZ.mono ?_
    rintro e wn ⟨rfl, hw⟩; rw [hw]; clear hw wn HZ
    go_wp2
    have R5 := duo_all HX0.out (a' := .bool false) (b' := .slice none 0 0)
    have HD := hide (below_duo HB0.out (g := w.heap.size + 1) (u0 := .bool false) (u1 := .slice none 0 0) (by omega))
    generalize (w0.setCell ⟨w.heap.size + 1, 0, none⟩ (.bool false)).setCell ⟨w.heap.size + 1, 1, none⟩ (.slice none 0 0) = w5 at *
    obtain ⟨q0, q1⟩ := duo R5
    refine bodyPost_ret (v := .tuple #[.agg #[.bool false, .slice none 0 0], .int .i64 0]) (by simp [results, Tryd.results56, go_sem, q0, q1]) rfl ?_
    exact ⟨⟨_, _, _, _, 0, rfl, [], Ans.nil _ _, .inl ⟨rfl, rfl, rfl, rfl, by decide⟩⟩, HD.out⟩
  · rw [decide_eq_false hz] at HZ
    by_cases hg : 67108864 < n
    · have i1 : (67108864 : Int) < (n : Int) := by omega
      have HBL := hide (blen_shl (val X) n hz)
      clear hA hb0 h0 hx0 hz
      generalize val X * 2 ^ n = y at *
      go_enter Tryd.func56, Tryd.ntmps56
      go_wp2_with fail
      refine HZ.mono ?_
      rintro e wn ⟨rfl, hw⟩; rw [hw]; clear hw wn HZ
      go_wp2
      have R5 := duo_all HX0.out (a' := .bool false) (b' := .slice none 0 0)
      have HD := hide (below_duo HB0.out (g := w.heap.size + 1) (u0 := .bool false) (u1 := .slice none 0 0) (by omega))
      generalize (w0.setCell ⟨w.heap.size + 1, 0, none⟩ (.bool false)).setCell ⟨w.heap.size + 1, 1, none⟩ (.slice none 0 0) = w5 at *
      obtain ⟨q0, q1⟩ := duo R5
      refine bodyPost_ret (v := .tuple #[.agg #[.bool false, .slice none 0 0], .int .i64 3]) (by simp [results, Tryd.results56, go_sem, q0, q1]) rfl ?_
      exact ⟨⟨_, _, _, _, 3, rfl, [], Ans.nil _ _, .inr ⟨rfl, rfl, rfl, rfl, by rw [zz_abs, HBL.out]; omega⟩⟩, HD.out⟩
    · have i1 : ¬ (67108864 : Int) < (n : Int) := by omega
      have HL := left_any _ X n w0 (hA.below hb0) (by omega) (by omega)
      clear hA hb0 h0 hx0 hz l0 l1 hf1
      generalize val X * 2 ^ n = y at *
      have H0 := hide (show w0.heap[w.heap.size]? = some (.cells #[.bool b, .slice a X.length c] 27) by rw [← hw0]; exact block_upW (below_one6 _ _) (heap_alloc_new w _))
      go_enter Tryd.func56, Tryd.ntmps56
      go_wp2_with fail
      refine HZ.mono ?_
      rintro e wn ⟨rfl, hw⟩; rw [hw]; clear hw wn HZ
      go_wp2_with fail
      refine HL.mono ?_
      rintro e w1 ⟨hb1, v1, c0, rs, rfl, ha, hres⟩
      clear HL
      have hans := wanswered_any b v1 rs c0 y _ w1 ha hres
      obtain ⟨a1, n1, rfl⟩ := ha.shape
      have HW1 := hide hb1
      obtain ⟨m0, m1⟩ := duo (block_upW hb1 H0.out)
      clear ha hres hb1 k0 k1
      go_wp2_with fail
      refine hans.mono ?_
      rintro e w2 ⟨⟨b1, a1, n1, k1, c1, rfl, hzr⟩, hb2⟩
      have HZR := hide (hzr.base HB0.out.size)
      have HW := hide (HW1.out.trans (hb2.mono HW1.out.size))
      have hbx := block_upW HW.out HX0.out
      have hf1 := duof hbx
      obtain ⟨l0, l1⟩ := duo hbx
      have HBX := hide hbx
      have HBE := hide (HB0.out.trans (HW.out.mono HB0.out.size))
      clear hbx hzr hb2 hans
      go_wp2
      have R5 := duo_all HBX.out (a' := .bool b1) (b' := .slice a1 n1 k1)
      have HD := hide (And.intro (HZR.out.duo (u0 := .bool b1) (u1 := .slice a1 n1 k1) HBX.out) (below_duo HBE.out (g := w.heap.size + 1) (u0 := .bool b1) (u1 := .slice a1 n1 k1) (by omega)))
      generalize (w2.setCell ⟨w.heap.size + 1, 0, none⟩ (.bool b1)).setCell ⟨w.heap.size + 1, 1, none⟩ (.slice a1 n1 k1) = w5 at *
      obtain ⟨q0, q1⟩ := duo R5
      refine bodyPost_ret (v := .tuple #[.agg #[.bool b1, .slice a1 n1 k1], .int .i64 c1]) (by simp [results, Tryd.results56, go_sem, q0, q1]) rfl ?_
      exact ⟨⟨_, _, _, _, _, rfl, HD.out.1⟩, HD.out.2⟩

end Go.Proofs.YtemajaclpkgpbaaDoor
