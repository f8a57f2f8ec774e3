/- What the laws of dyadics use: fit, in, same. -/
import Derived.Test.YtemajaclpkgpbaaDoorQ9
namespace Go.Proofs.YtemajaclpkgpbaaDoor
open Go.RowKit
open Lm
attribute [local go_sem ↓] Go.wp_at_zero Go.wp_at_succ

theorem blen_len8 {X : List Nat} (h : Limbs X) : blen (val X) ≤ 64 * X.length := by rw [blen_le_iff, Nat.mul_comm, ← W_pow]; exact val_lt h

theorem fit8_any (n : Int) (w : World) : Calls Tryd.prog 29 #[.int .i64 n] w fun e w' => e = .returned (.bool (fitE n)) ∧ w' = w := by
  by_cases h1 : -1099511627776 ≤ n
  · have h1' : decide (-1099511627776 ≤ n) = true := decide_eq_true h1
    by_cases h2 : n ≤ 1099511627776
    · have h2' : decide (n ≤ 1099511627776) = true := decide_eq_true h2
      rw [(fitE_iff n).2 ⟨h1, h2⟩]
      go_enter Tryd.func29, Tryd.ntmps29
      go_wp2
      go_ret
      exact ⟨rfl, rfl⟩
    · have h2' : decide (n ≤ 1099511627776) = false := decide_eq_false h2
      have e : fitE n = false := by rw [← Bool.not_eq_true, fitE_iff]; omega
      rw [e]
      go_enter Tryd.func29, Tryd.ntmps29
      go_wp2
      go_ret
      exact ⟨rfl, rfl⟩
  · have h1' : decide (-1099511627776 ≤ n) = false := decide_eq_false h1
    have e : fitE n = false := by rw [← Bool.not_eq_true, fitE_iff]; omega
    rw [e]
    go_enter Tryd.func29, Tryd.ntmps29
    go_wp2
    go_ret
    exact ⟨rfl, rfl⟩

theorem in8_any (b : Bool) (a : Option Addr) (n c : Nat) (ex : Int) (w : World) :
    Calls Tryd.prog 28 #[.agg #[.bool b, .slice a n c, .int .i64 ex]] w fun e w' => e = .returned (.agg #[.bool b, .slice a n c, .int .i64 ex]) ∧ Below w.heap.size w w' := by
  obtain ⟨w0, hw0, hb0, h0, h1⟩ := enter2 w (.cells #[.bool b, .slice a n c, .int .i64 ex] 24) (.cells #[.bool false, .slice none 0 0, .int .i64 0] 29)
  obtain ⟨k0, k1, k2⟩ := tri8 h0
  have hf := tri8f h1
  obtain ⟨m0, m1, m2⟩ := tri8 h1
  have H1 := hide h1
  have HB := hide hb0
  clear h0 h1 hb0
  go_enter Tryd.func28, Tryd.ntmps28
  go_wp2
  have T3 := tri8_all H1.out (.bool b) (.slice a n c) (.int .i64 ex)
  have T4 := below_tri8 HB.out (show w.heap.size ≤ w.heap.size + 1 by omega) (.bool b) (.slice a n c) (.int .i64 ex)
  obtain ⟨p0, p1, p2⟩ := tri8 T3
  have HE := hide T4
  clear T3 T4
  generalize ((w0.setCell ⟨w.heap.size + 1, 0, none⟩ (.bool b)).setCell ⟨w.heap.size + 1, 1, none⟩ (.slice a n c)).setCell ⟨w.heap.size + 1, 2, none⟩ (.int .i64 ex) = w5 at *
  refine bodyPost_ret (v := .agg #[.bool b, .slice a n c, .int .i64 ex]) (by simp [results, Tryd.results28, go_sem, p0, p1, p2]) rfl ?_
  exact ⟨rfl, HE.out⟩

set_option maxRecDepth 20000 in
set_option maxHeartbeats 2000000 in
theorem same8_any (b : Bool) (ex : Int) (a1 : Option Addr) (c1 : Nat) (X : List Nat) (a2 : Option Addr) (c2 : Nat) (Y : List Nat) (w : World) (h1 : Arg w (.slice a1 X.length c1) X) (h2 : Arg w (.slice a2 Y.length c2) Y) (hv : val X = val Y) (ht : tr Y = Y) (hb : b = decide (zz b (val X) < 0)) (hf : X.length ≤ 17592186044416) :
    Calls Tryd.prog 35 #[.agg #[.bool b, .slice a1 X.length c1, .int .i64 ex], .agg #[.bool b, .slice a2 Y.length c2, .int .i64 ex]] w fun e w' => e = .returned (.bool true) ∧ Below w.heap.size w w' := by
  obtain ⟨w0, hw0, hb0, k0, k1⟩ := enter2 w (.cells #[.bool b, .slice a1 X.length c1, .int .i64 ex] 29) (.cells #[.bool b, .slice a2 Y.length c2, .int .i64 ex] 29)
  have g0 : Below w0.drew.heap.size w0.drew w0.drew := Below.refl _ _
  have gd : Below w.heap.size w w0.drew := hb0.drew
  have KS := hide (fun (W : World) (hg : Below w0.drew.heap.size w0.drew W) => show W.cell? ⟨w.heap.size, 0, none⟩ = some (.bool b) ∧ W.cell? ⟨w.heap.size, 1, none⟩ = some (.slice a1 X.length c1) ∧ W.cell? ⟨w.heap.size, 2, none⟩ = some (.int .i64 ex) ∧ W.cell? ⟨w.heap.size + 1, 0, none⟩ = some (.bool b) ∧ W.cell? ⟨w.heap.size + 1, 1, none⟩ = some (.slice a2 Y.length c2) ∧ W.cell? ⟨w.heap.size + 1, 2, none⟩ = some (.int .i64 ex) from by
    obtain ⟨x0, x1, x2⟩ := tri8 (block_upW hg (show w0.drew.heap[w.heap.size]? = some (.cells #[.bool b, .slice a1 X.length c1, .int .i64 ex] 29) from k0))
    obtain ⟨x3, x4, x5⟩ := tri8 (block_upW hg (show w0.drew.heap[w.heap.size + 1]? = some (.cells #[.bool b, .slice a2 Y.length c2, .int .i64 ex] 29) from k1))
    exact ⟨x0, x1, x2, x3, x4, x5⟩)
  have HO := rzof_any b _ X w0.drew (h1.below gd) hf
  have hbl : blen (val X) ≤ 1125899906842624 := by have := blen_len8 h1.limbs; omega
  have HIS := hide (fun (W : World) (v : Value) (hz : Zn W v (zz b (val X))) (hg : Below w0.drew.heap.size w0.drew W) => show Calls Tryd.prog 16 #[v, .bool b, .slice a2 Y.length c2] W (fun e w' => e = .returned (.bool true) ∧ Below W.heap.size W w') by
    have h := rzis_any v (zz b (val X)) (.slice a2 Y.length c2) Y W hz ((h2.below gd).below hg) ht (by rw [zz_abs, hv]) (by rw [zz_abs]; exact hbl)
    rw [← hb] at h
    exact h)
  have hbe : ((ex : Int) == ex) = true := by simp
  have HD := hide gd
  obtain ⟨x0, x1, x2, x3, x4, x5⟩ := KS.out _ g0
  clear k0 k1 hb0 gd h1 h2 hv ht hb hf hbl
  generalize zz b (val X) = z at *
  go_enter Tryd.func35, Tryd.ntmps35
  go_wp2
  go_region_held3 (fun w' => w'.cell? ⟨w.heap.size, 0, none⟩ = some (.bool b) ∧ w'.cell? ⟨w.heap.size, 1, none⟩ = some (.slice a1 X.length c1) ∧ w'.cell? ⟨w.heap.size, 2, none⟩ = some (.int .i64 ex) ∧ w'.cell? ⟨w.heap.size + 1, 0, none⟩ = some (.bool b) ∧ w'.cell? ⟨w.heap.size + 1, 1, none⟩ = some (.slice a2 Y.length c2) ∧ w'.cell? ⟨w.heap.size + 1, 2, none⟩ = some (.int .i64 ex)) (first | with_reducible exact KS.out _ g6 | with_reducible exact KS.out _ g5 | with_reducible exact KS.out _ g0) (first
    | (go_at_call 49; refine HO.mono ?_; rintro e' w5 ⟨⟨b5, a5, n5, c5, rfl, d5⟩, g5⟩)
    | (go_at_call 16; refine (HIS.out w5 _ d5 g5).mono ?_; rintro e' w6 ⟨rfl, hb6⟩; have g6 := bl_trans8 g5 hb6))
  have HB8 := hide (bl_trans8 HD.out g6)
  clear g5 g6 hb6 d5
  go_wp2
  go_ret
  exact ⟨rfl, HB8.out⟩

/-- Two answers of one dyadic are the same. -/
theorem DR.alike8 {w : World} {base1 base2 : Nat} {b1 b2 : Bool} {a1 a2 : Option Addr} {n1 k1 n2 k2 : Nat} {ex1 ex2 r1 r2 M E : Int} (h1 : DR w base1 b1 (.slice a1 n1 k1) ex1 r1 M E) (h2 : DR w base2 b2 (.slice a2 n2 k2) ex2 r2 M E) :
    r1 = r2 ∧ b1 = b2 ∧ ex1 = ex2 ∧ ∃ X Y, n1 = X.length ∧ n2 = Y.length ∧ Arg w (.slice a1 n1 k1) X ∧ Arg w (.slice a2 n2 k2) Y ∧ val X = val Y ∧ tr Y = Y ∧ b1 = decide (zz b1 (val X) < 0) ∧ X.length ≤ 17592186044416 := by
  obtain ⟨X, A1, H1⟩ := h1
  obtain ⟨Y, A2, H2⟩ := h2
  have e1 : n1 = X.length := by obtain ⟨a, c, e⟩ := A1.shape; cases e; rfl
  have e2 : n2 = Y.length := by obtain ⟨a, c, e⟩ := A2.shape; cases e; rfl
  rcases H1 with ⟨p1, p2, p3, p4, p5, p6, p7⟩ | ⟨p1, p2, p3, p4, p5, p6⟩ | ⟨p1, p2, p3, p4, p5, p6, p7⟩
  · rcases H2 with ⟨q1, q2, q3, q4, q5, q6, q7⟩ | ⟨q1, q2, q3, q4, q5, q6⟩ | ⟨q1, q2, q3, q4, q5, q6, q7⟩
    · have hX : X.length ≤ 1048576 := few_ofW p4 p3 (by omega)
      have hY : Y.length ≤ 1048576 := few_ofW q4 q3 (by omega)
      refine ⟨by rw [p1, q1], by rw [p2, q2], by rw [p5, q5], X, Y, e1, e2, A1.arg (by omega), A2.arg (by omega), by rw [p3, q3], q4, ?_, by omega⟩
      rw [p3, p2, zz_self]
    · omega
    · rw [p7] at q7; cases q7
  · rcases H2 with ⟨q1, q2, q3, q4, q5, q6, q7⟩ | ⟨q1, q2, q3, q4, q5, q6⟩ | ⟨q1, q2, q3, q4, q5, q6, q7⟩
    · omega
    · subst p5 q5
      exact ⟨by rw [p1, q1], by rw [p2, q2], by rw [p4, q4], [], [], e1, e2, A1.arg (by simp), A2.arg (by simp), rfl, rfl, by rw [p2]; rfl, by simp⟩
    · omega
  · rcases H2 with ⟨q1, q2, q3, q4, q5, q6, q7⟩ | ⟨q1, q2, q3, q4, q5, q6⟩ | ⟨q1, q2, q3, q4, q5, q6, q7⟩
    · rw [p7] at q7; cases q7
    · omega
    · subst p5 q5
      exact ⟨by rw [p1, q1], by rw [p2, q2], by rw [p4, q4], [], [], e1, e2, A1.arg (by simp), A2.arg (by simp), rfl, rfl, by rw [p2]; rfl, by simp⟩

end Go.Proofs.YtemajaclpkgpbaaDoor
