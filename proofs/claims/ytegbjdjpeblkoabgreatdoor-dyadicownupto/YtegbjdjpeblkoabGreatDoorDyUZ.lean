/- Package dyadic: less, man, total, answered. -/
import Derived.Test.YtegbjdjpeblkoabGreatDoorDyLZ
import Derived.Test.YtegbjdjpeblkoabGreatDoorDyZZ
import Derived.Test.YtegbjdjpeblkoabGreatDoorQB
namespace Go.Proofs.YtegbjdjpeblkoabGreatDoor
open Go.RowKit
open Lm
attribute [local go_sem ↓] Go.wp_at_zero Go.wp_at_succ

theorem yman_any (b : Bool) (a : Option Addr) (n c : Nat) (w : World) :
    Calls Tryz.prog 58 #[.agg #[.bool b, .slice a n c]] w fun e w' => e = .returned (.agg #[.bool b, .slice a n c]) ∧ Below w.heap.size w w' := by
  obtain ⟨w0, hw0, hb0, h0, h1⟩ := enter2 w (.cells #[.bool b, .slice a n c] 61) (.cells #[.bool false, .slice none 0 0] 37)
  obtain ⟨k0, k1⟩ := duo h0
  have hf := duof h1
  obtain ⟨m0, m1⟩ := duo h1
  have H1 := hide h1
  have HB := hide hb0
  clear h0 h1 hb0
  go_enter Tryz.func58, Tryz.ntmps58
  go_wp2
  have T3 := duo_all H1.out (a' := .bool b) (b' := .slice a n c)
  have T4 := below_duo HB.out (g := w.heap.size + 1) (u0 := .bool b) (u1 := .slice a n c) (by omega)
  obtain ⟨p0, p1⟩ := duo T3
  have HE := hide T4
  clear T3 T4
  generalize (w0.setCell ⟨w.heap.size + 1, 0, none⟩ (.bool b)).setCell ⟨w.heap.size + 1, 1, none⟩ (.slice a n c) = w5 at *
  refine bodyPost_ret (v := .agg #[.bool b, .slice a n c]) (by simp [results, Tryz.results58, go_sem, p0, p1]) rfl ?_
  exact ⟨rfl, HE.out⟩

theorem blen_add8 {x y : Nat} (n : Nat) (hx : blen x ≤ n) (hy : blen y ≤ n) : blen (x + y) ≤ n + 1 := by
  have h1 := (blen_le_iff _ _).1 hx
  have h2 := (blen_le_iff _ _).1 hy
  refine (blen_le_iff _ _).2 ?_
  rw [Nat.pow_succ]
  omega

theorem blen_lenU {X : List Nat} (h : Limbs X) : blen (val X) ≤ 64 * X.length := by rw [blen_le_iff, Nat.mul_comm, ← W_pow]; exact val_lt h

/-- A part of the program's number. -/
def YPart (w : World) (z : Int) (e : Ending) (w' : World) : Prop :=
  (∃ b a n k X, e = .returned (.agg #[.bool b, .slice a n k]) ∧ n = X.length ∧ Nm w' b (.slice a n k) X z) ∧ Below w.heap.size w w'

theorem norm_len {X Y : List Nat} (hX : Limbs X) (h : tr Y = Y) (hle : val Y ≤ val X) : Y.length ≤ X.length := by
  have h1 := val_lt hX
  rw [W_pow] at h1
  have h2 : blen (val Y) ≤ X.length * 64 := (blen_le_iff _ _).2 (Nat.lt_of_le_of_lt hle h1)
  exact few_ofW h rfl h2

set_option maxRecDepth 20000 in
set_option maxHeartbeats 1000000 in
theorem yanswered_ok (b : Bool) (a : Option Addr) (c : Nat) (X : List Nat) (z ex : Int) (w : World) (hN : Nm w b (.slice a X.length c) X z) (hT : Tab w) (h1 : -2305843009213693952 ≤ ex) (h2 : ex ≤ 2305843009213693952) (hf : X.length ≤ 35184372088800) :
    Calls Tryz.prog 32 #[.agg #[.bool b, .slice a X.length c, .int .i64 ex], .int .i64 0] w fun e w' => DRes w' w.heap.size e (omz z) (oe z ex) ∧ Below w.heap.size w w' := by
  obtain ⟨w0, hw0, hb0, h0, h1'⟩ := enter2 w (.cells #[.bool b, .slice a X.length c, .int .i64 ex] 63) (.cells #[.bool false, .slice none 0 0, .int .i64 0] 39)
  obtain ⟨k0, k1, k2⟩ := tri8 h0
  have HN := yanswer_any b a c X z ex w0 (hN.below hb0) (hT.below hb0) h1 h2 hf
  have HC := hide h1'
  have HB := hide hb0
  clear h0 h1' hb0 hN hT
  generalize omz z = M at *
  generalize oe z ex = E at *
  go_enter Tryz.func32, Tryz.ntmps32
  go_wp2_with fail
  refine HN.mono ?_
  rintro e t2 ⟨⟨b1, a1, n1, c1, e1, r1, rfl, hdr⟩, g2⟩
  have HC1 := hide (block_upW g2 HC.out)
  have HG := hide (bl_trans8 HB.out g2)
  have HDR := hide (hdr.base HB.out.size)
  have hf1 := tri8f HC1.out
  obtain ⟨m0, m1, m2⟩ := tri8 HC1.out
  clear hdr g2 HN
  go_wp2
  have T3 := tri8_all HC1.out (.bool b1) (.slice a1 n1 c1) (.int .i64 e1)
  have T4 := below_tri8 HG.out (show w.heap.size ≤ w.heap.size + 1 by omega) (.bool b1) (.slice a1 n1 c1) (.int .i64 e1)
  have T5 := HDR.out.tri8 HC1.out (by decide) (.bool b1) (.slice a1 n1 c1) (.int .i64 e1)
  obtain ⟨p0, p1, p2⟩ := tri8 T3
  have HE := hide (And.intro T5 T4)
  clear T3 T4 T5
  generalize ((t2.setCell ⟨w.heap.size + 1, 0, none⟩ (.bool b1)).setCell ⟨w.heap.size + 1, 1, none⟩ (.slice a1 n1 c1)).setCell ⟨w.heap.size + 1, 2, none⟩ (.int .i64 e1) = w5 at *
  refine bodyPost_ret (v := .tuple #[.agg #[.bool b1, .slice a1 n1 c1, .int .i64 e1], .int .i64 r1]) (by simp [results, Tryz.results32, go_sem, p0, p1, p2]) rfl ?_
  exact ⟨⟨_, _, _, _, _, _, rfl, HE.out.1⟩, HE.out.2⟩

set_option maxRecDepth 20000 in
set_option maxHeartbeats 1000000 in
theorem yanswered_no (b : Bool) (a : Option Addr) (n c : Nat) (ex r : Int) (w : World) (hr : r ≠ 0) :
    Calls Tryz.prog 32 #[.agg #[.bool b, .slice a n c, .int .i64 ex], .int .i64 r] w fun e w' => DErr r e ∧ Below w.heap.size w w' := by
  obtain ⟨w0, hw0, hb0, h0, h1'⟩ := enter2 w (.cells #[.bool b, .slice a n c, .int .i64 ex] 63) (.cells #[.bool false, .slice none 0 0, .int .i64 0] 39)
  obtain ⟨k0, k1, k2⟩ := tri8 h0
  have hr1 : ((r : Int) == 0) = false := by rw [beq_eq_false_iff_ne]; exact hr
  have hr2 : ((r : Int) != 0) = true := by rw [bne, hr1]; rfl
  have hf1 := tri8f h1'
  obtain ⟨m0, m1, m2⟩ := tri8 h1'
  have HC1 := hide h1'
  have HG := hide hb0
  clear h0 h1' hb0
  go_enter Tryz.func32, Tryz.ntmps32
  go_wp2
  have T3 := tri8_all HC1.out (.bool false) (.slice none 0 0) (.int .i64 0)
  have T4 := below_tri8 HG.out (show w.heap.size ≤ w.heap.size + 1 by omega) (.bool false) (.slice none 0 0) (.int .i64 0)
  obtain ⟨p0, p1, p2⟩ := tri8 T3
  have HE := hide T4
  clear T3 T4
  generalize ((w0.setCell ⟨w.heap.size + 1, 0, none⟩ (.bool false)).setCell ⟨w.heap.size + 1, 1, none⟩ (.slice none 0 0)).setCell ⟨w.heap.size + 1, 2, none⟩ (.int .i64 0) = w5 at *
  refine bodyPost_ret (v := .tuple #[.agg #[.bool false, .slice none 0 0, .int .i64 0], .int .i64 r]) (by simp [results, Tryz.results32, go_sem, p0, p1, p2]) rfl ?_
  exact ⟨rfl, HE.out⟩

end Go.Proofs.YtegbjdjpeblkoabGreatDoor
