/- What the laws of dyadics use: fit, in, same. -/
import Derived.Test.YtppkhhbhnhijpaaGreatDoorQ9
namespace Go.Proofs.YtppkhhbhnhijpaaGreatDoor
open Go.RowKit
open Lm
attribute [local go_sem ↓] Go.wp_at_zero Go.wp_at_succ

theorem blen_len8 {X : List Nat} (h : Limbs X) : blen (val X) ≤ 64 * X.length := by rw [blen_le_iff, Nat.mul_comm, ← W_pow]; exact val_lt h

/-- Two answers of one dyadic are the same. -/
theorem DR.alike8 {w : World} {base1 base2 : Nat} {b1 b2 : Bool} {a1 a2 : Option Addr} {n1 k1 n2 k2 : Nat} {ex1 ex2 r1 r2 M E : Int} (h1 : DR w base1 b1 (.slice a1 n1 k1) ex1 r1 M E) (h2 : DR w base2 b2 (.slice a2 n2 k2) ex2 r2 M E) :
    r1 = r2 ∧ b1 = b2 ∧ ex1 = ex2 ∧ ∃ X Y, n1 = X.length ∧ n2 = Y.length ∧ Arg w (.slice a1 n1 k1) X ∧ Arg w (.slice a2 n2 k2) Y ∧ val X = val Y ∧ tr Y = Y ∧ b1 = decide (zz b1 (val X) < 0) ∧ X.length ≤ 17592186044416 := by
  obtain ⟨X, A1, H1⟩ := h1
  obtain ⟨Y, A2, H2⟩ := h2
  have e1 : n1 = X.length := by obtain ⟨a, c, e⟩ := A1.shape; cases e; rfl
  have e2 : n2 = Y.length := by obtain ⟨a, c, e⟩ := A2.shape; cases e; rfl
  rcases H1 with ⟨p1, p2, p3, p4, p5, p6, p7⟩ | ⟨p1, p2, p3, p4, p5, p6⟩ | ⟨p1, p2, p3, p4, p5, p6, p7⟩
  · rcases H2 with ⟨q1, q2, q3, q4, q5, q6, q7⟩ | ⟨q1, q2, q3, q4, q5, q6⟩ | ⟨q1, q2, q3, q4, q5, q6, q7⟩
    · have hX : X.length ≤ 1048576 := few_ofW p4 p3 (by omega)
      have hY : Y.length ≤ 1048576 := few_ofW q4 q3 (by omega)
      refine ⟨by rw [p1, q1], by rw [p2, q2], by rw [p5, q5], X, Y, e1, e2, A1.arg (by omega), A2.arg (by omega), by rw [p3, q3], q4, ?_, by omega⟩
      rw [p3, p2, zz_self]
    · omega
    · rw [p7] at q7; cases q7
  · rcases H2 with ⟨q1, q2, q3, q4, q5, q6, q7⟩ | ⟨q1, q2, q3, q4, q5, q6⟩ | ⟨q1, q2, q3, q4, q5, q6, q7⟩
    · omega
    · subst p5 q5
      exact ⟨by rw [p1, q1], by rw [p2, q2], by rw [p4, q4], [], [], e1, e2, A1.arg (by simp), A2.arg (by simp), rfl, rfl, by rw [p2]; rfl, by simp⟩
    · omega
  · rcases H2 with ⟨q1, q2, q3, q4, q5, q6, q7⟩ | ⟨q1, q2, q3, q4, q5, q6⟩ | ⟨q1, q2, q3, q4, q5, q6, q7⟩
    · rw [p7] at q7; cases q7
    · omega
    · subst p5 q5
      exact ⟨by rw [p1, q1], by rw [p2, q2], by rw [p4, q4], [], [], e1, e2, A1.arg (by simp), A2.arg (by simp), rfl, rfl, by rw [p2]; rfl, by simp⟩

end Go.Proofs.YtppkhhbhnhijpaaGreatDoor
