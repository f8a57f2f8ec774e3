/- Package dyadic: plus of any two normal numbers; minus. -/
import Derived.Test.YtegbjdjpeblkoabGreatDoorDyV2Z
namespace Go.Proofs.YtegbjdjpeblkoabGreatDoor
open Go.RowKit
open Lm
attribute [local go_sem ↓] Go.wp_at_zero Go.wp_at_succ

theorem sm_low (M1 E1 M2 E2 : Int) (g : Nat) (h : E2 - E1 = (g : Int)) : sm M1 E1 M2 E2 = M1 + M2 * 2 ^ g ∧ min E1 E2 = E1 := by
  have e : min E1 E2 = E1 := by omega
  unfold sm
  rw [e, show (E1 - E1).toNat = 0 by omega, show (E2 - E1).toNat = g by omega, Int.pow_zero, Int.mul_one]
  exact ⟨rfl, rfl⟩

theorem Nm.zero_len {w : World} {b : Bool} {v : Value} {X : List Nat} {z : Int} (h : Nm w b v X z) (hX : X.length = 0) : z = 0 := by
  have h1 := h.abs
  rw [List.eq_nil_of_length_eq_zero hX] at h1
  have h2 : Lm.val [] = 0 := rfl
  omega

theorem Nm.odd {w : World} {b : Bool} {v : Value} {X : List Nat} {z E : Int} (h : Nm w b v X z) (hX : ¬ X.length = 0) (n : Nr8 z E) : z.natAbs % 2 = 1 := by
  rcases n with ⟨h0, _⟩ | h1
  · exfalso
    have h1 := h.abs
    rw [h0] at h1
    have := val_zero h.norm h1
    rw [this] at hX; exact hX rfl
  · exact h1

/-- What plus answers, as values. -/
def PlusV (w : World) (b : Bool) (v : Value) (n : Nat) (ex r M E : Int) : Prop :=
  (r = 0 ∧ ∃ X z, n = X.length ∧ Nm w b v X z ∧ omz z = M ∧ oe z ex = E ∧ -2305843009213693952 ≤ ex ∧ ex ≤ 2305843009213693952 ∧ X.length ≤ 35184372088800) ∨ (r = 3 ∧ 67108864 < blen M.natAbs)

theorem PlusV.tri8 {w : World} {b : Bool} {v : Value} {n0 : Nat} {ex r M E : Int} {g : Nat} {p : Bool} {a : Option Addr} {n c : Nat} {e : Int} {t : TypeId} (h : PlusV w b v n0 ex r M E) (hl : w.heap[g]? = some (.cells #[.bool p, .slice a n c, .int .i64 e] t)) (p1 : Bool) (a1 : Option Addr) (n1 c1 : Nat) (u2 : Value) : PlusV (((w.setCell ⟨g, 0, none⟩ (.bool p1)).setCell ⟨g, 1, none⟩ (.slice a1 n1 c1)).setCell ⟨g, 2, none⟩ u2) b v n0 ex r M E := by
  rcases h with ⟨h1, X, z, h2, h3, h4⟩ | h
  · exact .inl ⟨h1, X, z, h2, h3.tri8 hl p1 a1 n1 c1 u2, h4⟩
  · exact .inr h

theorem YPlus.vals {w w' : World} {M E : Int} {e : Ending} (h : YPlus w M E e w') : (∃ b a n k ex r, e = .returned (.tuple #[.agg #[.bool b, .slice a n k, .int .i64 ex], .int .i64 r]) ∧ PlusV w' b (.slice a n k) n ex r M E) ∧ Below w.heap.size w w' := by
  obtain ⟨h | h, hb⟩ := h
  · obtain ⟨b, a, n, k, X, z, ex, h1, h2, h3, h4⟩ := h
    exact ⟨⟨b, a, n, k, ex, 0, h1, .inl ⟨rfl, X, z, h2, h3, h4⟩⟩, hb⟩
  · exact ⟨⟨_, _, _, _, _, _, h.1, .inr ⟨rfl, h.2⟩⟩, hb⟩

/-- plus, its answer as values. -/
def YPlusV (w : World) (M E : Int) (e : Ending) (w' : World) : Prop := (∃ b a n k ex r, e = .returned (.tuple #[.agg #[.bool b, .slice a n k, .int .i64 ex], .int .i64 r]) ∧ PlusV w' b (.slice a n k) n ex r M E) ∧ Below w.heap.size w w'

end Go.Proofs.YtegbjdjpeblkoabGreatDoor
